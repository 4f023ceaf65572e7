import PyProof.Rows.All
import Wide.All
import OpenK.AllK
import Wide.FinOn
import PySem.Challenge.RW_whoevermay_k08_names
import HandS.AnyAll
import HandS.GenList
import HandS.ForMost
import HandS.Strs
import HandS.NoneIn
import HandS.More
import HandS.Star
import HandS.TupAny
import HandS.WrittenGet
import HandS.HeadHook4
import HandS.HeadWalk
import HandS.Property
import HandS.Head0
import HandS.Head1
import HandS.Head2
import HandS.HeadEnd
import HandS.MakeKwOnly
import HandS.Walk
import KE.KStateDown
import HandS.Words
import HandS.DeepEq
import HandS.IsInst
-- part GenAll
set_option Elab.async false
set_option linter.all false
set_option maxRecDepth 100000
set_option maxHeartbeats 2000000
/-! all, any of a generator expression over anything that a for walks, the element any expression that raises nothing -/
namespace GA
open PySem PySem.Spec PyProof.Rows L2 GenW GxR

theorem over_gen {A : Around} {elt : Expr} {gs : List Comprehension} {sc : Scope} {pos : Pos} {it acc : Value} {env : Env} :
    A.over (.compLoop (.GeneratorExp elt gs sc pos) 0 it acc env) [] = A.deeper env := by
  first
    | rfl
    | (obtain ⟨hd, d, fr, gs, u⟩ := A; simp [Around.over, Around.deeper, marksOver, frameCount, unitsOf, envsOf, guardsOf, pushEnvs, pushGuards, Code.envs, Code.env?, Code.isFrame, Code.guards, Code.isGuard, Code.weight, Code.frames, Code.isCreation, Code.isCaller, Code.cUnits])
theorem over_gen0 {A : Around} {elt : Expr} {gs : List Comprehension} {sc : Scope} {pos : Pos} {it acc : Value} {env : Env} :
    A.over (.compStart (.GeneratorExp elt gs sc pos) 0 it acc env) [] = A.deeper env := by
  first
    | rfl
    | (obtain ⟨hd, d, fr, gs, u⟩ := A; simp [Around.over, Around.deeper, marksOver, frameCount, unitsOf, envsOf, guardsOf, pushEnvs, pushGuards, Code.envs, Code.env?, Code.isFrame, Code.guards, Code.isGuard, Code.weight, Code.frames, Code.isCreation, Code.isCaller, Code.cUnits])

/-- the context of a generator expression's frame, consumed by all or any; the iterator's objects at fp -/
abbrev gcx (X : Cx) (s : Shared) (H : Hp) (scope : Scope) (cl : List (Str × Addr)) (C : Addr) (code : Value) (fp : List Addr) : Cx :=
  { X with A := X.A.in1.in1.deeper (genEnv scope cl C code builtinsNs X.env), s_0 := s, H_0 := H, env := genEnv scope cl C code builtinsNs X.env, outer := X.stack, stack := genEnv scope cl C code builtinsNs X.env :: X.stack, ex := fp, fn := fun _ => false, calm := true, pn := [], xe := fun _ _ => False }

theorem room_gen {k : Nat} {X : Cx} {s : Shared} {H : Hp} {scope : Scope} {cl : List (Str × Addr)} {C : Addr} {code : Value} {fp : List Addr} (r : Room (k + 1) X.A) : Room k (gcx X s H scope cl C code fp).A :=
  ⟨r.hd, by have := r.dp; show X.A.depth + 1 + 3 * k + 5 < _; omega, by have := r.un; show X.A.units + 1 + 1 + 3 + 16 * k + 200 < _; omega⟩

section
variable {X : Cx} {pins : List (Addr × Obj)} {σ : L2.St} {H : Hp} {s : Shared}

theorem gen_start {scope : Scope} {own : List (Str × Nat)} {fp : List Addr} {code : Value} {h' : Heap} {it : Value} {go : Obj} {G : Array GenState} {tk : Nat} (hc : X.calm = true) (I : Inv X pins σ H s) (ok : BlkOk X.N X.env.scope scope own) (hN : X.N.Nodup)
    (hfp : ∀ b ∈ fp, FpOk X pins H b ∧ b < s.heap.objs.size) (hncell : ∀ y ∈ scope.names, y.2 ≠ .cell)
    (hn : h'.Ns s.heap.objs.size (fun y => if y = (".0" : Str) then some it else none)) (hs : Heap.SameBut s.heap.objs.size (s.heap.push { cls := .type "frame", data := .dict #[] }) h')
    (hG : AllBare G) (hgo : ∀ v, go.data ≠ .cell v) (hgp : (h'.push go).get? h'.objs.size = some go) (h0 : scope.names.lookup (".0" : Str) = some .local) :
    Inv (gcx X s H scope (cloFrom X.env.cells scope.names []) s.heap.objs.size code fp) [(h'.objs.size, go)] (wipe σ (own.map (·.2))) H { s with gens := G, toks := tk, heap := h'.push go } := by
  have hfree : ∀ y ∈ scope.names, y.2 = .free → ∃ c, X.env.cells.lookup y.1 = some c := fun y hy e => by
    rcases ok.free y hy e with k | k
    · exact I.ok.has _ (.inl k)
    · exact I.ok.has _ (.inr k)
  have hsz : h'.objs.size = s.heap.objs.size + 1 := by rw [hs.1, Heap.size_push]
  have kp0 : ∀ b o, s.heap.get? b = some o → h'.get? b = some o := fun b o e => hs.extBut b o (Nat.ne_of_lt (Heap.lt_size e)) (Heap.get?_push_of_some _ e)
  have kp : ∀ b o, s.heap.get? b = some o → (h'.push go).get? b = some o := fun b o e => Heap.get?_push_of_some _ (kp0 b o e)
  have cm : ∀ {y c}, (y, c) ∈ cloFrom X.env.cells scope.names [] → X.env.cells.lookup y = some c ∧ c < s.heap.objs.size := fun {y c} hm => by
    rcases cloFrom_mem hm with hm | ⟨h1, rfl⟩
    · cases hm
    · obtain ⟨c, hc⟩ := hfree _ h1 rfl
      rw [hc]
      obtain ⟨w, z⟩ := I.cell _ _ hc
      exact ⟨rfl, z.lt⟩
  have look : ∀ {y}, scope.names.lookup y = some .free → ∃ c, (cloFrom X.env.cells scope.names []).lookup y = some c ∧ X.env.cells.lookup y = some c := fun {y} hl => by
    have hy : (y, NameKind.free) ∈ scope.names := PySem.mem_of_lookup hl
    obtain ⟨c', e'⟩ := mem_lookup (cloFrom_has (cells := X.env.cells) (acc := []) hy)
    exact ⟨c', e', (cm (PySem.mem_of_lookup e')).1⟩
  have okB : (gcx X s H scope (cloFrom X.env.cells scope.names []) s.heap.objs.size code fp).Ok := by
    refine ⟨I.ok.mod, ok.kind, I.ok.glob, rfl, Nat.le_refl _, fun y z c e1 e2 => ?_, fun y hy => ?_, fun y c z e => ?_, fun _ => I.ok.hd hc, Around.frames_deeper I.ok.frames, .inr ⟨rfl, rfl⟩, fun b hb => ⟨?_, fun y c e z => ?_⟩, I.bs, Nat.le_trans I.ok.bsz I.sz, fun b o e hb => ?_, fun b hb z => ?_, I.stack, I.stkFree⟩
    · exact I.ok.inj y z c (cm (PySem.mem_of_lookup e1)).1 (cm (PySem.mem_of_lookup e2)).1
    · have hy : scope.names.lookup y = some .cell ∨ scope.names.lookup y = some .free := hy
      rcases hy with hy | hy
      · exact absurd rfl (hncell _ (PySem.mem_of_lookup hy))
      · obtain ⟨c, h1, _⟩ := look hy
        exact ⟨c, h1⟩
    · exact absurd (show false = true from z) Bool.false_ne_true
    · exact Nat.ne_of_lt (hfp b hb).2
    · exact (hfp b hb).1.2.2.2.2.1 y c (cm (PySem.mem_of_lookup e)).1 z
    · rcases (hfp b hb).1.2.2.2.1 with z | z
      · exact I.ok.noex b o e z
      · exact absurd (Nat.lt_of_lt_of_le (Heap.lt_size e) (Nat.le_trans I.ok.bsz z)) (Nat.lt_irrefl _)
    · rcases List.mem_cons.mp (I.stkSub b z) with z | z
      · exact (hfp b hb).1.2.1 z
      · exact (hfp b hb).1.2.2.1 z
  have fr : ∀ b, s.heap.objs.size ≤ b → H b = none := fun b hb => I.hok.fresh hb
  refine ⟨okB, rfl, hG, Un.kept kp, ⟨_, hn.push _, fun i y av e1 e2 e3 => ?_⟩, fun y c e => ?_, fr _ (Nat.le_refl _), fun y c e => ?_, fun p hp => ?_, I.hok.kept kp, by rw [wipe_length]; exact I.len⟩
  · obtain ⟨e2, hne⟩ := wipe_some e2
    have hfr : scope.names.lookup y = some .free := by
      have no : ∀ k, (y, k) ∈ scope.names → ¬ (k = .local ∨ k = .cell) := fun k hm hh => by
        rcases ok.own _ hm hh with e' | e'
        · obtain ⟨p, hp, hpy⟩ := List.mem_map.mp e'
          have e3 := ok.ix p hp
          have : p.1 = y := hpy
          rw [this] at e3
          exact hne (List.mem_map.mpr ⟨p, hp, nodup_ix hN e3 e1⟩)
        · exact e' (List.mem_of_getElem? e1)
      have e3 : Vis scope y := e3
      rcases e3 with e3 | e3 | e3
      · exact absurd (.inl rfl) (no _ (PySem.mem_of_lookup e3))
      · exact absurd (.inr rfl) (no _ (PySem.mem_of_lookup e3))
      · exact e3
    obtain ⟨m, hn, hl⟩ := I.loc
    have hvis : Vis X.env.scope y := (ok.free _ (PySem.mem_of_lookup hfr) rfl).elim (fun k => .inr (.inl k)) (fun k => .inr (.inr k))
    obtain ⟨w, r, q⟩ := hl i y av e1 e2 hvis
    refine ⟨w, r, .inr ⟨.inr hfr, ?_⟩⟩
    obtain ⟨c, h1, h2⟩ := look hfr
    rcases q with ⟨k, _⟩ | ⟨_, c', e', z⟩
    · have k : X.env.scope.names.lookup y = some .local := k
      rcases ok.free _ (PySem.mem_of_lookup hfr) rfl with k' | k' <;> rw [show X.env.scope.names.lookup y = _ from k'] at k <;> cases k
    · rw [h2] at e'; cases e'
      exact ⟨c, h1, z.keeps kp⟩
  · obtain ⟨w, z⟩ := I.cell y c (cm (PySem.mem_of_lookup e)).1
    exact ⟨w, z.keeps kp⟩
  · exact I.freeC y c (cm (PySem.mem_of_lookup e)).1
  · have hp : p ∈ ([] : List (Addr × Obj)) ++ [(h'.objs.size, go)] := hp
    rw [List.nil_append, List.mem_singleton] at hp
    subst hp
    refine ⟨hgp, fr _ (by show s.heap.objs.size ≤ h'.objs.size; omega), ?_, fun z => ?_, hgo⟩
    · show h'.objs.size ≠ s.heap.objs.size; omega
    · rcases List.mem_cons.mp (I.stkSub _ z) with z | z
      · have := I.lt; rw [← z] at this; show False; have h2 : h'.objs.size < s.heap.objs.size := this; omega
      · exact I.nofs (show s.heap.objs.size ≤ h'.objs.size by omega) z

/-- what the consumer may do between two items -/
structure Slept0 (s s' : Shared) : Prop where
  os : s'.os = s.os
  bare : AllBare s'.gens
  keep : ∀ b o, s.heap.get? b = some o → s'.heap.get? b = some o
theorem Slept0.inv {Y : Cx} {pins : List (Addr × Obj)} {σ : L2.St} {H : Hp} {s s' : Shared} (z : Slept0 s s') (I : Inv Y pins σ H s) : Inv Y pins σ H s' :=
  I.call' (ch := []) z.os (Un.kept z.keep) (I.hok.kept z.keep) z.bare fun b hb => absurd hb (by simp)

/-- the reading: d is the truth that ends the walk (all: False, any: True) -/
@[irreducible] def tGen (d : Bool) (P : Addr) (wi : TI) (g : TG) (te : TE) (vs : List Nat) : TE := fun σ H Q => wi σ H fun J H1 => TabG H1 P ∧ ∀ H2, Tabbed P H1 H2 →
  ∃ W : Nat → Nat → Hp → Prop, (∃ m, W 0 m H2) ∧ ∀ i m H, W i m H →
    (J.stop i H ∧ Q (.bl (!d)) H) ∨ (J.go i H ∧ ∃ Nx : Hp → Prop, (∀ H', Nx H' → ∃ m', m' < m ∧ W (i + 1) m' H') ∧
      ∀ x H', J.yld i H x H' → g x (wipe σ vs) H' fun σ2 H3 => wipe σ2 vs = wipe σ vs ∧ te σ2 H3 fun y H4 => ∃ b, y = .bl b ∧ (b = d → Q (.bl d) H4) ∧ (b ≠ d → Nx H4))
end

/-- an item is handed out -/
def gY (Y : Cx) (pn : List (Addr × Obj)) (σw : L2.St) (d : Bool) (Q : VK) : Protocol := fun _ _ v s kap =>
  ∃ b H', v = .bool b ∧ Inv Y pn σw H' s ∧ (b = d → Q (.bl d) H') ∧ (b ≠ d → ∀ s'', Slept0 s s'' → kap (.send .none) s'')
def gP (Y : Cx) (pn : List (Addr × Obj)) (σw : L2.St) (d : Bool) (Q : VK) : Nat → Shared → Shared → Prop := fun _ _ s => ∃ H', Inv Y pn σw H' s ∧ Q (.bl (!d)) H'
def gR (Y : Cx) (pn : List (Addr × Obj)) (σw : L2.St) (d : Bool) (Q : VK) : GenEnd := fun n s₀ r s => r = .ok .next ∧ gP Y pn σw d Q n s₀ s

section
variable {Y : Cx} {A : Around} {elt tg iter : Expr} {scope : Scope} {pos : Pos} {it : Addr} {fp : List Addr} {tn : Nat → Heap → Prop} {J : It} {pn : List (Addr × Obj)} {σ : L2.St} {vs : List Nat} {d : Bool} {Q : VK} {g : TG} {te : TE} {W : Nat → Nat → Hp → Prop}
theorem seg_loop (hA : Y.A = A.deeper Y.env) (hcalm : Y.calm = true) (hco : Y.env.scope.isCoroutine = false) (hxe : Y.xe = fun _ _ => False)
    (T : Turn Y.prog Y.w Y.K tg J fp it tn) (hex : Y.ex = fp) (hpn : ∀ b ∈ fp, ∀ p ∈ Y.pn ++ pn, p.1 ≠ b) (pg : PG Y tg g) (pe : PE Y elt te)
    (turn : ∀ i m H, W i m H → (J.stop i H ∧ Q (.bl (!d)) H) ∨ (J.go i H ∧ ∃ Nx : Hp → Prop, (∀ H', Nx H' → ∃ m', m' < m ∧ W (i + 1) m' H') ∧
      ∀ x H', J.yld i H x H' → g x (wipe σ vs) H' fun σ2 H3 => wipe σ2 vs = wipe σ vs ∧ te σ2 H3 fun y H4 => ∃ b, y = .bl b ∧ (b = d → Q (.bl d) H4) ∧ (b ≠ d → Nx H4))) :
    ∀ (n m i : Nat) (s₀ s : Shared) (H : Hp), m < n → W i m H → Inv Y pn (wipe σ vs) H s → tn i s.heap → (∀ b ∈ fp, H b = none) →
      Seg (model Y.prog Y.w) A (gR Y pn (wipe σ vs) d Q) (gY Y pn (wipe σ vs) d Q) n s₀ (.compLoop (.GeneratorExp elt [⟨tg, iter, [], 0⟩] scope pos) 0 (.ref it) .none Y.env)
        ((model Y.prog Y.w).den (.compLoop (.GeneratorExp elt [⟨tg, iter, [], 0⟩] scope pos) 0 (.ref it) .none Y.env)) [] s := by
  have eA : A.over (.compLoop (.GeneratorExp elt [⟨tg, iter, [], 0⟩] scope pos) 0 (.ref it) .none Y.env) [] = Y.A := by rw [over_gen, hA]
  have stat : ∀ {σ' : L2.St} {H' : Hp} {s' : Shared}, Inv Y pn σ' H' s' → (∀ b ∈ fp, H' b = none) → ∀ b ∈ fp, FpOk Y pn H' b := fun {σ' H' s'} I' hn b hb =>
    ⟨hn b hb, (I'.ok.exf b (by rw [hex]; exact hb)).1, I'.ok.exfs b (by rw [hex]; exact hb), .inl (by rw [hex]; exact hb), fun x c e => (I'.ok.exf b (by rw [hex]; exact hb)).2 x c e, hpn b hb⟩
  intro n
  induction n with
  | zero => intro m i s₀ s H hm; exact absurd hm (Nat.not_lt_zero _)
  | succ n ih =>
    intro m i s₀ s H hm w I st hnf
    show Seg _ A _ _ _ s₀ _ ((compTurn (.GeneratorExp elt [⟨tg, iter, [], 0⟩] scope pos) 0 (.ref it) .none Y.env).onRaise (leaving Y.env)) [] s
    rw [compTurn_gen, Sem.onRaise_eq_wrap]
    refine seg_bind_wrap (wpAny_standAt ?_)
    rcases turn i m H w with ⟨stop, q⟩ | ⟨go, Nx, hNx, step⟩
    · refine seg_bind_wrap ?_
      rw [eA]
      refine thnF (T.done Y rfl rfl rfl hcalm i pn s _ H (fun _ _ => False) I (stat I hnf) st stop) fun r s1 ⟨hr, I1⟩ => ?_
      subst hr
      exact seg_end (.ok .next) ⟨rfl, H, I1, q⟩
    · refine seg_bind_wrap ?_
      rw [eA]
      refine thnF (T.item Y rfl rfl rfl hcalm i pn s _ H (fun _ _ => False) I (stat I hnf) st go) fun r s1 ⟨u, hr, h1⟩ => ?_
      subst hr
      refine seg_bind_wrap ?_
      rw [eA]
      refine thnF h1 fun _ s2 ⟨x, H2, I2, r2, y2, st2, n2⟩ => ?_
      have I2' := I2.pinned (stat I2 n2) (T.obj _ _ st2)
      refine seg_bind_wrap ?_
      rw [eA]
      have pgr := pg.run _ s2 _ H2 x u _ I2' r2 (step x H2 y2)
      rw [hxe] at pgr
      refine thnF pgr fun _ s3 ⟨σ3, H3, I3, hw3, q3⟩ => ?_
      refine seg_bind_wrap (wpAny_tests_nil ?_)
      simp only [if_true]
      have hy : ∀ v, yieldOut Y.env v = yieldValue v := fun v => by simp only [yieldOut, hco, Bool.false_eq_true, if_false]
      simp only [hy]
      rw [Sem.bind_eq_wrap', Sem.bind_eq_wrap', Sem.wrap_wrap, Sem.wrap_wrap]
      refine seg_wrap ?_
      rw [eA]
      have per := pe.run _ s3 σ3 H3 _ I3 q3
      rw [hxe] at per
      refine thnF per fun yv s4 ⟨y, H4, I4, r4, b, hb, q1, q2⟩ => ?_
      subst hb
      cases r4
      have pin' : ∀ b ∈ fp, ∀ o, s2.heap.get? b = some o → s4.heap.get? b = some o ∧ H4 b = none := fun b hb o e =>
        let z := I4.pin (b, o) (List.mem_append_right _ (List.mem_append_right _ (mem_pinsAt hb e)))
        ⟨z.1, z.2.1⟩
      have hl : (wipe σ vs).length = σ3.length := by rw [← hw3, wipe_length]
      have I4' : Inv Y pn (wipe σ vs) H4 s4 := (I4.unpinned (pins := pn)).weak hl fun j v e => by
        rw [← hw3] at e
        exact (wipe_some e).1
      have st4 : tn (i + 1) s4.heap := T.keep _ _ _ st2 fun b hb o e => (pin' b hb o e).1
      have n4 : ∀ b ∈ fp, H4 b = none := fun b hb => by
        obtain ⟨o, e, _⟩ := T.obj _ _ st2 b hb
        exact (pin' b hb o e).2
      refine seg_at (seg_yield rfl rfl rfl ⟨b, H4, rfl, I4', q1, fun hne s'' z => ?_⟩)
      obtain ⟨m', hm', w'⟩ := hNx H4 (q2 hne)
      exact seg_again rfl (ih m' (i + 1) s'' s'' H4 (by omega) w' (z.inv I4') (T.keep _ _ _ st4 fun b _ o e => z.keep b o e) n4)

theorem seg_start (hA : Y.A = A.deeper Y.env) (hcalm : Y.calm = true) (hco : Y.env.scope.isCoroutine = false) (hxe : Y.xe = fun _ _ => False)
    (T : Turn Y.prog Y.w Y.K tg J fp it tn) (hex : Y.ex = fp) (hpn : ∀ b ∈ fp, ∀ p ∈ Y.pn ++ pn, p.1 ≠ b) (pg : PG Y tg g) (pe : PE Y elt te)
    (turn : ∀ i m H, W i m H → (J.stop i H ∧ Q (.bl (!d)) H) ∨ (J.go i H ∧ ∃ Nx : Hp → Prop, (∀ H', Nx H' → ∃ m', m' < m ∧ W (i + 1) m' H') ∧
      ∀ x H', J.yld i H x H' → g x (wipe σ vs) H' fun σ2 H3 => wipe σ2 vs = wipe σ vs ∧ te σ2 H3 fun y H4 => ∃ b, y = .bl b ∧ (b = d → Q (.bl d) H4) ∧ (b ≠ d → Nx H4)))
    (m : Nat) (s₀ s : Shared) (H : Hp) (w : W 0 m H) (I : Inv Y pn (wipe σ vs) H s) (st : tn 0 s.heap) (hnf : ∀ b ∈ fp, H b = none) :
      Seg (model Y.prog Y.w) A (gR Y pn (wipe σ vs) d Q) (gY Y pn (wipe σ vs) d Q) (m + 1) s₀ (.compStart (.GeneratorExp elt [⟨tg, iter, [], 0⟩] scope pos) 0 (.ref it) .none Y.env)
        ((model Y.prog Y.w).den (.compStart (.GeneratorExp elt [⟨tg, iter, [], 0⟩] scope pos) 0 (.ref it) .none Y.env)) [] s := by
  have loop := seg_loop (iter := iter) (scope := scope) (pos := pos) hA hcalm hco hxe T hex hpn pg pe turn (m + 1) m 0 s₀ s H (Nat.lt_succ_self _) w I st hnf
  show Seg _ A _ _ _ s₀ _ ((compStart (.GeneratorExp elt [⟨tg, iter, [], 0⟩] scope pos) 0 (.ref it) .none Y.env).onRaise (leaving Y.env)) [] s
  unfold compStart
  rw [Sem.onRaise_eq_wrap]
  show Seg _ A _ _ _ s₀ _ ((ask >>= _).wrap _ _ _ _) [] s
  refine seg_bind_wrap (wpAny_askSetting ?_)
  split
  · exact seg_again rfl loop
  · first
      | exact seg_bind_wrap (wpAny_rule (seg_bind_wrap (wpAny_standAt (seg_bind_wrap (T.self _ 0 s _ _ st (seg_again rfl loop))))))
      | (refine seg_bind_wrap (wpAny_rule ?_); show Seg _ A _ _ _ s₀ _ ((standAt iter.pos >>= _).wrap _ _ _ _) [] s; exact seg_bind_wrap (wpAny_standAt (seg_bind_wrap (T.self _ 0 s _ _ st (seg_again rfl loop)))))
end

/-- the generator between two items: at most n more -/
def Waits (Y : Cx) (pn : List (Addr × Obj)) (σw : L2.St) (d : Bool) (Q : VK) (A : Around) (g n : Nat) (s : Shared) : Prop :=
  (∃ H, Inv Y pn σw H s) ∧ ∃ gs, s.gens[g]? = some gs ∧ ∀ s'', Slept0 s s'' → gs.Goes (model Y.prog Y.w) A (gR Y pn σw d Q) (gY Y pn σw d Q) n (.send .none) s''
section
variable {Y : Cx} {A : Around} {pn : List (Addr × Obj)} {σw : L2.St} {d : Bool} {Q : VK} {a : Addr} {go : Obj} {g : Nat}
theorem next_gen {n : Nat} {s : Shared} {Kp : Option Value → Shared → Prop} {E : Value → Shared → Prop} (hh : A.handled = none) (hroom : A.depth < recursionLimit) (hpn : (a, go) ∈ Y.pn ++ pn)
    (hgo : ∀ h : Heap, h.get? a = some go → h.IsGen a g) (w : Waits Y pn σw d Q A.in1 g n s)
    (hstop : ∀ s' H', Inv Y pn σw H' s' → Q (.bl (!d)) H' → Kp none s')
    (hitem : ∀ b s' H', Inv Y pn σw H' s' → (b = d → Q (.bl d) H') → (b ≠ d → ∃ m, n = m + 1 ∧ Waits Y pn σw d Q A.in1 g m s') → Kp (some (.bool b)) s') :
    wpAny (model Y.prog Y.w) A (pyNext (.ref a)) Kp E s := by
  obtain ⟨⟨H, I⟩, gs, hgs, hgoes⟩ := w
  have hg : s.heap.IsGen a g := hgo _ (I.pin (a, go) hpn).1
  have hlt : g + 1 ≤ s.gens.size := (Array.getElem?_eq_some_iff.mp hgs).1
  refine wpAny_gsz hlt ?_
  refine wpAny_pyNext_genexpQ (P := gP Y pn σw d Q) hh I.nolimit hroom hg hgs (hgoes _ ⟨rfl, allBare_setGen I.bare rfl, fun _ _ e => e⟩) (fun v s₁ gs' hb hv hsz => ?_) (fun s₁ hp h' hk hsz => ?_)
  · obtain ⟨b, H', rfl, I', q1, q2⟩ := hv
    have hlt1 : g < s₁.gens.size := by
      have e := setGen_size s₁ g gs'
      omega
    have z1 : Slept0 s₁ (s₁.setGen g gs') := ⟨rfl, allBare_setGen I'.bare hb, fun _ _ e => e⟩
    refine hitem b _ H' (z1.inv I') q1 fun hne => ?_
    cases n with
    | zero => exact (q2 hne s₁ ⟨rfl, I'.bare, fun _ _ e => e⟩).elim
    | succ m =>
      refine ⟨m, rfl, ⟨H', z1.inv I'⟩, gs', setGen_self (Array.getElem?_eq_getElem hlt1), fun s'' z => ?_⟩
      exact q2 hne s'' ⟨z.os.trans z1.os, z.bare, fun b o e => z.keep b o (z1.keep b o e)⟩
  · obtain ⟨H', I', q⟩ := hp
    have z1 : Slept0 s₁ { s₁.setGen g .finished with heap := h' } := ⟨rfl, allBare_setGen I'.bare rfl, hk⟩
    exact hstop _ H' (z1.inv I') q
end

section
variable {Y : Cx} {A : Around} {pn : List (Addr × Obj)} {σw : L2.St} {Q : VK} {a : Addr} {go : Obj} {g : Nat}
theorem all_loop {R : Result → Shared → Prop} (hh : A.handled = none) (hroom : A.depth < recursionLimit) (hpn : (a, go) ∈ Y.pn ++ pn)
    (hgo : ∀ h : Heap, h.get? a = some go → h.IsGen a g) (hR : ∀ b s' H', Inv Y pn σw H' s' → Q (.bl b) H' → R (.ok (.ret (.bool b))) s') :
    ∀ (n : Nat) (s : Shared), Waits Y pn σw false Q A.in1.in1 g n s → codeAny (model Y.prog Y.w) A (.builtin "all.loop" ⟨[.ref a], []⟩) R s := by
  intro n
  induction n with
  | zero =>
    intro s w
    refine codeAny_builtin F.entry_all_loop ?_
    rw [Around.under_plainId F.plain_all_loop _]
    show wpAny _ A.in1 (pyNext (.ref a) >>= _) _ _ s
    refine wpAny_bind (next_gen (A := A.in1) hh hroom hpn hgo w (fun s' H' I' q => ?_) fun b s' H' I' q1 q2 => ?_)
    · exact wpAny_bind (wpAny_rule (wpAny_pure (hR true s' H' I' q)))
    · refine wpAny_bind (wpAny_holding (wpAny_truthy_bool ?_))
      refine wpAny_bind (wpAny_letGo ?_)
      cases b with
      | true => obtain ⟨m, e, _⟩ := q2 (by decide); exact absurd e (by omega)
      | false =>
        simp only [Bool.false_eq_true, if_false]
        exact wpAny_bind (wpAny_rule (wpAny_pure (hR false s' H' I' (q1 rfl))))
  | succ n ih =>
    intro s w
    refine codeAny_builtin F.entry_all_loop ?_
    rw [Around.under_plainId F.plain_all_loop _]
    show wpAny _ A.in1 (pyNext (.ref a) >>= _) _ _ s
    refine wpAny_bind (next_gen (A := A.in1) hh hroom hpn hgo w (fun s' H' I' q => ?_) fun b s' H' I' q1 q2 => ?_)
    · exact wpAny_bind (wpAny_rule (wpAny_pure (hR true s' H' I' q)))
    · refine wpAny_bind (wpAny_holding (wpAny_truthy_bool ?_))
      refine wpAny_bind (wpAny_letGo ?_)
      cases b with
      | true =>
        obtain ⟨m, e, w'⟩ := q2 (by decide)
        simp only [if_true]
        obtain rfl : n = m := by omega
        exact wpAny_pure ⟨plainId_quiet F.plain_all_loop _, ih s' w'⟩
      | false =>
        simp only [Bool.false_eq_true, if_false]
        exact wpAny_bind (wpAny_rule (wpAny_pure (hR false s' H' I' (q1 rfl))))
theorem any_loop {R : Result → Shared → Prop} (hh : A.handled = none) (hroom : A.depth < recursionLimit) (hpn : (a, go) ∈ Y.pn ++ pn)
    (hgo : ∀ h : Heap, h.get? a = some go → h.IsGen a g) (hR : ∀ b s' H', Inv Y pn σw H' s' → Q (.bl b) H' → R (.ok (.ret (.bool b))) s') :
    ∀ (n : Nat) (s : Shared), Waits Y pn σw true Q A.in1.in1 g n s → codeAny (model Y.prog Y.w) A (.builtin "any.loop" ⟨[.ref a], []⟩) R s := by
  intro n
  induction n with
  | zero =>
    intro s w
    refine codeAny_builtin F.entry_any_loop ?_
    rw [Around.under_plainId F.plain_any_loop _]
    show wpAny _ A.in1 (pyNext (.ref a) >>= _) _ _ s
    refine wpAny_bind (next_gen (A := A.in1) hh hroom hpn hgo w (fun s' H' I' q => ?_) fun b s' H' I' q1 q2 => ?_)
    · exact wpAny_bind (wpAny_rule (wpAny_pure (hR false s' H' I' q)))
    · refine wpAny_bind (wpAny_holding (wpAny_truthy_bool ?_))
      refine wpAny_bind (wpAny_letGo ?_)
      cases b with
      | false => obtain ⟨m, e, _⟩ := q2 (by decide); exact absurd e (by omega)
      | true =>
        simp only [if_true]
        exact wpAny_bind (wpAny_rule (wpAny_pure (hR true s' H' I' (q1 rfl))))
  | succ n ih =>
    intro s w
    refine codeAny_builtin F.entry_any_loop ?_
    rw [Around.under_plainId F.plain_any_loop _]
    show wpAny _ A.in1 (pyNext (.ref a) >>= _) _ _ s
    refine wpAny_bind (next_gen (A := A.in1) hh hroom hpn hgo w (fun s' H' I' q => ?_) fun b s' H' I' q1 q2 => ?_)
    · exact wpAny_bind (wpAny_rule (wpAny_pure (hR false s' H' I' q)))
    · refine wpAny_bind (wpAny_holding (wpAny_truthy_bool ?_))
      refine wpAny_bind (wpAny_letGo ?_)
      cases b with
      | false =>
        obtain ⟨m, e, w'⟩ := q2 (by decide)
        simp only [Bool.false_eq_true, if_false]
        obtain rfl : n = m := by omega
        exact wpAny_pure ⟨plainId_quiet F.plain_any_loop _, ih s' w'⟩
      | true =>
        simp only [if_true]
        exact wpAny_bind (wpAny_rule (wpAny_pure (hR true s' H' I' (q1 rfl))))
end

/-- the generator over the walked thing, made -/
theorem gen_make {X : Cx} {pins : List (Addr × Obj)} {σ : L2.St} {H : Hp} {s : Shared} {c P : Addr} {elt tg iter : Expr} {gpos : Pos} {scope : Scope} {own : List (Str × Nat)} {wi : TI} {g : TG} {te : TE} {d : Bool} {k : Nat} {Q : VK} {Q' : Value → Shared → Prop}
    (hc : X.calm = true) (hN : X.N.Nodup) (hr : Room k X.A) (TB : TabB X.base X.mg c P) (hcode : X.env.code = .ref c) (ok : BlkOk X.N X.env.scope scope own) (hncell : ∀ y ∈ scope.names, y.2 ≠ .cell) (h0 : scope.names.lookup (".0" : Str) = some .local) (hco : scope.isCoroutine = false)
    (hi : PI X tg iter wi) (hg : ∀ (s : Shared) (H : Hp) (cl : List (Str × Addr)) (C : Addr) (code : Value) (fp : List Addr), PG (gcx X s H scope cl C code fp) tg g)
    (he : ∀ (s : Shared) (H : Hp) (cl : List (Str × Addr)) (C : Addr) (code : Value) (fp : List Addr), PE (gcx X s H scope cl C code fp) elt te)
    (hs : ∀ v, genFold iter X.env v = pure v) (I : Inv X pins σ H s) (h : tGen d P wi g te (own.map (·.2)) σ H Q)
    (hQ : ∀ (Y : Cx) (pn : List (Addr × Obj)) (σw : L2.St) (a : Addr) (go : Obj) (gn n : Nat) (s5 : Shared), Y.prog = X.prog → Y.w = X.w → (a, go) ∈ Y.pn ++ pn → (∀ h : Heap, h.get? a = some go → h.IsGen a gn) → s5.heap.get? a = some go → Waits Y pn σw d Q X.A.in1.in1 gn n s5 →
      (∀ s' H' v, Inv Y pn σw H' s' → Q v H' → ∃ H'', Inv X pins σ H'' s' ∧ Q v H'') → Q' (.ref a) s5) :
    wpAny (model X.prog X.w) X.A (eval (.GeneratorExp elt [⟨tg, iter, [], 0⟩] scope gpos) X.env) Q' X.xe s := by
  unfold tGen at h
  have hfree : ∀ y ∈ scope.names, y.2 = .free → ∃ c, X.env.cells.lookup y.1 = some c := fun y hy e => by
    rcases ok.free y hy e with k | k
    · exact I.ok.has _ (.inl k)
    · exact I.ok.has _ (.inr k)
  refine wpAny_GeneratorExp_make hco (closure_ok hfree) hncell h0 ok.kind (by have := hr.dp; omega) (thn (hi.run pins s σ H _ I h) fun xv s1 hx => thn hx fun itv s2 h2 => ?_) hs
  obtain ⟨it, fp, tn, J, H2, e, I2, T, st2, f2, ⟨ps, hP, ht⟩, q⟩ := h2
  subst e
  refine ⟨I2.nolimit, ?_⟩
  have hP2 : s2.heap.get? P = some { cls := .none, data := .fields ps } := I2.hok P _ hP
  have cd : PySem.W.CodeHd s2.heap c P := TB.code.keeps fun b u e => I2.bk b u e
  have fpP : ∀ b ∈ fp, b ≠ P := fun b hb e => by
    have z := (f2 b hb).1
    rw [e, hP] at z; cases z
  have cont : ∀ (code : Value) (h3 : Heap) (tk : Nat) (ps' : Array Value), Heap.ExtBut P s2.heap h3 → h3.get? P = some { cls := .none, data := .fields ps' } → (∃ more, ps' = ps ++ more) → TriplesOk ps'.toList →
      wpAny (model X.prog X.w) X.A (builtinsFor X.env.globals X.env.builtins) (fun bi s₄ =>
        ∀ h', h'.Ns s₄.heap.objs.size (fun y => if y = (".0" : Str) then some (.ref it) else none) → Heap.SameBut s₄.heap.objs.size (s₄.heap.push { cls := .type "frame", data := .dict #[] }) h' →
          Q' (.ref h'.objs.size) { s₄ with
            gens := s₄.gens.push (.fresh (.compStart (.GeneratorExp elt [⟨tg, iter, [], 0⟩] scope gpos) 0 (.ref it) .none (genEnv scope (cloFrom X.env.cells scope.names []) s₄.heap.objs.size code bi X.env))),
            toks := s₄.toks + 1 + 1 + 1,
            heap := h'.push { cls := .type "generator", data := .fields #[.int s₄.gens.size 0, .str "<genexpr>" (s₄.toks + 1), .str (X.env.qual ++ "<genexpr>") (s₄.toks + 1 + 1)] } }) X.xe { s2 with heap := h3, toks := tk } := by
    intro code h3 tk ps' hx hP3 hmore ht3
    obtain ⟨more, em⟩ := hmore
    obtain ⟨bm, ob, e1, e2, e3, e4, e5, e6, e7, e8⟩ := TB.bm
    have I3 : Inv X pins σ (upd H2 P (.tbl (ps ++ more))) { s2 with heap := h3, gens := s2.gens, drawn := s2.drawn, toks := tk } := inv_tab I2 hP (fun b o hb e => hx b o hb e) (by rw [← em]; exact hP3) I2.bare
    have hTb : Tabbed P H2 (upd H2 P (.tbl (ps ++ more))) := ⟨⟨ps ++ more, upd_same, by rw [← em]; exact ht3⟩, fun b hb => upd_ne hb⟩
    obtain ⟨W, ⟨m0, w0⟩, turn⟩ := q _ hTb
    generalize upd H2 P (.tbl (ps ++ more)) = H3 at I3 w0 hTb
    generalize hs3 : ({ s2 with heap := h3, gens := s2.gens, drawn := s2.drawn, toks := tk } : Shared) = s3 at I3
    have eh3 : s3.heap = h3 := by rw [← hs3]
    have st3 : tn 0 s3.heap := T.keep _ _ _ st2 fun b hb o e => by rw [eh3]; exact hx b o (fpP b hb) e
    have f3 : ∀ b ∈ fp, FpOk X pins H3 b ∧ b < s3.heap.objs.size := fun b hb => by
      obtain ⟨o, e, _⟩ := T.obj _ _ st3 b hb
      exact ⟨⟨(hTb.2 b (fpP b hb)).trans (f2 b hb).1, (f2 b hb).2⟩, Heap.lt_size e⟩
    refine wpAny_builtinsFor (m := X.mg) (by rw [I3.ok.glob]; exact I3.ok.mod.glob.keeps I3.bk) e1 e2 (I3.bk _ _ e5) e6 e7 e8 ?_
    intro h' hn hsb
    have main : ∀ (go : Obj) (tk' : Nat), (∀ v, go.data ≠ .cell v) → (∀ (h : Heap) (a : Addr), h.get? a = some go → h.IsGen a s3.gens.size) → (h'.push go).get? h'.objs.size = some go →
        Q' (.ref h'.objs.size) { s3 with gens := s3.gens.push (.fresh (.compStart (.GeneratorExp elt [⟨tg, iter, [], 0⟩] scope gpos) 0 (.ref it) .none (genEnv scope (cloFrom X.env.cells scope.names []) s3.heap.objs.size code builtinsNs X.env))), toks := tk', heap := h'.push go } := by
      intro go tk' hgo hgen hgp
      have I5 := gen_start (code := code) (tk := tk') (it := .ref it) hc I3 ok hN f3 hncell hn hsb (I3.bare.push (g := .fresh (.compStart (.GeneratorExp elt [⟨tg, iter, [], 0⟩] scope gpos) 0 (.ref it) .none (genEnv scope (cloFrom X.env.cells scope.names []) s3.heap.objs.size code builtinsNs X.env))) rfl) hgo hgp h0
      have pgr := hg s3 H3 (cloFrom X.env.cells scope.names []) s3.heap.objs.size code fp
      have per := he s3 H3 (cloFrom X.env.cells scope.names []) s3.heap.objs.size code fp
      have kp0 : ∀ b o, s3.heap.get? b = some o → (h'.push go).get? b = some o := fun b o e => Heap.get?_push_of_some _ (hsb.extBut b o (Nat.ne_of_lt (Heap.lt_size e)) (Heap.get?_push_of_some _ e))
      have nf3 : ∀ b ∈ fp, H3 b = none := fun b hb => (f3 b hb).1.1
      have hsz : h'.objs.size = s3.heap.objs.size + 1 := by rw [hsb.1, Heap.size_push]
      refine hQ (gcx X s3 H3 scope (cloFrom X.env.cells scope.names []) s3.heap.objs.size code fp) [(h'.objs.size, go)] (wipe σ (own.map (·.2))) h'.objs.size go s3.gens.size (m0 + 1) _ rfl rfl (List.mem_append_right _ (List.mem_singleton.mpr rfl)) (fun h e => hgen h _ e) hgp
        ⟨⟨H3, I5⟩, _, Array.getElem?_push_size .., fun s'' z => ⟨rfl, ?_⟩⟩ (fun s' H' v I' qv => ⟨H', ?_, qv⟩)
      · refine seg_start (Y := gcx X s3 H3 scope (cloFrom X.env.cells scope.names []) s3.heap.objs.size code fp) (A := X.A.in1.in1) rfl rfl hco rfl T rfl (fun b hb p hp => ?_) pgr per turn m0 s'' s'' H3 w0 (z.inv I5) ?_ nf3
        · have hp : p ∈ ([] : List (Addr × Obj)) ++ [(h'.objs.size, go)] := hp
          rw [List.nil_append, List.mem_singleton] at hp
          subst hp
          have hlt := (f3 b hb).2
          intro e
          have e : h'.objs.size = b := e
          rw [← e, hsz] at hlt
          exact absurd hlt (Nat.not_lt.mpr (Nat.le_succ _))
        · exact T.keep _ _ _ st3 fun b _ o e => z.keep b o (kp0 b o e)
      · exact I3.call' (ch := fp) I'.os I'.base I'.hok I'.bare fun b hb => ⟨(f3 b hb).1.2.2.2.1, (f3 b hb).1.2.1, (f3 b hb).1.2.2.2.2.1, (f3 b hb).1.2.2.2.2.2⟩
    exact main _ _ (fun v e => by cases e) (fun h a e => ⟨_, _, _, e, rfl, rfl, rfl⟩) (Heap.get?_push_size _ rfl)
  cases hf : codeAmong gpos ps.toList with
  | none =>
    refine wpAny_genexprCodeX hcode (cd.code hP2 ht) (cd.tab hP2) hf fun c' h' tk hx hge hlt hco' _ htab' _ => ?_
    obtain ⟨o1, vs, f1, tf, fl, tg', inF, tx, tt, op, _, _, _, _, _, _, _, _, _, htr, _⟩ := hco'
    exact cont _ h' tk _ hx htab'.2 ⟨_, rfl⟩ htr
  | some cv =>
    refine wpAny_genexprCode_hit hcode (cd.code hP2 ht) hf ?_
    exact cont cv s2.heap s2.toks ps (Heap.ExtBut.refl _ _) hP2 ⟨#[], by simp⟩ ht

section
variable {X : Cx} {c P : Addr} {elt tg iter : Expr} {p pos gpos : Pos} {scope : Scope} {own : List (Str × Nat)} {wi : TI} {g : TG} {te : TE} {k : Nat}
/-- all(elt for tg in iter) -/
theorem pe_all (hr : Room k X.A) (hc : X.calm = true) (hN : X.N.Nodup) (hm : X.mg "all" = none) (TB : TabB X.base X.mg c P) (hcode : X.env.code = .ref c) (ok : BlkOk X.N X.env.scope scope own) (hi : PI X tg iter wi)
    (hg : ∀ (s : Shared) (H : Hp) (cl : List (Str × Addr)) (C : Addr) (code : Value) (fp : List Addr), PG (gcx X s H scope cl C code fp) tg g)
    (he : ∀ (s : Shared) (H : Hp) (cl : List (Str × Addr)) (C : Addr) (code : Value) (fp : List Addr), PE (gcx X s H scope cl C code fp) elt te)
    (hncell : ∀ y ∈ scope.names, y.2 ≠ .cell := by decide +kernel) (h0 : scope.names.lookup (".0" : Str) = some .local := by decide +kernel) (hco : scope.isCoroutine = false := by rfl) (hgl : Gl X "all" := by rfl) (hs : ∀ v, genFold iter X.env v = pure v := by intro _; rfl)
    (hst : starEach [.GeneratorExp elt [⟨tg, iter, [], 0⟩] scope gpos] X.env = (false, eval (.GeneratorExp elt [⟨tg, iter, [], 0⟩] scope gpos) X.env) :: starEach [] X.env := by rfl) :
    PE X (.Call (.Name "all" p) [.GeneratorExp elt [⟨tg, iter, [], 0⟩] scope gpos] [] pos) (tGen false P wi g te (own.map (·.2))) := by
  refine ⟨fun pins s σ H Q I h => ?_⟩
  refine wpAny_Call_Name_kw (ld_blt I hgl hm boot_all ?_)
  refine PyProof.Rows.callWith_builtin1 ?_ hst (by rfl)
  rw [hst]
  show wpAny _ _ (spliced ((false, eval (.GeneratorExp elt [⟨tg, iter, [], 0⟩] scope gpos) X.env) :: backTo pos (starEach [] X.env))) _ _ s
  refine Calls.spliced_cons (gen_make hc hN hr TB hcode ok hncell h0 hco hi hg he hs I h fun Y pn σw a go gn n s5 e1 e2 hpn hgo hat w back => ?_)
  refine Calls.spliced_nil ?_
  refine call_function_tree F.kind_all F.plain_all F.entry_all (F.args_all1 _) ?_
  unfold Builtin.«all»
  refine wpAny_bind (m := oneArg "all" _) (wpAny_pure ?_)
  refine wpAny_bind (wpAny_pyIter_gen (hgo _ hat) ?_)
  refine wpAny_pure ⟨plainId_quiet F.plain_all_loop _, ?_⟩
  rw [← e1, ← e2]
  refine all_loop (A := X.A) hr.hd (by have := hr.dp; omega) hpn hgo (fun b s' H' I' q => ?_) n s5 w
  obtain ⟨H'', I'', q''⟩ := back s' H' (.bl b) I' q
  exact ⟨.bl b, H'', I'', rfl, q''⟩
/-- any(elt for tg in iter) -/
theorem pe_any (hr : Room k X.A) (hc : X.calm = true) (hN : X.N.Nodup) (hm : X.mg "any" = none) (TB : TabB X.base X.mg c P) (hcode : X.env.code = .ref c) (ok : BlkOk X.N X.env.scope scope own) (hi : PI X tg iter wi)
    (hg : ∀ (s : Shared) (H : Hp) (cl : List (Str × Addr)) (C : Addr) (code : Value) (fp : List Addr), PG (gcx X s H scope cl C code fp) tg g)
    (he : ∀ (s : Shared) (H : Hp) (cl : List (Str × Addr)) (C : Addr) (code : Value) (fp : List Addr), PE (gcx X s H scope cl C code fp) elt te)
    (hncell : ∀ y ∈ scope.names, y.2 ≠ .cell := by decide +kernel) (h0 : scope.names.lookup (".0" : Str) = some .local := by decide +kernel) (hco : scope.isCoroutine = false := by rfl) (hgl : Gl X "any" := by rfl) (hs : ∀ v, genFold iter X.env v = pure v := by intro _; rfl)
    (hst : starEach [.GeneratorExp elt [⟨tg, iter, [], 0⟩] scope gpos] X.env = (false, eval (.GeneratorExp elt [⟨tg, iter, [], 0⟩] scope gpos) X.env) :: starEach [] X.env := by rfl) :
    PE X (.Call (.Name "any" p) [.GeneratorExp elt [⟨tg, iter, [], 0⟩] scope gpos] [] pos) (tGen true P wi g te (own.map (·.2))) := by
  refine ⟨fun pins s σ H Q I h => ?_⟩
  refine wpAny_Call_Name_kw (ld_blt I hgl hm boot_any ?_)
  refine PyProof.Rows.callWith_builtin1 ?_ hst (by rfl)
  rw [hst]
  show wpAny _ _ (spliced ((false, eval (.GeneratorExp elt [⟨tg, iter, [], 0⟩] scope gpos) X.env) :: backTo pos (starEach [] X.env))) _ _ s
  refine Calls.spliced_cons (gen_make hc hN hr TB hcode ok hncell h0 hco hi hg he hs I h fun Y pn σw a go gn n s5 e1 e2 hpn hgo hat w back => ?_)
  refine Calls.spliced_nil ?_
  refine call_function_tree F.kind_any F.plain_any F.entry_any (F.args_any1 _) ?_
  unfold Builtin.«any»
  refine wpAny_bind (m := oneArg "any" _) (wpAny_pure ?_)
  refine wpAny_bind (wpAny_pyIter_gen (hgo _ hat) ?_)
  refine wpAny_pure ⟨plainId_quiet F.plain_any_loop _, ?_⟩
  rw [← e1, ← e2]
  refine any_loop (A := X.A) hr.hd (by have := hr.dp; omega) hpn hgo (fun b s' H' I' q => ?_) n s5 w
  obtain ⟨H'', I'', q''⟩ := back s' H' (.bl b) I' q
  exact ⟨.bl b, H'', I'', rfl, q''⟩
end
end GA
#print axioms GA.pe_all
#print axioms GA.pe_any

-- part GenSetA
set_option Elab.async false
set_option linter.all false
set_option maxRecDepth 100000
set_option maxHeartbeats 4000000
/-! len(set(xs)) of texts, any number below the line; written dicts asked; products of great ints; defs with their code told -/
namespace GS
open PySem PySem.Spec PyProof.Rows L2 SS
/-- the different ones, in their order -/
def dis (l : List Str) : List Str := l.foldl (fun a x => if a.contains x then a else a ++ [x]) []
theorem dis_snoc (l : List Str) (x : Str) : dis (l ++ [x]) = if (dis l).contains x then dis l else dis l ++ [x] := by
  unfold dis
  rw [List.foldl_append]
  rfl
theorem dis_any : ∀ (n : Nat) (l : List Str), l.length = n → ∀ k, (dis l).any (· == k) = l.any (· == k) := by
  intro n
  induction n with
  | zero =>
    intro l hl k
    rw [List.length_eq_zero_iff.mp hl]
    rfl
  | succ n ih =>
    intro l hl k
    obtain ⟨r, x, rfl⟩ : ∃ r x, l = r ++ [x] := ⟨l.dropLast, l.getLast (by intro z; rw [z] at hl; cases hl), (List.dropLast_concat_getLast _).symm⟩
    have hr : r.length = n := by simpa using hl
    have e := ih r hr
    rw [dis_snoc]
    by_cases hc : (dis r).contains x = true
    · rw [if_pos hc, e k, List.any_append]
      have hx : (dis r).any (· == x) = true := by
        rw [List.any_eq_true]
        exact ⟨x, by simpa using hc, by simp⟩
      by_cases hk : x = k
      · subst hk
        rw [← e x, hx]
        rfl
      · have : (x == k) = false := by simpa using hk
        simp [this]
    · rw [if_neg hc, List.any_append, List.any_append, e k]
theorem dis_len (l : List Str) : (dis l).length ≤ l.length := by
  have : ∀ (n : Nat) (l : List Str), l.length = n → (dis l).length ≤ n := by
    intro n
    induction n with
    | zero => intro l hl; rw [List.length_eq_zero_iff.mp hl]; exact Nat.le_refl _
    | succ n ih =>
      intro l hl
      obtain ⟨r, x, rfl⟩ : ∃ r x, l = r ++ [x] := ⟨l.dropLast, l.getLast (by intro z; rw [z] at hl; cases hl), (List.dropLast_concat_getLast _).symm⟩
      have hr : r.length = n := by simpa using hl
      have := ih r hr
      rw [dis_snoc]
      split
      · omega
      · rw [List.length_append, List.length_singleton]; omega
  exact this _ l rfl
theorem dis_mem {l : List Str} {k : Str} : k ∈ dis l ↔ k ∈ l := by
  have e := dis_any _ l rfl k
  constructor
  · intro h
    have : (dis l).any (· == k) = true := List.any_eq_true.mpr ⟨k, h, by simp⟩
    rw [e] at this
    obtain ⟨y, hy, hk⟩ := List.any_eq_true.mp this
    rw [← beq_iff_eq.mp hk]; exact hy
  · intro h
    have : l.any (· == k) = true := List.any_eq_true.mpr ⟨k, h, by simp⟩
    rw [← e] at this
    obtain ⟨y, hy, hk⟩ := List.any_eq_true.mp this
    rw [← beq_iff_eq.mp hk]; exact hy
theorem dis_lt (l : List Str) : (dis l).length < l.length ↔ ¬ l.Nodup := by
  have : ∀ (n : Nat) (l : List Str), l.length = n → ((dis l).length < n ↔ ¬ l.Nodup) := by
    intro n
    induction n with
    | zero => intro l hl; rw [List.length_eq_zero_iff.mp hl]; simp [dis]
    | succ n ih =>
      intro l hl
      obtain ⟨r, x, rfl⟩ : ∃ r x, l = r ++ [x] := ⟨l.dropLast, l.getLast (by intro z; rw [z] at hl; cases hl), (List.dropLast_concat_getLast _).symm⟩
      have hr : r.length = n := by simpa using hl
      have ih := ih r hr
      have hle := dis_len r
      have hnd : (r ++ [x]).Nodup ↔ r.Nodup ∧ x ∉ r := by
        rw [List.nodup_append]
        constructor
        · rintro ⟨a, _, b⟩
          exact ⟨a, fun h => b x h x (List.mem_singleton.mpr rfl) rfl⟩
        · rintro ⟨a, b⟩
          refine ⟨a, by simp, fun y hy z hz e => b ?_⟩
          rw [List.mem_singleton] at hz
          rw [← hz, ← e]; exact hy
      rw [dis_snoc, hnd]
      by_cases hc : (dis r).contains x = true
      · rw [if_pos hc]
        have hx : x ∈ r := dis_mem.mp (by simpa using hc)
        constructor
        · intro _ h; exact h.2 hx
        · intro _; omega
      · rw [if_neg hc, List.length_append, List.length_singleton]
        have hx : x ∉ r := fun h => hc (by simpa using dis_mem.mpr h)
        constructor
        · intro h hh
          exact (ih.mp (by omega)) hh.1
        · intro h
          have : ¬ r.Nodup := fun z => h ⟨z, hx⟩
          have := ih.mpr this
          omega
  exact this _ l rfl

section
variable {prog : Program} {w : World} {A : Around} {R : Result → Shared → Prop} {I : Addr} {fp wr : List Addr} {G : Array GenState → Array GenState → Prop} {n : Nat} {P : Nat → Value → Prop} {St : Nat → Shared → Prop}
theorem fill (W : WalksS prog w A.in1 I fp wr G n P St) (S : Addr) (hSf : S ∉ fp) (xs : List Str) (hsz : xs.length = n) (hn1 : n + 1 < scanBound)
    (hval : ∀ i v, P i v → ∃ t, v = .str (xs.getD i Str.empty) t) (turns : Nat) :
    ∀ (i : Nat) (s : Shared), i + turns = n → St i s →
      s.heap.SetOf (PySem.strKind prog w) S (fun y => (xs.take i).any (· == y)) (dis (xs.take i)).length →
      (∀ s', Moved (S :: wr) G s s' → s'.heap.SetOf (PySem.strKind prog w) S (fun y => xs.any (· == y)) (dis xs).length → R (.ok (.ret .none)) s') →
      codeAny (model prog w) A (.builtin "set.update.loop" ⟨[.ref S, .ref I], []⟩) R s := by
  have nS : S ∉ wr := fun z => hSf (W.sub _ z)
  have more : ∀ b ∈ wr, b ∈ S :: wr := fun b z => List.mem_cons_of_mem _ z
  have carry : ∀ {s s' : Shared} {F : Str → Bool} {m : Nat}, Moved wr G s s' → s.heap.SetOf (PySem.strKind prog w) S F m → s'.heap.SetOf (PySem.strKind prog w) S F m := fun hm ⟨o, es, ep, tb, ho, r⟩ => ⟨o, es, ep, tb, hm.heap S _ nS ho, r⟩
  induction turns with
  | zero =>
    intro i s hi st hS hR
    obtain rfl : i = n := by omega
    refine codeAny_builtin PyProof.Rows.F.entry_set_update_loop ?_
    rw [Around.under_plainId PyProof.Rows.F.plain_set_update_loop _]
    show wpAny _ A.in1 (pyNext (.ref I) >>= _) _ _ s
    refine wpAny_bind (W.done s _ _ st fun s' hm => ?_)
    rw [← hsz, List.take_length] at hS
    exact wpAny_pure (hR s' (hm.mono more) (carry hm hS))
  | succ turns ih =>
    intro i s hi st hS hR
    refine codeAny_builtin PyProof.Rows.F.entry_set_update_loop ?_
    rw [Around.under_plainId PyProof.Rows.F.plain_set_update_loop _]
    show wpAny _ A.in1 (pyNext (.ref I) >>= _) _ _ s
    refine wpAny_bind (W.item i s _ _ (by omega) st fun v s' hP st' hm => ?_)
    obtain ⟨t, rfl⟩ := hval i v hP
    have hS' := carry hm hS
    have hx : xs[i]? = some (xs.getD i Str.empty) := by
      rw [List.getD_eq_getElem?_getD, List.getElem?_eq_getElem (by omega)]; rfl
    generalize xs.getD i Str.empty = x at hx ⊢
    have tk : xs.take (i + 1) = xs.take i ++ [x] := by
      rw [List.take_add_one, hx]; rfl
    show wpAny _ A.in1 (holding [Value.str x t] (setAdd S (.str x t)) >>= _) _ _ s'
    refine wpAny_bind (wpAny_holding ?_)
    unfold setAdd
    refine wpAny_holding (wpAny_bind ((PySem.strKind prog w).pyHash (k := x) (strKind_is _ _ _ _) ?_))
    have room : (dis (xs.take i)).length + 1 < scanBound := by
      have := dis_len (xs.take i)
      rw [List.length_take] at this
      omega
    refine wpAny_setAddHashed_of (knd := PySem.strKind prog w) (s := { s' with toks := s'.toks + 1 }) (strKind_is _ _ _ _) rfl hS' room fun h' hsb hS2 => ?_
    have hin : ((xs.take i).any (· == x)) = (dis (xs.take i)).contains x := by
      rw [← dis_any _ (xs.take i) rfl x, Bool.eq_iff_iff, List.any_eq_true]
      simp
    have hS3 : h'.SetOf (PySem.strKind prog w) S (fun y => (xs.take (i + 1)).any (· == y)) (dis (xs.take (i + 1))).length := by
      refine SetOf_congr hS2 (fun y => ?_) ?_
      · rw [tk, List.any_append]
        by_cases e : y = x
        · subst e; simp
        · have e2 : (x == y) = false := by simpa using fun z : x = y => e z.symm
          simp [e, e2]
      · rw [tk, dis_snoc]
        by_cases hc : (dis (xs.take i)).contains x = true
        · rw [if_pos hc, if_pos (by rw [hin]; exact hc)]
        · rw [if_neg hc, if_neg (by rw [hin]; exact hc), List.length_append, List.length_singleton]
    have hkeep : ∀ b o, b ≠ S → s'.heap.get? b = some o → h'.get? b = some o := fun b o hb e => (hsb.2 b hb).trans e
    refine wpAny_pure ⟨plainId_quiet PyProof.Rows.F.plain_set_update_loop _, ih (i + 1) _ (by omega) (W.frame _ s' _ _ st' (Nat.le_succ _) fun b hb o e => hkeep b o (fun z => hSf (z ▸ hb)) e) hS3 fun s2 hm2 hS4 => ?_⟩
    exact hR s2 (Moved.trans W.gtrans ((hm.mono more).then_heap (Nat.le_succ _) fun b o hb e => hkeep b o (fun z => hb (by rw [z]; exact List.mem_cons_self)) e) hm2) hS4
end

section
variable {prog : Program} {w : World} {A : Around} {E : Value → Shared → Prop} {s : Shared}
theorem call_set_list {l : Addr} {its : Array Value} {xs : List Str} {Q : Value → Shared → Prop} (hh : A.handled = none) (hl : s.heap.IsList l its) (hi : PyProof.Rows.StrsAre its.toList xs) (hn1 : xs.length + 1 < scanBound)
    (h : ∀ (h' : Heap) (tk : Nat), h'.SetOf (PySem.strKind prog w) s.heap.objs.size (fun y => xs.any (· == y)) (dis xs).length → (∀ b o, b < s.heap.objs.size → s.heap.get? b = some o → h'.get? b = some o) → Q (.ref s.heap.objs.size) { s with heap := h', toks := tk }) :
    wpAny (model prog w) A (call (.type "set") [.ref l]) Q E s := by
  obtain ⟨c, tl, hmro⟩ := PySem.F.called_set.mro
  have hmade := PySem.F.called_set.made
  have hsub := PySem.F.called_set.sub
  refine wpAny_call (codeAny_of_tree (show wpAny _ _ (callAny (.type "set") _) _ _ _ from ?_))
  refine wpAny_pure ⟨Code.quiet_builtin _ (by decide +kernel), codeAny_builtin PySem.F.entry_type_call ?_⟩
  rw [Around.under_plain (weight_type_call_type "set" [.ref l] []) rfl]
  have f1 := PySem.F.called_set.notType
  have f2 := PySem.F.called_set.canCreate
  have f3 := PySem.F.typeCall_set_1 (.ref l)
  repeat (any_goals (first | assumption | wp_step))
  let S0 : Bool → Obj := fun led => { cls := .type "set", dict := none, data := .set #[] 0 (.fresh 0 0 led) }
  refine codeAny_mono (code_set_new_1 (.ref l) (E := E) (Q₁ := fun obj s₁ => ∃ led : Bool, obj = .ref s.heap.objs.size ∧ s₁ = { s with heap := s.heap.push (S0 led) }) fun led => ⟨led, rfl, rfl⟩) fun r s₁ hr => ?_
  cases r with
  | error e => exact hr
  | ok fl =>
    cases fl with
    | ret obj =>
      obtain ⟨led, rfl, rfl⟩ := hr
      have hS : (s.heap.push (S0 led)).get? s.heap.objs.size = some (S0 led) := Heap.get?_push_size _ rfl
      have hT : Shared.TypeIs { s with heap := s.heap.push (S0 led) } (.ref s.heap.objs.size) "set" := ⟨_, hS, rfl⟩
      have g1 := PySem.F.called_set.init.lookup
      have g2 := PySem.F.called_set.init.bind (.ref s.heap.objs.size)
      repeat (any_goals (first | assumption | wp_step))
      refine codeAny_mono (codeAny_call_builtin (R := wants (fun r s₂ => r = .none ∧ ∃ h' tk, s₂ = { s with heap := h', toks := tk } ∧ h'.SetOf (PySem.strKind prog w) s.heap.objs.size (fun y => xs.any (· == y)) (dis xs).length ∧
          (∀ b o, b < s.heap.objs.size → s.heap.get? b = some o → h'.get? b = some o)) E) PySem.F.called_set.init.plain PySem.F.entry_set_init (check_set_init_1 hT ?_)) fun r₂ s₂ hr₂ => ?_
      · obtain ⟨ol, hol, hcl, nl, hdl⟩ := hl
        obtain ⟨oc, od, odt, os⟩ := ol
        simp only at hcl hdl
        subst hcl
        subst hdl
        have hol' : (s.heap.push (S0 led)).get? l = some { cls := .type "list", dict := od, data := .seq its nl, slots := os } := Heap.get?_push_of_some _ hol
        have k1 := PySem.F.sub_list_set
        have k2 := PySem.F.sub_list_frozenset
        have k3 : (Value.type "list" == Value.type "dict") = false := by decide
        have hl1 : (s.heap.push (S0 led)).IsList l its := ⟨_, hol', rfl, nl, rfl⟩
        unfold Builtin.«set.__init__» noKeywords Builtin.Frozenset.updateFrom
        generalize hPI : pyIter = PI
        wp_walk
        subst hPI
        refine wpAny_pyIter_list hl1 (wpAny_bind (wpAny_runValue ?_))
        have ltl : l < s.heap.objs.size := Heap.lt_size hol
        have hh3 : A.in1.in1.in1.handled = none := hh
        have szp : (s.heap.push (S0 led)).objs.size = s.heap.objs.size + 1 := Heap.size_push ..
        have nI : l ≠ (s.heap.push (S0 led)).objs.size := by rw [szp]; exact Nat.ne_of_lt (Nat.lt_succ_of_lt ltl)
        have nF : s.heap.objs.size ∉ [(s.heap.push (S0 led)).objs.size, l] := by
          rw [szp]
          intro z
          rcases List.mem_cons.mp z with z | z
          · exact Nat.ne_of_lt (Nat.lt_succ_self _) z
          · exact Nat.ne_of_gt ltl (List.mem_singleton.mp z)
        have hsz : xs.length = its.size := by rw [← StrsAre.len_eq hi, Array.length_toList]
        refine fill ((Walks.list hh3 _ l nI its).toS) s.heap.objs.size nF xs hsz (by rw [← hsz]; exact hn1) (fun i v hv => strs_at hi i v (by rw [Array.getElem?_toList]; exact hv)) its.size 0 _ (Nat.zero_add _)
          ⟨⟨_, Heap.get?_push_size _ rfl, rfl, rfl⟩, (hl1.push _)⟩ ?a0 ?a1
        case a0 =>
          have hget : ((s.heap.push (S0 led)).push { cls := .type "list_iterator", data := .fields #[.ref l, .int 0 0] }).get? s.heap.objs.size = some (S0 led) := Heap.get?_push_of_some _ hS
          exact PyProof.Rows.SetOf_congr ((PyProof.Rows.setObjOf_fresh (knd := PySem.strKind prog w) led).setOf hget (by unfold scanBound; omega)) (fun _ => rfl) rfl
        case a1 =>
          intro s' hm hS'
          obtain ⟨h', g', d', tk', os'⟩ := s'
          have eg : g' = s.gens := hm.gens
          have ed : d' = s.drawn := hm.drawn
          have eo : os' = s.os := hm.os
          subst eg
          subst ed
          subst eo
          show wpAny _ _ _ _ _ _
          refine wpAny_pure ?_
          show wpAny _ _ (ret Value.none) _ _ _
          refine wpAny_pure ⟨rfl, h', tk', rfl, hS', fun b o hb e => hm.heap b o (fun z => ?_) (Heap.get?_push_of_some _ (Heap.get?_push_of_some _ e))⟩
          rcases List.mem_cons.mp z with z | z
          · exact Nat.ne_of_lt hb z
          · have z := List.mem_singleton.mp z
            rw [szp] at z
            exact Nat.ne_of_lt (Nat.lt_succ_of_lt hb) z
      · cases r₂ with
        | error e => exact hr₂
        | ok fl₂ =>
          cases fl₂ with
          | ret r =>
            obtain ⟨rfl, h', tk, rfl, hS', hk'⟩ := hr₂
            repeat (any_goals (first | assumption | wp_step))
            exact h _ _ hS' hk'
          | _ => exact hr₂.elim
    | _ => exact hr.elim
end

section
variable {prog : Program} {w : World} {A : Around} {E : Value → Shared → Prop} {s : Shared}
theorem call_set_tuple {l : Addr} {its : Array Value} {xs : List Str} {Q : Value → Shared → Prop} (hh : A.handled = none) (hl : s.heap.IsTuple l its) (hi : PyProof.Rows.StrsAre its.toList xs) (hn1 : xs.length + 1 < scanBound)
    (h : ∀ (h' : Heap) (tk : Nat), h'.SetOf (PySem.strKind prog w) s.heap.objs.size (fun y => xs.any (· == y)) (dis xs).length → (∀ b o, b < s.heap.objs.size → s.heap.get? b = some o → h'.get? b = some o) → Q (.ref s.heap.objs.size) { s with heap := h', toks := tk }) :
    wpAny (model prog w) A (call (.type "set") [.ref l]) Q E s := by
  obtain ⟨c, tl, hmro⟩ := PySem.F.called_set.mro
  have hmade := PySem.F.called_set.made
  have hsub := PySem.F.called_set.sub
  refine wpAny_call (codeAny_of_tree (show wpAny _ _ (callAny (.type "set") _) _ _ _ from ?_))
  refine wpAny_pure ⟨Code.quiet_builtin _ (by decide +kernel), codeAny_builtin PySem.F.entry_type_call ?_⟩
  rw [Around.under_plain (weight_type_call_type "set" [.ref l] []) rfl]
  have f1 := PySem.F.called_set.notType
  have f2 := PySem.F.called_set.canCreate
  have f3 := PySem.F.typeCall_set_1 (.ref l)
  repeat (any_goals (first | assumption | wp_step))
  let S0 : Bool → Obj := fun led => { cls := .type "set", dict := none, data := .set #[] 0 (.fresh 0 0 led) }
  refine codeAny_mono (code_set_new_1 (.ref l) (E := E) (Q₁ := fun obj s₁ => ∃ led : Bool, obj = .ref s.heap.objs.size ∧ s₁ = { s with heap := s.heap.push (S0 led) }) fun led => ⟨led, rfl, rfl⟩) fun r s₁ hr => ?_
  cases r with
  | error e => exact hr
  | ok fl =>
    cases fl with
    | ret obj =>
      obtain ⟨led, rfl, rfl⟩ := hr
      have hS : (s.heap.push (S0 led)).get? s.heap.objs.size = some (S0 led) := Heap.get?_push_size _ rfl
      have hT : Shared.TypeIs { s with heap := s.heap.push (S0 led) } (.ref s.heap.objs.size) "set" := ⟨_, hS, rfl⟩
      have g1 := PySem.F.called_set.init.lookup
      have g2 := PySem.F.called_set.init.bind (.ref s.heap.objs.size)
      repeat (any_goals (first | assumption | wp_step))
      refine codeAny_mono (codeAny_call_builtin (R := wants (fun r s₂ => r = .none ∧ ∃ h' tk, s₂ = { s with heap := h', toks := tk } ∧ h'.SetOf (PySem.strKind prog w) s.heap.objs.size (fun y => xs.any (· == y)) (dis xs).length ∧
          (∀ b o, b < s.heap.objs.size → s.heap.get? b = some o → h'.get? b = some o)) E) PySem.F.called_set.init.plain PySem.F.entry_set_init (check_set_init_1 hT ?_)) fun r₂ s₂ hr₂ => ?_
      · obtain ⟨ol, hol, hcl, nl, hdl⟩ := hl
        obtain ⟨oc, od, odt, os⟩ := ol
        simp only at hcl hdl
        subst hcl
        subst hdl
        have hol' : (s.heap.push (S0 led)).get? l = some { cls := .type "tuple", dict := od, data := .seq its nl, slots := os } := Heap.get?_push_of_some _ hol
        have k1 := PySem.F.sub_tuple_set
        have k2 := PySem.F.sub_tuple_frozenset
        have k3 : (Value.type "tuple" == Value.type "dict") = false := by decide
        have hl1 : (s.heap.push (S0 led)).IsTuple l its := ⟨_, hol', rfl, nl, rfl⟩
        unfold Builtin.«set.__init__» noKeywords Builtin.Frozenset.updateFrom
        generalize hPI : pyIter = PI
        wp_walk
        subst hPI
        refine wpAny_pyIter_tuple hl1 (wpAny_bind (wpAny_runValue ?_))
        have ltl : l < s.heap.objs.size := Heap.lt_size hol
        have hh3 : A.in1.in1.in1.handled = none := hh
        have szp : (s.heap.push (S0 led)).objs.size = s.heap.objs.size + 1 := Heap.size_push ..
        have nI : l ≠ (s.heap.push (S0 led)).objs.size := by rw [szp]; exact Nat.ne_of_lt (Nat.lt_succ_of_lt ltl)
        have nF : s.heap.objs.size ∉ [(s.heap.push (S0 led)).objs.size, l] := by
          rw [szp]
          intro z
          rcases List.mem_cons.mp z with z | z
          · exact Nat.ne_of_lt (Nat.lt_succ_self _) z
          · exact Nat.ne_of_gt ltl (List.mem_singleton.mp z)
        have hsz : xs.length = its.size := by rw [← StrsAre.len_eq hi, Array.length_toList]
        refine fill ((Walks.tuple hh3 _ l nI its).toS) s.heap.objs.size nF xs hsz (by rw [← hsz]; exact hn1) (fun i v hv => strs_at hi i v (by rw [Array.getElem?_toList]; exact hv)) its.size 0 _ (Nat.zero_add _)
          ⟨⟨_, Heap.get?_push_size _ rfl, rfl, rfl⟩, (hl1.push _)⟩ ?a0 ?a1
        case a0 =>
          have hget : ((s.heap.push (S0 led)).push { cls := .type "tuple_iterator", data := .fields #[.ref l, .int 0 0] }).get? s.heap.objs.size = some (S0 led) := Heap.get?_push_of_some _ hS
          exact PyProof.Rows.SetOf_congr ((PyProof.Rows.setObjOf_fresh (knd := PySem.strKind prog w) led).setOf hget (by unfold scanBound; omega)) (fun _ => rfl) rfl
        case a1 =>
          intro s' hm hS'
          obtain ⟨h', g', d', tk', os'⟩ := s'
          have eg : g' = s.gens := hm.gens
          have ed : d' = s.drawn := hm.drawn
          have eo : os' = s.os := hm.os
          subst eg
          subst ed
          subst eo
          show wpAny _ _ _ _ _ _
          refine wpAny_pure ?_
          show wpAny _ _ (ret Value.none) _ _ _
          refine wpAny_pure ⟨rfl, h', tk', rfl, hS', fun b o hb e => hm.heap b o (fun z => ?_) (Heap.get?_push_of_some _ (Heap.get?_push_of_some _ e))⟩
          rcases List.mem_cons.mp z with z | z
          · exact Nat.ne_of_lt hb z
          · have z := List.mem_singleton.mp z
            rw [szp] at z
            exact Nat.ne_of_lt (Nat.lt_succ_of_lt hb) z
      · cases r₂ with
        | error e => exact hr₂
        | ok fl₂ =>
          cases fl₂ with
          | ret r =>
            obtain ⟨rfl, h', tk, rfl, hS', hk'⟩ := hr₂
            repeat (any_goals (first | assumption | wp_step))
            exact h _ _ hS' hk'
          | _ => exact hr₂.elim
    | _ => exact hr.elim
end

end GS

-- part Rules2
set_option Elab.async false
set_option linter.all false
set_option maxRecDepth 100000
set_option maxHeartbeats 4000000
namespace GS
open PySem PySem.Spec PyProof.Rows L2 SS
section
variable {X : Cx}
/-- a list or a tuple of texts -/
def TxL (K : PySem.W.Frag) (H : Hp) (a : Addr) (xs : List Str) : Prop := SqL K H a (xs.map V.str) ∨ SqT K H a (xs.map V.str)
def tLenSetS (K : PySem.W.Frag) (ta : TE) : TE := fun σ H Q => ta σ H fun x H1 => ∃ l, ∃ xs : List Str, x = .ref l ∧ TxL K H1 l xs ∧ xs.length ≤ 4000 ∧ Q (.int ((dis xs).length : Nat)) H1
theorem pe_lenSetS {a : Expr} {ta : TE} {p p2 q pos : Pos} (hc : X.calm = true) (hm : X.mg "len" = none) (hm2 : X.mg "set" = none) (ha : PE X a ta) (hg : Gl X "len" := by rfl) (hg2 : Gl X "set" := by rfl)
    (na : starEach [a] X.env = (false, eval a X.env) :: starEach [] X.env := by rfl) : PE X (.Call (.Name "len" p) [.Call (.Name "set" p2) [a] [] q] [] pos) (tLenSetS X.K ta) := by
  refine ⟨fun pins s σ H Q I h => ?_⟩
  refine Call_ (ld_blt I hg hm boot_len (PyProof.Rows.callWith_builtin1 (PyProof.Rows.args_cons ?_ rfl) rfl rfl))
  refine Call_ (ld_blt I hg2 hm2 boot_set ?_)
  refine PyProof.Rows.callWith_type1 (PyProof.Rows.args_cons (thn (ha.run pins s σ H _ I h) fun v s1 ⟨x, H1, I1, r1, q1⟩ => PyProof.Rows.args_nil ?_) na) na rfl
  obtain ⟨l, xs, rfl, hq, h1, q1⟩ := q1
  cases r1
  have lim : xs.length + 1 < scanBound := by unfold scanBound; omega
  have le := dis_len xs
  have fin : ∀ (h' : Heap) (tk : Nat), h'.SetOf (PySem.strKind X.prog X.w) s1.heap.objs.size (fun y => xs.any (· == y)) (dis xs).length → (∀ b o, b < s1.heap.objs.size → s1.heap.get? b = some o → h'.get? b = some o) →
      wpAny (model X.prog X.w) X.A (spliced (backTo pos (starEach [] X.env))) (fun vs s₂ => wpAny (model X.prog X.w) X.A (call (.builtin "len") (Value.ref s1.heap.objs.size :: vs)) (EP X pins σ Q) X.xe s₂) X.xe { s1 with heap := h', toks := tk } := fun h' tk hS hk => by
    refine PyProof.Rows.args_nil ?_
    obtain ⟨o, es, ep, t, ho, hex, hd, _, _, _, hf, hn⟩ := hS
    have I2 : Inv X pins σ H1 { s1 with heap := h', toks := tk } := I1.kept fun b o e => hk b o (Heap.lt_size e) e
    exact call_len_set ho hex hd hf (by rw [hn]; omega) ⟨.int ((dis xs).length : Nat), H1, I2.tok _, ⟨_, by rw [hn]⟩, q1⟩
  rcases hq with hq | hq
  · obtain ⟨its, r, pl, hz⟩ := I1.list hq
    exact call_set_list (I1.ok.hd hc) pl.isList (by simpa using strsAre_of r) lim fin
  · obtain ⟨its, r, pl, hz⟩ := I1.tuple hq
    exact call_set_tuple (I1.ok.hd hc) pl (by simpa using strsAre_of r) lim fin
/-- a written dict with text keys: is the key there -/
def KHas (K : PySem.W.Frag) (w : World) (a : Addr) (z : Str) (b : Bool) : Prop := ∃ es n o, K.lookup a = some ⟨.type "dict", none, .dict es n, #[]⟩ ∧ PySem.W.KeysLit w.params es.toList ∧ (a == sysModules) = false ∧ PySem.W.nsIn K a z = some o ∧ b = o.isSome
def rInK (K : PySem.W.Frag) (w : World) : R2 := fun x y H Q => ∃ p z b, x = .str z ∧ y = .ref p ∧ KHas K w p z b ∧ Q (.bl b) H
def rNotInK (K : PySem.W.Frag) (w : World) : R2 := fun x y H Q => ∃ p z b, x = .str z ∧ y = .ref p ∧ KHas K w p z b ∧ Q (.bl (!b)) H
theorem op_inK : OpR X (compareOp .In) (rInK X.K X.w) := by
  intro pins s σ H x y v u Q I rx ry h
  obtain ⟨p, z, b, rfl, rfl, ⟨es, n, o, hl, hk, hs, hn, rfl⟩, q⟩ := h
  obtain ⟨t, rfl⟩ := rx
  obtain rfl : u = Value.ref p := ry
  have hm := PySem.W.mapOf_K (prog := X.prog) (w := X.w) I.kIn hl hk
  refine wpAny_in_of (strKind_is X.prog X.w z t) hs hm ?_
  rw [PySem.W.find_K hl hn]
  exact ⟨.bl _, H, I.tok _, rfl, q⟩
theorem op_notInK : OpR X (compareOp .NotIn) (rNotInK X.K X.w) := by
  intro pins s σ H x y v u Q I rx ry h
  obtain ⟨p, z, b, rfl, rfl, ⟨es, n, o, hl, hk, hs, hn, rfl⟩, q⟩ := h
  obtain ⟨t, rfl⟩ := rx
  obtain rfl : u = Value.ref p := ry
  have hm := PySem.W.mapOf_K (prog := X.prog) (w := X.w) I.kIn hl hk
  refine wpAny_notIn_of (strKind_is X.prog X.w z t) hs hm ?_
  rw [PySem.W.find_K hl hn]
  exact ⟨.bl _, H, I.tok _, rfl, q⟩
/-- * of two factors of together less than a hundred million bits -/
def CMulB (i j : Int) : Prop := i.natAbs.log2 + j.natAbs.log2 < 100000000
theorem CMulB.ok {i j : Int} (h : CMulB i j) : IntMulOk i j := by
  have b : ∀ x : Int, Builtin.Int.intBits x ≤ x.natAbs.log2 + 1 := fun x => by
    unfold Builtin.Int.intBits
    split <;> omega
  have h1 := b i
  have h2 := b j
  have h3 : i.natAbs.log2 + j.natAbs.log2 < 100000000 := h
  have e : bitsLine = 134217728 := by decide
  unfold IntMulOk
  intro z
  rw [Bool.and_eq_true] at z
  have z2 := z.2
  unfold Builtin.Int.intTooBig at z2
  have z3 := of_decide_eq_true z2
  rw [e] at z3
  omega
theorem op_mulB : OpR X (binaryOp .Mult) (rI CMulB fun i j => .int (i * j)) := opI fun _ _ _ _ _ _ _ hc q => mul_int q hc.ok
end
section
variable {P : Program} {w : World} {K : PySem.W.Frag} {mg : Str → Option Value} {base : Heap} {x qual : Str} {params : Arguments} {body : List Stmt} {scope : Scope} {dvs : List V} {kws : List (Str × V)} {f : Addr} {fd : FuncData}
/-- FunD.ok where the body asks for the def's own code object -/
theorem okC {CX : CXT} {N ps : List Str} {k : Nat} {sp : Sp} {c : Addr} (F : FunD K x qual params body scope dvs kws f fd) (hc : fd.code = .ref c) (S : FnScope N ps scope) (len : ∀ vs H Q E, sp vs H Q E → vs.length = ps.length)
    (hbody : ∀ (A : Around) (outer : List Env) (s : Shared) (H : Hp) (vs : List V) (Q : VK) (E : XK), Room k (A.deeper (envOfC qual scope s.heap.objs.size f (.ref c))) → sp vs H Q E →
      ∃ t, PSs (cxOf CX P w K mg base N qual scope f (.ref c) A outer s H E) body t ∧ t { nx := fun _ H' => Q .non H', rt := Q } (start N vs) H) : FnOk P w K mg base CX (k + 1) f fd ps sp := by
  obtain ⟨oc, od, dV, kV, doc, pm, an, cdv, ct, osl, rfl, lk, hcd, _, _⟩ := F.ex
  have e : cdv = .ref c := hc
  subst e
  exact fn_of lk hcd S len fun A outer s H vs Q E hr hsp => hbody A outer s H vs Q E hr hsp
/-- the code object by the head's way to it -/
theorem codeOf_at {p : Str × Option Str} (F : FunD K x qual params body scope dvs kws (He.fAd K p) fd) : fd.code = .ref (He.codeOf K p) := by
  obtain ⟨oc, od, dV, kV, doc, pm, an, cdv, ct, osl, rfl, lk, hcd, _, _⟩ := F.ex
  show cdv = .ref (He.codeOf K p)
  cases cdv with
  | ref c => rw [He.codeOf_eq lk (c := c) rfl]
  | _ => cases hcd
end
end GS

-- part HdHook
set_option Elab.async false
set_option linter.all false
set_option maxRecDepth 100000
set_option maxHeartbeats 2000000
/-! a Hook that tells the getters of properties too -/
namespace Hd
open PySem PySem.Spec PyProof.Rows L2 He
/-- a property's object, its getter -/
def prpA (K : PySem.W.Frag) (C f : Str) : Addr := ma K (ga K C) f
def gtrA (K : PySem.W.Frag) (C f : Str) : Addr := match PySem.W.recIn K (prpA K C f) "property" with
  | some (.ref g :: _) => g
  | _ => 0
structure PrD where
  cls : Str
  f : Str
  name : Str
  qual : Str
  params : Arguments
  body : List Stmt
  scope : Scope
def PrD.val (d : PrD) : FnW := some (d.name, d.qual, d.params, .stmts d.body, d.scope, mainGlobals, [], builtinsNs)
def fnP (K : PySem.W.Frag) (a : Addr) : FnW := match K.lookup a with
  | some ⟨_, _, .func fd, _⟩ => some (fd.name, fd.qualname, fd.params, fd.body, fd.scope, fd.globals, fd.closure, fd.builtins)
  | _ => none
def PrD.ok (K : PySem.W.Frag) (d : PrD) : Bool := PySem.W.keepIn K (.ref (gtrA K d.cls d.f)) && (eqO (PySem.W.findIn K (.ref (ga K d.cls)) d.f) (some (some (.ref (prpA K d.cls d.f)))) &&
  (decide (PySem.W.specialIn K (.ref (prpA K d.cls d.f)) "__get__" = some (some (.builtin "property.__get__"))) && (decide (PySem.W.takesIn K (.ref (prpA K d.cls d.f)) = some true) &&
  ((match PySem.W.recIn K (prpA K d.cls d.f) "property" with
    | some (.ref g :: _) => true
    | _ => false) &&
  (match K.lookup (gtrA K d.cls d.f) with
    | some ⟨_, _, .func fd, _⟩ => PySem.W.codeIn K fd.code d.qual && (decide (fd.defaults = .none) && decide (fd.kwdefaults = .none))
    | _ => false)))))
theorem PrD.prop {K : PySem.W.Frag} {d : PrD} (c : d.ok K = true) : PropOf K (ga K d.cls) d.f (prpA K d.cls d.f) (gtrA K d.cls d.f) := by
  obtain ⟨c1, c⟩ := ba c
  obtain ⟨c2, c⟩ := ba c
  obtain ⟨c3, c⟩ := ba c
  obtain ⟨c4, c⟩ := ba c
  obtain ⟨c5, c6⟩ := ba c
  refine ⟨eqO_ok c2, of_decide_eq_true c3, of_decide_eq_true c4, ?_⟩
  unfold gtrA
  split at c5
  · rename_i g r e
    rw [e]
    exact ⟨r, rfl⟩
  · cases c5
theorem PrD.funD {K : PySem.W.Frag} {d : PrD} (e : fnP K (gtrA K d.cls d.f) = d.val) (c : d.ok K = true) : ∃ fd, FunD K d.name d.qual d.params d.body d.scope [] [] (gtrA K d.cls d.f) fd := by
  obtain ⟨c1, c⟩ := ba c
  obtain ⟨c2, c⟩ := ba c
  obtain ⟨c3, c⟩ := ba c
  obtain ⟨c4, c⟩ := ba c
  obtain ⟨c5, c6⟩ := ba c
  unfold fnP at e
  cases q : K.lookup (gtrA K d.cls d.f) with
  | none =>
    rw [q] at c6
    cases c6
  | some o =>
    obtain ⟨oc, od, dt, osl⟩ := o
    rw [q] at c6 e
    cases dt with
    | func fd =>
      obtain ⟨n1, n2, n3, n4, n5, n6, n7, n8, n9, n10, n11, n12, n13, n14, n15⟩ := fd
      have e2 : (some (n1, n2, n3, n4, n5, n6, n7, n15) : FnW) = some (d.name, d.qual, d.params, .stmts d.body, d.scope, mainGlobals, [], builtinsNs) := e
      simp only [Option.some.injEq, Prod.mk.injEq] at e2
      obtain ⟨h1, h2, h3, h4, h5, h6, h7, h9⟩ := e2
      obtain ⟨z1, z2⟩ := ba c6
      obtain ⟨z3, z4⟩ := ba z2
      have y3 : n8 = .none := of_decide_eq_true z3
      have y4 : n9 = .none := of_decide_eq_true z4
      subst h1 h2 h3 h4 h5 h6 h7 h9
      subst y3
      subst y4
      exact ⟨_, ⟨oc, od, .none, .none, n10, n11, n12, n13, n14, osl, rfl, q, z1, .inl ⟨rfl, rfl⟩, .inl rfl⟩, c1⟩
    | _ => cases c6

abbrev AlP : Type := AlX × List FnW
def obsP (n : Nat) (fa : List Fa) (fn : List DefD) (ts : List Tab) (tf : List Defn) (ex : PySem.W.Frag → Bool) (ps : List PrD) (g : Addr → Option Obj) : AlP :=
  (obsX n fa fn ts tf (fun K => ex K && ps.all fun d => d.ok K) g, ps.map fun d => fnP (frT g (asD g n)) (gtrA (frT g (asD g n)) d.cls d.f))
def valP (fn : List DefD) (ts : List Tab) (ps : List PrD) (w : World) : AlP := (valX fn ts w, ps.map PrD.val)
structure SaysP (fa : List Fa) (fn : List DefD) (ts : List Tab) (tf : List Defn) (ex : PySem.W.Frag → Bool) (ps : List PrD) (w : World) (h : Heap) (K : PySem.W.Frag) : Prop where
  x : SaysX fa fn ts tf (fun K => ex K && ps.all fun d => d.ok K) w h K
  p : ps.map (fun d => fnP K (gtrA K d.cls d.f)) = ps.map PrD.val
def hookP (n : Nat) (fa : List Fa) (fn : List DefD) (ts : List Tab) (tf : List Defn) (ex : PySem.W.Frag → Bool) (ps : List PrD) : PySem.W.Hook where
  α := AlP
  obs := fun s => obsP n fa fn ts tf ex ps s.heap.get?
  val := fun w => valP fn ts ps w
  says := fun w h => ∃ K : PySem.W.Frag, K.In h ∧ SaysP fa fn ts tf ex ps w h K
  of := fun _ _ e => ⟨_, frT_in, saysX_of (congrArg (fun z : AlP => z.1) e), congrArg (fun z : AlP => z.2) e⟩
  keeps := fun _ _ _ ⟨K, hK, c⟩ k => ⟨K, PySem.W.Frag.In.keeps hK k, ⟨c.x.t, c.x.more, c.x.hd, c.x.out, fun p hp => k _ _ (c.x.empty p hp)⟩, c.p⟩
theorem obsP_eq {n : Nat} {fa : List Fa} {fn : List DefD} {ts : List Tab} {tf : List Defn} {ex : PySem.W.Frag → Bool} {ps : List PrD} {g : Addr → Option Obj} {s : Shared} (h : ∀ a, g a = s.heap.get? a) : obsP n fa fn ts tf ex ps g = (hookP n fa fn ts tf ex ps).obs s := by
  have e : g = s.heap.get? := funext h
  rw [e] <;> rfl
section
variable {fa : List Fa} {fn : List DefD} {ts : List Tab} {tf : List Defn} {ex : PySem.W.Frag → Bool} {ps : List PrD} {w : World} {h : Heap} {K : PySem.W.Frag}
theorem SaysP.exB (c : SaysP fa fn ts tf ex ps w h K) : ex K = true := (ba c.x.more).1
theorem SaysP.pr (c : SaysP fa fn ts tf ex ps w h K) (i : Nat) {d : PrD} (e : ps[i]? = some d := by rfl) : PropOf K (ga K d.cls) d.f (prpA K d.cls d.f) (gtrA K d.cls d.f) ∧ ∃ fd, FunD K d.name d.qual d.params d.body d.scope [] [] (gtrA K d.cls d.f) fd := by
  have ok : d.ok K = true := List.all_eq_true.mp (ba c.x.more).2 d (List.mem_of_getElem? e)
  have e2 : (ps.map fun d => fnP K (gtrA K d.cls d.f))[i]? = (ps.map PrD.val)[i]? := by rw [c.p]
  rw [List.getElem?_map, List.getElem?_map, e] at e2
  exact ⟨PrD.prop ok, PrD.funD (Option.some.inj e2) ok⟩
end
/-- a keyword-only default that is an object -/
def kwAt (p : Str × Option Str) (x : Str) (K : PySem.W.Frag) : Addr := match K.lookup (fAd K p) with
  | some ⟨_, _, .func fd, _⟩ => (match fd.kwdefaults with
    | .ref D => (match PySem.W.nsIn K D x with
      | some (some (.ref a)) => a
      | _ => 0)
    | _ => 0)
  | _ => 0
/-- an empty tuple of the top -/
def emptyB (K : PySem.W.Frag) (a : Addr) : Bool := match K.lookup a with
  | some ⟨.type c, none, .seq its _, sl⟩ => decide (c = "tuple") && (its.isEmpty && sl.isEmpty)
  | _ => false
end Hd

-- part Data
set_option Elab.async false
set_option linter.all false
set_option maxRecDepth 100000
set_option maxHeartbeats 2000000
/-! heaps that grow, lists of texts -/
namespace GD
open PySem PySem.Spec PyProof.Rows L2 GxR GS GA
theorem ifT {c : Bool} {A B : Prop} (hc : c = true) (h : A) : if c = true then A else B := by rw [if_pos hc]; exact h
theorem ifF {c : Bool} {A B : Prop} (hc : c = false) (h : B) : if c = true then A else B := by rw [hc, if_neg Bool.false_ne_true]; exact h
/-- all that is tracked stands; tables may have grown -/
structure Sm (H H' : Hp) : Prop where
  st : ∀ b o, H b = some o → (∀ ps, o ≠ .tbl ps) → H' b = some o
  tb : ∀ P, TabG H P → TabG H' P
  fr : ∀ b, H' b = none → H b = none
theorem Sm.refl {H : Hp} : Sm H H := ⟨fun _ _ e _ => e, fun _ t => t, fun _ e => e⟩
theorem Sm.trans {H1 H2 H3 : Hp} (a : Sm H1 H2) (b : Sm H2 H3) : Sm H1 H3 := ⟨fun x o e n => b.st x o (a.st x o e n) n, fun P t => b.tb P (a.tb P t), fun x e => a.fr x (b.fr x e)⟩
theorem Sm.new {H : Hp} {d : Addr} {o : HO} (h : H d = none) : Sm H (upd H d o) := by
  refine ⟨fun b u e _ => ?_, fun P ⟨ps, e, t⟩ => ⟨ps, ?_, t⟩, fun b e => ?_⟩
  · rw [upd_ne (ne_of_none e h)]; exact e
  · rw [upd_ne (ne_of_none e h)]; exact e
  · by_cases hb : b = d
    · rw [hb, upd_same] at e; cases e
    · rw [upd_ne hb] at e; exact e
theorem Sm.tab {H H' : Hp} {P : Addr} (hP : TabG H P) (t : Tabbed P H H') : Sm H H' := by
  refine ⟨fun b o e n => ?_, fun Q q => ?_, fun b e => ?_⟩
  · by_cases hb : b = P
    · obtain ⟨ps, e2, _⟩ := hP
      rw [hb, e2] at e; cases e
      exact absurd rfl (n ps)
    · rw [t.2 b hb]; exact e
  · by_cases hb : Q = P
    · rw [hb]; exact t.1
    · obtain ⟨ps, e, z⟩ := q
      exact ⟨ps, (t.2 Q hb).trans e, z⟩
  · by_cases hb : b = P
    · obtain ⟨ps, e2, _⟩ := t.1
      rw [hb, e2] at e; cases e
    · rw [← t.2 b hb]; exact e
/-- an object of one's own, younger than H0, is written -/
theorem Sm.own {H0 H : Hp} {d : Addr} {o : HO} (a : Sm H0 H) (h : H0 d = none) (n : ∀ P, TabG H P → P ≠ d) : Sm H0 (upd H d o) := by
  refine ⟨fun b u e z => ?_, fun P t => ?_, fun b e => ?_⟩
  · rw [upd_ne (ne_of_none e h)]; exact a.st b u e z
  · obtain ⟨ps, e, t2⟩ := a.tb P t
    exact ⟨ps, by rw [upd_ne (n P ⟨ps, e, t2⟩)]; exact e, t2⟩
  · by_cases hb : b = d
    · rw [hb, upd_same] at e; cases e
    · rw [upd_ne hb] at e; exact a.fr b e
theorem tabG_ne {H : Hp} {P d : Addr} {o : HO} (t : TabG H P) (e : H d = some o) (n : ∀ ps, o ≠ .tbl ps) : P ≠ d := fun z => by
  obtain ⟨ps, e2, _⟩ := t
  rw [z, e] at e2; cases e2
  exact n ps rfl
section
variable {K : PySem.W.Frag} {H H' : Hp} {a : Addr} {xs : List V} {ss : List Str}
theorem Sm.lst (s : Sm H H') (h : SqL K H a xs) : SqL K H' a xs := by
  rcases h with (h | ⟨o, h⟩) | h
  · exact .inl (.inl (s.st a _ h fun _ z => by cases z))
  · exact .inl (.inr ⟨o, s.st a _ h fun _ z => by cases z⟩)
  · exact .inr h
theorem Sm.tup (s : Sm H H') (h : SqT K H a xs) : SqT K H' a xs := by
  rcases h with (h | ⟨o, h⟩) | h
  · exact .inl (.inl (s.st a _ h fun _ z => by cases z))
  · exact .inl (.inr ⟨o, s.st a _ h fun _ z => by cases z⟩)
  · exact .inr h
theorem Sm.txl (s : Sm H H') (h : TxL K H a ss) : TxL K H' a ss := h.elim (fun z => .inl (s.lst z)) fun z => .inr (s.tup z)
end
/-- a list or a tuple of anything -/
def Sq (K : PySem.W.Frag) (H : Hp) (a : Addr) (xs : List V) : Prop := SqL K H a xs ∨ SqT K H a xs
theorem Sm.sq {K : PySem.W.Frag} {H H' : Hp} {a : Addr} {xs : List V} (s : Sm H H') (h : Sq K H a xs) : Sq K H' a xs := h.elim (fun z => .inl (s.lst z)) fun z => .inr (s.tup z)
theorem TxL.sq {K : PySem.W.Frag} {H : Hp} {a : Addr} {ss : List Str} (h : TxL K H a ss) : Sq K H a (ss.map V.str) := h

/-! ### walks over what is a list or a tuple -/
section
variable {X : Cx} {l : Expr} {tl : TE} {tg : Expr}
/-- over a list or a tuple: the reading is told for both -/
def iSq (K : PySem.W.Frag) (tl : TE) : TI := fun σ H R => tl σ H fun x H1 => ∃ a, x = .ref a ∧ ((∃ xs, SqL K H1 a xs) ∧ R (Itl K a) H1 ∨ (∃ xs, SqT K H1 a xs) ∧ R (Itt K a) H1)
theorem pi_sq (hl : PE X l tl) : PI X tg l (iSq X.K tl) := by
  refine ⟨fun pins s σ H R I h => ?_⟩
  -- by the value's own kind
  have h1 : wpAny (model X.prog X.w) X.A (eval l X.env) (fun v s1 => ∃ H1, Inv X pins σ H1 s1 ∧ ∃ a, v = Value.ref a ∧ ((∃ xs, SqL X.K H1 a xs) ∧ R (Itl X.K a) H1 ∨ (∃ xs, SqT X.K H1 a xs) ∧ R (Itt X.K a) H1)) X.xe s :=
    thn (hl.run pins s σ H _ I h) fun v s1 ⟨x, H1, I1, r1, a, e, q⟩ => by
      subst e
      exact ⟨H1, I1, a, r1, q⟩
  refine thn h1 fun v s1 ⟨H1, I1, a, ev, q⟩ => ?_
  subst ev
  rcases q with ⟨⟨xs, hq⟩, q⟩ | ⟨⟨xs, hq⟩, q⟩
  · obtain ⟨its, rv, p, hz⟩ := I1.list hq
    refine wpAny_pyIter_list p.isList ?_
    refine ⟨s1.heap.objs.size, [s1.heap.objs.size], _, _, H1, rfl, I1.kept (t' := s1.toks) fun b o e => Heap.get?_push_of_some _ e, turn_list a _, ⟨_, Heap.get?_push_size _ rfl, rfl, rfl⟩, fun b hb => ?_, q⟩
    rw [List.mem_singleton.mp hb]
    exact I1.fpOk (Nat.le_refl _) (I1.hok.fresh (Nat.le_refl _))
  · obtain ⟨its, rv, p, hz⟩ := I1.tuple hq
    refine wpAny_pyIter_tuple (show s1.heap.IsTuple a its.toArray from p) ?_
    refine ⟨s1.heap.objs.size, [s1.heap.objs.size], _, _, H1, rfl, I1.kept (t' := s1.toks) fun b o e => Heap.get?_push_of_some _ e, turn_tuple a _, ⟨_, Heap.get?_push_size _ rfl, rfl, rfl⟩, fun b hb => ?_, q⟩
    rw [List.mem_singleton.mp hb]
    exact I1.fpOk (Nat.le_refl _) (I1.hok.fresh (Nat.le_refl _))
end
/-- a reading over iSq from one over any walk -/
theorem iSq_of {K : PySem.W.Frag} {a : Addr} {xs : List V} {H : Hp} {R : It → Hp → Prop} (h : Sq K H a xs) (hR : ∀ (J : It) (G : Hp → Prop), Walk J xs.length G (YAt xs) → (∀ H', Sm H H' → G H') → R J H) :
    (∃ xs, SqL K H a xs) ∧ R (Itl K a) H ∨ (∃ xs, SqT K H a xs) ∧ R (Itt K a) H := by
  rcases h with h | h
  · exact .inl ⟨⟨xs, h⟩, hR _ _ walk_list fun H' s => s.lst h⟩
  · exact .inr ⟨⟨xs, h⟩, hR _ _ walk_tup fun H' s => s.tup h⟩
/-- the reading of all, any over a walk: Pv by the turn and the heap -/
theorem gen_it {J : It} {n : Nat} {G : Hp → Prop} {Y : Nat → Hp → V → Hp → Prop} (w : Walk J n G Y) {d : Bool} {P : Addr} {g : TG} {te : TE} {vs : List Nat} {σ : L2.St} {H1 : Hp} {Q : VK} (ht : TabG H1 P) (Pv : Nat → Hp → Prop) (h0 : ∀ H2, Tabbed P H1 H2 → Pv 0 H2)
    (hG : ∀ i H, i ≤ n → Pv i H → G H) (hs : ∀ i x H H', i < n → Pv i H → Y i H x H' → g x (wipe σ vs) H' fun σ2 H3 => wipe σ2 vs = wipe σ vs ∧ te σ2 H3 fun y H4 => ∃ b, y = .bl b ∧ (b = d → Q (.bl d) H4) ∧ (b ≠ d → Pv (i + 1) H4))
    (hd : ∀ H, Pv n H → Q (.bl (!d)) H) : TabG H1 P ∧ ∀ H2, Tabbed P H1 H2 → ∃ W : Nat → Nat → Hp → Prop, (∃ m, W 0 m H2) ∧ ∀ i m H, W i m H →
    (J.stop i H ∧ Q (.bl (!d)) H) ∨ (J.go i H ∧ ∃ Nx : Hp → Prop, (∀ H', Nx H' → ∃ m', m' < m ∧ W (i + 1) m' H') ∧
      ∀ x H', J.yld i H x H' → g x (wipe σ vs) H' fun σ2 H3 => wipe σ2 vs = wipe σ vs ∧ te σ2 H3 fun y H4 => ∃ b, y = .bl b ∧ (b = d → Q (.bl d) H4) ∧ (b ≠ d → Nx H4)) := by
  refine ⟨ht, fun H2 t => ⟨fun i m H => m = n - i ∧ i ≤ n ∧ Pv i H, ⟨n, by simp, Nat.zero_le _, h0 H2 t⟩, ?_⟩⟩
  rintro i m H ⟨rfl, hi, p⟩
  have q := hG i H hi p
  by_cases hlt : i < n
  · exact .inr ⟨w.goes i H hlt q, Pv (i + 1), fun H' p' => ⟨n - (i + 1), by omega, rfl, hlt, p'⟩, fun x H' y => hs i x H H' hlt p (w.yields i H x H' hlt q y)⟩
  · obtain rfl : i = n := by omega
    exact .inl ⟨w.stops H q, hd H p⟩
theorem wipe_set (σ : L2.St) (i : Nat) (x : Option V) : wipe ((wipe σ [i]).set i x) [i] = wipe σ [i] := by
  show ((σ.set i none).set i x).set i none = σ.set i none
  rw [List.set_set, List.set_set]
/-- all(f(x) for x in xs), any(..), xs what a walk gives -/
theorem rd_genW (d : Bool) {J : It} {G : Hp → Prop} {xs : List V} (w : Walk J xs.length G (YAt xs)) {f : V → Bool} {P : Addr} {te : TE} {i : Nat} {σ : L2.St} {H : Hp} {Q : VK} (ht : TabG H P) (hG : ∀ H', Sm H H' → G H')
    (hel : ∀ x H' (R : VK), x ∈ xs → Sm H H' → (∀ H'', Sm H H'' → R (.bl (f x)) H'') → te ((wipe σ [i]).set i (some x)) H' R) (hq : ∀ H', Sm H H' → Q (.bl (if d then xs.any f else xs.all f)) H') :
    TabG H P ∧ ∀ H2, Tabbed P H H2 → ∃ W : Nat → Nat → Hp → Prop, (∃ m, W 0 m H2) ∧ ∀ k m H, W k m H →
    (J.stop k H ∧ Q (.bl (!d)) H) ∨ (J.go k H ∧ ∃ Nx : Hp → Prop, (∀ H', Nx H' → ∃ m', m' < m ∧ W (k + 1) m' H') ∧
      ∀ x H', J.yld k H x H' → gName i x (wipe σ [i]) H' fun σ2 H3 => wipe σ2 [i] = wipe σ [i] ∧ te σ2 H3 fun y H4 => ∃ b, y = .bl b ∧ (b = d → Q (.bl d) H4) ∧ (b ≠ d → Nx H4)) := by
  refine gen_it w ht (fun k H' => Sm H H' ∧ ∀ x ∈ xs.take k, f x ≠ d) (fun H2 t => ⟨Sm.tab ht t, by simp⟩) (fun k H' _ p => hG H' p.1) (fun k x H' H'' hk p y => ?_) fun H' p => ?_
  · obtain ⟨rfl, hx⟩ := y
    have hm : x ∈ xs := List.mem_of_getElem? hx
    refine ⟨wipe_set σ i (some x), hel x H'' _ hm p.1 fun H3 s3 => ⟨f x, rfl, fun e => ?_, fun e => ⟨s3, fun y hy => ?_⟩⟩⟩
    · have q := hq H3 s3
      cases d with
      | true =>
        have : xs.any f = true := List.any_eq_true.mpr ⟨x, hm, e⟩
        simpa [this] using q
      | false =>
        have : xs.all f = false := by
          rw [List.all_eq_false]
          exact ⟨x, hm, by simp [e]⟩
        simpa [this] using q
    · rw [List.take_add_one, hx] at hy
      rcases List.mem_append.mp hy with hy | hy
      · exact p.2 y hy
      · have : y = x := by simpa using hy
        rw [this]; exact e
  · have q := hq H' p.1
    rw [List.take_length] at p
    cases d with
    | true =>
      have : xs.any f = false := by
        rw [List.any_eq_false]
        exact fun x hx => p.2 x hx
      simpa [this] using q
    | false =>
      have : xs.all f = true := by
        rw [List.all_eq_true]
        exact fun x hx => by simpa using p.2 x hx
      simpa [this] using q
/-- .. over a list or a tuple in hand -/
theorem rd_gen (d : Bool) {K : PySem.W.Frag} {a : Addr} {xs : List V} {f : V → Bool} {P : Addr} {te : TE} {i : Nat} {σ : L2.St} {H : Hp} {Q : VK} (h : Sq K H a xs) (ht : TabG H P)
    (hel : ∀ x H' (R : VK), x ∈ xs → Sm H H' → (∀ H'', Sm H H'' → R (.bl (f x)) H'') → te ((wipe σ [i]).set i (some x)) H' R) (hq : ∀ H', Sm H H' → Q (.bl (if d then xs.any f else xs.all f)) H') {tl : TE}
    (htl : ∀ R : VK, R (.ref a) H → tl σ H R) : tGen d P (iSq K tl) (gName i) te [i] σ H Q := by
  unfold tGen
  refine htl _ ⟨a, rfl, ?_⟩
  rcases h with h | h
  · exact .inl ⟨⟨xs, h⟩, rd_genW d walk_list ht (fun H' s => s.lst h) hel hq⟩
  · exact .inr ⟨⟨xs, h⟩, rd_genW d walk_tup ht (fun H' s => s.tup h) hel hq⟩
/-- .. over a text's signs -/
theorem rd_genS (d : Bool) {z : Str} {f : V → Bool} {P : Addr} {te : TE} {i : Nat} {σ : L2.St} {H : Hp} {Q : VK} (ht : TabG H P)
    (hel : ∀ x H' (R : VK), x ∈ z.cps.toList.map (fun c => V.str ⟨#[c]⟩) → Sm H H' → (∀ H'', Sm H H'' → R (.bl (f x)) H'') → te ((wipe σ [i]).set i (some x)) H' R)
    (hq : ∀ H', Sm H H' → Q (.bl (if d then (z.cps.toList.map fun c => V.str ⟨#[c]⟩).any f else (z.cps.toList.map fun c => V.str ⟨#[c]⟩).all f)) H') {tl : TE} (htl : ∀ R : VK, R (.str z) H → tl σ H R) : tGen d P (iStr tl) (gName i) te [i] σ H Q := by
  unfold tGen
  refine htl _ ⟨z, rfl, ?_⟩
  have w : Walk (Its z) (z.cps.toList.map fun c => V.str ⟨#[c]⟩).length (fun _ => True) (YAt (z.cps.toList.map fun c => V.str ⟨#[c]⟩)) := by
    have w0 := walk_str (z := z)
    rw [List.length_map, Array.length_toList]
    exact w0.mono (fun _ _ => trivial) fun k H v H' _ _ y => ⟨y.1, by
      obtain ⟨c, hc, rfl⟩ := y.2
      rw [List.getElem?_map, Array.getElem?_toList, hc]; rfl⟩
  exact rd_genW d w ht (fun _ _ => trivial) hel hq

/-- [f(x) for x in xs if p(x)], xs what a walk gives -/
theorem rd_lcW {J : It} {G : Hp → Prop} {xs : List V} (w : Walk J xs.length G (YAt xs)) {p : V → Bool} {f : V → V} {tt : TT} {te : TE} {i : Nat} {σ : L2.St} {H : Hp} {Q : VK} (hG : ∀ H', Sm H H' → G H') (hz : xs.length ≤ sizeLine)
    (htt : ∀ x H' (R : Bool → Hp → Prop), x ∈ xs → Sm H H' → (∀ H'', Sm H' H'' → R (p x) H'') → tt ((wipe σ [i]).set i (some x)) H' R)
    (hte : ∀ x H' (R : VK), x ∈ xs → p x = true → Sm H H' → (∀ H'', Sm H' H'' → R (f x) H'') → te ((wipe σ [i]).set i (some x)) H' R)
    (hq : ∀ D H', H D = none → Sm H H' → H' D = some (.lst ((xs.filter p).map f)) → Q (.ref D) H') :
    ∀ D, H D = none → ∃ W : Nat → Nat → Hp → Prop, (∃ m, W 0 m (upd H D (.lst []))) ∧ ∀ k m H, W k m H →
      (J.stop k H ∧ Q (.ref D) H) ∨ (J.go k H ∧ ∃ Nx : Hp → Prop, (∀ H', Nx H' → ∃ m', m' < m ∧ W (k + 1) m' H') ∧ ∀ x H', J.yld k H x H' → gName i x (wipe σ [i]) H' fun σ2 H2 => wipe σ2 [i] = wipe σ [i] ∧ tt σ2 H2 fun b H3 =>
        if b = true then te σ2 H3 fun y H4 => ∃ acc, H4 D = some (.lst acc) ∧ acc.length < sizeLine ∧ Nx (upd H4 D (.lst (acc ++ [y]))) else Nx H3) := by
  intro D hD
  refine lc_it w (Qd := fun H => Q (.ref D) H) (fun k H' => Sm H H' ∧ H' D = some (.lst (((xs.take k).filter p).map f))) ⟨Sm.new hD, upd_same⟩ (fun k H' _ q => hG H' q.1) (fun k x H' H'' hk q y => ?_) fun H' q => ?_
  · obtain ⟨rfl, hx⟩ := y
    have hm : x ∈ xs := List.mem_of_getElem? hx
    have tk : xs.take (k + 1) = xs.take k ++ [x] := by rw [List.take_add_one, hx]; rfl
    refine ⟨wipe_set σ i (some x), htt x H'' _ hm q.1 fun H3 s3 => ?_⟩
    have q3 : H3 D = some (.lst (((xs.take k).filter p).map f)) := s3.st D _ q.2 fun _ z => by cases z
    cases hp : p x with
    | false =>
      refine ifF rfl ⟨q.1.trans s3, ?_⟩
      rw [tk, List.filter_append, List.filter_cons_of_neg (by simp [hp]), List.filter_nil, List.append_nil]
      exact q3
    | true =>
      refine ifT rfl (hte x H3 _ hm hp (q.1.trans s3) fun H4 s4 => ?_)
      have q4 : H4 D = some (.lst (((xs.take k).filter p).map f)) := s4.st D _ q3 fun _ z => by cases z
      refine ⟨_, q4, ?_, Sm.own ((q.1.trans s3).trans s4) hD (fun P t => tabG_ne t q4 fun _ z => by cases z), ?_⟩
      · rw [List.length_map]
        have h1 := List.length_filter_le p (xs.take k)
        rw [List.length_take] at h1
        omega
      · rw [tk, List.filter_append, List.filter_cons_of_pos hp, List.filter_nil, List.map_append]
        exact upd_same
  · have q2 := q.2
    rw [List.take_length] at q2
    exact hq D H' hD q.1 q2
/-- a comprehension's reading, kept shut -/
@[irreducible] def tLcI (wi : TI) (g : TG) (tt : TT) (te : TE) (vs : List Nat) : TE := tLc wi g tt te vs
theorem pe_lcI {X : Cx} {elt tg iter : Expr} {ifs : List Expr} {scope : Scope} {own : List (Str × Nat)} {pos : Pos} {wi : TI} {g : TG} {tt : TT} {te : TE} (hc : X.calm = true) (hN : X.N.Nodup) (hi : PI X tg iter wi) (ok : BlkOk X.N X.env.scope scope own)
    (hg : ∀ (s : Shared) (H : Hp) (C : Addr) (cl : List (Str × Addr)) (fp : List Addr), PG (X.blk s H scope (compEnvC scope cl C X.env) fp) tg g) (ht : ∀ (s : Shared) (H : Hp) (C : Addr) (cl : List (Str × Addr)) (fp : List Addr), PTs (X.blk s H scope (compEnvC scope cl C X.env) fp) ifs tt)
    (he : ∀ (s : Shared) (H : Hp) (C : Addr) (cl : List (Str × Addr)) (fp : List Addr), PE (X.blk s H scope (compEnvC scope cl C X.env) fp) elt te) (hs : ∀ x, foldedSetIterable iter X.env x = pure x := by intro _; rfl) :
    PE X (.ListComp elt [⟨tg, iter, ifs, 0⟩] scope pos) (tLcI wi g tt te (own.map (·.2))) := by
  unfold tLcI
  exact pe_lc hc hN hi ok hg ht he hs
/-- .. over a list or a tuple in hand -/
theorem rd_lc {K : PySem.W.Frag} {a : Addr} {xs : List V} {p : V → Bool} {f : V → V} {tt : TT} {te : TE} {i : Nat} {σ : L2.St} {H : Hp} {Q : VK} (h : Sq K H a xs) (hz : xs.length ≤ sizeLine)
    (htt : ∀ x H' (R : Bool → Hp → Prop), x ∈ xs → Sm H H' → (∀ H'', Sm H' H'' → R (p x) H'') → tt ((wipe σ [i]).set i (some x)) H' R)
    (hte : ∀ x H' (R : VK), x ∈ xs → p x = true → Sm H H' → (∀ H'', Sm H' H'' → R (f x) H'') → te ((wipe σ [i]).set i (some x)) H' R)
    (hq : ∀ D H', H D = none → Sm H H' → H' D = some (.lst ((xs.filter p).map f)) → Q (.ref D) H') {tl : TE} (htl : ∀ R : VK, R (.ref a) H → tl σ H R) : tLcI (iSq K tl) (gName i) tt te [i] σ H Q := by
  unfold tLcI tLc
  refine htl _ ⟨a, rfl, ?_⟩
  rcases h with h | h
  · exact .inl ⟨⟨xs, h⟩, rd_lcW walk_list (fun H' s => s.lst h) hz htt hte hq⟩
  · exact .inr ⟨⟨xs, h⟩, rd_lcW walk_tup (fun H' s => s.tup h) hz htt hte hq⟩

/-- a for's reading, kept shut -/
@[irreducible] def tForI (wi : TI) (g : TG) (tb : TS) : TS := tFor wi g tb
theorem ps_forI {X : Cx} {tg iter : Expr} {body : List Stmt} {wi : TI} {g : TG} {tb : TS} {pos : Pos} (hp : PassesOwn (model X.prog X.w) X.A X.env X.xe) (hc : X.calm = true) (hi : PI X tg iter wi) (hg : PG X tg g) (hb : PSs X body tb)
    (hs : ∀ x, foldedSetIterable iter X.env x = pure x := by intro _; rfl) : PS X (.For tg iter body [] pos) (tForI wi g tb) := by
  unfold tForI
  exact ps_for hp hc hi hg hb hs
/-- for x in xs, a list or a tuple that stands since H0: Pv by the turn, the slots, the heap -/
theorem rd_for {K : PySem.W.Frag} {a : Addr} {xs : List V} {tb : TS} {D : Ends} {σ : L2.St} {H H0 : Hp} {i : Nat} (h : Sq K H0 a xs) (Pv : Nat → L2.St → Hp → Prop) (h0 : Pv 0 σ H) (hG : ∀ k σ' H', Pv k σ' H' → Sm H0 H')
    (hs : ∀ k x σ' H', xs[k]? = some x → Pv k σ' H' → tb { D with nx := Pv (k + 1), ct := Pv (k + 1), bk := D.nx } (σ'.set i (some x)) H') (hd : ∀ σ' H', Pv xs.length σ' H' → D.nx σ' H') {tl : TE} (htl : ∀ R : VK, R (.ref a) H → tl σ H R) :
    tForI (iSq K tl) (gName i) tb D σ H := by
  unfold tForI tFor
  refine htl _ ⟨a, rfl, ?_⟩
  have s0 := hG 0 σ H h0
  rcases h with h | h
  · exact .inl ⟨⟨xs, s0.lst h⟩, for_it walk_list Pv h0 (fun k σ' H' _ p => (hG k σ' H' p).lst h) (fun k x σ' H' H'' _ p y => by obtain ⟨rfl, hx⟩ := y; exact hs k x σ' H'' hx p) hd⟩
  · exact .inr ⟨⟨xs, s0.tup h⟩, for_it walk_tup Pv h0 (fun k σ' H' _ p => (hG k σ' H' p).tup h) (fun k x σ' H' H'' _ p y => by obtain ⟨rfl, hx⟩ := y; exact hs k x σ' H'' hx p) hd⟩
/-- what an exception that a call lets out becomes in a def that lets it out -/
theorem passX {X : Cx} {E : XK} (tk : Takes X (fun cls d _ H => E cls d H)) : Passes (L2.CX X.prog X.w) X E := passes_call tk fun _ _ _ _ h => h

theorem Paired.get {α β : Type} {F : α → β → Prop} : ∀ {xs : List α} {ys : List β} {i : Nat} {x : α}, Paired F xs ys → xs[i]? = some x → ∃ y, ys[i]? = some y ∧ F x y
  | _, _, _, _, .nil, e => by simp at e
  | _, _, 0, _, .cons r _, e => by simp at e; subst e; exact ⟨_, rfl, r⟩
  | _, _, i + 1, x, .cons _ t, e => by
    obtain ⟨y, h1, h2⟩ := Paired.get (i := i) t (by simpa using e)
    exact ⟨y, by simpa using h1, h2⟩
theorem Paired.mem {α β : Type} {F : α → β → Prop} {xs : List α} {ys : List β} {x : α} (h : Paired F xs ys) (hx : x ∈ xs) : ∃ y, y ∈ ys ∧ F x y := by
  obtain ⟨i, hi⟩ := List.mem_iff_getElem?.mp hx
  obtain ⟨y, e, r⟩ := Paired.get h hi
  exact ⟨y, List.mem_of_getElem? e, r⟩
theorem Paired.snoc {α β : Type} {F : α → β → Prop} : ∀ {xs : List α} {ys : List β} {x : α} {y : β}, Paired F xs ys → F x y → Paired F (xs ++ [x]) (ys ++ [y])
  | _, _, _, _, .nil, r => .cons r .nil
  | _, _, _, _, .cons q t, r => .cons q (Paired.snoc t r)
theorem Paired.imp {α β : Type} {F G : α → β → Prop} (h : ∀ x y, F x y → G x y) : ∀ {xs : List α} {ys : List β}, Paired F xs ys → Paired G xs ys
  | _, _, .nil => .nil
  | _, _, .cons q t => .cons (h _ _ q) (Paired.imp h t)
theorem Paired.len {α β : Type} {F : α → β → Prop} {xs : List α} {ys : List β} (h : Paired F xs ys) : xs.length = ys.length := by
  induction h with
  | nil => rfl
  | cons _ _ ih => rw [List.length_cons, List.length_cons, ih]
/-- tuples and what is locked stand -/
structure Tu (H H' : Hp) : Prop where
  tup : ∀ b xs, H b = some (.tup xs) → H' b = some (.tup xs)
  frz : ∀ b o u, H b = some (.frz o u) → H' b = some (.frz o u)
theorem Sm.tu {H H' : Hp} (s : Sm H H') : Tu H H' := ⟨fun b _ e => s.st b _ e (fun _ z => by cases z), fun b _ _ e => s.st b _ e (fun _ z => by cases z)⟩
theorem Tu.trans {A B C : Hp} (a : Tu A B) (b : Tu B C) : Tu A C := ⟨fun x y e => b.tup x y (a.tup x y e), fun x o u e => b.frz x o u (a.frz x o u e)⟩
theorem Tu.lset {H : Hp} {l : Addr} {xs : List V} {o : HO} (e : H l = some (.lst xs)) : Tu H (upd H l o) :=
  ⟨fun b y q => by rw [upd_ne (ne_of q e (by intro z; cases z))]; exact q, fun b y u q => by rw [upd_ne (ne_of q e (by intro z; cases z))]; exact q⟩
theorem Tu.sqt {K : PySem.W.Frag} {H H' : Hp} {a : Addr} {xs : List V} (s : Tu H H') (h : SqT K H a xs) : SqT K H' a xs := by
  rcases h with (h | ⟨o, h⟩) | h
  · exact .inl (.inl (s.tup _ _ h))
  · exact .inl (.inr ⟨o, s.frz _ _ _ h⟩)
  · exact .inr h
/-- [g for x in us if q], what is behind each x told by a pairing -/
theorem rd_lcP {κ : Type} {F : V → κ → Prop} {us : List V} {ks : List κ} (hp : Paired F us ks) {K : PySem.W.Frag} {a : Addr} {q : κ → Bool} {g : V → κ → V} {tt : TT} {te : TE} {i : Nat} {σ : L2.St} {H : Hp} {Q : VK} (h : Sq K H a us) (hz : us.length ≤ sizeLine)
    (htt : ∀ x y H' (R : Bool → Hp → Prop), F x y → y ∈ ks → Sm H H' → (∀ H'', Sm H' H'' → R (q y) H'') → tt ((wipe σ [i]).set i (some x)) H' R)
    (hte : ∀ x y H' (R : VK), F x y → y ∈ ks → q y = true → Sm H H' → (∀ H'', Sm H' H'' → R (g x y) H'') → te ((wipe σ [i]).set i (some x)) H' R)
    (hq : ∀ D H', H D = none → Sm H H' → H' D = some (.lst (((us.zip ks).filter fun z => q z.2).map fun z => g z.1 z.2)) → Q (.ref D) H') {tl : TE} (htl : ∀ R : VK, R (.ref a) H → tl σ H R) : tLcI (iSq K tl) (gName i) tt te [i] σ H Q := by
  have core : ∀ (J : It) (G : Hp → Prop), Walk J us.length G (YAt us) → (∀ H', Sm H H' → G H') → ∀ D, H D = none → ∃ W : Nat → Nat → Hp → Prop, (∃ m, W 0 m (upd H D (.lst []))) ∧ ∀ k m H, W k m H →
      (J.stop k H ∧ Q (.ref D) H) ∨ (J.go k H ∧ ∃ Nx : Hp → Prop, (∀ H', Nx H' → ∃ m', m' < m ∧ W (k + 1) m' H') ∧ ∀ x H', J.yld k H x H' → gName i x (wipe σ [i]) H' fun σ2 H2 => wipe σ2 [i] = wipe σ [i] ∧ tt σ2 H2 fun b H3 =>
        if b = true then te σ2 H3 fun y H4 => ∃ acc, H4 D = some (.lst acc) ∧ acc.length < sizeLine ∧ Nx (upd H4 D (.lst (acc ++ [y]))) else Nx H3) := by
    intro J G w hG D hD
    refine lc_it w (Qd := fun H => Q (.ref D) H) (fun k H' => Sm H H' ∧ H' D = some (.lst ((((us.zip ks).take k).filter fun z => q z.2).map fun z => g z.1 z.2))) ⟨Sm.new hD, upd_same⟩ (fun k H' _ z => hG H' z.1) (fun k x H' H'' hk r y => ?_) fun H' r => ?_
    · obtain ⟨rfl, hx⟩ := y
      obtain ⟨y, hy, hF⟩ := Paired.get hp hx
      have hm := List.mem_of_getElem? hy
      have hzp : (us.zip ks)[k]? = some (x, y) := by
        rw [List.getElem?_zip_eq_some]
        exact ⟨hx, hy⟩
      have tk : (us.zip ks).take (k + 1) = (us.zip ks).take k ++ [(x, y)] := by rw [List.take_add_one, hzp]; rfl
      refine ⟨wipe_set σ i (some x), htt x y H'' _ hF hm r.1 fun H3 s3 => ?_⟩
      have q3 := s3.st D _ r.2 fun _ z => by cases z
      cases hpy : q y with
      | false =>
        refine ifF rfl ⟨r.1.trans s3, ?_⟩
        rw [tk, List.filter_append, List.filter_cons_of_neg (by simp [hpy]), List.filter_nil, List.append_nil]
        exact q3
      | true =>
        refine ifT rfl (hte x y H3 _ hF hm hpy (r.1.trans s3) fun H4 s4 => ?_)
        have q4 := s4.st D _ q3 fun _ z => by cases z
        refine ⟨_, q4, ?_, Sm.own ((r.1.trans s3).trans s4) hD (fun P t => tabG_ne t q4 fun _ z => by cases z), ?_⟩
        · rw [List.length_map]
          have h1 := List.length_filter_le (fun z : V × κ => q z.2) ((us.zip ks).take k)
          rw [List.length_take] at h1
          omega
        · rw [tk, List.filter_append, List.filter_cons_of_pos (by simpa using hpy), List.filter_nil, List.map_append]
          exact upd_same
    · have q2 := r.2
      rw [List.take_of_length_le (by rw [List.length_zip]; omega)] at q2
      exact hq D H' hD r.1 q2
  unfold tLcI tLc
  refine htl _ ⟨a, rfl, ?_⟩
  rcases h with h | h
  · exact .inl ⟨⟨us, h⟩, core _ _ walk_list fun H' s => s.lst h⟩
  · exact .inr ⟨⟨us, h⟩, core _ _ walk_tup fun H' s => s.tup h⟩
theorem zip_all {κ : Type} {F : V → κ → Prop} {us : List V} {ks : List κ} (hp : Paired F us ks) (g : κ → V) : ((us.zip ks).filter fun _ => true).map (fun z => g z.2) = ks.map g := by
  have e : (us.zip ks).map Prod.snd = ks := List.map_snd_zip (by rw [Paired.len hp]; exact Nat.le_refl _)
  rw [List.filter_eq_self.mpr (fun _ _ => rfl)]
  conv => rhs; rw [← e]
  rw [List.map_map]
  rfl
theorem zip_len {κ : Type} {F : V → κ → Prop} {us : List V} {ks : List κ} (hp : Paired F us ks) (q : κ → Bool) (g : V → κ → V) : (((us.zip ks).filter fun z => q z.2).map fun z => g z.1 z.2).length = (ks.filter q).length := by
  have e : (us.zip ks).map Prod.snd = ks := List.map_snd_zip (by rw [Paired.len hp]; exact Nat.le_refl _)
  conv => rhs; rw [← e]
  rw [List.length_map, List.filter_map, List.length_map]
  rfl

theorem miss_of {P : Params} {z : Str} : ∀ {l : List DictEntry} {ks : List Str}, l.map He.keyOf = He.keysIn P ks → z ∉ ks → l.find? (fun e => e.key.isStr z) = none ∧ l.any (fun e => e.refKey) = false
  | [], _, _, _ => ⟨rfl, rfl⟩
  | e :: r, [], h, _ => by cases h
  | e :: r, k :: ks, h, hz => by
    have h1 : He.keyOf e :: r.map He.keyOf = some (k, PyData.keyHash P k) :: He.keysIn P ks := h
    injection h1 with h2 h3
    obtain ⟨i1, i2⟩ := miss_of (z := z) h3 (fun q => hz (List.mem_cons_of_mem _ q))
    unfold He.keyOf at h2
    split at h2
    · rename_i x t q
      have h5 : x = k := (Prod.mk.inj (Option.some.inj h2)).1
      have nz : x ≠ z := fun y => hz (by rw [← y, h5]; exact List.mem_cons_self)
      have e1 : e.key.isStr z = false := by
        rw [q]
        show (x == z) = false
        simpa using nz
      have e2 : e.refKey = false := by
        unfold DictEntry.refKey
        rw [q]
      exact ⟨by rw [List.find?_cons_of_neg (by simp [e1])]; exact i1, by rw [List.any_cons, e2, i2]; rfl⟩
    · cases h2
/-- a written dict with text keys and ints: what it has -/
def KLook (K : PySem.W.Frag) (w : World) (a : Addr) (kvs : List (Str × Int)) : Prop := ∀ z, (∀ i, kvs.lookup z = some i → KDct K w a z (.int i)) ∧ KHas K w a z (kvs.lookup z).isSome
theorem lookup_some {α : Type} {z : Str} {i : α} : ∀ {l : List (Str × α)}, l.lookup z = some i → (z, i) ∈ l
  | (k, v) :: r, h => by
    rw [List.lookup_cons] at h
    cases e : z == k with
    | true => rw [e] at h; cases h; rw [beq_iff_eq.mp e]; exact List.mem_cons_self
    | false => rw [e] at h; exact List.mem_cons_of_mem _ (lookup_some h)
theorem lookup_none {α : Type} {z : Str} : ∀ {l : List (Str × α)}, l.lookup z = none → z ∉ l.map (·.1)
  | [], _ => by simp
  | (k, v) :: r, h => by
    rw [List.lookup_cons] at h
    cases e : z == k with
    | true => rw [e] at h; cases h
    | false =>
      rw [e] at h
      have n := lookup_none h
      intro q
      rcases List.mem_cons.mp q with q | q
      · have q : z = k := q
        rw [q] at e; simp at e
      · exact n q
theorem klook_of {K : PySem.W.Frag} {w : World} {a : Addr} {kvs : List (Str × Int)} (h : He.dicW K a = some (He.keysIn w.params (kvs.map (·.1)))) (hv : He.valsB K a (kvs.map fun q => (q.1, He.Dv.int q.2)) = true) : KLook K w a kvs := by
  obtain ⟨es, n, D⟩ := He.dicW_ok h
  have hk : es.toList.map He.keyOf = He.keysIn w.params (kvs.map (·.1)) := by
    unfold He.dicW at h
    rw [D.at_] at h
    simp only [decide_true, Bool.true_and, D.low, Bool.not_false, Bool.and_true] at h
    exact Option.some.inj h
  intro z
  cases e : kvs.lookup z with
  | some i =>
    have hm := lookup_some e
    obtain ⟨u, h1, h2⟩ := He.valsB_ok hv (q := (z, .int i)) (List.mem_map.mpr ⟨(z, i), hm, rfl⟩)
    exact ⟨fun j hj => by cases hj; exact ⟨es, n, u, D.at_, D.lit, h1, h2⟩, es, n, some u, D.at_, D.lit, D.low, h1, rfl⟩
  | none =>
    obtain ⟨m1, m2⟩ := miss_of hk (lookup_none e)
    refine ⟨fun j hj => (by cases hj), es, n, none, D.at_, D.lit, D.low, ?_, rfl⟩
    unfold PySem.W.nsIn
    rw [D.at_]
    dsimp only
    rw [m1, m2]
    rfl

/-- an if whose test gives b and lets the heap grow -/
theorem rd_ifN {c : TT} {t rest : TS} {D : Ends} {σ : L2.St} {H : Hp} (b : Bool) (hc : ∀ R : Bool → Hp → Prop, (∀ H1, Sm H H1 → R b H1) → c σ H R) (hT : b = true → ∀ H1, Sm H H1 → t { D with nx := rest D } σ H1) (hF : b = false → ∀ H1, Sm H H1 → rest D σ H1) :
    tSeq (tIfS c t tNext) rest D σ H := by
  refine hc _ fun H1 s1 => ?_
  cases b with
  | true => exact ifT rfl (hT rfl H1 s1)
  | false => exact ifF rfl (hF rfl H1 s1)
theorem rd_if1 {c : TT} {t : TS} {D : Ends} {σ : L2.St} {H : Hp} (b : Bool) (hc : ∀ R : Bool → Hp → Prop, (∀ H1, Sm H H1 → R b H1) → c σ H R) (hT : b = true → ∀ H1, Sm H H1 → t D σ H1) (hF : b = false → ∀ H1, Sm H H1 → D.nx σ H1) :
    tIfS c t tNext D σ H := by
  refine hc _ fun H1 s1 => ?_
  cases b with
  | true => exact ifT rfl (hT rfl H1 s1)
  | false => exact ifF rfl (hF rfl H1 s1)
theorem at0 {α : Type} {x : α} {xs : List α} : atI (x :: xs) 0 = some x := atI_nat (j := 0) rfl

/-- a promise that lets nothing out where nothing is raised -/
theorem quiet {P : Program} {w : World} {K : PySem.W.Frag} {mg : Str → Option Value} {base : Heap} {k : Nat} {f : Addr} {fd : FuncData} {ps : List Str} {sp : Sp} (F : FnOk P w K mg base (L2.CX P w) k f fd ps sp) :
    FnOk P w K mg base CX0 k f fd ps (fun vs H Q _ => sp vs H Q fun _ _ _ => False) := by
  refine ⟨fun vs H Q E h => F.len _ _ _ _ h, fun A outer s H args us vs Q E hr e0 hb hv h => codeAny_mono (F.run A outer s H args us vs Q _ hr e0 hb hv h) fun r s' q => ?_⟩
  cases r with
  | ok fl => cases fl <;> exact q
  | error e =>
    obtain ⟨_, _, _, _, _, _, _, _, _, _, _, _, z⟩ := q
    exact z.elim
/-- name = [..], kept shut -/
theorem ps_setLcI {X : Cx} {i : Nat} {y : Str} {py : Pos} {elt tg iter : Expr} {ifs : List Expr} {scope : Scope} {own : List (Str × Nat)} {pos spos : Pos} {wi : TI} {g : TG} {tt : TT} {te : TE} (hc : X.calm = true) (hN : X.N.Nodup) (hy : X.N[i]? = some y) (hyl : X.env.scope.names.lookup y = some .local)
    (hsw : swapsWith (.ListComp elt [⟨tg, iter, ifs, 0⟩] scope pos) (some (.Name y py)) spos.line X.env = pure true) (hi : PI X tg iter wi) (ok : BlkOk X.N X.env.scope scope own)
    (hg : ∀ (s : Shared) (H : Hp) (C : Addr) (cl : List (Str × Addr)) (fp : List Addr), PG (X.blk s H scope (compEnvC scope cl C X.env) fp) tg g) (ht : ∀ (s : Shared) (H : Hp) (C : Addr) (cl : List (Str × Addr)) (fp : List Addr), PTs (X.blk s H scope (compEnvC scope cl C X.env) fp) ifs tt)
    (he : ∀ (s : Shared) (H : Hp) (C : Addr) (cl : List (Str × Addr)) (fp : List Addr), PE (X.blk s H scope (compEnvC scope cl C X.env) fp) elt te) (hs : ∀ x, foldedSetIterable iter X.env x = pure x := by intro _; rfl) :
    PS X (.Assign [.Name y py] (.ListComp elt [⟨tg, iter, ifs, 0⟩] scope pos) spos) (tAsg (tLcI wi g tt te (own.map (·.2))) (gName i)) := by
  unfold tLcI
  exact ps_setLc hc hN hy hyl hsw hi ok hg ht he hs

/-- [g for x in us], each item told by a relation that the growing heap keeps; the source comes by a reading of its own -/
theorem rd_lcR {κ ρ : Type} {F : V → κ → Prop} {us : List V} {ks : List κ} (hp : Paired F us ks) {K : PySem.W.Frag} {Rel : Hp → V → ρ → Prop} {h : κ → ρ} {te : TE} {i : Nat} {σ : L2.St} {H : Hp} {Q : VK} (hz : us.length ≤ sizeLine) {tl : TE}
    (htl : ∀ R : VK, (∀ a H1, Sm H H1 → Sq K H1 a us → R (.ref a) H1) → tl σ H R) (mono : ∀ {H' H'' : Hp} {v : V} {z : ρ}, Tu H' H'' → Rel H' v z → Rel H'' v z)
    (hte : ∀ x y H' (R : VK), F x y → y ∈ ks → Sm H H' → (∀ v H'', Sm H' H'' → Rel H'' v (h y) → R v H'') → te ((wipe σ [i]).set i (some x)) H' R)
    (hq : ∀ D H' vs, H D = none → Sm H H' → H' D = some (.lst vs) → Paired (Rel H') vs (ks.map h) → Q (.ref D) H') : tLcI (iSq K tl) (gName i) tYes te [i] σ H Q := by
  have core : ∀ (H1 : Hp), Sm H H1 → ∀ (J : It) (G : Hp → Prop), Walk J us.length G (YAt us) → (∀ H', Sm H1 H' → G H') → ∀ D, H1 D = none → ∃ W : Nat → Nat → Hp → Prop, (∃ m, W 0 m (upd H1 D (.lst []))) ∧ ∀ k m H, W k m H →
      (J.stop k H ∧ Q (.ref D) H) ∨ (J.go k H ∧ ∃ Nx : Hp → Prop, (∀ H', Nx H' → ∃ m', m' < m ∧ W (k + 1) m' H') ∧ ∀ x H', J.yld k H x H' → gName i x (wipe σ [i]) H' fun σ2 H2 => wipe σ2 [i] = wipe σ [i] ∧ tYes σ2 H2 fun b H3 =>
        if b = true then te σ2 H3 fun y H4 => ∃ acc, H4 D = some (.lst acc) ∧ acc.length < sizeLine ∧ Nx (upd H4 D (.lst (acc ++ [y]))) else Nx H3) := by
    intro H1 s1 J G w hG D hD
    refine lc_it w (Qd := fun H => Q (.ref D) H) (fun k H' => Sm H1 H' ∧ ∃ vs, H' D = some (.lst vs) ∧ vs.length = k ∧ Paired (Rel H') vs ((ks.take k).map h)) ⟨Sm.new hD, [], upd_same, rfl, .nil⟩ (fun k H' _ z => hG H' z.1) (fun k x H' H'' hk r y => ?_) fun H' r => ?_
    · obtain ⟨rfl, hx⟩ := y
      obtain ⟨y, hy, hF⟩ := Paired.get hp hx
      have hm := List.mem_of_getElem? hy
      have tk : ks.take (k + 1) = ks.take k ++ [y] := by rw [List.take_add_one, hy]; rfl
      obtain ⟨r1, vs, r2, r3, r4⟩ := r
      refine ⟨wipe_set σ i (some x), ?_⟩
      dsimp only [tYes]
      rw [if_pos rfl]
      refine hte x y H'' _ hF hm (s1.trans r1) fun v H4 s4 hv => ?_
      have q4 := s4.st D _ r2 fun _ z => by cases z
      have t4 : Tu H4 (upd H4 D (.lst (vs ++ [v]))) := Tu.lset q4
      refine ⟨vs, q4, by omega, Sm.own (r1.trans s4) hD (fun P t => tabG_ne t q4 fun _ z => by cases z), vs ++ [v], upd_same, by rw [List.length_append, r3]; rfl, ?_⟩
      rw [tk, List.map_append]
      exact Paired.snoc (Paired.imp (fun _ _ z => mono (s4.tu.trans t4) z) r4) (mono t4 hv)
    · obtain ⟨r1, vs, r2, r3, r4⟩ := r
      rw [List.take_of_length_le (by rw [Paired.len hp]; exact Nat.le_refl _)] at r4
      exact hq D H' vs (s1.fr D hD) (s1.trans r1) r2 r4
  unfold tLcI tLc
  refine htl _ fun a H1 s1 hs => ⟨a, rfl, ?_⟩
  rcases hs with hs | hs
  · exact .inl ⟨⟨us, hs⟩, core H1 s1 _ _ walk_list fun H' s => s.lst hs⟩
  · exact .inr ⟨⟨us, hs⟩, core H1 s1 _ _ walk_tup fun H' s => s.tup hs⟩
theorem inT {K : PySem.W.Frag} {H' : Hp} {a : Addr} {x : Str} {ys : List Str} {R : V → Hp → Prop} (h : TxL K H' a ys) (q : R (.bl (ys.contains x)) H') : rIn K false (.str x) (.ref a) H' R := by
  refine ⟨a, ys.map V.str, rfl, h, rfl, by rw [List.all_map, List.all_eq_true]; intro x _; rfl, ?_⟩
  have e : inV (.str x) (ys.map V.str) = ys.contains x := by
    unfold inV
    rw [List.any_map, Bool.eq_iff_iff, List.any_eq_true]
    constructor
    · rintro ⟨y, hy, e⟩
      have e : (y == x) = true := e
      rw [← beq_iff_eq.mp e]
      simpa using hy
    · intro h
      exact ⟨x, by simpa using h, by show (x == x) = true; simp⟩
  rw [if_neg Bool.false_ne_true, e]
  exact q
theorem niT {K : PySem.W.Frag} {H' : Hp} {a : Addr} {x : Str} {ys : List Str} {R : V → Hp → Prop} (h : TxL K H' a ys) (q : R (.bl (!ys.contains x)) H') : rIn K true (.str x) (.ref a) H' R := by
  obtain ⟨p, xs, e1, e2, e3, e4, e5⟩ := inT (R := fun v H2 => v = .bl (ys.contains x) ∧ H2 = H') h ⟨rfl, rfl⟩
  refine ⟨p, xs, e1, e2, e3, e4, ?_⟩
  rw [if_neg Bool.false_ne_true] at e5
  have e6 : inV (.str x) xs = ys.contains x := V.bl.inj e5.1
  rw [if_pos rfl, e6]
  exact q
/-- for k in range(n) -/
theorem rd_forR {ta : TA} {n : Nat} {tb : TS} {D : Ends} {σ : L2.St} {H : Hp} {i : Nat} (hn : n < 2 ^ 62) (Pv : Nat → L2.St → Hp → Prop) (h0 : Pv 0 σ H)
    (hs : ∀ k σ' H', k < n → Pv k σ' H' → tb { D with nx := Pv (k + 1), ct := Pv (k + 1), bk := D.nx } (σ'.set i (some (.int (k : Int)))) H') (hd : ∀ σ' H', Pv n σ' H' → D.nx σ' H') (hta : ∀ R : List V → Hp → Prop, R [.int (n : Int)] H → ta σ H R) :
    tForI (iRng1 ta) (gName i) tb D σ H := by
  unfold tForI tFor
  refine hta _ ⟨n, rfl, by omega, by omega, ?_⟩
  refine for_it (walk_range (n := n)) Pv h0 (fun _ _ _ _ _ => trivial) (fun k x σ' H' H'' hk p y => ?_) hd
  obtain ⟨rfl, rfl⟩ := y
  have := hs k σ' _ hk p
  rw [← Int.zero_add (k : Int)] at this
  exact this
/-- for c in a text -/
theorem rd_forS {z : Str} {tb : TS} {D : Ends} {σ : L2.St} {H : Hp} {i : Nat} (Pv : Nat → L2.St → Hp → Prop) (h0 : Pv 0 σ H)
    (hs : ∀ k c σ' H', z.cps.toList[k]? = some c → Pv k σ' H' → tb { D with nx := Pv (k + 1), ct := Pv (k + 1), bk := D.nx } (σ'.set i (some (.str ⟨#[c]⟩))) H') (hd : ∀ σ' H', Pv z.cps.toList.length σ' H' → D.nx σ' H') {tl : TE} (htl : ∀ R : VK, R (.str z) H → tl σ H R) :
    tForI (iStr tl) (gName i) tb D σ H := by
  unfold tForI tFor
  refine htl _ ⟨z, rfl, ?_⟩
  have w0 := walk_str (z := z)
  rw [Array.length_toList] at hd
  refine for_it w0 Pv h0 (fun _ _ _ _ _ => trivial) (fun k x σ' H' H'' hk p y => ?_) hd
  obtain ⟨rfl, c, hc, rfl⟩ := y
  exact hs k c σ' _ (by rw [Array.getElem?_toList]; exact hc) p
/-- what a for over a list asks at its beginning -/
def ForB (K : PySem.W.Frag) (a : Addr) (xs : List V) (i : Nat) (tb : TS) (D : Ends) (σ : L2.St) (H1 : Hp) : Prop := ∃ Pv : Nat → L2.St → Hp → Prop, Pv 0 σ H1 ∧ (∀ k σ' H', Pv k σ' H' → SqL K H' a xs) ∧
  (∀ k x σ' H', xs[k]? = some x → Pv k σ' H' → tb { D with nx := Pv (k + 1), ct := Pv (k + 1), bk := D.nx } (σ'.set i (some x)) H') ∧ ∀ σ' H', Pv xs.length σ' H' → D.nx σ' H'
/-- for x in f(..): the list comes by a reading of its own -/
theorem rd_forC {K : PySem.W.Frag} {tb : TS} {D : Ends} {σ : L2.St} {H : Hp} {i : Nat} {tl : TE} (htl : ∀ R : VK, (∀ a xs H1, ForB K a xs i tb D σ H1 → R (.ref a) H1) → tl σ H R) : tForI (iSq K tl) (gName i) tb D σ H := by
  unfold tForI tFor
  exact htl _ fun a xs H1 ⟨Pv, h0, hG, hs, hd⟩ => ⟨a, rfl, .inl ⟨⟨xs, hG _ _ _ h0⟩, for_it walk_list Pv h0 (fun k σ' H' _ p => hG k σ' H' p) (fun k x σ' H' H'' _ p y => by obtain ⟨rfl, hx⟩ := y; exact hs k x σ' H'' hx p) hd⟩⟩
theorem cut_take (xs : List V) (m : Nat) : cutV xs none (some (m : Int)) = xs.take m := by
  unfold cutV
  have e2 : HT.sIx xs.length xs.length (some (m : Int)) = min m xs.length := by
    show (if (m : Int) < 0 then ((m : Int) + (xs.length : Int)).toNat else min (m : Int).toNat xs.length) = _
    rw [if_neg (by omega)]
    rfl
  have e1 : HT.sIx xs.length 0 none = 0 := rfl
  rw [e1, e2]
  show xs.take (min m xs.length - 0) = xs.take m
  rw [Nat.sub_zero, List.take_eq_take_iff]
  omega
end GD

-- part H08
set_option Elab.async false
set_option linter.all false
set_option maxRecDepth 100000
set_option maxHeartbeats 0
namespace K8
open PySem PySem.Spec PyProof.Rows L2
def top (i : Nat) : Stmt := PySem.Challenge.pw_whoevermay_k08_names.main.body.getD i (.Pass ⟨0, 0, 0, 0⟩)
abbrev sis_name : Stmt := top 9
abbrev s_check_names : Stmt := top 10
abbrev s_listed : Stmt := top 11
abbrev s_share : Stmt := top 12
abbrev s_kept_founders : Stmt := top 13
abbrev s_has_its_parts : Stmt := top 14
abbrev s_kept_rule : Stmt := top 15
abbrev s_check_right : Stmt := top 16
abbrev s_law_row : Stmt := top 19
abbrev s_law_numbers : Stmt := top 20
abbrev s_law_taken : Stmt := top 21
abbrev slaw : Stmt := top 22
abbrev sCharter___init__ : Stmt := inClass (top 17) 0
abbrev sCharter_rule_names : Stmt := inClass (top 17) 3
def dis_name : He.DefD := ⟨("is_name", none), "is_name", "is_name", defArgs sis_name, defBody sis_name, defScope sis_name, [], []⟩
def d_check_names : He.DefD := ⟨("_check_names", none), "_check_names", "_check_names", defArgs s_check_names, defBody s_check_names, defScope s_check_names, [], []⟩
def d_listed : He.DefD := ⟨("_listed", none), "_listed", "_listed", defArgs s_listed, defBody s_listed, defScope s_listed, [], []⟩
def d_share : He.DefD := ⟨("_share", none), "_share", "_share", defArgs s_share, defBody s_share, defScope s_share, [], []⟩
def d_kept_founders : He.DefD := ⟨("_kept_founders", none), "_kept_founders", "_kept_founders", defArgs s_kept_founders, defBody s_kept_founders, defScope s_kept_founders, [], []⟩
def d_has_its_parts : He.DefD := ⟨("_has_its_parts", none), "_has_its_parts", "_has_its_parts", defArgs s_has_its_parts, defBody s_has_its_parts, defScope s_has_its_parts, [], []⟩
def d_kept_rule : He.DefD := ⟨("_kept_rule", none), "_kept_rule", "_kept_rule", defArgs s_kept_rule, defBody s_kept_rule, defScope s_kept_rule, [], []⟩
def d_check_right : He.DefD := ⟨("_check_right", none), "_check_right", "_check_right", defArgs s_check_right, defBody s_check_right, defScope s_check_right, [], []⟩
def d_law_row : He.DefD := ⟨("_law_row", none), "_law_row", "_law_row", defArgs s_law_row, defBody s_law_row, defScope s_law_row, [], []⟩
def d_law_numbers : He.DefD := ⟨("_law_numbers", none), "_law_numbers", "_law_numbers", defArgs s_law_numbers, defBody s_law_numbers, defScope s_law_numbers, [], []⟩
def d_law_taken : He.DefD := ⟨("_law_taken", none), "_law_taken", "_law_taken", defArgs s_law_taken, defBody s_law_taken, defScope s_law_taken, [], []⟩
def dlaw : He.DefD := ⟨("law", none), "law", "law", defArgs slaw, defBody slaw, defScope slaw, [], []⟩
def dCharter___init__ : He.DefD := ⟨("Charter", some "__init__"), "__init__", "Charter.__init__", defArgs sCharter___init__, defBody sCharter___init__, defScope sCharter___init__, [], [("sole", .adr (Hd.kwAt ("Charter", some "__init__") "sole")), ("founders", .adr (Hd.kwAt ("Charter", some "__init__") "founders")), ("rules", .adr (Hd.kwAt ("Charter", some "__init__") "rules"))]⟩
def fn : List He.DefD := [dis_name, d_check_names, d_listed, d_share, d_kept_founders, d_has_its_parts, d_kept_rule, d_check_right, d_law_row, d_law_numbers, d_law_taken, dlaw, dCharter___init__]
def pCharter_rule_names : Hd.PrD := ⟨"Charter", "rule_names", "rule_names", "Charter.rule_names", defArgs sCharter_rule_names, defBody sCharter_rule_names, defScope sCharter_rule_names⟩
def prs : List Hd.PrD := [pCharter_rule_names]
def fa : List He.Fa := [.glo "is_name", .glo "_check_names", .glo "_listed", .glo "_share", .glo "_kept_founders", .glo "_has_its_parts", .glo "_kept_rule", .glo "_check_right", .glo "_law_row", .glo "_law_numbers", .glo "_law_taken", .glo "law", .glo "Charter", .glo "InvalidCharter", .glo "LISTS", .free "len", .free "set", .free "all", .free "any", .free "tuple", .free "abs", .free "int", .free "range", .free "max", .free "isinstance", .free "bool", .str "LETTERS" "abcdefghijklmnopqrstuvwxyz", .str "SIGNS" "abcdefghijklmnopqrstuvwxyz0123456789", .cls "Charter", .mkr "Charter", .noat "Charter" "rights", .noat "Charter" "sole", .noat "Charter" "founders", .noat "Charter" "rules", .exc "InvalidCharter", .exm "InvalidCharter" "InvalidCharter" true]
def tf : List He.Defn := [("is_name", none), ("_check_names", none), ("_listed", none), ("_share", none)]
def tbs : List He.Tab := [(fun K => He.ga K "LISTS", ["join", "claim", "drop", "give", "take", "pass"])]
def exq : PySem.W.Frag → Bool := fun K => Hd.emptyB K (Hd.kwAt ("Charter", some "__init__") "sole" K) && He.valsB K (He.ga K "LISTS") [("join", .int 1), ("claim", .int 2), ("drop", .int 2), ("give", .int 3), ("take", .int 3), ("pass", .int 3)]
abbrev R : PySem.W.OpenRow := PySem.W.OpenLaw.row PySem.Challenge.rw_whoevermay_k08_names
abbrev hk : PySem.W.Hook := Hd.hookP 6 fa fn tbs tf exq prs
def ob (s : PySem.W.SharedT) : Hd.AlP := Hd.obsP 6 fa fn tbs tf exq prs (HandSHeadRun.getT s)
theorem ob_eq (s : PySem.W.SharedT) : ob s = hk.obs s.abs := Hd.obsP_eq (HandSHeadRun.getT_eq s)
def loose : List Str := (["_wall", "WhoevermayError", "InvalidCharter", "UnknownName", "LETTERS", "SIGNS", "LISTS", "is_name", "_check_names", "_listed", "_share", "_kept_founders", "_has_its_parts", "_kept_rule", "_check_right", "Charter", "_law_row", "_law_numbers", "_law_taken"] : List Str)
def steps : Nat := 3000
theorem runF (w : World) : HandSHeadRun.RunEq R (PySem.W.view R.prog [22]) hk ob steps loose (PySem.World.withFollow w "special-get-raises" false) := by
  intro os
  kernel_rfl
theorem runT (w : World) : HandSHeadRun.RunEq R (PySem.W.view R.prog [22]) hk ob steps loose (PySem.World.withFollow w "special-get-raises" true) := by
  intro os
  kernel_rfl
theorem run (w : World) : HandSHeadRun.RunEq R (PySem.W.view R.prog [22]) hk ob steps loose w := PySem.W.byRow2 "special-get-raises" (P := HandSHeadRun.RunEq R (PySem.W.view R.prog [22]) hk ob steps loose) runF runT w
end K8

-- part F08
set_option Elab.async false
set_option linter.all false
set_option maxRecDepth 100000
set_option maxHeartbeats 2000000
namespace K8
open PySem PySem.Spec PyProof.Rows L2
/-- what the walk of a def is given: the head's facts at h, the tables over base -/
structure Tx (w : World) (K : PySem.W.Frag) (mg : Str → Option Value) (base : Heap) : Prop where
  x : ∃ h : Heap, K.In h ∧ h.Ns mainGlobals mg ∧ Hd.SaysP fa fn tbs tf exq prs w h K
  tb : ∀ p ∈ tf, GxR.TabB base mg (He.cT K p).1 (He.cT K p).2
section
variable {w : World} {K : PySem.W.Frag} {mg : Str → Option Value} {base : Heap}
theorem Tx.glo_is_name (T : Tx w K mg base) : mg "is_name" = some (.ref (He.ga K "is_name")) := by
  obtain ⟨⟨h, X, G, c⟩, _⟩ := T
  exact He.glo_ok X G (c.x.t.d.fact 0 rfl)
theorem Tx.glo__check_names (T : Tx w K mg base) : mg "_check_names" = some (.ref (He.ga K "_check_names")) := by
  obtain ⟨⟨h, X, G, c⟩, _⟩ := T
  exact He.glo_ok X G (c.x.t.d.fact 1 rfl)
theorem Tx.glo__listed (T : Tx w K mg base) : mg "_listed" = some (.ref (He.ga K "_listed")) := by
  obtain ⟨⟨h, X, G, c⟩, _⟩ := T
  exact He.glo_ok X G (c.x.t.d.fact 2 rfl)
theorem Tx.glo__share (T : Tx w K mg base) : mg "_share" = some (.ref (He.ga K "_share")) := by
  obtain ⟨⟨h, X, G, c⟩, _⟩ := T
  exact He.glo_ok X G (c.x.t.d.fact 3 rfl)
theorem Tx.glo__kept_founders (T : Tx w K mg base) : mg "_kept_founders" = some (.ref (He.ga K "_kept_founders")) := by
  obtain ⟨⟨h, X, G, c⟩, _⟩ := T
  exact He.glo_ok X G (c.x.t.d.fact 4 rfl)
theorem Tx.glo__has_its_parts (T : Tx w K mg base) : mg "_has_its_parts" = some (.ref (He.ga K "_has_its_parts")) := by
  obtain ⟨⟨h, X, G, c⟩, _⟩ := T
  exact He.glo_ok X G (c.x.t.d.fact 5 rfl)
theorem Tx.glo__kept_rule (T : Tx w K mg base) : mg "_kept_rule" = some (.ref (He.ga K "_kept_rule")) := by
  obtain ⟨⟨h, X, G, c⟩, _⟩ := T
  exact He.glo_ok X G (c.x.t.d.fact 6 rfl)
theorem Tx.glo__check_right (T : Tx w K mg base) : mg "_check_right" = some (.ref (He.ga K "_check_right")) := by
  obtain ⟨⟨h, X, G, c⟩, _⟩ := T
  exact He.glo_ok X G (c.x.t.d.fact 7 rfl)
theorem Tx.glo__law_row (T : Tx w K mg base) : mg "_law_row" = some (.ref (He.ga K "_law_row")) := by
  obtain ⟨⟨h, X, G, c⟩, _⟩ := T
  exact He.glo_ok X G (c.x.t.d.fact 8 rfl)
theorem Tx.glo__law_numbers (T : Tx w K mg base) : mg "_law_numbers" = some (.ref (He.ga K "_law_numbers")) := by
  obtain ⟨⟨h, X, G, c⟩, _⟩ := T
  exact He.glo_ok X G (c.x.t.d.fact 9 rfl)
theorem Tx.glo__law_taken (T : Tx w K mg base) : mg "_law_taken" = some (.ref (He.ga K "_law_taken")) := by
  obtain ⟨⟨h, X, G, c⟩, _⟩ := T
  exact He.glo_ok X G (c.x.t.d.fact 10 rfl)
theorem Tx.glo_law (T : Tx w K mg base) : mg "law" = some (.ref (He.ga K "law")) := by
  obtain ⟨⟨h, X, G, c⟩, _⟩ := T
  exact He.glo_ok X G (c.x.t.d.fact 11 rfl)
theorem Tx.glo_Charter (T : Tx w K mg base) : mg "Charter" = some (.ref (He.ga K "Charter")) := by
  obtain ⟨⟨h, X, G, c⟩, _⟩ := T
  exact He.glo_ok X G (c.x.t.d.fact 12 rfl)
theorem Tx.glo_InvalidCharter (T : Tx w K mg base) : mg "InvalidCharter" = some (.ref (He.ga K "InvalidCharter")) := by
  obtain ⟨⟨h, X, G, c⟩, _⟩ := T
  exact He.glo_ok X G (c.x.t.d.fact 13 rfl)
theorem Tx.glo_LISTS (T : Tx w K mg base) : mg "LISTS" = some (.ref (He.ga K "LISTS")) := by
  obtain ⟨⟨h, X, G, c⟩, _⟩ := T
  exact He.glo_ok X G (c.x.t.d.fact 14 rfl)
theorem Tx.free_len (T : Tx w K mg base) : mg "len" = none := by
  obtain ⟨⟨h, X, G, c⟩, _⟩ := T
  exact He.free_ok X G (c.x.t.d.fact 15 rfl)
theorem Tx.free_set (T : Tx w K mg base) : mg "set" = none := by
  obtain ⟨⟨h, X, G, c⟩, _⟩ := T
  exact He.free_ok X G (c.x.t.d.fact 16 rfl)
theorem Tx.free_all (T : Tx w K mg base) : mg "all" = none := by
  obtain ⟨⟨h, X, G, c⟩, _⟩ := T
  exact He.free_ok X G (c.x.t.d.fact 17 rfl)
theorem Tx.free_any (T : Tx w K mg base) : mg "any" = none := by
  obtain ⟨⟨h, X, G, c⟩, _⟩ := T
  exact He.free_ok X G (c.x.t.d.fact 18 rfl)
theorem Tx.free_tuple (T : Tx w K mg base) : mg "tuple" = none := by
  obtain ⟨⟨h, X, G, c⟩, _⟩ := T
  exact He.free_ok X G (c.x.t.d.fact 19 rfl)
theorem Tx.free_abs (T : Tx w K mg base) : mg "abs" = none := by
  obtain ⟨⟨h, X, G, c⟩, _⟩ := T
  exact He.free_ok X G (c.x.t.d.fact 20 rfl)
theorem Tx.free_int (T : Tx w K mg base) : mg "int" = none := by
  obtain ⟨⟨h, X, G, c⟩, _⟩ := T
  exact He.free_ok X G (c.x.t.d.fact 21 rfl)
theorem Tx.free_range (T : Tx w K mg base) : mg "range" = none := by
  obtain ⟨⟨h, X, G, c⟩, _⟩ := T
  exact He.free_ok X G (c.x.t.d.fact 22 rfl)
theorem Tx.free_max (T : Tx w K mg base) : mg "max" = none := by
  obtain ⟨⟨h, X, G, c⟩, _⟩ := T
  exact He.free_ok X G (c.x.t.d.fact 23 rfl)
theorem Tx.free_isinstance (T : Tx w K mg base) : mg "isinstance" = none := by
  obtain ⟨⟨h, X, G, c⟩, _⟩ := T
  exact He.free_ok X G (c.x.t.d.fact 24 rfl)
theorem Tx.free_bool (T : Tx w K mg base) : mg "bool" = none := by
  obtain ⟨⟨h, X, G, c⟩, _⟩ := T
  exact He.free_ok X G (c.x.t.d.fact 25 rfl)
theorem Tx.str_LETTERS (T : Tx w K mg base) : ∃ t, mg "LETTERS" = some (.str "abcdefghijklmnopqrstuvwxyz" t) := by
  obtain ⟨⟨h, X, G, c⟩, _⟩ := T
  exact He.str_ok X G (c.x.t.d.fact 26 rfl)
theorem Tx.str_SIGNS (T : Tx w K mg base) : ∃ t, mg "SIGNS" = some (.str "abcdefghijklmnopqrstuvwxyz0123456789" t) := by
  obtain ⟨⟨h, X, G, c⟩, _⟩ := T
  exact He.str_ok X G (c.x.t.d.fact 27 rfl)
theorem Tx.cls_Charter (T : Tx w K mg base) : Cls K (He.ga K "Charter") := by
  obtain ⟨⟨h, X, G, c⟩, _⟩ := T
  exact He.cls_ok (c.x.t.d.fact 28 rfl)
theorem Tx.mkr_Charter (T : Tx w K mg base) : Mk K (He.ga K "Charter") (He.ma K (He.ga K "Charter") "__init__") := by
  obtain ⟨⟨h, X, G, c⟩, _⟩ := T
  exact He.mkr_ok (c.x.t.d.fact 29 rfl)
theorem Tx.noat_Charter_rights (T : Tx w K mg base) : NoAttr K (He.ga K "Charter") "rights" := by
  obtain ⟨⟨h, X, G, c⟩, _⟩ := T
  exact He.noat_ok (c.x.t.d.fact 30 rfl)
theorem Tx.noat_Charter_sole (T : Tx w K mg base) : NoAttr K (He.ga K "Charter") "sole" := by
  obtain ⟨⟨h, X, G, c⟩, _⟩ := T
  exact He.noat_ok (c.x.t.d.fact 31 rfl)
theorem Tx.noat_Charter_founders (T : Tx w K mg base) : NoAttr K (He.ga K "Charter") "founders" := by
  obtain ⟨⟨h, X, G, c⟩, _⟩ := T
  exact He.noat_ok (c.x.t.d.fact 32 rfl)
theorem Tx.noat_Charter_rules (T : Tx w K mg base) : NoAttr K (He.ga K "Charter") "rules" := by
  obtain ⟨⟨h, X, G, c⟩, _⟩ := T
  exact He.noat_ok (c.x.t.d.fact 33 rfl)
theorem Tx.exc_InvalidCharter (T : Tx w K mg base) : PySem.W.excIn K (He.ga K "InvalidCharter") He.veBase "ValueError.__new__" = true ∧ PySem.W.keepIn K (.ref (He.ga K "InvalidCharter")) = true ∧ PySem.W.subIn K (.ref (He.ga K "InvalidCharter")) (.type "BaseException") = some true ∧ PySem.W.typeIn K (.ref (He.ga K "InvalidCharter")) = some (.type "type") := by
  obtain ⟨⟨h, X, G, c⟩, _⟩ := T
  exact He.exc_ok (c.x.t.d.fact 34 rfl)
theorem Tx.exm_InvalidCharter_InvalidCharter (T : Tx w K mg base) : PySem.W.exmOne K (.ref (He.ga K "InvalidCharter")) (.ref (He.ga K "InvalidCharter")) = some true := by
  obtain ⟨⟨h, X, G, c⟩, _⟩ := T
  exact He.exm_ok (c.x.t.d.fact 35 rfl)
theorem Tx.F_is_name (T : Tx w K mg base) : ∃ fd, FunD K "is_name" "is_name" (defArgs sis_name) (defBody sis_name) (defScope sis_name) [] [] (He.fAd K ("is_name", none)) fd := by
  obtain ⟨⟨h, X, G, c⟩, _⟩ := T
  exact c.x.t.d.def_ 0 (d := dis_name) rfl
theorem Tx.F__check_names (T : Tx w K mg base) : ∃ fd, FunD K "_check_names" "_check_names" (defArgs s_check_names) (defBody s_check_names) (defScope s_check_names) [] [] (He.fAd K ("_check_names", none)) fd := by
  obtain ⟨⟨h, X, G, c⟩, _⟩ := T
  exact c.x.t.d.def_ 1 (d := d_check_names) rfl
theorem Tx.F__listed (T : Tx w K mg base) : ∃ fd, FunD K "_listed" "_listed" (defArgs s_listed) (defBody s_listed) (defScope s_listed) [] [] (He.fAd K ("_listed", none)) fd := by
  obtain ⟨⟨h, X, G, c⟩, _⟩ := T
  exact c.x.t.d.def_ 2 (d := d_listed) rfl
theorem Tx.F__share (T : Tx w K mg base) : ∃ fd, FunD K "_share" "_share" (defArgs s_share) (defBody s_share) (defScope s_share) [] [] (He.fAd K ("_share", none)) fd := by
  obtain ⟨⟨h, X, G, c⟩, _⟩ := T
  exact c.x.t.d.def_ 3 (d := d_share) rfl
theorem Tx.F__kept_founders (T : Tx w K mg base) : ∃ fd, FunD K "_kept_founders" "_kept_founders" (defArgs s_kept_founders) (defBody s_kept_founders) (defScope s_kept_founders) [] [] (He.fAd K ("_kept_founders", none)) fd := by
  obtain ⟨⟨h, X, G, c⟩, _⟩ := T
  exact c.x.t.d.def_ 4 (d := d_kept_founders) rfl
theorem Tx.F__has_its_parts (T : Tx w K mg base) : ∃ fd, FunD K "_has_its_parts" "_has_its_parts" (defArgs s_has_its_parts) (defBody s_has_its_parts) (defScope s_has_its_parts) [] [] (He.fAd K ("_has_its_parts", none)) fd := by
  obtain ⟨⟨h, X, G, c⟩, _⟩ := T
  exact c.x.t.d.def_ 5 (d := d_has_its_parts) rfl
theorem Tx.F__kept_rule (T : Tx w K mg base) : ∃ fd, FunD K "_kept_rule" "_kept_rule" (defArgs s_kept_rule) (defBody s_kept_rule) (defScope s_kept_rule) [] [] (He.fAd K ("_kept_rule", none)) fd := by
  obtain ⟨⟨h, X, G, c⟩, _⟩ := T
  exact c.x.t.d.def_ 6 (d := d_kept_rule) rfl
theorem Tx.F__check_right (T : Tx w K mg base) : ∃ fd, FunD K "_check_right" "_check_right" (defArgs s_check_right) (defBody s_check_right) (defScope s_check_right) [] [] (He.fAd K ("_check_right", none)) fd := by
  obtain ⟨⟨h, X, G, c⟩, _⟩ := T
  exact c.x.t.d.def_ 7 (d := d_check_right) rfl
theorem Tx.F__law_row (T : Tx w K mg base) : ∃ fd, FunD K "_law_row" "_law_row" (defArgs s_law_row) (defBody s_law_row) (defScope s_law_row) [] [] (He.fAd K ("_law_row", none)) fd := by
  obtain ⟨⟨h, X, G, c⟩, _⟩ := T
  exact c.x.t.d.def_ 8 (d := d_law_row) rfl
theorem Tx.F__law_numbers (T : Tx w K mg base) : ∃ fd, FunD K "_law_numbers" "_law_numbers" (defArgs s_law_numbers) (defBody s_law_numbers) (defScope s_law_numbers) [] [] (He.fAd K ("_law_numbers", none)) fd := by
  obtain ⟨⟨h, X, G, c⟩, _⟩ := T
  exact c.x.t.d.def_ 9 (d := d_law_numbers) rfl
theorem Tx.F__law_taken (T : Tx w K mg base) : ∃ fd, FunD K "_law_taken" "_law_taken" (defArgs s_law_taken) (defBody s_law_taken) (defScope s_law_taken) [] [] (He.fAd K ("_law_taken", none)) fd := by
  obtain ⟨⟨h, X, G, c⟩, _⟩ := T
  exact c.x.t.d.def_ 10 (d := d_law_taken) rfl
theorem Tx.F_law (T : Tx w K mg base) : ∃ fd, FunD K "law" "law" (defArgs slaw) (defBody slaw) (defScope slaw) [] [] (He.fAd K ("law", none)) fd := by
  obtain ⟨⟨h, X, G, c⟩, _⟩ := T
  exact c.x.t.d.def_ 11 (d := dlaw) rfl
theorem Tx.F_Charter___init__ (T : Tx w K mg base) : ∃ fd, FunD K "__init__" "Charter.__init__" (defArgs sCharter___init__) (defBody sCharter___init__) (defScope sCharter___init__) (dCharter___init__.dvs K) (dCharter___init__.kws K) (He.fAd K ("Charter", some "__init__")) fd := by
  obtain ⟨⟨h, X, G, c⟩, _⟩ := T
  exact c.x.t.d.def_ 12 (d := dCharter___init__) rfl
theorem Tx.P_Charter_rule_names (T : Tx w K mg base) : PropOf K (He.ga K "Charter") "rule_names" (Hd.prpA K "Charter" "rule_names") (Hd.gtrA K "Charter" "rule_names") ∧ ∃ fd, FunD K "rule_names" "Charter.rule_names" (defArgs sCharter_rule_names) (defBody sCharter_rule_names) (defScope sCharter_rule_names) [] [] (Hd.gtrA K "Charter" "rule_names") fd := by
  obtain ⟨⟨h, X, G, c⟩, _⟩ := T
  exact c.pr 0 (d := pCharter_rule_names) rfl
theorem Tx.tab_LISTS (T : Tx w K mg base) : GD.KLook K w (He.ga K "LISTS") [("join", 1), ("claim", 2), ("drop", 2), ("give", 3), ("take", 3), ("pass", 3)] := by
  obtain ⟨⟨h, X, G, c⟩, _⟩ := T
  have e : He.obsT fa fn tbs K = He.valT fn tbs w := c.x.t
  have e2 : (tbs.map fun t => He.dicW K (t.1 K))[0]? = (tbs.map fun t => some (He.keysIn w.params t.2))[0]? := congrArg (fun z : He.AlT => z.2[0]?) e
  exact GD.klook_of (Option.some.inj e2) (He.ba c.exB).2
end
def Gd (K : PySem.W.Frag) (H : Hp) : Prop := ∀ p ∈ tf, GxR.TabG H (He.cT K p).2
theorem Gd.mono {K : PySem.W.Frag} {H H' : Hp} (g : Gd K H) (s : GD.Sm H H') : Gd K H' := fun p hp => s.tb _ (g p hp)
end K8

-- part C08a
set_option Elab.async false
set_option linter.all false
set_option maxRecDepth 100000
set_option maxHeartbeats 2000000
namespace K8
open PySem PySem.Spec PyProof.Rows L2 GxR GS GA GD
def letters : Str := "abcdefghijklmnopqrstuvwxyz"
def signs : Str := "abcdefghijklmnopqrstuvwxyz0123456789"
def isName (t : Str) : Bool := (decide (1 ≤ t.length) && decide (t.length ≤ 12)) && ((t.cps.toList.head?.any fun c => decide (c ∈ letters.cps.toList)) && t.cps.toList.all fun c => decide (c ∈ signs.cps.toList))
section
variable {P : Program} {w : World} {K : PySem.W.Frag} {mg : Str → Option Value} {base : Heap}
def spIsName (K : PySem.W.Frag) : Sp := fun vs H Q _ => ∃ t : Str, vs = [.str t] ∧ t.length ≤ sizeLine ∧ Gd K H ∧ ∀ H', Sm H H' → Q (.bl (isName t)) H'
theorem sc_is_name : FnScope ["text", "sign"] ["text"] (defScope sis_name) := ⟨rfl, rfl, rfl, by decide +kernel, rfl, by decide +kernel, by decide +kernel⟩
theorem ok_is_name (T : Tx w K mg base) : ∃ fd, FnOk P w K mg base CX0 1 (He.ga K "is_name") fd ["text"] (spIsName K) ∧ Binds K fd ["text"] [] ∧ PySem.W.keepIn K (.ref (He.ga K "is_name")) = true := by
  obtain ⟨fd, F⟩ := T.F_is_name
  obtain ⟨tL, gL⟩ := T.str_LETTERS
  obtain ⟨tS, gS⟩ := T.str_SIGNS
  have TB := T.tb ("is_name", none) (by simp [tf])
  refine ⟨fd, okC (k := 0) F (codeOf_at F) sc_is_name (fun vs H Q E h => ?_) (fun A outer s H vs Q E hr h => ?_), F.bindsN (ps := ["text"]) fun _ _ _ _ _ _ us hl => match us, hl with | [_], _ => rfl, F.kp⟩
  · obtain ⟨t, rfl, _⟩ := h
    rfl
  · obtain ⟨t, rfl, hl, g, k⟩ := h
    have gT := g ("is_name", none) (by simp [tf])
    refine ⟨_, PSs.nox (pss_cons (ps_if (PW.pt (pw_or (pt_not (pt_chain op_le op_le pe_int (pe_callB call_len_str (by rfl) T.free_len PySem.boot_len (pa_cons (pv 0) pa_nil)) pe_int))
        (pw_or1 (pt_cmpR op_notIn_sign (pe_item_str (pv 0) pe_int (fun _ _ => rfl)) (pe_glob (v := .str letters) rfl gL ⟨_, rfl⟩) (by rfl))))) (pss_one (ps_ret pe_bl)) pss_nil)
      (pss_one (ps_ret (pe_all (own := [("sign", 1)]) (g := gName 1) hr rfl sc_is_name.nd T.free_all TB rfl (blkOk_by (own := [("sign", 1)]) (N := ["text", "sign"]) (sc := defScope sis_name) (by decide +kernel)) (pi_str (pv 0))
        (fun _ _ _ _ _ _ => pg_name (i := 1) sc_is_name.nd rfl (Or.inl rfl)) (fun _ _ _ _ _ _ => pe_cmpR op_in_sign (pv 1) (pe_glob (v := .str signs) rfl gS ⟨_, rfl⟩) (by rfl)))))), ?_⟩
    refine ⟨_, rfl, t, rfl, hl, _, _, rfl, rfl, _, rfl, ?_⟩
    have no : isName t = false → Q (.bl false) H := fun e => e ▸ k H Sm.refl
    by_cases h1 : 1 ≤ t.length
    · refine ifT (by simp; omega) ⟨_, _, rfl, rfl, _, rfl, ?_⟩
      by_cases h2 : t.length ≤ 12
      · refine ifF (by simp; omega) ?_
        obtain ⟨x, r, e⟩ : ∃ x r, t.cps.toList = x :: r := by
          cases e : t.cps.toList with
          | nil => have : t.cps.size = 0 := by rw [← Array.length_toList, e]; rfl
                   have h1 : 1 ≤ t.cps.size := h1
                   omega
          | cons x r => exact ⟨x, r, rfl⟩
        have hx : t.cps[(0 : Int).toNat]? = some x := by
          rw [← Array.getElem?_toList, e]; rfl
        refine ⟨_, rfl, t, 0, x, rfl, rfl, by omega, by omega, by omega, hx, x, letters, rfl, rfl, _, rfl, ?_⟩
        have e0 : isName t = (decide (x ∈ letters.cps.toList) && t.cps.toList.all fun c => decide (c ∈ signs.cps.toList)) := by
          unfold isName
          rw [decide_eq_true h1, decide_eq_true h2, e]
          rfl
        cases h3 : decide (x ∈ letters.cps.toList) with
        | true =>
          refine ifF rfl ?_
          show tGen false _ (iStr (tVar 0)) (gName 1) _ [1] _ H _
          refine rd_genS false (z := t) (f := fun v => match v with | .str u => u.cps.toList.all fun c => decide (c ∈ signs.cps.toList) | _ => false) gT (fun v H' R hv s1 hR => ?_) (fun H' s1 => ?_) (fun R hR => ⟨_, rfl, hR⟩)
          · obtain ⟨c, hc, rfl⟩ := List.mem_map.mp hv
            refine ⟨_, rfl, c, signs, rfl, rfl, ?_⟩
            have := hR H' s1
            simpa using this
          · have q := k H' s1
            rw [e0, h3] at q
            simpa [List.all_map, Function.comp_def] using q
        | false =>
          refine ifT rfl (no ?_)
          rw [e0, h3]
          rfl
      · refine ifT (by simp; omega) (no ?_)
        simp [isName, h2]
    · refine ifF (by simp; omega) ⟨_, rfl, ifT rfl (no ?_)⟩
      simp [isName, h1]
end
end K8

-- part C08b
set_option Elab.async false
set_option linter.all false
set_option maxRecDepth 100000
set_option maxHeartbeats 2000000
namespace K8
open PySem PySem.Spec PyProof.Rows L2 GxR GS GA GD
def checkNames (xs : List Str) (most : Int) : Bool := decide ((xs.length : Int) ≤ most) && (xs.all isName && decide xs.Nodup)
/-- the class InvalidCharter -/
abbrev IC (K : PySem.W.Frag) : Addr := He.ga K "InvalidCharter"
section
variable {P : Program} {w : World} {K : PySem.W.Frag} {mg : Str → Option Value} {base : Heap}
theorem raiseIC {X : Cx} (T : Tx w X.K X.mg X.base) {W : WX} {m : Str} {j : Nat} {p p2 pos pos2 : Pos} (hc : X.calm = true) (tk : Takes X W) (hg : Gl X "InvalidCharter") :
    PS X (.Raise (some (.Call (.Name "InvalidCharter" p) [.Constant (.str m) j p2] [] pos)) none pos2) (fun _ σ H => W (.ref (IC X.K)) none σ H) := by
  obtain ⟨x1, x2, x3, x4⟩ := T.exc_InvalidCharter
  exact ps_raise hc tk (pmk_own PySem.F.excBase_ValueError x1 T.glo_InvalidCharter x2 (raises_own x3 x4) hg)
def spCheckNames (K : PySem.W.Frag) : Sp := fun vs H Q E => ∃ (a : Addr) (xs : List Str) (most : Int), vs = [.ref a, .int most] ∧ TxL K H a xs ∧ xs.length ≤ 4000 ∧ (∀ x ∈ xs, x.length ≤ sizeLine) ∧ Gd K H ∧
  (∀ H', Sm H H' → checkNames xs most = true → Q .non H') ∧ ∀ H', Sm H H' → checkNames xs most = false → E (.ref (IC K)) none H'
theorem sc_check_names : FnScope ["names", "most", "name"] ["names", "most"] (defScope s_check_names) := ⟨rfl, rfl, rfl, by decide +kernel, rfl, by decide +kernel, by decide +kernel⟩
theorem ok_check_names (T : Tx w K mg base) : ∃ fd, FnOk P w K mg base (L2.CX P w) 3 (He.ga K "_check_names") fd ["names", "most"] (spCheckNames K) ∧ Binds K fd ["names", "most"] [] ∧ PySem.W.keepIn K (.ref (He.ga K "_check_names")) = true := by
  obtain ⟨fd, F⟩ := T.F__check_names
  obtain ⟨fdI, GI, bI, kI⟩ := ok_is_name (P := P) T
  have TB := T.tb ("_check_names", none) (by simp [tf])
  refine ⟨fd, okC (k := 2) F (codeOf_at F) sc_check_names (fun vs H Q E h => ?_) (fun A outer s H vs Q E hr h => ?_), F.bindsN (ps := ["names", "most"]) fun _ _ _ _ _ _ us hl => match us, hl with | [_, _], _ => rfl, F.kp⟩
  · obtain ⟨a, xs, most, rfl, _⟩ := h
    rfl
  · obtain ⟨a, xs, most, rfl, hx, hlen, hlx, g, kT, kF⟩ := h
    have gT := g ("_check_names", none) (by simp [tf])
    refine ⟨_, pss_cons (ps_if (pt_cmpR op_gt (pe_callB call_len_seq (by rfl) T.free_len PySem.boot_len (pa_cons (pv 0) pa_nil)) (pv 1) (nomark _)) (pss_one (raiseIC T rfl (takes_of rfl rfl rfl rfl) rfl)) pss_nil)
      (pss_cons (ps_if (pt_not (pt_val (pe_all (own := [("name", 2)]) (g := gName 2) hr rfl sc_check_names.nd T.free_all TB rfl (blkOk_by (own := [("name", 2)]) (N := ["names", "most", "name"]) (sc := defScope s_check_names) (by decide +kernel)) (pi_sq (pv 0))
          (fun _ _ _ _ _ _ => pg_name (i := 2) sc_check_names.nd rfl (Or.inl rfl)) (fun _ _ _ _ _ _ => pe_call GI (room_gen hr) rfl T.glo_is_name kI bI .nil pass0 (pa_cons (pv 2) pa_nil))))) (pss_one (raiseIC T rfl (takes_of rfl rfl rfl rfl) rfl)) pss_nil)
      (pss_one (ps_if (pt_cmpR op_lt (pe_lenSetS rfl T.free_len T.free_set (pv 0)) (pe_callB call_len_seq (by rfl) T.free_len PySem.boot_len (pa_cons (pv 0) pa_nil)) (nomark _)) (pss_one (raiseIC T rfl (takes_of rfl rfl rfl rfl) rfl)) pss_nil))), ?_⟩
    have len : (xs.map V.str).length = xs.length := List.length_map ..
    refine ⟨_, rfl, a, xs.map V.str, rfl, hx, _, rfl, _, _, rfl, rfl, _, rfl, ?_⟩
    rw [len]
    by_cases c1 : most < (xs.length : Int)
    · refine ifT (decide_eq_true c1) (kF H Sm.refl ?_)
      unfold checkNames
      rw [decide_eq_false (by omega)]
      rfl
    refine ifF (decide_eq_false c1) ?_
    have e1 : checkNames xs most = (xs.all isName && decide xs.Nodup) := by
      unfold checkNames
      rw [decide_eq_true (by omega)]
      rfl
    show tGen false _ (iSq K (tVar 0)) (gName 2) _ [2] _ H _
    refine rd_gen false (f := fun v => match v with | .str t => isName t | _ => false) (TxL.sq hx) gT (fun v H' R hv s1 hR => ?_) (fun H' s1 => ⟨_, rfl, ?_⟩) (fun R hR => ⟨_, rfl, hR⟩)
    · obtain ⟨t, ht, rfl⟩ := List.mem_map.mp hv
      exact ⟨_, rfl, t, rfl, hlx t ht, g.mono s1, fun H2 s2 => hR H2 (s1.trans s2)⟩
    · have e2 : (if false = true then (xs.map V.str).any (fun v => match v with | .str t => isName t | _ => false) else (xs.map V.str).all (fun v => match v with | .str t => isName t | _ => false)) = xs.all isName := by
        rw [if_neg Bool.false_ne_true, List.all_map]
        rfl
      rw [e2]
      cases c2 : xs.all isName with
      | false =>
        refine ifT rfl (kF H' s1 ?_)
        rw [e1, c2]
        rfl
      | true =>
        refine ifF rfl ?_
        refine ⟨_, rfl, a, xs, rfl, s1.txl hx, hlen, _, rfl, a, xs.map V.str, rfl, s1.txl hx, _, _, rfl, rfl, _, rfl, ?_⟩
        rw [len]
        by_cases c3 : xs.Nodup
        · refine ifF (decide_eq_false fun z => (dis_lt xs).mp (by omega) c3) (kT H' s1 ?_)
          rw [e1, c2, decide_eq_true c3]
          rfl
        · refine ifT (decide_eq_true (by have := (dis_lt xs).mpr c3; omega)) (kF H' s1 ?_)
          rw [e1, c2, decide_eq_false c3]
          rfl
end
end K8

-- part C08c
set_option Elab.async false
set_option linter.all false
set_option maxRecDepth 100000
set_option maxHeartbeats 2000000
namespace K8
open PySem PySem.Spec PyProof.Rows L2 GxR GS GA GD
theorem inV_str (x : Str) (xs : List Str) : inV (.str x) (xs.map V.str) = xs.contains x := by
  unfold inV
  rw [List.any_map, Bool.eq_iff_iff, List.any_eq_true]
  constructor
  · rintro ⟨y, hy, e⟩
    have e : (y == x) = true := e
    rw [← beq_iff_eq.mp e]
    simpa using hy
  · intro h
    exact ⟨x, by simpa using h, by show (x == x) = true; simp⟩
theorem flat_strs (xs : List Str) : (xs.map V.str).all flatV = true := by
  rw [List.all_map, List.all_eq_true]
  intro x _
  rfl
def listed (rights words : List Str) : Option (List Str) := if (decide words.Nodup && words.all fun x => rights.contains x) = true then some (rights.filter fun x => words.contains x) else none
section
variable {P : Program} {w : World} {K : PySem.W.Frag} {mg : Str → Option Value} {base : Heap}
def spListed (K : PySem.W.Frag) : Sp := fun vs H Q E => ∃ (a b : Addr) (rights words : List Str), vs = [.ref a, .ref b] ∧ TxL K H a rights ∧ TxL K H b words ∧ rights.length ≤ 4000 ∧ words.length ≤ 4000 ∧ Gd K H ∧
  (∀ H' p r, Sm H H' → listed rights words = some r → H' p = some (.tup (r.map V.str)) → Q (.ref p) H') ∧ ∀ H', Sm H H' → listed rights words = none → E (.ref (IC K)) none H'
theorem sc_listed : FnScope ["rights", "words", "word", "right"] ["rights", "words"] (defScope s_listed) := ⟨rfl, rfl, rfl, by decide +kernel, rfl, by decide +kernel, by decide +kernel⟩
theorem ok_listed (T : Tx w K mg base) : ∃ fd, FnOk P w K mg base (L2.CX P w) 1 (He.ga K "_listed") fd ["rights", "words"] (spListed K) ∧ Binds K fd ["rights", "words"] [] ∧ PySem.W.keepIn K (.ref (He.ga K "_listed")) = true := by
  obtain ⟨fd, F⟩ := T.F__listed
  have TB := T.tb ("_listed", none) (by simp [tf])
  refine ⟨fd, okC (k := 0) F (codeOf_at F) sc_listed (fun vs H Q E h => ?_) (fun A outer s H vs Q E hr h => ?_), F.bindsN (ps := ["rights", "words"]) fun _ _ _ _ _ _ us hl => match us, hl with | [_, _], _ => rfl, F.kp⟩
  · obtain ⟨a, b, r, x, rfl, _⟩ := h
    rfl
  · obtain ⟨a, b, rights, words, rfl, hr1, hw1, lr, lw, g, kT, kF⟩ := h
    have gT := g ("_listed", none) (by simp [tf])
    refine ⟨_, pss_cons (ps_if (pt_cmpR op_lt (pe_lenSetS rfl T.free_len T.free_set (pv 1)) (pe_callB call_len_seq (by rfl) T.free_len PySem.boot_len (pa_cons (pv 1) pa_nil)) (nomark _)) (pss_one (raiseIC T rfl (takes_of rfl rfl rfl rfl) rfl)) pss_nil)
      (pss_cons (ps_if (pt_not (pt_val (pe_all (own := [("word", 2)]) (g := gName 2) (te := tOp (rIn K false) (tVar 2) (tVar 0)) hr rfl sc_listed.nd T.free_all TB rfl (blkOk_by (own := [("word", 2)]) (N := ["rights", "words", "word", "right"]) (sc := defScope s_listed) (by decide +kernel)) (pi_sq (pv 1))
          (fun _ _ _ _ _ _ => pg_name (i := 2) sc_listed.nd rfl (Or.inl rfl)) (fun _ _ _ _ _ _ => pe_cmpR op_in_seq (pv 2) (pv 0) (by rfl))))) (pss_one (raiseIC T rfl (takes_of rfl rfl rfl rfl) rfl)) pss_nil)
      (pss_one (ps_ret (pe_callTy call_tuple_of (by rfl) T.free_tuple (by decide +kernel) (pa_cons (pe_lcI (own := [("right", 3)]) (g := gName 3) (tt := tTest (tOp (rIn K false) (tVar 3) (tVar 1))) (te := tVar 3) rfl sc_listed.nd (pi_sq (pv 0)) (blkOk_by (own := [("right", 3)]) (N := ["rights", "words", "word", "right"]) (sc := defScope s_listed) (by decide +kernel))
          (fun _ _ _ _ _ => pg_name (i := 3) sc_listed.nd rfl (Or.inl rfl)) (fun _ _ _ _ _ => pts_one (pt_cmpR op_in_seq (pv 3) (pv 1) (by rfl))) (fun _ _ _ _ _ => pv 3)) pa_nil))))), ?_⟩
    have len : (words.map V.str).length = words.length := List.length_map ..
    refine ⟨_, rfl, b, words, rfl, hw1, lw, _, rfl, b, words.map V.str, rfl, hw1, _, _, rfl, rfl, _, rfl, ?_⟩
    rw [len]
    by_cases c1 : words.Nodup
    rotate_left
    · refine ifT (decide_eq_true (by have := (dis_lt words).mpr c1; omega)) (kF H Sm.refl ?_)
      unfold listed
      rw [decide_eq_false c1]
      rfl
    refine ifF (decide_eq_false fun z => (dis_lt words).mp (by omega) c1) ?_
    refine rd_gen false (f := fun v => match v with | .str t => rights.contains t | _ => false) (TxL.sq hw1) gT (fun v H' R hv s1 hR => ?_) (fun H' s1 => ⟨_, rfl, ?_⟩) (fun R hR => ⟨_, rfl, hR⟩)
    · obtain ⟨t, ht, rfl⟩ := List.mem_map.mp hv
      refine ⟨_, rfl, _, rfl, a, rights.map V.str, rfl, s1.txl hr1, rfl, flat_strs _, ?_⟩
      have q := hR H' s1
      rw [if_neg Bool.false_ne_true, inV_str]
      exact q
    · have e2 : (if false = true then (words.map V.str).any (fun v => match v with | .str t => rights.contains t | _ => false) else (words.map V.str).all (fun v => match v with | .str t => rights.contains t | _ => false)) = words.all fun x => rights.contains x := by
        rw [if_neg Bool.false_ne_true, List.all_map]
        rfl
      rw [e2]
      cases c2 : words.all fun x => rights.contains x with
      | false =>
        refine ifT rfl (kF H' s1 ?_)
        unfold listed
        rw [c2, Bool.and_false]
        rfl
      | true =>
        refine ifF rfl ?_
        have e3 : listed rights words = some (rights.filter fun x => words.contains x) := by
          unfold listed
          rw [c2, decide_eq_true c1]
          rfl
        refine rd_lc (p := fun v => match v with | .str t => words.contains t | _ => false) (f := fun v => v) (TxL.sq (s1.txl hr1)) (by rw [List.length_map]; unfold sizeLine; omega) (fun v H2 R hv s2 hR => ?_) (fun v H2 R hv hp s2 hR => ?_) (fun D H2 hD s2 h2 => ?_) (fun R hR => ⟨_, rfl, hR⟩)
        · obtain ⟨t, ht, rfl⟩ := List.mem_map.mp hv
          refine ⟨_, rfl, _, rfl, b, words.map V.str, rfl, (s1.trans s2).txl hw1, rfl, flat_strs _, _, rfl, ?_⟩
          have q := hR H2 Sm.refl
          rw [if_neg Bool.false_ne_true, inV_str]
          exact q
        · exact ⟨v, rfl, hR H2 Sm.refl⟩
        · refine ⟨D, _, rfl, .inl ⟨SqL.of h2, fun l hl => ?_⟩⟩
          refine kT _ l _ (s1.trans (s2.trans (Sm.new hl))) e3 ?_
          rw [upd_same, List.map_id', List.filter_map]
          rfl
end
end K8

-- part C08d
set_option Elab.async false
set_option linter.all false
set_option maxRecDepth 100000
set_option maxHeartbeats 2000000
namespace K8
open PySem PySem.Spec PyProof.Rows L2 GxR GS GA GD
/-- a founder as it is handed in: a pair -/
def FdAt (K : PySem.W.Frag) (H : Hp) (v : V) (f : Str × List Str) : Prop := ∃ p b, v = .ref p ∧ SqT K H p [.str f.1, .ref b] ∧ TxL K H b f.2
/-- a founder as it is kept -/
def KfAt (K : PySem.W.Frag) (H : Hp) (v : V) (f : Str × List Str) : Prop := ∃ p b, v = .ref p ∧ SqT K H p [.str f.1, .ref b] ∧ SqT K H b (f.2.map V.str)
theorem FdAt.mono {K : PySem.W.Frag} {H H' : Hp} {v : V} {f : Str × List Str} (s : Sm H H') (h : FdAt K H v f) : FdAt K H' v f := let ⟨p, b, e, h1, h2⟩ := h; ⟨p, b, e, s.tup h1, s.txl h2⟩
theorem KfAt.tu {K : PySem.W.Frag} {H H' : Hp} {v : V} {f : Str × List Str} (s : Tu H H') (h : KfAt K H v f) : KfAt K H' v f := let ⟨p, b, e, h1, h2⟩ := h; ⟨p, b, e, s.sqt h1, s.sqt h2⟩
theorem KfAt.mono {K : PySem.W.Frag} {H H' : Hp} {v : V} {f : Str × List Str} (s : Sm H H') (h : KfAt K H v f) : KfAt K H' v f := let ⟨p, b, e, h1, h2⟩ := h; ⟨p, b, e, s.tup h1, s.tup h2⟩
/-- the rights of each founder, listed -/
def heldAll (rights : List Str) : List (Str × List Str) → Option (List (Str × List Str))
  | [] => some []
  | f :: r => (listed rights f.2).bind fun h => (heldAll rights r).map fun t => (f.1, h) :: t
theorem heldAll_cons {rights : List Str} {f : Str × List Str} {r : List (Str × List Str)} : heldAll rights (f :: r) = (listed rights f.2).bind fun h => (heldAll rights r).map fun t => (f.1, h) :: t := rfl
theorem heldAll_names {rights : List Str} : ∀ {fs ks : List (Str × List Str)}, heldAll rights fs = some ks → ks.map (·.1) = fs.map (·.1)
  | [], ks, e => by cases e; rfl
  | f :: r, ks, e => by
    unfold heldAll at e
    cases h1 : listed rights f.2 with
    | none => rw [h1] at e; cases e
    | some h =>
      rw [h1] at e
      cases h2 : heldAll rights r with
      | none => rw [h2] at e; cases e
      | some t =>
        rw [h2] at e
        have e : (f.1, h) :: t = ks := Option.some.inj e
        rw [← e, List.map_cons, List.map_cons, heldAll_names h2]
def keptFounders (rights sole : List Str) (fs : List (Str × List Str)) : Option (List (Str × List Str)) :=
  (heldAll rights fs).bind fun ks => if (checkNames (ks.map (·.1)) 5 && sole.all fun r => decide ((ks.filter fun f => f.2.contains r).length ≤ 1)) = true then some ks else none
section
variable {P : Program} {w : World} {K : PySem.W.Frag} {mg : Str → Option Value} {base : Heap}
def spShare (K : PySem.W.Frag) : Sp := fun vs H Q _ => ∃ (a b : Addr) (xs ys : List Str), vs = [.ref a, .ref b] ∧ TxL K H a xs ∧ TxL K H b ys ∧ Gd K H ∧ ∀ H', Sm H H' → Q (.bl (xs.any fun x => ys.contains x)) H'
theorem sc_share : FnScope ["some", "others", "right"] ["some", "others"] (defScope s_share) := ⟨rfl, rfl, rfl, by decide +kernel, rfl, by decide +kernel, by decide +kernel⟩
theorem ok_share (T : Tx w K mg base) : ∃ fd, FnOk P w K mg base CX0 1 (He.ga K "_share") fd ["some", "others"] (spShare K) ∧ Binds K fd ["some", "others"] [] ∧ PySem.W.keepIn K (.ref (He.ga K "_share")) = true := by
  obtain ⟨fd, F⟩ := T.F__share
  have TB := T.tb ("_share", none) (by simp [tf])
  refine ⟨fd, okC (k := 0) F (codeOf_at F) sc_share (fun vs H Q E h => ?_) (fun A outer s H vs Q E hr h => ?_), F.bindsN (ps := ["some", "others"]) fun _ _ _ _ _ _ us hl => match us, hl with | [_, _], _ => rfl, F.kp⟩
  · obtain ⟨a, b, x, y, rfl, _⟩ := h
    rfl
  · obtain ⟨a, b, xs, ys, rfl, hx, hy, g, k⟩ := h
    have gT := g ("_share", none) (by simp [tf])
    refine ⟨_, PSs.nox (pss_one (ps_ret (pe_any (own := [("right", 2)]) (g := gName 2) (te := tOp (rIn K false) (tVar 2) (tVar 1)) hr rfl sc_share.nd T.free_any TB rfl (blkOk_by (own := [("right", 2)]) (N := ["some", "others", "right"]) (sc := defScope s_share) (by decide +kernel)) (pi_sq (pv 0))
      (fun _ _ _ _ _ _ => pg_name (i := 2) sc_share.nd rfl (Or.inl rfl)) (fun _ _ _ _ _ _ => pe_cmpR op_in_seq (pv 2) (pv 1) (by rfl))))), ?_⟩
    refine rd_gen true (f := fun v => match v with | .str t => ys.contains t | _ => false) (TxL.sq hx) gT (fun v H' R hv s1 hR => ?_) (fun H' s1 => ?_) (fun R hR => ⟨_, rfl, hR⟩)
    · obtain ⟨t, ht, rfl⟩ := List.mem_map.mp hv
      refine ⟨_, rfl, _, rfl, b, ys.map V.str, rfl, s1.txl hy, rfl, flat_strs _, ?_⟩
      have q := hR H' s1
      rw [if_neg Bool.false_ne_true, inV_str]
      exact q
    · have e2 : (if true = true then (xs.map V.str).any (fun v => match v with | .str t => ys.contains t | _ => false) else (xs.map V.str).all (fun v => match v with | .str t => ys.contains t | _ => false)) = xs.any fun x => ys.contains x := by
        rw [if_pos rfl, List.any_map]
        rfl
      rw [e2]
      exact k H' s1
def spKeptFounders (K : PySem.W.Frag) : Sp := fun vs H Q E => ∃ (a b c : Addr) (rights sole : List Str) (ws : List V) (fs : List (Str × List Str)), vs = [.ref a, .ref b, .ref c] ∧ TxL K H a rights ∧ TxL K H b sole ∧ Sq K H c ws ∧ Paired (FdAt K H) ws fs ∧
  rights.length ≤ 4000 ∧ sole.length ≤ 4000 ∧ fs.length ≤ 4000 ∧ (∀ f ∈ fs, f.1.length ≤ sizeLine ∧ f.2.length ≤ 4000) ∧ Gd K H ∧
  (∀ H' p r us, Sm H H' → keptFounders rights sole fs = some r → H' p = some (.tup us) → Paired (KfAt K H') us r → Q (.ref p) H') ∧ ∀ H', Sm H H' → keptFounders rights sole fs = none → E (.ref (IC K)) none H'
theorem sc_kept_founders : FnScope ["rights", "sole", "founders", "kept", "founder", "right"] ["rights", "sole", "founders"] (defScope s_kept_founders) := ⟨rfl, rfl, rfl, by decide +kernel, rfl, by decide +kernel, by decide +kernel⟩
theorem ok_kept_founders (T : Tx w K mg base) : ∃ fd, FnOk P w K mg base (L2.CX P w) 5 (He.ga K "_kept_founders") fd ["rights", "sole", "founders"] (spKeptFounders K) ∧ Binds K fd ["rights", "sole", "founders"] [] ∧ PySem.W.keepIn K (.ref (He.ga K "_kept_founders")) = true := by
  obtain ⟨fd, F⟩ := T.F__kept_founders
  obtain ⟨fdL, GL, bL, kL⟩ := ok_listed (P := P) T
  obtain ⟨fdC, GC, bC, kC⟩ := ok_check_names (P := P) T
  refine ⟨fd, okC (k := 4) F (codeOf_at (p := ("_kept_founders", none)) F) sc_kept_founders (fun vs H Q E h => ?_) (fun A outer s H vs Q E hr h => ?_), F.bindsN (ps := ["rights", "sole", "founders"]) fun _ _ _ _ _ _ us hl => match us, hl with | [_, _, _], _ => rfl, F.kp⟩
  · obtain ⟨a, b, c, r, x, y, z, rfl, _⟩ := h
    rfl
  · obtain ⟨a, b, c, rights, sole, ws, fs, rfl, hri, hso, hws, hpf, lr, ls, lf, lfs, g, kT, kF⟩ := h
    have nd := sc_kept_founders.nd
    have bk : ∀ {scope : Scope}, blkC ["rights", "sole", "founders", "kept", "founder", "right"] (defScope s_kept_founders) scope [("founder", 4)] = true → BlkOk ["rights", "sole", "founders", "kept", "founder", "right"] (defScope s_kept_founders) scope [("founder", 4)] := fun h => blkOk_by h
    refine ⟨_, pss_cons (ps_set (i := 3) nd rfl (Or.inl rfl) (pe_lst pa_nil))
      (pss_cons (ps_forI (passes_of rfl) rfl (pi_sq (pv 2)) (pg_name (i := 4) nd rfl (Or.inl rfl))
        (pss_cons (ps_if (pt_cmpR op_ne (pe_callB call_len_seq (by rfl) T.free_len PySem.boot_len (pa_cons (pv 4) pa_nil)) pe_int (nomark _)) (pss_one (raiseIC T rfl (takes_of rfl rfl rfl rfl) rfl)) pss_nil)
        (pss_one (ps_expr (pe_bm PySem.F.plainAttrs_list PySem.F.slot_list_append PySem.F.type_list_append mt_append (pv 3) (pa_cons (pe_tup (pa_cons (pe_ix ix_tup (pv 4) pe_int (fun _ _ => rfl))
          (pa_cons (pe_call GL (hr.mono (by decide)) rfl T.glo__listed kL bL .nil (passX (takes_of rfl rfl rfl rfl)) (pa_cons (pv 0) (pa_cons (pe_ix ix_tup (pv 4) pe_int (fun _ _ => rfl)) pa_nil))) pa_nil))) pa_nil))))))
      (pss_cons (ps_expr (pe_call GC (hr.mono (by decide)) rfl T.glo__check_names kC bC .nil (passX (takes_of rfl rfl rfl rfl)) (pa_cons (pe_lcI (own := [("founder", 4)]) (g := gName 4) (tt := tYes) (te := tOp (rIxT K) (tVar 4) (tC (.int 0))) rfl nd (pi_sq (pv 3)) (bk (by decide +kernel))
          (fun _ _ _ _ _ => pg_name (i := 4) nd rfl (Or.inl rfl)) (fun _ _ _ _ _ => pts_nil) (fun _ _ _ _ _ => pe_ix ix_tup (pv 4) pe_int (fun _ _ => rfl))) (pa_cons pe_int pa_nil))))
      (pss_cons (ps_forI (passes_of rfl) rfl (pi_sq (pv 1)) (pg_name (i := 5) nd rfl (Or.inr rfl))
        (pss_one (ps_if (pt_cmpR op_gt (pe_callB call_len_seq (by rfl) T.free_len PySem.boot_len (pa_cons (pe_lcI (own := [("founder", 4)]) (g := gName 4) (tt := tTest (tOp (rIn K false) (tVar 5) (tOp (rIxT K) (tVar 4) (tC (.int 1))))) (te := tVar 4) rfl nd (pi_sq (pv 3)) (bk (by decide +kernel))
          (fun _ _ _ _ _ => pg_name (i := 4) nd rfl (Or.inl rfl)) (fun _ _ _ _ _ => pts_one (pt_cmpR op_in_seq (pv 5) (pe_ix ix_tup (pv 4) pe_int (fun _ _ => rfl)) (by rfl))) (fun _ _ _ _ _ => pv 4)) pa_nil)) pe_int (nomark _)) (pss_one (raiseIC T rfl (takes_of rfl rfl rfl rfl) rfl)) pss_nil)))
      (pss_one (ps_ret (pe_callTy call_tuple_of (by rfl) T.free_tuple (by decide +kernel) (pa_cons (pv 3) pa_nil))))))), ?_⟩
    refine ⟨Nat.zero_le _, fun l hl => ?_⟩
    have s0 : Sm H (upd H l (.lst [])) := Sm.new hl
    refine rd_for (H0 := H) hws (fun k σ' H' => ∃ (v : Option V) (us : List V) (ks : List (Str × List Str)), σ' = [some (.ref a), some (.ref b), some (.ref c), some (.ref l), v, none] ∧ Sm H H' ∧ H' l = some (.lst us) ∧ us.length = k ∧ Paired (KfAt K H') us ks ∧
        heldAll rights fs = (heldAll rights (fs.drop k)).map fun t => ks ++ t)
      ⟨none, [], [], rfl, s0, upd_same, rfl, .nil, by simp⟩ (fun k σ' H' p => by obtain ⟨_, _, _, _, q, _⟩ := p; exact q) (fun k x σ' H' hx p => ?_) (fun σ' H' p => ?_) (fun R hR => ⟨_, rfl, hR⟩)
    · obtain ⟨v, us, ks, rfl, s1, h1, hk, hp, he⟩ := p
      obtain ⟨f, hf, pf, bf, rfl, hf1, hf2⟩ := Paired.get hpf hx
      refine ⟨_, rfl, pf, _, rfl, .inr (s1.tup hf1), rfl, _, rfl, ifF (by simp) ?_⟩
      have hlf := lfs f (List.mem_of_getElem? hf)
      have hdrop : fs.drop k = f :: fs.drop (k + 1) := by
        have hlt : k < fs.length := (List.getElem?_eq_some_iff.mp hf).1
        rw [List.drop_eq_getElem_cons hlt]
        have := (List.getElem?_eq_some_iff.mp hf).2
        rw [this]
      refine ⟨_, rfl, .inl ⟨rfl, _, SqL.of h1⟩, _, rfl, pf, _, 0, .str f.1, rfl, rfl, s1.tup hf1, rfl, ?_⟩
      refine ⟨_, rfl, _, rfl, pf, _, 1, .ref bf, rfl, rfl, s1.tup hf1, rfl, a, bf, rights, f.2, rfl, s1.txl hri, s1.txl hf2, lr, hlf.2, g.mono s1, fun H2 p r s2 e hp2 => ?_, fun H2 s2 e => ?_⟩
      · refine ⟨by show 2 ≤ sizeLine; decide, fun t ht => ?_⟩
        have q1 : H2 l = some (.lst us) := s2.st _ _ h1 fun _ z => by cases z
        have nt : l ≠ t := ne_of_none q1 ht
        have q2 : upd H2 t (.tup [.str f.1, .ref p]) l = some (.lst us) := by rw [upd_ne nt]; exact q1
        have t1 : Tu H' (upd (upd H2 t (.tup [.str f.1, .ref p])) l (.lst (us ++ [.ref t]))) := (s2.tu.trans (Sm.new ht).tu).trans (Tu.lset q2)
        refine ⟨l, us, .ref t, rfl, rfl, q2, by
          have := (List.getElem?_eq_some_iff.mp hx).1
          have := Paired.len hpf
          unfold sizeLine; omega, some (.ref pf), us ++ [.ref t], ks ++ [(f.1, r)], rfl, ?_, upd_same, by rw [List.length_append, hk]; rfl, GD.Paired.snoc (GD.Paired.imp (fun _ _ z => z.tu t1) hp) ⟨t, p, rfl, ?_, ?_⟩, ?_⟩
        · exact Sm.own ((s1.trans s2).trans (Sm.new ht)) hl fun P tb => tabG_ne tb q2 fun _ z => by cases z
        · exact (Tu.lset q2).sqt (SqT.of upd_same)
        · exact ((Sm.new ht).tu.trans (Tu.lset q2)).sqt (SqT.of hp2)
        · rw [he, hdrop, heldAll_cons, e]
          show Option.map _ (Option.map _ _) = _
          rw [Option.map_map]
          congr 1
          funext z
          simp
      · refine kF H2 (s1.trans s2) ?_
        unfold keptFounders
        rw [he, hdrop, heldAll_cons, e]
        rfl
    · obtain ⟨v, us, ks, rfl, s1, h1, hk, hp, he⟩ := p
      have lw := Paired.len hpf
      rw [List.drop_of_length_le (by omega)] at he
      have he2 : heldAll rights fs = some ks := by rw [he]; simp [heldAll]
      have lk : us.length = ks.length := Paired.len hp
      refine rd_lcP hp (q := fun _ => true) (g := fun _ y => .str y.1) (.inl (SqL.of h1)) (by unfold sizeLine; omega) (fun x y H2 R _ _ _ hR => hR H2 Sm.refl) (fun x y H2 R hF _ _ s2 hR => ?_) (fun D H2 hD s2 h2 => ?_) (fun R hR => ⟨_, rfl, hR⟩)
      · obtain ⟨p, b, rfl, k1, _⟩ := hF
        exact ⟨_, rfl, p, _, 0, .str y.1, rfl, rfl, s2.tup k1, rfl, hR H2 Sm.refl⟩
      rw [zip_all hp (fun y => V.str y.1)] at h2
      have e1 : ks.map (fun y => V.str y.1) = (ks.map (·.1)).map V.str := by rw [List.map_map]; rfl
      rw [e1] at h2
      have none_of : checkNames (ks.map (·.1)) 5 = false → keptFounders rights sole fs = none := fun e => by
        unfold keptFounders
        rw [he2]
        show (if (checkNames (ks.map (·.1)) 5 && _) = true then some ks else none) = none
        rw [e]
        rfl
      refine ⟨D, ks.map (·.1), 5, rfl, .inl (SqL.of h2), by rw [List.length_map]; omega, fun x hx => ?_, g.mono (s1.trans s2), fun H3 s3 e => ?_, fun H3 s3 e => kF H3 ((s1.trans s2).trans s3) (none_of e)⟩
      · have hx : x ∈ ks.map (·.1) := hx
        rw [heldAll_names he2] at hx
        obtain ⟨f, hf, rfl⟩ := List.mem_map.mp hx
        exact (lfs f hf).1
      have h3 : H3 l = some (.lst us) := s3.st _ _ (s2.st _ _ h1 fun _ z => by cases z) fun _ z => by cases z
      have hp3 : Paired (KfAt K H3) us ks := GD.Paired.imp (fun _ _ z => (z.mono s2).mono s3) hp
      have end_ : keptFounders rights sole fs = if (sole.all fun r => decide ((ks.filter fun f => f.2.contains r).length ≤ 1)) = true then some ks else none := by
        unfold keptFounders
        rw [he2]
        show (if (checkNames (ks.map (·.1)) 5 && _) = true then some ks else none) = _
        rw [e, Bool.true_and]
      refine rd_for (H0 := H) (TxL.sq hso) (fun k σ' H' => ∃ (v v2 : Option V), σ' = [some (.ref a), some (.ref b), some (.ref c), some (.ref l), v, v2] ∧ Sm H H' ∧ H' l = some (.lst us) ∧ Paired (KfAt K H') us ks ∧
          (sole.take k).all (fun r => decide ((ks.filter fun f => f.2.contains r).length ≤ 1)) = true)
        ⟨v, none, rfl, (s1.trans s2).trans s3, h3, hp3, rfl⟩ (fun k σ' H' p => by obtain ⟨_, _, _, q, _⟩ := p; exact q) (fun k x σ' H' hx p => ?_) (fun σ' H' p => ?_) (fun R hR => ⟨_, rfl, hR⟩)
      · obtain ⟨v, v2, rfl, s4, h4, hp4, hall⟩ := p
        rw [List.getElem?_map] at hx
        obtain ⟨r, hr5, rfl⟩ := Option.map_eq_some_iff.mp hx
        have tk : sole.take (k + 1) = sole.take k ++ [r] := by rw [List.take_add_one, hr5]; rfl
        refine rd_lcP hp4 (q := fun y => y.2.contains r) (g := fun x _ => x) (.inl (SqL.of h4)) (by unfold sizeLine; omega) (fun x y H5 R hF _ s5 hR => ?_) (fun x y H5 R _ _ _ s5 hR => ⟨x, rfl, hR H5 Sm.refl⟩) (fun D H5 hD s5 h5 => ?_) (fun R hR => ⟨_, rfl, hR⟩)
        · obtain ⟨p, b2, rfl, k1, k2⟩ := hF
          refine ⟨_, rfl, _, rfl, p, _, 1, .ref b2, rfl, rfl, s5.tup k1, rfl, b2, y.2.map V.str, rfl, .inr (s5.tup k2), rfl, flat_strs _, _, rfl, ?_⟩
          rw [if_neg Bool.false_ne_true, inV_str]
          exact hR H5 Sm.refl
        · refine ⟨D, _, rfl, .inl (SqL.of h5), _, _, rfl, rfl, _, rfl, ?_⟩
          rw [zip_len hp4 (fun y => y.2.contains r) (fun x _ => x)]
          by_cases c1 : (ks.filter fun f => f.2.contains r).length ≤ 1
          · refine ifF (decide_eq_false (by omega)) ⟨v, some (.str r), rfl, s4.trans s5, s5.st _ _ h4 (fun _ z => by cases z), GD.Paired.imp (fun _ _ z => z.mono s5) hp4, ?_⟩
            rw [tk, List.all_append, hall, List.all_cons, List.all_nil, decide_eq_true c1]
            rfl
          · refine ifT (decide_eq_true (by omega)) (kF H5 (s4.trans s5) ?_)
            rw [end_, if_neg]
            intro z
            have := List.all_eq_true.mp z r (List.mem_of_getElem? hr5)
            exact c1 (of_decide_eq_true this)
      · obtain ⟨v, v2, rfl, s4, h4, hp4, hall⟩ := p
        rw [List.length_map, List.take_length] at hall
        rw [hall, if_pos rfl] at end_
        exact ⟨_, rfl, l, us, rfl, .inl ⟨SqL.of h4, fun t ht => kT _ t ks us (s4.trans (Sm.new ht)) end_ upd_same (GD.Paired.imp (fun _ _ z => z.mono (Sm.new ht)) hp4)⟩⟩
end
end K8

-- part C08e
set_option Elab.async false
set_option linter.all false
set_option maxRecDepth 100000
set_option maxHeartbeats 2000000
namespace K8
open PySem PySem.Spec PyProof.Rows L2 GxR GS GA GD
/-- a part of a rule: a text, a list of rights -/
inductive RI where
  | t (s : Str)
  | l (xs : List Str)
def RiAt (K : PySem.W.Frag) (H : Hp) (v : V) : RI → Prop
  | .t s => v = .str s
  | .l xs => ∃ a, v = .ref a ∧ TxL K H a xs
theorem RiAt.mono {K : PySem.W.Frag} {H H' : Hp} {v : V} {r : RI} (s : Sm H H') (h : RiAt K H v r) : RiAt K H' v r := by
  cases r with
  | t z => exact h
  | l xs => obtain ⟨a, e, h⟩ := h; exact ⟨a, e, s.txl h⟩
abbrev kinds : List (Str × Int) := [("join", 1), ("claim", 2), ("drop", 2), ("give", 3), ("take", 3), ("pass", 3)]
/-- has the rule of this kind its number of parts (n behind the kind) -/
def hasParts (kind : Str) (n : Nat) : Bool := match kinds.lookup kind with
  | none => false
  | some m => decide ((n : Int) + 1 = m + (if kind = "join" then 2 else 3))
def checkRight (kind : Str) (lss : List (List Str)) (right : Str) (sole : List Str) : Bool :=
  !((decide (kind = "claim") || decide (kind = "give")) && sole.contains right) && (!(decide (kind = "pass") && (!sole.contains right || (lss.getD 0 []).contains right)) &&
  !(((lss.getD (lss.length - 2) []).any fun x => (lss.getD (lss.length - 1) []).contains x) || ((lss.getD (lss.length - 2) []).contains right || (lss.getD (lss.length - 1) []).contains right)))
/-- a tuple of texts -/
def TtAt (K : PySem.W.Frag) (H : Hp) (v : V) (xs : List Str) : Prop := ∃ a, v = .ref a ∧ SqT K H a (xs.map V.str)
section
variable {P : Program} {w : World} {K : PySem.W.Frag} {mg : Str → Option Value} {base : Heap}
def spHasParts (K : PySem.W.Frag) : Sp := fun vs H Q _ => ∃ (p : Addr) (kind : Str) (us : List V), vs = [.ref p] ∧ SqT K H p (.str kind :: us) ∧ Q (.bl (hasParts kind us.length)) H
theorem sc_has : FnScope ["rule", "others"] ["rule"] (defScope s_has_its_parts) := ⟨rfl, rfl, rfl, by decide +kernel, rfl, by decide +kernel, by decide +kernel⟩
theorem ok_has_its_parts (T : Tx w K mg base) : ∃ fd, FnOk P w K mg base CX0 1 (He.ga K "_has_its_parts") fd ["rule"] (spHasParts K) ∧ Binds K fd ["rule"] [] ∧ PySem.W.keepIn K (.ref (He.ga K "_has_its_parts")) = true := by
  obtain ⟨fd, F⟩ := T.F__has_its_parts
  have LK := T.tab_LISTS
  refine ⟨fd, okC (k := 0) F (codeOf_at (p := ("_has_its_parts", none)) F) sc_has (fun vs H Q E h => ?_) (fun A outer s H vs Q E hr h => ?_), F.bindsN (ps := ["rule"]) fun _ _ _ _ _ _ us hl => match us, hl with | [_], _ => rfl, F.kp⟩
  · obtain ⟨p, k, us, rfl, _⟩ := h
    rfl
  · obtain ⟨p, kind, us, rfl, hp, k⟩ := h
    refine ⟨_, PSs.nox (pss_cons (ps_if (PW.pt (pw_or (pt_cmpR op_eq (pe_callB call_len_seq (by rfl) T.free_len PySem.boot_len (pa_cons (pv 0) pa_nil)) pe_int (nomark _))
        (pw_or1 (pt_cmpR op_notInK (pe_ix ix_tup (pv 0) pe_int (fun _ _ => rfl)) (pe_glob (v := .ref (He.ga K "LISTS")) rfl T.glo_LISTS rfl) (by rfl))))) (pss_one (ps_ret pe_bl)) pss_nil)
      (pss_cons (ps_set (i := 1) sc_has.nd rfl (Or.inl rfl) (pe_ifExp (pt_cmpR op_eq (pe_ix ix_tup (pv 0) pe_int (fun _ _ => rfl)) pe_str (nomark _)) pe_int pe_int))
      (pss_one (ps_ret (pe_cmpR op_eq (pe_callB call_len_seq (by rfl) T.free_len PySem.boot_len (pa_cons (pv 0) pa_nil)) (pe_op op_add (pe_ix ix_kdict (pe_glob (v := .ref (He.ga K "LISTS")) rfl T.glo_LISTS rfl) (pe_ix ix_tup (pv 0) pe_int (fun _ _ => rfl)) (fun _ _ => rfl)) (pv 1)) (nomark _)))))), ?_⟩
    refine ⟨_, rfl, p, _, rfl, .inr hp, rfl, _, rfl, ifF (decide_eq_false fun z => by
      have z : ((us.length + 1 : Nat) : Int) = 0 := V.int.inj z
      omega) ?_⟩
    refine ⟨_, rfl, p, _, 0, .str kind, rfl, rfl, hp, atI_nat (j := 0) rfl, _, kind, _, rfl, rfl, (LK kind).2, _, rfl, ?_⟩
    cases e : kinds.lookup kind with
    | none =>
      refine ifT rfl ?_
      have q : hasParts kind us.length = false := by unfold hasParts; rw [e]
      rw [q] at k
      exact k
    | some m =>
      refine ifF rfl ?_
      refine ⟨_, rfl, p, _, 0, .str kind, rfl, rfl, hp, atI_nat (j := 0) rfl, rfl, _, rfl, ?_⟩
      have q : hasParts kind us.length = decide ((us.length : Int) + 1 = m + (if kind = "join" then 2 else 3)) := by unfold hasParts; rw [e]
      have len : (((V.str kind :: us).length : Nat) : Int) = (us.length : Int) + 1 := by rw [List.length_cons]; omega
      by_cases hj : kind = "join"
      · refine ifT (decide_eq_true (congrArg V.str hj)) ?_
        rw [if_pos hj] at q
        refine ⟨_, rfl, p, _, rfl, .inr hp, _, rfl, p, _, 0, .str kind, rfl, rfl, hp, atI_nat (j := 0) rfl, _, kind, .int m, rfl, rfl, (LK kind).1 m e, _, rfl, _, _, rfl, rfl, rfl, ?_⟩
        rw [len, dec_int, Bool.beq_eq_decide_eq, ← q]
        exact k
      · refine ifF (decide_eq_false fun z => hj (V.str.inj z)) ?_
        rw [if_neg hj] at q
        refine ⟨_, rfl, p, _, rfl, .inr hp, _, rfl, p, _, 0, .str kind, rfl, rfl, hp, atI_nat (j := 0) rfl, _, kind, .int m, rfl, rfl, (LK kind).1 m e, _, rfl, _, _, rfl, rfl, rfl, ?_⟩
        rw [len, dec_int, Bool.beq_eq_decide_eq, ← q]
        exact k
def spCheckRight (K : PySem.W.Frag) : Sp := fun vs H Q E => ∃ (kind right : Str) (lp sp : Addr) (us : List V) (lss : List (List Str)) (sole : List Str), vs = [.str kind, .ref lp, .str right, .ref sp] ∧ SqL K H lp us ∧ Paired (TtAt K H) us lss ∧ 2 ≤ lss.length ∧ TxL K H sp sole ∧ Gd K H ∧
  (∀ H', Sm H H' → checkRight kind lss right sole = true → Q .non H') ∧ ∀ H', Sm H H' → checkRight kind lss right sole = false → E (.ref (IC K)) none H'
theorem sc_check_right : FnScope ["kind", "lists", "right", "sole", "asked", "lacks"] ["kind", "lists", "right", "sole"] (defScope s_check_right) := ⟨rfl, rfl, rfl, by decide +kernel, rfl, by decide +kernel, by decide +kernel⟩
theorem ok_check_right (T : Tx w K mg base) : ∃ fd, FnOk P w K mg base (L2.CX P w) 2 (He.ga K "_check_right") fd ["kind", "lists", "right", "sole"] (spCheckRight K) ∧ Binds K fd ["kind", "lists", "right", "sole"] [] ∧ PySem.W.keepIn K (.ref (He.ga K "_check_right")) = true := by
  obtain ⟨fd, F⟩ := T.F__check_right
  obtain ⟨fdS, GSh, bS, kS⟩ := ok_share (P := P) T
  refine ⟨fd, okC (k := 1) F (codeOf_at (p := ("_check_right", none)) F) sc_check_right (fun vs H Q E h => ?_) (fun A outer s H vs Q E hr h => ?_), F.bindsN (ps := ["kind", "lists", "right", "sole"]) fun _ _ _ _ _ _ us hl => match us, hl with | [_, _, _, _], _ => rfl, F.kp⟩
  · obtain ⟨a, b, c, d, e, f, g, rfl, _⟩ := h
    rfl
  · obtain ⟨kind, right, lp, sp, us, lss, sole, rfl, hlp, hp, h2, hso, g, kT, kF⟩ := h
    have nd := sc_check_right.nd
    refine ⟨_, pss_cons (ps_if (PW.pt (pw_and (pt_cmpR op_in_seq (pv 0) (pe_tup (pa_cons pe_str (pa_cons pe_str pa_nil))) (by rfl)) (pw_and1 (pt_cmpR op_in_seq (pv 2) (pv 3) (by rfl))))) (pss_one (raiseIC T rfl (takes_of rfl rfl rfl rfl) rfl)) pss_nil)
      (pss_cons (ps_if (PW.pt (pw_and (pt_cmpR op_eq (pv 0) pe_str (nomark _)) (pw_and1 (PW.pt (pw_or (pt_cmpR op_notIn_seq (pv 2) (pv 3) (by rfl)) (pw_or1 (pt_cmpR op_in_seq (pv 2) (pe_ix ix_list (pv 1) pe_int (fun _ _ => rfl)) (by rfl)))))))) (pss_one (raiseIC T rfl (takes_of rfl rfl rfl rfl) rfl)) pss_nil)
      (pss_cons (ps_asg (pe_slice sl_list (pv 1) (po_some (pe_un un_neg pe_int)) po_none) (pg_unl rfl (pgs_cons (pg_name (i := 4) nd rfl (Or.inl rfl)) (pgs_cons (pg_name (i := 5) nd rfl (Or.inl rfl)) pgs_nil))))
      (pss_one (ps_if (PW.pt (pw_or (pt_val (pe_call GSh (hr.mono (by decide)) rfl T.glo__share kS bS .nil pass0 (pa_cons (pv 4) (pa_cons (pv 5) pa_nil)))) (pw_or (pt_cmpR op_in_seq (pv 2) (pv 4) (by rfl)) (pw_or1 (pt_cmpR op_in_seq (pv 2) (pv 5) (by rfl)))))) (pss_one (raiseIC T rfl (takes_of rfl rfl rfl rfl) rfl)) pss_nil)))), ?_⟩
    obtain ⟨pu, u1, u2, rfl⟩ : ∃ pu u1 u2, us = pu ++ [u1, u2] := by
      have l1 := Paired.len hp
      refine ⟨us.take (us.length - 2), us[us.length - 2]'(by omega), us[us.length - 1]'(by omega), ?_⟩
      have e : us.drop (us.length - 2) = [us[us.length - 2]'(by omega), us[us.length - 1]'(by omega)] := by
        rw [List.drop_eq_getElem_cons (by omega), List.drop_eq_getElem_cons (by omega), List.drop_of_length_le (by omega)]
        congr 3
        omega
      rw [← e, List.take_append_drop]
    have lp' : pu.length + 2 = lss.length := by rw [← Paired.len hp, List.length_append]; rfl
    obtain ⟨xs, hxs, q1, rfl, k1⟩ := Paired.get (i := pu.length) hp (by rw [List.getElem?_append_right (Nat.le_refl _), Nat.sub_self]; rfl)
    obtain ⟨ys, hys, q2, rfl, k2⟩ := Paired.get (i := pu.length + 1) hp (by rw [List.getElem?_append_right (by omega), Nat.add_sub_cancel_left]; rfl)
    obtain ⟨zs, hzs, q0, e0, k0⟩ : ∃ zs, lss[0]? = some zs ∧ ∃ q0, (pu ++ [V.ref q1, V.ref q2])[0]? = some (.ref q0) ∧ SqT K H q0 (zs.map V.str) := by
      have hlt : 0 < (pu ++ [V.ref q1, V.ref q2]).length := by rw [List.length_append]; show 0 < pu.length + 2; omega
      obtain ⟨zs, h1, q0, h2, h3⟩ := Paired.get (i := 0) hp (List.getElem?_eq_getElem hlt)
      exact ⟨zs, h1, q0, by rw [List.getElem?_eq_getElem hlt, h2], h3⟩
    have d0 : lss.getD 0 [] = zs := by rw [List.getD_eq_getElem?_getD, hzs]; rfl
    have d1 : lss.getD (lss.length - 2) [] = xs := by rw [List.getD_eq_getElem?_getD, show lss.length - 2 = pu.length by omega, hxs]; rfl
    have d2 : lss.getD (lss.length - 1) [] = ys := by rw [List.getD_eq_getElem?_getD, show lss.length - 1 = pu.length + 1 by omega, hys]; rfl
    have inT : ∀ {H' : Hp} {a : Addr} {x : Str} {ys : List Str} {R : V → Hp → Prop}, TxL K H' a ys → R (.bl (ys.contains x)) H' → rIn K false (.str x) (.ref a) H' R := fun h q => ⟨_, _, rfl, h, rfl, flat_strs _, by rw [if_neg Bool.false_ne_true, inV_str]; exact q⟩
    have niT : ∀ {H' : Hp} {a : Addr} {x : Str} {ys : List Str} {R : V → Hp → Prop}, TxL K H' a ys → R (.bl (!ys.contains x)) H' → rIn K true (.str x) (.ref a) H' R := fun h q => ⟨_, _, rfl, h, rfl, flat_strs _, by rw [if_pos rfl, inV_str]; exact q⟩
    refine rd_ifN ((decide (kind = "claim") || decide (kind = "give")) && sole.contains right) (fun R hR => ?_) (fun e H1 s1 => kF H1 s1 ?_) (fun e1 H1 s1 => ?_)
    · refine ⟨_, rfl, by show 2 ≤ sizeLine; decide, fun t ht => ⟨t, [.str "claim", .str "give"], rfl, .inr (SqT.of upd_same), rfl, rfl, _, rfl, ?_⟩⟩
      have e : (if false = true then !inV (.str kind) [.str "claim", .str "give"] else inV (.str kind) [.str "claim", .str "give"]) = (decide (kind = "claim") || decide (kind = "give")) := by
        rw [if_neg Bool.false_ne_true]
        show ((("claim" : Str) == kind) || ((("give" : Str) == kind) || false)) = _
        rw [Bool.or_false, Bool.beq_eq_decide_eq, Bool.beq_eq_decide_eq]
        congr 1 <;> exact decide_eq_decide.mpr ⟨Eq.symm, Eq.symm⟩
      rw [e]
      cases c1 : (decide (kind = "claim") || decide (kind = "give")) with
      | false =>
        rw [c1] at hR
        exact ifF rfl (hR _ (Sm.new ht))
      | true =>
        rw [c1] at hR
        exact ifT rfl ⟨_, rfl, _, rfl, inT ((Sm.new ht).txl hso) ⟨_, rfl, hR _ (Sm.new ht)⟩⟩
    · unfold checkRight
      rw [e]
      rfl
    refine rd_ifN (decide (kind = "pass") && (!sole.contains right || zs.contains right)) (fun R hR => ?_) (fun e H2 s2 => kF H2 (s1.trans s2) ?_) (fun e2 H2 s2 => ?_)
    · refine ⟨_, rfl, rfl, _, rfl, ?_⟩
      by_cases hk : kind = "pass"
      · rw [decide_eq_true hk] at hR
        refine ifT (decide_eq_true (congrArg V.str hk)) ⟨_, rfl, _, rfl, niT (s1.txl hso) ⟨_, rfl, ?_⟩⟩
        cases c1 : sole.contains right with
        | false =>
          rw [c1] at hR
          exact ifT rfl (hR H1 Sm.refl)
        | true =>
          rw [c1] at hR
          exact ifF rfl ⟨_, rfl, _, rfl, lp, _, 0, _, rfl, rfl, s1.lst hlp, atI_nat (j := 0) e0, inT (.inr (s1.tup k0)) ⟨_, rfl, hR H1 Sm.refl⟩⟩
      · rw [decide_eq_false hk] at hR
        exact ifF (decide_eq_false fun z => hk (V.str.inj z)) (hR H1 Sm.refl)
    · unfold checkRight
      rw [d0, e, e1]
      rfl
    have s12 := s1.trans s2
    refine ⟨_, rfl, _, rfl, _, rfl, lp, _, rfl, s12.lst hlp, fun p hp2 => ?_⟩
    have cut : cutV (pu ++ [V.ref q1, V.ref q2]) (some (-2)) none = [V.ref q1, V.ref q2] := by
      unfold cutV
      have el : (pu ++ [V.ref q1, V.ref q2]).length = pu.length + 2 := by rw [List.length_append]; rfl
      have e1 : HT.sIx (pu ++ [V.ref q1, V.ref q2]).length 0 (some (-2)) = pu.length := by
        rw [el]
        show (if (-2 : Int) < 0 then ((-2 : Int) + ((pu.length + 2 : Nat) : Int)).toNat else min (-2 : Int).toNat (pu.length + 2)) = pu.length
        rw [if_pos (by decide)]
        omega
      have e2 : HT.sIx (pu ++ [V.ref q1, V.ref q2]).length (pu ++ [V.ref q1, V.ref q2]).length none = pu.length + 2 := el
      rw [e1, e2, List.drop_left, Nat.add_sub_cancel_left]
      exact List.take_of_length_le (Nat.le_refl 2)
    have hp3 : upd H2 p (.lst (cutV (pu ++ [V.ref q1, V.ref q2]) (some (-2)) none)) p = some (.lst [V.ref q1, V.ref q2]) := by rw [upd_same, cut]
    have s3 : Sm H (upd H2 p (.lst (cutV (pu ++ [V.ref q1, V.ref q2]) (some (-2)) none))) := s12.trans (Sm.new hp2)
    have last : checkRight kind lss right sole = !((xs.any fun x => ys.contains x) || (xs.contains right || ys.contains right)) := by
      unfold checkRight
      rw [d0, d1, d2, e1, e2]
      rfl
    refine ⟨p, [V.ref q1, V.ref q2], rfl, SqL.of hp3, rfl, V.ref q1, [V.ref q2], rfl, V.ref q2, [], rfl, rfl, ?_⟩
    generalize upd H2 p (.lst (cutV (pu ++ [V.ref q1, V.ref q2]) (some (-2)) none)) = H3 at s3 ⊢
    dsimp only
    refine rd_if1 (D := { nx := fun _ H' => Q .non H', rt := Q }) ((xs.any fun x => ys.contains x) || (xs.contains right || ys.contains right)) (fun R hR => ?_) (fun e H4 s4 => ?_) (fun e H4 s4 => ?_)
    rotate_left
    · exact kF H4 (s3.trans s4) (by rw [last, e]; rfl)
    · exact kT H4 (s3.trans s4) (by rw [last, e]; rfl)
    refine ⟨_, rfl, _, rfl, q1, q2, xs, ys, rfl, .inr (s3.tup k1), .inr (s3.tup k2), g.mono s3, fun H4 s4 => ⟨_, rfl, ?_⟩⟩
    cases c1 : xs.any fun x => ys.contains x with
    | true =>
      rw [c1] at hR
      exact ifT rfl (hR H4 s4)
    | false =>
      rw [c1] at hR
      refine ifF rfl ⟨_, rfl, _, rfl, inT (.inr ((s3.trans s4).tup k1)) ⟨_, rfl, ?_⟩⟩
      cases c2 : xs.contains right with
      | true =>
        rw [c2] at hR
        exact ifT rfl (hR H4 s4)
      | false =>
        rw [c2] at hR
        exact ifF rfl ⟨_, rfl, _, rfl, inT (.inr ((s3.trans s4).tup k2)) ⟨_, rfl, hR H4 s4⟩⟩
end
end K8

-- part C08f
set_option Elab.async false
set_option linter.all false
set_option maxRecDepth 100000
set_option maxHeartbeats 2000000
namespace K8
open PySem PySem.Spec PyProof.Rows L2 GxR GS GA GD
/-- a rule: its kind, its name, its lists of rights, its right -/
structure Ru where
  kind : Str
  name : Str
  ls : List (List Str)
  right : Option Str
def Ru.n (r : Ru) : Nat := 1 + r.ls.length + (if r.right.isSome then 1 else 0)
/-- a list or a tuple of texts, as a value -/
def TlAt (K : PySem.W.Frag) (H : Hp) (v : V) (xs : List Str) : Prop := ∃ a, v = .ref a ∧ TxL K H a xs
def RuAt (K : PySem.W.Frag) (H : Hp) (v : V) (r : Ru) : Prop := ∃ p us, v = .ref p ∧ SqT K H p (.str r.kind :: .str r.name :: (us ++ r.right.toList.map V.str)) ∧ Paired (TlAt K H) us r.ls
/-- a rule as it is kept -/
def KrAt (K : PySem.W.Frag) (H : Hp) (v : V) (r : Ru) : Prop := ∃ p us, v = .ref p ∧ SqT K H p (.str r.kind :: .str r.name :: (us ++ r.right.toList.map V.str)) ∧ Paired (TtAt K H) us r.ls
theorem RuAt.mono {K : PySem.W.Frag} {H H' : Hp} {v : V} {r : Ru} (s : Sm H H') (h : RuAt K H v r) : RuAt K H' v r :=
  let ⟨p, us, e, h1, h2⟩ := h; ⟨p, us, e, s.tup h1, GD.Paired.imp (fun _ _ ⟨a, e, z⟩ => ⟨a, e, s.txl z⟩) h2⟩
theorem KrAt.tu {K : PySem.W.Frag} {H H' : Hp} {v : V} {r : Ru} (s : Tu H H') (h : KrAt K H v r) : KrAt K H' v r :=
  let ⟨p, us, e, h1, h2⟩ := h; ⟨p, us, e, s.sqt h1, GD.Paired.imp (fun _ _ ⟨a, e, z⟩ => ⟨a, e, s.sqt z⟩) h2⟩
def listAll (rights : List Str) : List (List Str) → Option (List (List Str))
  | [] => some []
  | l :: r => (listed rights l).bind fun h => (listAll rights r).map fun t => h :: t
def keptRule (rights sole : List Str) (r : Ru) : Option Ru :=
  if hasParts r.kind r.n = false then none else match r.right with
  | none => (listed rights (r.ls.getD 0 [])).bind fun h => if (h.any fun x => sole.contains x) = true then none else some ⟨r.kind, r.name, [h], none⟩
  | some right => if rights.contains right = false then none else (listAll rights r.ls).bind fun ls => if checkRight r.kind ls right sole = true then some ⟨r.kind, r.name, ls, some right⟩ else none
/-- the parts go with the kind; the lists of a rule with a known right can be listed -/
structure RuOk (rights : List Str) (r : Ru) : Prop where
  join : hasParts r.kind r.n = true → (r.kind = "join" ↔ r.right = none)
  lists : ∀ right, hasParts r.kind r.n = true → r.right = some right → rights.contains right = true → (listAll rights r.ls).isSome = true
  short : ∀ l ∈ r.ls, l.length ≤ 4000
theorem listAll_some {rights : List Str} : ∀ {ls : List (List Str)}, (listAll rights ls).isSome = true → listAll rights ls = some (ls.map fun l => (listed rights l).getD []) ∧ ∀ l ∈ ls, listed rights l = some ((listed rights l).getD [])
  | [], _ => ⟨rfl, fun _ h => by cases h⟩
  | l :: r, h => by
    have e : listAll rights (l :: r) = (listed rights l).bind fun h => (listAll rights r).map fun t => h :: t := rfl
    rw [e] at h ⊢
    cases q : listed rights l with
    | none => rw [q] at h; cases h
    | some x =>
      rw [q] at h
      have h2 : (listAll rights r).isSome = true := by simpa using h
      obtain ⟨i1, i2⟩ := listAll_some h2
      refine ⟨?_, fun y hy => ?_⟩
      · rw [i1]
        show some (x :: _) = some ((listed rights l).getD [] :: _)
        rw [q]; rfl
      · rcases List.mem_cons.mp hy with rfl | hy
        · rw [q]; rfl
        · exact i2 y hy
theorem paired_one {α β : Type} {F : α → β → Prop} {us : List α} {y : β} (h : Paired F us [y]) : ∃ u, us = [u] ∧ F u y := by
  cases h with
  | cons h t => cases t; exact ⟨_, rfl, h⟩
theorem cut_lo {a b c : V} (us : List V) : ¬ HT.sIx (a :: b :: (us ++ [c])).length 0 (some 2) = 0 := by
  intro z
  have e : HT.sIx (a :: b :: (us ++ [c])).length 0 (some 2) = min 2 (a :: b :: (us ++ [c])).length := rfl
  rw [e] at z
  simp only [List.length_cons] at z
  omega
theorem cut_mid {a b c : V} (us : List V) : cutV (a :: b :: (us ++ [c])) (some 2) (some (-1)) = us := by
  have el : (a :: b :: (us ++ [c])).length = us.length + 3 := by simp
  have e1 : HT.sIx (a :: b :: (us ++ [c])).length 0 (some 2) = 2 := by
    show min 2 (a :: b :: (us ++ [c])).length = 2
    omega
  have e2 : HT.sIx (a :: b :: (us ++ [c])).length (a :: b :: (us ++ [c])).length (some (-1)) = us.length + 2 := by
    rw [el]
    show (if (-1 : Int) < 0 then ((-1 : Int) + ((us.length + 3 : Nat) : Int)).toNat else min (-1 : Int).toNat (us.length + 3)) = us.length + 2
    rw [if_pos (by decide)]
    omega
  unfold cutV
  rw [e1, e2]
  show (us ++ [c]).take (us.length + 2 - 2) = us
  rw [Nat.add_sub_cancel, List.take_left]
section
variable {P : Program} {w : World} {K : PySem.W.Frag} {mg : Str → Option Value} {base : Heap}
def spKeptRule (K : PySem.W.Frag) : Sp := fun vs H Q E => ∃ (a b : Addr) (v : V) (rights sole : List Str) (r : Ru), vs = [.ref a, .ref b, v] ∧ SqT K H a (rights.map V.str) ∧ TxL K H b sole ∧ RuAt K H v r ∧ rights.length ≤ 4000 ∧ RuOk rights r ∧ Gd K H ∧
  (∀ H' u r', Sm H H' → keptRule rights sole r = some r' → KrAt K H' u r' → Q u H') ∧ ∀ H', Sm H H' → keptRule rights sole r = none → E (.ref (IC K)) none H'
abbrev Nkr : List Str := ["rights", "sole", "rule", "held", "right", "lists", "words"]
theorem sc_kept_rule : FnScope Nkr ["rights", "sole", "rule"] (defScope s_kept_rule) := ⟨rfl, rfl, rfl, by decide +kernel, rfl, by decide +kernel, by decide +kernel⟩
theorem ok_kept_rule (T : Tx w K mg base) : ∃ fd, FnOk P w K mg base (L2.CX P w) 5 (He.ga K "_kept_rule") fd ["rights", "sole", "rule"] (spKeptRule K) ∧ Binds K fd ["rights", "sole", "rule"] [] ∧ PySem.W.keepIn K (.ref (He.ga K "_kept_rule")) = true := by
  obtain ⟨fd, F⟩ := T.F__kept_rule
  obtain ⟨fdH, GH, bH, kH⟩ := ok_has_its_parts (P := P) T
  obtain ⟨fdL, GL, bL, kL⟩ := ok_listed (P := P) T
  obtain ⟨fdS, GSh, bS, kS⟩ := ok_share (P := P) T
  obtain ⟨fdC, GC, bC, kC⟩ := ok_check_right (P := P) T
  refine ⟨fd, okC (k := 4) F (codeOf_at (p := ("_kept_rule", none)) F) sc_kept_rule (fun vs H Q E h => ?_) (fun A outer s H vs Q E hr h => ?_), F.bindsN (ps := ["rights", "sole", "rule"]) fun _ _ _ _ _ _ us hl => match us, hl with | [_, _, _], _ => rfl, F.kp⟩
  · obtain ⟨a, b, c, d, e, f, rfl, _⟩ := h
    rfl
  · obtain ⟨a, b, v, rights, sole, r, rfl, hri, hso, hru, lr, ok, g, kT, kF⟩ := h
    have nd := sc_kept_rule.nd
    have r1 : ∀ {k : Nat}, k ≤ 4 → Room k (A.deeper (envOfC "_kept_rule" (defScope s_kept_rule) s.heap.objs.size (He.ga K "_kept_rule") (Value.ref (He.codeOf K ("_kept_rule", none))))) := fun h => hr.mono h
    refine ⟨_, pss_cons (ps_if (pt_not (pt_val (pe_call GH (r1 (by decide)) rfl T.glo__has_its_parts kH bH .nil pass0 (pa_cons (pv 2) pa_nil)))) (pss_one (raiseIC T rfl (takes_of rfl rfl rfl rfl) rfl)) pss_nil)
      (pss_cons (ps_if (pt_cmpR op_eq (pe_ix ix_tup (pv 2) pe_int (fun _ _ => rfl)) pe_str (nomark _))
          (pss_cons (ps_set (i := 3) nd rfl (Or.inl rfl) (pe_call GL (r1 (by decide)) rfl T.glo__listed kL bL .nil (passX (takes_of rfl rfl rfl rfl)) (pa_cons (pv 0) (pa_cons (pe_ix ix_tup (pv 2) pe_int (fun _ _ => rfl)) pa_nil))))
          (pss_cons (ps_if (pt_val (pe_call GSh (r1 (by decide)) rfl T.glo__share kS bS .nil pass0 (pa_cons (pv 3) (pa_cons (pv 1) pa_nil)))) (pss_one (raiseIC T rfl (takes_of rfl rfl rfl rfl) rfl)) pss_nil)
          (pss_one (ps_ret (pe_tup (pa_cons pe_str (pa_cons (pe_ix ix_tup (pv 2) pe_int (fun _ _ => rfl)) (pa_cons (pv 3) pa_nil)))))))) pss_nil)
      (pss_cons (ps_set (i := 4) nd rfl (Or.inl rfl) (pe_ix ix_tup (pv 2) (pe_un un_neg pe_int) (fun _ _ => rfl)))
      (pss_cons (ps_if (pt_cmpR op_notIn_seq (pv 4) (pv 0) (by rfl)) (pss_one (raiseIC T rfl (takes_of rfl rfl rfl rfl) rfl)) pss_nil)
      (pss_cons (ps_setLcI (i := 5) (own := [("words", 6)]) (g := gName 6) (tt := tYes) (te := tCall (fun vs H Q _ => spListed K vs H Q fun _ _ _ => False) [] E0 (tCons (tVar 0) (tCons (tVar 6) tNil))) rfl nd rfl rfl (sw_true rfl rfl rfl (by decide +kernel))
          (pi_sq (pe_slice sl_tupA (pv 2) (po_some pe_int) (po_some (pe_un un_neg pe_int)))) (blkOk_by (own := [("words", 6)]) (N := Nkr) (sc := defScope s_kept_rule) (by decide +kernel))
          (fun _ _ _ _ _ => pg_name (i := 6) nd rfl (Or.inl rfl)) (fun _ _ _ _ _ => pts_nil) (fun _ _ _ _ _ => pe_call (quiet GL) (r1 (by decide)) rfl T.glo__listed kL bL .nil pass0 (pa_cons (pv 0) (pa_cons (pv 6) pa_nil))))
      (pss_cons (ps_expr (pe_call GC (r1 (by decide)) rfl T.glo__check_right kC bC .nil (passX (takes_of rfl rfl rfl rfl)) (pa_cons (pe_ix ix_tup (pv 2) pe_int (fun _ _ => rfl)) (pa_cons (pv 5) (pa_cons (pv 4) (pa_cons (pv 1) pa_nil))))))
      (pss_one (ps_ret (pe_tup (pa_cons (pe_ix ix_tup (pv 2) pe_int (fun _ _ => rfl)) (pa_cons (pe_ix ix_tup (pv 2) pe_int (fun _ _ => rfl)) (StX.pa_star (pv 5) (pa_cons (pv 4) pa_nil)))))))))))), ?_⟩
    obtain ⟨pr, us, rfl, hrp, hus⟩ := hru
    have ln : (V.str r.name :: (us ++ r.right.toList.map V.str)).length = r.n := by
      unfold Ru.n
      rw [List.length_cons, List.length_append, List.length_map, Paired.len hus]
      cases r.right <;> simp <;> omega
    refine rd_ifN (!hasParts r.kind r.n) (fun R hR => ?_) (fun e H1 s1 => kF H1 s1 ?_) (fun e1 H1 s1 => ?_)
    · rw [← ln] at hR
      exact ⟨_, rfl, pr, r.kind, _, rfl, hrp, _, rfl, hR H Sm.refl⟩
    · unfold keptRule
      have e2 : hasParts r.kind r.n = false := by simpa using e
      rw [if_pos e2]
    have e1 : hasParts r.kind r.n = true := by simpa using e1
    have k0 : keptRule rights sole r = match r.right with
        | none => (listed rights (r.ls.getD 0 [])).bind fun h => if (h.any fun x => sole.contains x) = true then none else some ⟨r.kind, r.name, [h], none⟩
        | some right => if rights.contains right = false then none else (listAll rights r.ls).bind fun ls => if checkRight r.kind ls right sole = true then some ⟨r.kind, r.name, ls, some right⟩ else none := by
      unfold keptRule
      rw [e1]
      rfl
    have jn := ok.join e1
    refine rd_ifN (decide (r.kind = "join")) (fun R hR => ?_) (fun e H2 s2 => ?_) (fun e2 H2 s2 => ?_)
    · refine ⟨_, rfl, pr, _, 0, .str r.kind, rfl, rfl, s1.tup hrp, at0, rfl, _, rfl, ?_⟩
      have e : decide (V.str r.kind = V.str "join") = decide (r.kind = "join") := decide_eq_decide.mpr ⟨V.str.inj, congrArg _⟩
      rw [e]
      exact hR H1 Sm.refl
    · have hk : r.kind = "join" := of_decide_eq_true e
      have hr0 : r.right = none := jn.mp hk
      rw [hr0] at k0
      have l1 : r.ls.length = 1 := by
        have q := e1
        unfold hasParts Ru.n at q
        rw [hk, hr0] at q
        have q2 : decide (((1 + r.ls.length + 0 : Nat) : Int) + 1 = 1 + 2) = true := q
        have := of_decide_eq_true q2
        omega
      obtain ⟨l0, e0⟩ := List.length_eq_one_iff.mp l1
      rw [e0] at hus
      obtain ⟨u0, rfl, b0, rfl, hb0⟩ := paired_one hus
      rw [hr0, hk] at hrp
      have s12 := s1.trans s2
      have hl0 : l0.length ≤ 4000 := ok.short _ (by rw [e0]; exact List.mem_cons_self ..)
      rw [e0] at k0
      refine ⟨_, rfl, _, rfl, pr, _, 2, .ref b0, rfl, rfl, s12.tup hrp, atI_nat (j := 2) rfl, a, b0, rights, l0, rfl, .inr (s12.tup hri), s12.txl hb0, lr, hl0, g.mono s12, fun H3 p h s3 e hp => ?_, fun H3 s3 e => kF H3 (s12.trans s3) ?_⟩
      rotate_left
      · rw [k0]
        show (listed rights l0).bind _ = none
        rw [e]; rfl
      have k1 : keptRule rights sole r = if (h.any fun x => sole.contains x) = true then none else some ⟨r.kind, r.name, [h], none⟩ := by
        rw [k0]
        show (listed rights l0).bind _ = _
        rw [e]; rfl
      have s13 := s12.trans s3
      dsimp only [gName]
      refine rd_ifN (h.any fun x => sole.contains x) (fun R hR => ⟨_, rfl, _, rfl, p, b, h, sole, rfl, .inr (SqT.of hp), s13.txl hso, g.mono s13, fun H4 s4 => ⟨_, rfl, hR H4 s4⟩⟩) (fun e5 H4 s4 => kF H4 (s13.trans s4) (by rw [k1, e5]; rfl)) (fun e5 H4 s4 => ?_)
      rw [e5, hk] at k1
      have s14 := s13.trans s4
      refine ⟨_, rfl, pr, _, 1, .str r.name, rfl, rfl, s14.tup hrp, atI_nat (j := 1) rfl, _, rfl, by show 3 ≤ sizeLine; decide, fun t ht => ?_⟩
      refine kT _ _ ⟨"join", r.name, [h], none⟩ (s14.trans (Sm.new ht)) k1 ⟨t, [.ref p], rfl, SqT.of upd_same, .cons ⟨p, rfl, ?_⟩ .nil⟩
      exact ((Sm.new ht).tup (s4.tup (SqT.of hp)))
    · have hk : r.kind ≠ "join" := of_decide_eq_false e2
      obtain ⟨right, hr0⟩ : ∃ right, r.right = some right := by
        cases q : r.right with
        | none => exact absurd (jn.mpr q) hk
        | some x => exact ⟨x, rfl⟩
      rw [hr0] at k0 hrp
      have hrp : SqT K H pr (.str r.kind :: .str r.name :: (us ++ [V.str right])) := hrp
      have s12 := s1.trans s2
      obtain ⟨l2, l3⟩ : 2 ≤ r.ls.length ∧ r.ls.length ≤ 3 := by
        have q := e1
        unfold hasParts Ru.n at q
        rw [hr0] at q
        revert q
        cases lk : kinds.lookup r.kind with
        | none => intro q; cases q
        | some m =>
          intro q
          have q2 : ((1 + r.ls.length + 1 : Nat) : Int) + 1 = m + (if r.kind = "join" then 2 else 3) := of_decide_eq_true q
          rw [if_neg hk] at q2
          have hm := lookup_some lk
          simp only [List.mem_cons, Prod.mk.injEq, List.mem_nil_iff, or_false] at hm
          rcases hm with ⟨hm, _⟩ | ⟨_, hm⟩ | ⟨_, hm⟩ | ⟨_, hm⟩ | ⟨_, hm⟩ | ⟨_, hm⟩
          · exact absurd hm hk
          all_goals omega
      have lu : us.length = r.ls.length := Paired.len hus
      refine ⟨_, rfl, _, rfl, pr, _, -1, .str right, rfl, rfl, s12.tup hrp, atI_last (V.str r.kind :: V.str r.name :: us) (V.str right), ?_⟩
      dsimp only [gName]
      refine rd_ifN (!rights.contains right) (fun R hR => ⟨_, rfl, _, rfl, niT (.inr (s12.tup hri)) ⟨_, rfl, hR H2 Sm.refl⟩⟩) (fun e3 H3 s3 => kF H3 (s12.trans s3) ?_) (fun e3 H3 s3 => ?_)
      · have e3 : rights.contains right = false := by simpa using e3
        rw [k0]
        show (if rights.contains right = false then none else _) = none
        rw [if_pos e3]
      have e3 : rights.contains right = true := by simpa using e3
      have s13 := s12.trans s3
      obtain ⟨la, hal⟩ := listAll_some (ok.lists right e1 hr0 e3)
      have k1 : keptRule rights sole r = if checkRight r.kind (r.ls.map fun l => (listed rights l).getD []) right sole = true then some ⟨r.kind, r.name, r.ls.map fun l => (listed rights l).getD [], some right⟩ else none := by
        rw [k0]
        show (if rights.contains right = false then none else _) = _
        rw [if_neg (by rw [e3]; decide), la]
        rfl
      refine rd_lcR (K := K) (Rel := TtAt K) (h := fun l => (listed rights l).getD []) (tl := tSl (rSlA K) (tVar 2) (tPart (tC (V.int 2))) (tPart (tUn (rU fun i => V.int (-i)) (tC (V.int 1))))) hus (by unfold sizeLine; omega) (fun R hR => ?_) (fun t ⟨a, e, z⟩ => ⟨a, e, t.sqt z⟩) (fun x y H4 R hF hm s4 hR => ?_) (fun D H4 vs hD s4 h4 hp4 => ?_)
      · refine ⟨_, rfl, _, rfl, _, rfl, _, rfl, pr, _, rfl, s13.tup hrp, fun z => absurd z.1 (cut_lo us), fun _ t ht => hR t _ (Sm.new ht) (.inr (SqT.of ?_))⟩
        show upd H3 t _ t = _
        rw [upd_same, cut_mid us]
      · obtain ⟨b0, rfl, hb0⟩ := hF
        have s14 := s13.trans s4
        refine ⟨_, rfl, _, rfl, a, b0, rights, y, rfl, .inr (s14.tup hri), s14.txl hb0, lr, ok.short _ hm, g.mono s14, fun H5 p h s5 e hp => ?_, fun H5 s5 e => ?_⟩
        · refine hR _ H5 s5 ⟨p, rfl, ?_⟩
          rw [e]
          exact SqT.of hp
        · rw [hal y hm] at e
          cases e
      · have s14 := s13.trans s4
        refine ⟨_, rfl, pr, _, 0, .str r.kind, rfl, rfl, s14.tup hrp, at0, _, rfl, _, rfl, _, rfl, r.kind, right, D, b, vs, _, sole, rfl, SqL.of h4, hp4, by rw [List.length_map]; exact l2, s14.txl hso, g.mono s14, fun H5 s5 e => ?_, fun H5 s5 e => kF H5 (s14.trans s5) (by rw [k1, e]; rfl)⟩
        have s15 := s14.trans s5
        rw [if_pos e] at k1
        refine ⟨_, rfl, pr, _, 0, .str r.kind, rfl, rfl, s15.tup hrp, at0, _, rfl, pr, _, 1, .str r.name, rfl, rfl, s15.tup hrp, atI_nat (j := 1) rfl, _, rfl, D, vs, rfl, .inr (s5.lst (SqL.of h4)), _, rfl, ?_, fun t ht => ?_⟩
        · have := Paired.len hp4
          simp only [List.length_map, List.length_cons, List.length_append, List.length_nil] at this ⊢
          unfold sizeLine; omega
        · refine kT _ _ _ (s15.trans (Sm.new ht)) k1 ⟨t, vs, rfl, SqT.of upd_same, GD.Paired.imp (fun _ _ ⟨a, e, z⟩ => ⟨a, e, ((s5.trans (Sm.new ht)).tup z)⟩) hp4⟩
end
end K8

-- part C08g
set_option Elab.async false
set_option linter.all false
set_option maxRecDepth 100000
set_option maxHeartbeats 2000000
namespace K8
open PySem PySem.Spec PyProof.Rows L2 GxR GS GA GD
/-- all that is tracked stands, but for the instance x -/
structure Sx (x : Addr) (H H' : Hp) : Prop where
  st : ∀ b o, b ≠ x → H b = some o → (∀ ps, o ≠ .tbl ps) → H' b = some o
  tb : ∀ P, TabG H P → TabG H' P
  fr : ∀ b, H' b = none → H b = none
  ins : ∃ C dx fs, H x = some (.ins C dx fs)
  ins' : ∃ C dx fs, H' x = some (.ins C dx fs)
theorem Sx.of {x : Addr} {H H' : Hp} (s : Sm H H') (h : ∃ C dx fs, H x = some (.ins C dx fs)) : Sx x H H' :=
  ⟨fun b o _ e n => s.st b o e n, s.tb, s.fr, h, let ⟨C, dx, fs, e⟩ := h; ⟨C, dx, fs, s.st _ _ e fun _ z => by cases z⟩⟩
theorem Sx.trans {x : Addr} {A B C : Hp} (a : Sx x A B) (b : Sx x B C) : Sx x A C :=
  ⟨fun y o n e z => b.st y o n (a.st y o n e z) z, fun P t => b.tb P (a.tb P t), fun y e => a.fr y (b.fr y e), a.ins, b.ins'⟩
theorem Sx.sm {x : Addr} {A B C : Hp} (a : Sx x A B) (b : Sm B C) : Sx x A C := a.trans (Sx.of b a.ins')
theorem Sx.put {x : Addr} {H : Hp} {C dx : Addr} {fs gs : List (Str × V)} (h : H x = some (.ins C dx fs)) : Sx x H (upd H x (.ins C dx gs)) := by
  refine ⟨fun b o n e _ => by rw [upd_ne n]; exact e, fun P t => ?_, fun b e => ?_, ⟨_, _, _, h⟩, ⟨_, _, _, upd_same⟩⟩
  · have n : P ≠ x := tabG_ne t h fun _ z => by cases z
    obtain ⟨ps, e, z⟩ := t
    exact ⟨ps, by rw [upd_ne n]; exact e, z⟩
  · by_cases hb : b = x
    · rw [hb, upd_same] at e; cases e
    · rw [upd_ne hb] at e; exact e
section
variable {K : PySem.W.Frag} {H H' : Hp} {x a : Addr} {xs : List V} {ss : List Str}
theorem Sx.ne (s : Sx x H H') {o : HO} (h : H a = some o) (n : ∀ C d f, o ≠ .ins C d f) : a ≠ x := fun z => by
  obtain ⟨C, d, f, e⟩ := s.ins
  rw [z, e] at h; cases h
  exact n _ _ _ rfl
theorem Sx.lst (s : Sx x H H') (h : SqL K H a xs) : SqL K H' a xs := by
  rcases h with (h | ⟨o, h⟩) | h
  · exact .inl (.inl (s.st a _ (s.ne h fun _ _ _ z => by cases z) h fun _ z => by cases z))
  · exact .inl (.inr ⟨o, s.st a _ (s.ne h fun _ _ _ z => by cases z) h fun _ z => by cases z⟩)
  · exact .inr h
theorem Sx.tup (s : Sx x H H') (h : SqT K H a xs) : SqT K H' a xs := by
  rcases h with (h | ⟨o, h⟩) | h
  · exact .inl (.inl (s.st a _ (s.ne h fun _ _ _ z => by cases z) h fun _ z => by cases z))
  · exact .inl (.inr ⟨o, s.st a _ (s.ne h fun _ _ _ z => by cases z) h fun _ z => by cases z⟩)
  · exact .inr h
theorem Sx.txl (s : Sx x H H') (h : TxL K H a ss) : TxL K H' a ss := h.elim (fun z => .inl (s.lst z)) fun z => .inr (s.tup z)
theorem Sx.sq (s : Sx x H H') (h : Sq K H a xs) : Sq K H' a xs := h.elim (fun z => .inl (s.lst z)) fun z => .inr (s.tup z)
theorem Sx.fd {v : V} {f : Str × List Str} (s : Sx x H H') (h : FdAt K H v f) : FdAt K H' v f :=
  let ⟨p, b, e, h1, h2⟩ := h; ⟨p, b, e, s.tup h1, s.txl h2⟩
theorem Sx.kf {v : V} {f : Str × List Str} (s : Sx x H H') (h : KfAt K H v f) : KfAt K H' v f :=
  let ⟨p, b, e, h1, h2⟩ := h; ⟨p, b, e, s.tup h1, s.tup h2⟩
theorem Sx.ru {v : V} {r : Ru} (s : Sx x H H') (h : RuAt K H v r) : RuAt K H' v r :=
  let ⟨p, us, e, h1, h2⟩ := h; ⟨p, us, e, s.tup h1, GD.Paired.imp (fun _ _ ⟨a, e, z⟩ => ⟨a, e, s.txl z⟩) h2⟩
theorem Sx.kr {v : V} {r : Ru} (s : Sx x H H') (h : KrAt K H v r) : KrAt K H' v r :=
  let ⟨p, us, e, h1, h2⟩ := h; ⟨p, us, e, s.tup h1, GD.Paired.imp (fun _ _ ⟨a, e, z⟩ => ⟨a, e, s.tup z⟩) h2⟩
theorem Sx.gd (s : Sx x H H') (g : Gd K H) : Gd K H' := fun p hp => s.tb _ (g p hp)
end
/-- a charter -/
structure Ch where
  rights : List Str
  sole : List Str
  founders : List (Str × List Str)
  rules : List Ru
structure ChAt (K : PySem.W.Frag) (H : Hp) (x : Addr) (c : Ch) : Prop where
  at_ : ∃ (dx pr ps pf pu : Addr) (uf uu : List V), H x = some (.ins (He.ga K "Charter") dx [("rights", .ref pr), ("sole", .ref ps), ("founders", .ref pf), ("rules", .ref pu)]) ∧
    SqT K H pr (c.rights.map V.str) ∧ SqT K H ps (c.sole.map V.str) ∧ SqT K H pf uf ∧ Paired (KfAt K H) uf c.founders ∧ SqT K H pu uu ∧ Paired (KrAt K H) uu c.rules
def keptRules (rights sole : List Str) : List Ru → Option (List Ru)
  | [] => some []
  | r :: t => (keptRule rights sole r).bind fun k => (keptRules rights sole t).map fun l => k :: l
def mkCharter (rights sole : List Str) (fs : List (Str × List Str)) (rs : List Ru) : Option Ch :=
  if (decide (rights.length = 0) || !checkNames rights 6) = true then none else (listed rights sole).bind fun s => (keptFounders rights s fs).bind fun f => (keptRules rights s rs).bind fun u =>
    if checkNames (u.map (·.name)) 12 = true then some ⟨rights, s, f, u⟩ else none
theorem keptRule_name {rights sole : List Str} {r k : Ru} (h : keptRule rights sole r = some k) : k.name = r.name := by
  unfold keptRule at h
  split at h
  · cases h
  · split at h
    · cases q : listed rights (r.ls.getD 0 []) with
      | none => rw [q] at h; cases h
      | some l =>
        rw [q] at h
        have h : (if (l.any fun x => sole.contains x) = true then none else some ⟨r.kind, r.name, [l], none⟩) = some k := h
        split at h
        · cases h
        · cases h; rfl
    · split at h
      · cases h
      · rename_i right _ _
        cases q : listAll rights r.ls with
        | none => rw [q] at h; cases h
        | some l =>
          rw [q] at h
          have h : (if checkRight r.kind l right sole = true then some ⟨r.kind, r.name, l, some right⟩ else none) = some k := h
          split at h
          · cases h; rfl
          · cases h
theorem keptRules_some {rights sole : List Str} : ∀ {rs : List Ru}, (∀ r ∈ rs, (keptRule rights sole r).isSome = true) → keptRules rights sole rs = some (rs.map fun r => (keptRule rights sole r).getD r)
  | [], _ => rfl
  | r :: t, h => by
    have e : keptRules rights sole (r :: t) = (keptRule rights sole r).bind fun k => (keptRules rights sole t).map fun l => k :: l := rfl
    have i := keptRules_some (rights := rights) (sole := sole) (rs := t) fun x hx => h x (List.mem_cons_of_mem _ hx)
    have q := h r (List.mem_cons_self ..)
    rw [e, i]
    show _ = some ((keptRule rights sole r).getD r :: _)
    cases z : keptRule rights sole r with
    | none => rw [z] at q; cases q
    | some x => rfl
section
variable {P : Program} {w : World} {K : PySem.W.Frag} {mg : Str → Option Value} {base : Heap}
def spRuleNames (K : PySem.W.Frag) : Sp := fun vs H Q _ => ∃ (x dx u : Addr) (fs : List (Str × V)) (uu : List V) (rs : List Ru), vs = [.ref x] ∧ H x = some (.ins (He.ga K "Charter") dx fs) ∧ List.lookup ("rules" : Str) fs = some (V.ref u) ∧ SqT K H u uu ∧ Paired (KrAt K H) uu rs ∧ rs.length ≤ 4000 ∧
  ∀ H' p, Sm H H' → H' p = some (.tup ((rs.map (·.name)).map V.str)) → Q (.ref p) H'
theorem sc_rule_names : FnScope ["self", "rule"] ["self"] (defScope sCharter_rule_names) := ⟨rfl, rfl, rfl, by decide +kernel, rfl, by decide +kernel, by decide +kernel⟩
theorem ok_rule_names (T : Tx w K mg base) : ∃ fd, FnOk P w K mg base CX0 1 (Hd.gtrA K "Charter" "rule_names") fd ["self"] (spRuleNames K) ∧ Binds K fd ["self"] [] := by
  obtain ⟨_, fd, F⟩ := T.P_Charter_rule_names
  obtain ⟨c, hc⟩ : ∃ c, fd.code = .ref c := by
    obtain ⟨oc, od, dV, kV, doc, pm, an, cdv, ct, osl, rfl, lk, hcd, _, _⟩ := F.ex
    show ∃ c, cdv = .ref c
    cases cdv with
    | ref c => exact ⟨c, rfl⟩
    | _ => cases hcd
  refine ⟨fd, okC (k := 0) F hc sc_rule_names (fun vs H Q E h => ?_) (fun A outer s H vs Q E hr h => ?_), F.bindsN (ps := ["self"]) fun _ _ _ _ _ _ us hl => match us, hl with | [_], _ => rfl⟩
  · obtain ⟨x, dx, u, fs, uu, rs, rfl, _⟩ := h
    rfl
  · obtain ⟨x, dx, u, fs, uu, rs, rfl, hx, hf, hu, hp, lr, k⟩ := h
    have nd := sc_rule_names.nd
    refine ⟨_, PSs.nox (pss_one (ps_ret (pe_callTy call_tuple_of (by rfl) T.free_tuple (by decide +kernel) (pa_cons (pe_lcI (own := [("rule", 1)]) (g := gName 1) (tt := tYes) (te := tOp (rIxT K) (tVar 1) (tC (.int 1))) rfl nd (pi_sq (pe_fld (pv 0) rfl)) (blkOk_by (own := [("rule", 1)]) (N := ["self", "rule"]) (sc := defScope sCharter_rule_names) (by decide +kernel))
        (fun _ _ _ _ _ => pg_name (i := 1) nd rfl (Or.inl rfl)) (fun _ _ _ _ _ => pts_nil) (fun _ _ _ _ _ => pe_ix ix_tup (pv 1) pe_int (fun _ _ => rfl))) pa_nil)))), ?_⟩
    have lu : uu.length = rs.length := Paired.len hp
    refine rd_lcP hp (q := fun _ => true) (g := fun _ y => .str y.name) (.inr hu) (by unfold sizeLine; omega) (fun x y H2 R _ _ _ hR => hR H2 Sm.refl) (fun v y H2 R hF _ _ s2 hR => ?_) (fun D H2 hD s2 h2 => ?_) (fun R hR => ⟨_, rfl, x, _, dx, fs, _, rfl, hx, T.cls_Charter, T.noat_Charter_rules, hf, hR⟩)
    · obtain ⟨p, us, rfl, k1, _⟩ := hF
      exact ⟨_, rfl, p, _, 1, .str y.name, rfl, rfl, s2.tup k1, atI_nat (j := 1) rfl, hR H2 Sm.refl⟩
    · rw [zip_all hp (fun y => V.str y.name)] at h2
      refine ⟨D, _, rfl, .inl ⟨SqL.of h2, fun t ht => k _ t (s2.trans (Sm.new ht)) ?_⟩⟩
      rw [upd_same, List.map_map]
      rfl
@[irreducible] def rTupS (K : PySem.W.Frag) (xs : List V) (H : Hp) (Q : VK) : Prop := ∃ p ys, xs = [V.ref p] ∧ ((SqL K H p ys ∧ ∀ l, H l = none → Q (.ref l) (upd H l (.tup ys))) ∨ (SqT K H p ys ∧ Q (.ref p) H))
theorem call_tupS {X : Cx} : CallR X (.type "tuple") (rTupS X.K) := by
  have e : rTupS X.K = fun xs H Q => ∃ p ys, xs = [V.ref p] ∧ ((SqL X.K H p ys ∧ ∀ l, H l = none → Q (V.ref l) (upd H l (.tup ys))) ∨ (SqT X.K H p ys ∧ Q (V.ref p) H)) := by
    funext xs H Q
    unfold rTupS
    rfl
  rw [e]
  exact call_tuple_of
theorem rd_tup {K : PySem.W.Frag} {H : Hp} {a : Addr} {xs : List V} {R : VK} (h : Sq K H a xs) (hR : ∀ p H1, Sm H H1 → SqT K H1 p xs → R (.ref p) H1) : rTupS K [V.ref a] H R := by
  unfold rTupS
  rcases h with h | h
  · exact ⟨a, xs, rfl, .inl ⟨h, fun l hl => hR l _ (Sm.new hl) (SqT.of upd_same)⟩⟩
  · exact ⟨a, xs, rfl, .inr ⟨h, hR a H Sm.refl h⟩⟩
def spInit (K : PySem.W.Frag) : Sp := fun vs H Q E => ∃ (x dx r s f u : Addr) (rights sole : List Str) (wf : List V) (fs : List (Str × List Str)) (wr : List V) (rs : List Ru), vs = [.ref x, .ref r, .ref s, .ref f, .ref u] ∧ H x = some (.ins (He.ga K "Charter") dx []) ∧
  TxL K H r rights ∧ TxL K H s sole ∧ Sq K H f wf ∧ Paired (FdAt K H) wf fs ∧ Sq K H u wr ∧ Paired (RuAt K H) wr rs ∧ (rights.length ≤ 4000 ∧ sole.length ≤ 4000 ∧ fs.length ≤ 4000 ∧ rs.length ≤ 4000) ∧ (∀ x ∈ rights, x.length ≤ sizeLine) ∧ (∀ f ∈ fs, f.1.length ≤ sizeLine ∧ f.2.length ≤ 4000) ∧
  (∀ r ∈ rs, r.name.length ≤ sizeLine) ∧ Gd K H ∧ (∀ s', listed rights sole = some s' → ∀ r ∈ rs, (keptRule rights s' r).isSome = true ∧ RuOk rights r) ∧
  (∀ H' c, Sx x H H' → mkCharter rights sole fs rs = some c → ChAt K H' x c → Q .non H') ∧ ∀ H', Sx x H H' → mkCharter rights sole fs rs = none → E (.ref (IC K)) none H'
abbrev Nci : List Str := ["self", "rights", "sole", "founders", "rules", "rule"]
theorem sc_init : FnScope Nci ["self", "rights", "sole", "founders", "rules"] (defScope sCharter___init__) := ⟨rfl, rfl, rfl, by decide +kernel, rfl, by decide +kernel, by decide +kernel⟩
theorem ok_init (T : Tx w K mg base) : ∃ fd, FnOk P w K mg base (L2.CX P w) 6 (He.fAd K ("Charter", some "__init__")) fd ["self", "rights", "sole", "founders", "rules"] (spInit K) ∧ FunD K "__init__" "Charter.__init__" (defArgs sCharter___init__) (defBody sCharter___init__) (defScope sCharter___init__) (dCharter___init__.dvs K) (dCharter___init__.kws K) (He.fAd K ("Charter", some "__init__")) fd := by
  obtain ⟨fd, F⟩ := T.F_Charter___init__
  obtain ⟨fdN, GN, bN, kN⟩ := ok_check_names (P := P) T
  obtain ⟨fdL, GL, bL, kL⟩ := ok_listed (P := P) T
  obtain ⟨fdF, GF, bF, kF⟩ := ok_kept_founders (P := P) T
  obtain ⟨fdR, GR, bR, kR⟩ := ok_kept_rule (P := P) T
  obtain ⟨fdP, GP, bP⟩ := ok_rule_names (P := P) T
  refine ⟨fd, okC (k := 5) F (codeOf_at (p := ("Charter", some "__init__")) F) sc_init (fun vs H Q E h => ?_) (fun A outer s H vs Q E hr h => ?_), F⟩
  · obtain ⟨_, _, _, _, _, _, _, _, _, _, _, _, rfl, _⟩ := h
    rfl
  · obtain ⟨x, dx, r, s, f, u, rights, sole, wf, fs, wr, rs, rfl, hx, hr1, hs1, hf1, hpf, hu1, hpu, ⟨lr, ls, lf, lu⟩, lrs, lfs, lns, g, hq, kT, kE⟩ := h
    have nd := sc_init.nd
    have X := @passX
    refine ⟨_, pss_cons (ps_fld (pv 0) (pe_callTy call_tupS (by rfl) T.free_tuple (by decide +kernel) (pa_cons (pv 1) pa_nil)) rfl)
      (pss_cons (ps_if (pt_cmpR op_eq (pe_callB call_len_seq (by rfl) T.free_len PySem.boot_len (pa_cons (pe_fld (pv 0) rfl) pa_nil)) pe_int (nomark _)) (pss_one (raiseIC T rfl (takes_of rfl rfl rfl rfl) rfl)) pss_nil)
      (pss_cons (ps_expr (pe_call GN (hr.mono (by decide)) rfl T.glo__check_names kN bN .nil (passX (takes_of rfl rfl rfl rfl)) (pa_cons (pe_fld (pv 0) rfl) (pa_cons pe_int pa_nil))))
      (pss_cons (ps_fld (pv 0) (pe_call GL (hr.mono (by decide)) rfl T.glo__listed kL bL .nil (passX (takes_of rfl rfl rfl rfl)) (pa_cons (pe_fld (pv 0) rfl) (pa_cons (pv 2) pa_nil))) rfl)
      (pss_cons (ps_fld (pv 0) (pe_call GF (hr.mono (by decide)) rfl T.glo__kept_founders kF bF .nil (passX (takes_of rfl rfl rfl rfl)) (pa_cons (pe_fld (pv 0) rfl) (pa_cons (pe_fld (pv 0) rfl) (pa_cons (pv 3) pa_nil)))) rfl)
      (pss_cons (ps_fld (pv 0) (pe_callTy call_tupS (by rfl) T.free_tuple (by decide +kernel) (pa_cons (pe_lcI (own := [("rule", 5)]) (g := gName 5) (tt := tYes) (te := tCall (fun vs H Q _ => spKeptRule K vs H Q fun _ _ _ => False) [] E0 (tCons (tFld K (tVar 0) "rights") (tCons (tFld K (tVar 0) "sole") (tCons (tVar 5) tNil)))) rfl nd
          (pi_sq (pv 4)) (blkOk_by (own := [("rule", 5)]) (N := Nci) (sc := defScope sCharter___init__) (by decide +kernel))
          (fun _ _ _ _ _ => pg_name (i := 5) nd rfl (Or.inl rfl)) (fun _ _ _ _ _ => pts_nil) (fun _ _ _ _ _ => pe_call (quiet GR) (hr.mono (by decide)) rfl T.glo__kept_rule kR bR .nil pass0 (pa_cons (pe_fld (pv 0) rfl) (pa_cons (pe_fld (pv 0) rfl) (pa_cons (pv 5) pa_nil))))) pa_nil)) rfl)
      (pss_one (ps_expr (pe_call GN (hr.mono (by decide)) rfl T.glo__check_names kN bN .nil (passX (takes_of rfl rfl rfl rfl)) (pa_cons (pe_prop (pv 0) T.cls_Charter T.P_Charter_rule_names.1 GP (hr.mono (by decide)) bP .nil pass0 rfl) (pa_cons pe_int pa_nil))))))))))  , ?_⟩
    have cl := T.cls_Charter
    have n1 := T.noat_Charter_rights
    have n2 := T.noat_Charter_sole
    have n3 := T.noat_Charter_founders
    have n4 := T.noat_Charter_rules
    have ne : ∀ {a : Addr} {H' : Hp}, Sm H H' → H' x = some (.ins (He.ga K "Charter") dx []) := fun s => s.st _ _ hx fun _ z => by cases z
    refine ⟨_, rfl, rd_tup (TxL.sq hr1) fun pr H1 s1 k1 => ?_⟩
    have hx1 := s1.st _ _ hx fun _ z => by cases z
    refine ⟨_, rfl, x, _, dx, _, rfl, hx1, cl, n1, by show 0 < 1000; decide, ?_⟩
    have S2 : Sx x H (upd H1 x (.ins (He.ga K "Charter") dx [("rights", .ref pr)])) := (Sx.of s1 ⟨_, _, _, hx⟩).trans (Sx.put hx1)
    have k2 : SqT K (upd H1 x (.ins (He.ga K "Charter") dx [("rights", .ref pr)])) pr (rights.map V.str) := (Sx.put hx1).tup k1
    have h2 : (upd H1 x (.ins (He.ga K "Charter") dx [("rights", .ref pr)])) x = some (.ins (He.ga K "Charter") dx [("rights", .ref pr)]) := upd_same
    have e1 : putF "rights" (V.ref pr) [] = ([("rights", .ref pr)] : List (Str × V)) := rfl
    dsimp only
    rw [e1]
    generalize upd H1 x (.ins (He.ga K "Charter") dx [("rights", .ref pr)]) = H2 at S2 k2 h2 ⊢
    refine rd_ifN (decide (rights.length = 0)) (fun R hR => ?_) (fun e H3 s3 => kE H3 (S2.sm s3) ?_) (fun e H3 s3 => ?_)
    · refine ⟨_, rfl, x, _, dx, _, _, rfl, h2, cl, n1, rfl, pr, _, rfl, .inr k2, rfl, _, rfl, ?_⟩
      have q : decide (V.int ((rights.map V.str).length : Nat) = V.int 0) = decide (rights.length = 0) := by
        rw [List.length_map]
        exact decide_eq_decide.mpr ⟨fun z => by have := V.int.inj z; omega, fun z => by rw [z]; rfl⟩
      rw [q]
      exact hR H2 Sm.refl
    · unfold mkCharter
      rw [e]; rfl
    have m0 : mkCharter rights sole fs rs = if (!checkNames rights 6) = true then none else (listed rights sole).bind fun s => (keptFounders rights s fs).bind fun f => (keptRules rights s rs).bind fun u =>
        if checkNames (u.map (·.name)) 12 = true then some ⟨rights, s, f, u⟩ else none := by
      unfold mkCharter
      rw [e, Bool.false_or]
    have S3 := S2.sm s3
    have k3 := s3.tup k2
    have h3 := s3.st _ _ h2 fun _ z => by cases z
    refine ⟨_, rfl, x, _, dx, _, _, rfl, h3, cl, n1, rfl, pr, rights, 6, rfl, .inr k3, lr, lrs, S3.gd g, fun H4 s4 e4 => ?_, fun H4 s4 e4 => kE H4 (S3.sm s4) (by rw [m0, e4]; rfl)⟩
    rw [e4] at m0
    have S4 := S3.sm s4
    have k4 := s4.tup k3
    have h4 := s4.st _ _ h3 fun _ z => by cases z
    refine ⟨_, rfl, x, _, dx, _, _, rfl, h4, cl, n1, rfl, _, rfl, pr, s, rights, sole, rfl, .inr k4, S4.txl hs1, lr, ls, S4.gd g, fun H5 ps sl s5 e5 p5 => ?_, fun H5 s5 e5 => kE H5 (S4.sm s5) ?_⟩
    rotate_left
    · rw [m0, e5]; rfl
    rw [e5] at m0
    have m0 : mkCharter rights sole fs rs = (keptFounders rights sl fs).bind fun f => (keptRules rights sl rs).bind fun u => if checkNames (u.map (·.name)) 12 = true then some ⟨rights, sl, f, u⟩ else none := m0
    have lsl : sl.length ≤ 4000 := by
      have q : sl = rights.filter fun x => sole.contains x := by
        unfold listed at e5
        split at e5
        · exact (Option.some.inj e5).symm
        · cases e5
      rw [q]
      exact Nat.le_trans (List.length_filter_le ..) lr
    have h5 := s5.st _ _ h4 fun _ z => by cases z
    refine ⟨_, rfl, x, _, dx, _, rfl, h5, cl, n2, by show 1 < 1000; decide, ?_⟩
    have e6 : putF "sole" (V.ref ps) [("rights", .ref pr)] = ([("rights", .ref pr), ("sole", .ref ps)] : List (Str × V)) := rfl
    dsimp only
    rw [e6]
    have S6 := (S4.sm s5).trans (Sx.put (gs := [("rights", .ref pr), ("sole", .ref ps)]) h5)
    have k6 := (Sx.put (gs := [("rights", .ref pr), ("sole", .ref ps)]) h5).tup (s5.tup k4)
    have p6 := (Sx.put (gs := [("rights", .ref pr), ("sole", .ref ps)]) h5).tup (SqT.of (K := K) p5)
    have h6 : (upd H5 x (.ins (He.ga K "Charter") dx [("rights", .ref pr), ("sole", .ref ps)])) x = some (.ins (He.ga K "Charter") dx [("rights", .ref pr), ("sole", .ref ps)]) := upd_same
    generalize upd H5 x (.ins (He.ga K "Charter") dx [("rights", .ref pr), ("sole", .ref ps)]) = H6 at S6 k6 p6 h6 ⊢
    refine ⟨_, rfl, x, _, dx, _, _, rfl, h6, cl, n1, rfl, _, rfl, x, _, dx, _, _, rfl, h6, cl, n2, rfl, _, rfl, pr, ps, f, rights, sl, wf, fs, rfl, .inr k6, .inr p6, S6.sq hf1, GD.Paired.imp (fun _ _ z => S6.fd z) hpf, lr, lsl, lf, lfs, S6.gd g, fun H7 pf fl uf s7 e7 p7 q7 => ?_, fun H7 s7 e7 => kE H7 (S6.sm s7) (by rw [m0, e7]; rfl)⟩
    rw [e7] at m0
    have m0 : mkCharter rights sole fs rs = (keptRules rights sl rs).bind fun u => if checkNames (u.map (·.name)) 12 = true then some ⟨rights, sl, fl, u⟩ else none := m0
    have h7 := s7.st _ _ h6 fun _ z => by cases z
    refine ⟨_, rfl, x, _, dx, _, rfl, h7, cl, n3, by show 2 < 1000; decide, ?_⟩
    have e8 : putF "founders" (V.ref pf) [("rights", .ref pr), ("sole", .ref ps)] = ([("rights", .ref pr), ("sole", .ref ps), ("founders", .ref pf)] : List (Str × V)) := rfl
    dsimp only
    rw [e8]
    have S8 := (S6.sm s7).trans (Sx.put (gs := [("rights", .ref pr), ("sole", .ref ps), ("founders", .ref pf)]) h7)
    have k8 := (Sx.put (gs := [("rights", .ref pr), ("sole", .ref ps), ("founders", .ref pf)]) h7).tup (s7.tup k6)
    have p8 := (Sx.put (gs := [("rights", .ref pr), ("sole", .ref ps), ("founders", .ref pf)]) h7).tup (s7.tup p6)
    have f8 := (Sx.put (gs := [("rights", .ref pr), ("sole", .ref ps), ("founders", .ref pf)]) h7).tup (SqT.of (K := K) p7)
    have q8 := GD.Paired.imp (fun _ _ z => (Sx.put (gs := [("rights", .ref pr), ("sole", .ref ps), ("founders", .ref pf)]) h7).kf z) q7
    have h8 : (upd H7 x (.ins (He.ga K "Charter") dx [("rights", .ref pr), ("sole", .ref ps), ("founders", .ref pf)])) x = some (.ins (He.ga K "Charter") dx [("rights", .ref pr), ("sole", .ref ps), ("founders", .ref pf)]) := upd_same
    generalize upd H7 x (.ins (He.ga K "Charter") dx [("rights", .ref pr), ("sole", .ref ps), ("founders", .ref pf)]) = H8 at S8 k8 p8 f8 q8 h8 ⊢
    have ok := hq sl e5
    have u8 := GD.Paired.imp (fun _ _ z => S8.ru z) hpu
    have m1 := keptRules_some fun r hr => (ok r hr).1
    have lu8 : wr.length = rs.length := Paired.len hpu
    refine rd_lcR (K := K) (Rel := KrAt K) (h := fun r => (keptRule rights sl r).getD r) (tl := tVar 4) u8 (by unfold sizeLine; omega) (fun R hR => ⟨_, rfl, hR u H8 Sm.refl (S8.sq hu1)⟩) (fun t z => z.tu t) (fun v y H9 R hF hm s9 hR => ?_) (fun D H9 vs hD s9 h9 hp9 => ?_)
    · have h9 := s9.st _ _ h8 fun _ z => by cases z
      refine ⟨_, rfl, x, _, dx, _, _, rfl, h9, cl, n1, rfl, _, rfl, x, _, dx, _, _, rfl, h9, cl, n2, rfl, _, rfl, pr, ps, v, rights, sl, y, rfl, s9.tup k8, .inr (s9.tup p8), hF.mono s9, lr, (ok y hm).2, (S8.sm s9).gd g, fun H10 u2 r2 s10 e10 hu2 => ?_, fun H10 s10 e10 => ?_⟩
      · refine hR u2 H10 s10 ?_
        rw [e10]
        exact hu2
      · have := (ok y hm).1
        rw [e10] at this
        cases this
    rw [m1] at m0
    have m0 : mkCharter rights sole fs rs = if checkNames ((rs.map fun r => (keptRule rights sl r).getD r).map (·.name)) 12 = true then some ⟨rights, sl, fl, rs.map fun r => (keptRule rights sl r).getD r⟩ else none := m0
    refine rd_tup (.inl (SqL.of h9)) fun pu H10 s10 k10 => ?_
    have h10 := s10.st _ _ (s9.st _ _ h8 fun _ z => by cases z) fun _ z => by cases z
    refine ⟨_, rfl, x, _, dx, _, rfl, h10, cl, n4, by show 3 < 1000; decide, ?_⟩
    have e11 : putF "rules" (V.ref pu) [("rights", .ref pr), ("sole", .ref ps), ("founders", .ref pf)] = ([("rights", .ref pr), ("sole", .ref ps), ("founders", .ref pf), ("rules", .ref pu)] : List (Str × V)) := rfl
    dsimp only
    rw [e11]
    have s89 := s9.trans s10
    have Z := Sx.put (gs := [("rights", .ref pr), ("sole", .ref ps), ("founders", .ref pf), ("rules", .ref pu)]) h10
    have S11 := (S8.sm s89).trans Z
    have k11 := Z.tup (s89.tup k8)
    have p11 := Z.tup (s89.tup p8)
    have f11 := Z.tup (s89.tup f8)
    have q11 := GD.Paired.imp (fun _ _ z => Z.kf (z.mono s89)) q8
    have u11 := Z.tup k10
    have r11 := GD.Paired.imp (fun _ _ z => Z.kr (z.tu s10.tu)) hp9
    have h11 : (upd H10 x (.ins (He.ga K "Charter") dx [("rights", .ref pr), ("sole", .ref ps), ("founders", .ref pf), ("rules", .ref pu)])) x = some (.ins (He.ga K "Charter") dx [("rights", .ref pr), ("sole", .ref ps), ("founders", .ref pf), ("rules", .ref pu)]) := upd_same
    generalize upd H10 x (.ins (He.ga K "Charter") dx [("rights", .ref pr), ("sole", .ref ps), ("founders", .ref pf), ("rules", .ref pu)]) = H11 at S11 k11 p11 f11 q11 u11 r11 h11 ⊢
    refine ⟨_, rfl, x, dx, _, rfl, h11, x, dx, pu, _, vs, _, rfl, h11, rfl, u11, r11, by rw [List.length_map]; exact lu, fun H12 p12 s12 h12 => ?_⟩
    refine ⟨p12, _, 12, rfl, .inr (SqT.of h12), by rw [List.length_map, List.length_map]; exact lu, fun z hz => ?_, (S11.sm s12).gd g, fun H13 s13 e13 => ?_, fun H13 s13 e13 => kE H13 ((S11.sm s12).sm s13) (by rw [m0, e13]; rfl)⟩
    · obtain ⟨k, hk, rfl⟩ := List.mem_map.mp hz
      obtain ⟨r, hr, rfl⟩ := List.mem_map.mp hk
      have q : ((keptRule rights sl r).getD r).name = r.name := by
        cases e : keptRule rights sl r with
        | none => rfl
        | some k => exact keptRule_name e
      rw [q]
      exact lns r hr
    · have s14 := s12.trans s13
      rw [if_pos e13] at m0
      exact kT H13 _ (S11.sm s14) m0 ⟨dx, pr, ps, pf, pu, uf, vs, s14.st _ _ h11 (fun _ z => by cases z), s14.tup k11, s14.tup p11, s14.tup f11, GD.Paired.imp (fun _ _ z => z.mono s14) q11, s14.tup u11, GD.Paired.imp (fun _ _ z => z.tu s14.tu) r11⟩
end
end K8

-- part C08h
set_option Elab.async false
set_option linter.all false
set_option maxRecDepth 100000
set_option maxHeartbeats 2000000
namespace K8
open PySem PySem.Spec PyProof.Rows L2 GxR GS GA GD
theorem ifB {c : Bool} {A B : Prop} (hA : A) (hB : B) : if c = true then A else B := by
  cases c
  · exact ifF rfl hB
  · exact ifT rfl hA
def In9 (n : Int) : Prop := 0 ≤ n ∧ n < 1009
theorem in9 (i : Int) : In9 (i % 1009) := ⟨Int.emod_nonneg _ (by decide), Int.emod_lt_of_pos _ (by decide)⟩
section
variable {P : Program} {w : World} {K : PySem.W.Frag} {mg : Str → Option Value} {base : Heap}
def spRow (K : PySem.W.Frag) : Sp := fun vs H Q _ => ∃ (cell : Int) (m : Nat), vs = [.int cell, .int m] ∧ cell.natAbs.log2 < 4000000 ∧ m ≤ 4000 ∧ ∀ H' p (ns : List Int), Sm H H' → H p = none → H' p = some (.lst (ns.map V.int)) → ns.length = m → (∀ n ∈ ns, In9 n) → Q (.ref p) H'
abbrev Nlr : List Str := ["cell", "many", "row", "rest", "mixed", "k"]
theorem sc_row : FnScope Nlr ["cell", "many"] (defScope s_law_row) := ⟨rfl, rfl, rfl, by decide +kernel, rfl, by decide +kernel, by decide +kernel⟩
theorem ok_row (T : Tx w K mg base) : ∃ fd, FnOk P w K mg base CX0 1 (He.ga K "_law_row") fd ["cell", "many"] (spRow K) ∧ Binds K fd ["cell", "many"] [] ∧ PySem.W.keepIn K (.ref (He.ga K "_law_row")) = true := by
  obtain ⟨fd, F⟩ := T.F__law_row
  refine ⟨fd, okC (k := 0) F (codeOf_at (p := ("_law_row", none)) F) sc_row (fun vs H Q E h => ?_) (fun A outer s H vs Q E hr h => ?_), F.bindsN (ps := ["cell", "many"]) fun _ _ _ _ _ _ us hl => match us, hl with | [_, _], _ => rfl, F.kp⟩
  · obtain ⟨c, m, rfl, _⟩ := h
    rfl
  · obtain ⟨cell, m, rfl, hb, hm, k⟩ := h
    have nd := sc_row.nd
    have ap : ∀ {X : Cx}, (n : Nat) → True := fun _ => trivial
    refine ⟨_, PSs.nox (pss_cons (ps_set (i := 2) nd rfl (Or.inl rfl) (pe_lst pa_nil))
      (pss_cons (ps_set (i := 3) nd rfl (Or.inl rfl) (pe_callB call_abs (by rfl) T.free_abs (by decide +kernel) (pa_cons (pv 0) pa_nil)))
      (pss_cons (ps_set (i := 4) nd rfl (Or.inl rfl) (pe_op op_mod (pe_callTy call_int1 (by rfl) T.free_int (by decide +kernel) (pa_cons (pe_op op_add (pe_op op_mulB (pv 3) pe_int) pe_int) pa_nil)) pe_int))
      (pss_cons (ps_forI PassesOwn.never rfl (pi_range1 rfl T.free_range (pa_cons (pv 1) pa_nil)) (pg_name (i := 5) nd rfl (Or.inl rfl))
        (pss_cons (ps_set (i := 4) nd rfl (Or.inl rfl) (pe_op op_mod (pe_callTy call_int1 (by rfl) T.free_int (by decide +kernel) (pa_cons (pe_op op_add (pe_op op_mul (pv 4) pe_int) (pe_op op_mul pe_int (pe_op op_add (pv 5) pe_int))) pa_nil)) pe_int))
        (pss_one (ps_if (pt_cmpR op_ge (pe_callB call_abs (by rfl) T.free_abs (by decide +kernel) (pa_cons (pv 0) pa_nil)) (pe_op op_pow pe_int pe_int) (nomark _))
          (pss_cons (ps_expr (pe_bm PySem.F.plainAttrs_list PySem.F.slot_list_append PySem.F.type_list_append mt_append (pv 2) (pa_cons (pe_op op_mod (pe_callTy call_int1 (by rfl) T.free_int (by decide +kernel) (pa_cons (pv 3) pa_nil)) pe_int) pa_nil)))
          (pss_one (ps_set (i := 3) nd rfl (Or.inl rfl) (pe_op op_fdiv (pv 3) pe_int))))
          (pss_one (ps_expr (pe_bm PySem.F.plainAttrs_list PySem.F.slot_list_append PySem.F.type_list_append mt_append (pv 2) (pa_cons (pe_op op_mod (pe_callTy call_int1 (by rfl) T.free_int (by decide +kernel) (pa_cons (pe_op op_fdiv (pv 4) pe_int) pa_nil)) pe_int) pa_nil))))))))
      (pss_one (ps_ret (pv 2))))))), ?_⟩
    refine ⟨Nat.zero_le _, fun l hl => ?_⟩
    refine ⟨_, rfl, _, rfl, ?_⟩
    have hr2 : (if cell < 0 then -cell else cell).natAbs = cell.natAbs := by split <;> omega
    rw [← hr2] at hb
    dsimp only [gName]
    generalize (if cell < 0 then -cell else cell) = rest at hb
    have b0 : CMulB rest 48271 := by
      show rest.natAbs.log2 + (48271 : Int).natAbs.log2 < 100000000
      have : (48271 : Int).natAbs.log2 = 15 := by decide +kernel
      omega
    refine ⟨_, rfl, _, _, rfl, rfl, b0, _, _, rfl, rfl, .inl ⟨_, rfl, _, _, rfl, rfl, (by show (0 : Int) < 2147483647; decide), ?_⟩⟩
    dsimp only [gName]
    have m0 := Int.emod_nonneg (rest * 48271 + 69621) (by decide : (2147483647 : Int) ≠ 0)
    have m1 := Int.emod_lt_of_pos (rest * 48271 + 69621) (by decide : (0 : Int) < 2147483647)
    generalize (rest * 48271 + 69621) % 2147483647 = mx at m0 m1 ⊢
    refine rd_forR (i := 5) (n := m) (by omega) (fun k σ' H' => ∃ (r mx : Int) (v : Option V) (ns : List Int), σ' = [some (.int cell), some (.int m), some (.ref l), some (.int r), some (.int mx), v] ∧ (0 ≤ mx ∧ mx < 2147483647) ∧ Sm H H' ∧ H' l = some (.lst (ns.map V.int)) ∧ ns.length = k ∧ ∀ n ∈ ns, In9 n)
      ⟨rest, mx, none, [], rfl, ⟨m0, m1⟩, Sm.new hl, upd_same, rfl, fun _ h => by cases h⟩ (fun i σ' H' hi p => ?_) (fun σ' H' p => ?_) (fun R hR => ⟨_, rfl, hR⟩)
    · obtain ⟨r, mx, v, ns, rfl, ⟨m0, m1⟩, s1, h1, hn, h9⟩ := p
      refine ⟨_, rfl, _, _, rfl, rfl, .inl ⟨by omega, by omega⟩, _, rfl, _, _, rfl, rfl, _, _, rfl, rfl, .inl ⟨by decide, by decide⟩, _, _, rfl, rfl, .inl ⟨_, rfl, _, _, rfl, rfl, (by show (0 : Int) < 2147483629; decide), ?_⟩⟩
      dsimp only [gName]
      have m2 := Int.emod_nonneg (mx * 16807 + 271 * ((i : Int) + 3)) (by decide : (2147483629 : Int) ≠ 0)
      have m3 := Int.emod_lt_of_pos (mx * 16807 + 271 * ((i : Int) + 3)) (by decide : (0 : Int) < 2147483629)
      generalize (mx * 16807 + 271 * ((i : Int) + 3)) % 2147483629 = mz at m2 m3 ⊢
      refine ⟨_, rfl, _, rfl, _, _, rfl, rfl, ⟨by decide, by decide, by decide⟩, _, _, rfl, rfl, _, rfl, ?_⟩
      have lb : (ns.map V.int).length < sizeLine := by rw [List.length_map]; unfold sizeLine; omega
      have done : ∀ (r2 y : Int), In9 y → ∃ (r mx : Int) (v : Option V) (ns' : List Int), [some (V.int cell), some (.int m), some (.ref l), some (.int r2), some (.int mz), some (.int (i : Int))] = [some (V.int cell), some (.int m), some (.ref l), some (.int r), some (.int mx), v] ∧ (0 ≤ mx ∧ mx < 2147483647) ∧ Sm H (upd H' l (.lst (ns.map V.int ++ [.int y]))) ∧ (upd H' l (.lst (ns.map V.int ++ [.int y]))) l = some (.lst (ns'.map V.int)) ∧ ns'.length = i + 1 ∧ ∀ n ∈ ns', In9 n := fun r2 y hy =>
        ⟨r2, mz, _, ns ++ [y], rfl, ⟨m2, by omega⟩, Sm.own s1 hl (fun P tb => tabG_ne tb h1 fun _ z => by cases z), by rw [upd_same, List.map_append]; rfl, by rw [List.length_append, hn]; rfl, fun n hn2 => by
          rcases List.mem_append.mp hn2 with h | h
          · exact h9 n h
          · rw [List.mem_singleton.mp h]; exact hy⟩
      refine ifB ?_ ?_
      · refine ⟨_, rfl, .inl ⟨rfl, _, SqL.of h1⟩, _, rfl, .inl ⟨_, rfl, _, _, rfl, rfl, (by show (0 : Int) < 1009; decide), l, ns.map V.int, _, rfl, rfl, h1, lb, ?_⟩⟩
        refine ⟨_, rfl, _, _, rfl, rfl, ⟨by decide, by decide⟩, ?_⟩
        exact done _ _ (in9 _)
      · refine ⟨_, rfl, .inl ⟨rfl, _, SqL.of h1⟩, _, rfl, _, _, rfl, rfl, ⟨by decide, by decide⟩, .inl ⟨_, rfl, _, _, rfl, rfl, (by show (0 : Int) < 1009; decide), l, ns.map V.int, _, rfl, rfl, h1, lb, ?_⟩⟩
        exact done _ _ (in9 _)
    · obtain ⟨r, mx, v, ns, rfl, _, s1, h1, hn, h9⟩ := p
      exact ⟨_, rfl, k H' l ns s1 hl h1 hn h9⟩
def spNumbers (K : PySem.W.Frag) : Sp := fun vs H Q _ => ∃ (a : Addr) (cs : List Int) (m : Nat), vs = [.ref a, .int m] ∧ SqL K H a (cs.map V.int) ∧ cs.length ≤ 63 ∧ (∀ c ∈ cs, c.natAbs.log2 < 4000000) ∧ m ≤ 2000 ∧
  ∀ H' p (ns : List Int), Sm H H' → H' p = some (.lst (ns.map V.int)) → ns.length = m → (∀ n ∈ ns, In9 n) → Q (.ref p) H'
abbrev Nln : List Str := ["script", "many", "cells", "each", "numbers", "cell", "number"]
theorem sc_numbers : FnScope Nln ["script", "many"] (defScope s_law_numbers) := ⟨rfl, rfl, rfl, by decide +kernel, rfl, by decide +kernel, by decide +kernel⟩
theorem ok_numbers (T : Tx w K mg base) : ∃ fd, FnOk P w K mg base CX0 2 (He.ga K "_law_numbers") fd ["script", "many"] (spNumbers K) ∧ Binds K fd ["script", "many"] [] ∧ PySem.W.keepIn K (.ref (He.ga K "_law_numbers")) = true := by
  obtain ⟨fd, F⟩ := T.F__law_numbers
  obtain ⟨fdR, GR, bR, kR⟩ := ok_row (P := P) T
  refine ⟨fd, okC (k := 1) F (codeOf_at (p := ("_law_numbers", none)) F) sc_numbers (fun vs H Q E h => ?_) (fun A outer s H vs Q E hr h => ?_), F.bindsN (ps := ["script", "many"]) fun _ _ _ _ _ _ us hl => match us, hl with | [_, _], _ => rfl, F.kp⟩
  · obtain ⟨a, cs, m, rfl, _⟩ := h
    rfl
  · obtain ⟨a, cs, m, rfl, ha, lc, hb, lm, k⟩ := h
    have nd := sc_numbers.nd
    refine ⟨_, PSs.nox (pss_cons (ps_set (i := 2) nd rfl (Or.inl rfl) (pe_slice sl_list (pv 0) po_none (po_some pe_int)))
      (pss_cons (ps_set (i := 3) nd rfl (Or.inl rfl) (pe_op op_add pe_int (pe_op op_fdiv (pv 1) (pe_callB (call_max2 rfl) (by rfl) T.free_max (by decide +kernel) (pa_cons pe_int (pa_cons (pe_callB call_len_seq (by rfl) T.free_len PySem.boot_len (pa_cons (pv 2) pa_nil)) pa_nil))))))
      (pss_cons (ps_set (i := 4) nd rfl (Or.inl rfl) (pe_lst pa_nil))
      (pss_cons (ps_forI PassesOwn.never rfl (pi_sq (pv 2)) (pg_name (i := 5) nd rfl (Or.inl rfl))
        (pss_one (ps_forI PassesOwn.never rfl (pi_sq (pe_call GR (hr.mono (by decide)) rfl T.glo__law_row kR bR .nil pass0 (pa_cons (pv 5) (pa_cons (pv 3) pa_nil)))) (pg_name (i := 6) nd rfl (Or.inl rfl))
          (pss_one (ps_expr (pe_bm PySem.F.plainAttrs_list PySem.F.slot_list_append PySem.F.type_list_append mt_append (pv 4) (pa_cons (pv 6) pa_nil)))))))
      (pss_cons (ps_while PassesOwn.never (pt_cmpR op_lt (pe_callB call_len_seq (by rfl) T.free_len PySem.boot_len (pa_cons (pv 4) pa_nil)) (pv 1) (nomark _))
        (pss_one (ps_expr (pe_bm PySem.F.plainAttrs_list PySem.F.slot_list_append PySem.F.type_list_append mt_append (pv 4) (pa_cons pe_int pa_nil)))))
      (pss_one (ps_ret (pe_slice sl_list (pv 4) po_none (po_some (pv 1)))))))))), ?_⟩
    refine ⟨_, rfl, _, rfl, a, _, rfl, ha, fun p hp => ?_⟩
    have s1 : Sm H (upd H p (.lst (cutV (cs.map V.int) none (some 63)))) := Sm.new hp
    have h1 : (upd H p (.lst (cutV (cs.map V.int) none (some 63)))) p = some (.lst (cs.map V.int)) := by
      rw [upd_same, show (some (63 : Int)) = some ((63 : Nat) : Int) from rfl, cut_take, List.take_of_length_le (by rw [List.length_map]; exact lc)]
    dsimp only [gName]
    generalize upd H p (.lst (cutV (cs.map V.int) none (some 63))) = H1 at s1 h1 ⊢
    have lcs : (cs.map V.int).length = cs.length := List.length_map ..
    obtain ⟨e, he, le⟩ : ∃ e : Nat, (1 + (m : Int) / (if (((cs.map V.int).length : Nat) : Int) > 1 then (((cs.map V.int).length : Nat) : Int) else 1)) = (e : Int) ∧ e ≤ 2001 := by
      refine ⟨(1 + (m : Int) / (if (((cs.map V.int).length : Nat) : Int) > 1 then (((cs.map V.int).length : Nat) : Int) else 1)).toNat, ?_, ?_⟩
      · have := Int.ediv_nonneg (a := (m : Int)) (b := if (((cs.map V.int).length : Nat) : Int) > 1 then (((cs.map V.int).length : Nat) : Int) else 1) (by omega) (by split <;> omega)
        omega
      · have := Int.ediv_le_self (a := (m : Int)) (if (((cs.map V.int).length : Nat) : Int) > 1 then (((cs.map V.int).length : Nat) : Int) else 1) (by omega)
        omega
    refine ⟨_, rfl, _, rfl, p, _, rfl, .inl (SqL.of h1), _, _, rfl, _, _, rfl, rfl, ⟨by split <;> omega, by split <;> omega⟩, _, _, rfl, rfl, ?_⟩
    dsimp only [gName]
    rw [he]
    refine ⟨Nat.zero_le _, fun l hl => ?_⟩
    refine rd_for (H0 := H1) (.inl (SqL.of h1)) (fun k σ' H' => ∃ (v v2 : Option V) (ns : List Int), σ' = [some (.ref a), some (.int m), some (.ref p), some (.int e), some (.ref l), v, v2] ∧ Sm H1 H' ∧ H' l = some (.lst (ns.map V.int)) ∧ ns.length = k * e ∧ ∀ n ∈ ns, In9 n)
      ⟨none, none, [], rfl, Sm.new hl, upd_same, by simp, fun _ h => by cases h⟩ (fun k σ' H' p => by obtain ⟨_, _, _, _, q, _⟩ := p; exact q) (fun i x σ' H' hx p => ?_) (fun σ' H' p => ?_) (fun R hR => ⟨_, rfl, hR⟩)
    · obtain ⟨v, v2, ns, rfl, s2, h2, hn, h9⟩ := p
      rw [List.getElem?_map] at hx
      obtain ⟨c, hc, rfl⟩ := Option.map_eq_some_iff.mp hx
      have hi : i < cs.length := (List.getElem?_eq_some_iff.mp hc).1
      refine rd_forC fun R hR => ⟨_, rfl, _, rfl, c, e, rfl, hb c (List.mem_of_getElem? hc), by omega, fun H3 q zs s3 hq0 hq hz hz9 => hR q (zs.map V.int) H3 ?_⟩
      have n1 : l ≠ q := ne_of_none h2 hq0
      refine ⟨fun j σ' H' => ∃ (v2 : Option V) (ns' : List Int), σ' = [some (.ref a), some (.int m), some (.ref p), some (.int e), some (.ref l), some (.int c), v2] ∧ Sm H1 H' ∧ H' l = some (.lst (ns'.map V.int)) ∧ ns'.length = i * e + j ∧ (∀ n ∈ ns', In9 n) ∧ H' q = some (.lst (zs.map V.int)),
        ⟨v2, ns, rfl, s2.trans s3, s3.st _ _ h2 (fun _ z => by cases z), hn, h9, hq⟩, fun k σ' H' p => ?_, fun j x σ' H' hx p => ?_, fun σ' H' p => ?_⟩
      · obtain ⟨_, _, _, _, _, _, _, h⟩ := p
        exact SqL.of h
      · obtain ⟨v2, ns', rfl, s4, h4, hn4, h94, hq4⟩ := p
        rw [List.getElem?_map] at hx
        obtain ⟨z, hz2, rfl⟩ := Option.map_eq_some_iff.mp hx
        have hj : j < zs.length := (List.getElem?_eq_some_iff.mp hz2).1
        have lb : (ns'.map V.int).length < sizeLine := by
          rw [List.length_map, hn4]
          have : i * e ≤ 63 * 2001 := Nat.mul_le_mul (by omega) le
          unfold sizeLine; omega
        refine ⟨_, rfl, .inl ⟨rfl, _, SqL.of h4⟩, _, rfl, l, ns'.map V.int, .int z, rfl, rfl, h4, lb, ?_⟩
        refine ⟨_, ns' ++ [z], rfl, Sm.own s4 hl (fun P tb => tabG_ne tb h4 fun _ z => by cases z), by rw [upd_same, List.map_append]; rfl, by rw [List.length_append, hn4]; rfl, fun n hn2 => ?_, by rw [upd_ne (Ne.symm n1)]; exact hq4⟩
        rcases List.mem_append.mp hn2 with h | h
        · exact h94 n h
        · rw [List.mem_singleton.mp h]; exact hz9 z (List.mem_of_getElem? hz2)
      · obtain ⟨v2, ns', rfl, s4, h4, hn4, h94, hq4⟩ := p
        refine ⟨_, v2, ns', rfl, s4, h4, ?_, h94⟩
        rw [hn4, List.length_map, hz, Nat.succ_mul]
    · obtain ⟨v, v2, ns, rfl, s2, h2, hn, h9⟩ := p
      have lbn : ns.length ≤ 200000 := by
        rw [hn, lcs]
        have : cs.length * e ≤ 63 * 2001 := Nat.mul_le_mul lc le
        omega
      refine while_by (fun σ' H' => ∃ (ns : List Int), σ' = [some (.ref a), some (.int m), some (.ref p), some (.int e), some (.ref l), v, v2] ∧ Sm H1 H' ∧ H' l = some (.lst (ns.map V.int)) ∧ ns.length ≤ 200000 ∧ ∀ n ∈ ns, In9 n)
        (fun _ H' => match H' l with | some (.lst xs) => m - xs.length | _ => 0) ⟨ns, rfl, s2, h2, lbn, h9⟩ (fun σ' H' p => ?_) (fun σ H Q Q' h q => ?_)
      · obtain ⟨ns, rfl, s3, h3, l3, h93⟩ := p
        refine ⟨_, rfl, l, _, rfl, .inl (SqL.of h3), _, rfl, _, _, rfl, rfl, _, rfl, ?_⟩
        rw [List.length_map]
        by_cases c : ns.length < m
        · refine ifT (decide_eq_true (by omega)) ?_
          have lb : (ns.map V.int).length < sizeLine := by rw [List.length_map]; unfold sizeLine; omega
          refine ⟨_, rfl, .inl ⟨rfl, _, SqL.of h3⟩, l, ns.map V.int, .int 0, rfl, rfl, h3, lb, ⟨ns ++ [0], rfl, Sm.own s3 hl (fun P tb => tabG_ne tb h3 fun _ z => by cases z), by rw [upd_same, List.map_append]; rfl, by rw [List.length_append]; show ns.length + 1 ≤ _; omega, fun n hn2 => ?_⟩, ?_⟩
          · rcases List.mem_append.mp hn2 with h | h
            · exact h93 n h
            · rw [List.mem_singleton.mp h]; exact ⟨by decide, by decide⟩
          · rw [upd_same, h3]
            show m - (ns.map V.int ++ [V.int 0]).length < m - (ns.map V.int).length
            rw [List.length_append, List.length_map]
            show m - (ns.length + 1) < _
            omega
        · refine ifF (decide_eq_false (by omega)) ?_
          refine ⟨_, rfl, _, rfl, _, rfl, l, _, rfl, SqL.of h3, fun q hq => ?_⟩
          refine k _ q (ns.take m) ((s1.trans s3).trans (Sm.new hq)) ?_ (by rw [List.length_take]; omega) fun n hn => h93 n (List.mem_of_mem_take hn)
          rw [upd_same, cut_take, List.map_take]
      · obtain ⟨x1, e1, x2, x3, e2, x4, x5, e3, x6, x7, e4, e5, x8, e6, q⟩ := q
        exact ⟨x1, e1, x2, x3, e2, x4, x5, e3, x6, x7, e4, e5, x8, e6, h _ _ q⟩
end
end K8

-- part C08i
set_option Elab.async false
set_option linter.all false
set_option maxRecDepth 100000
set_option maxHeartbeats 2000000
namespace K8
open PySem PySem.Spec PyProof.Rows L2 GxR GS GA GD
theorem lay_strs : ∀ ss : List Str, (∀ s ∈ ss, PyData.strOk s = true) → PyData.canLayAll0 (ss.map PyData.str) = true
  | [], _ => by simp [PyData.canLayAll0]
  | s :: r, h => by
    rw [List.map_cons]
    simp only [PyData.canLayAll0, PyData.canLay0, lay_strs r fun x hx => h x (List.mem_cons_of_mem _ hx), h s (List.mem_cons_self ..), Bool.and_true, Bool.true_and]
theorem depth_strs : ∀ ss : List Str, PyData.depthAll (ss.map PyData.str) ≤ 1
  | [] => by simp [PyData.depthAll]
  | s :: r => by
    rw [List.map_cons]
    have := depth_strs r
    simp only [PyData.depthAll, PyData.depth]
    omega
theorem shaped_strs (ss : List Str) (h : ∀ s ∈ ss, PyData.strOk s = true) : SeqAt.shaped (.tuple (ss.map PyData.str)) = true := by
  unfold SeqAt.shaped
  have h1 : (PyData.tuple (ss.map PyData.str)).canLay0 = true := by
    unfold PyData.canLay0
    exact lay_strs ss h
  have h2 : (PyData.tuple (ss.map PyData.str)).depth ≤ 64 := by
    unfold PyData.depth
    have := depth_strs ss
    omega
  rw [h1, decide_eq_true h2]
  rfl
theorem eqv_strs : ∀ ss ts : List Str, PyData.eqvAll (ss.map PyData.str) (ts.map PyData.str) = decide (ss = ts)
  | [], [] => by simp [PyData.eqvAll]
  | [], t :: r => by simp [PyData.eqvAll]
  | s :: r, [] => by simp [PyData.eqvAll]
  | s :: r, t :: q => by
    rw [List.map_cons, List.map_cons, PyData.eqvAll.eq_2, eqv_strs r q]
    have e : (PyData.str s).eqv (.str t) = decide (s = t) := by
      unfold PyData.eqv
      exact Bool.beq_eq_decide_eq s t
    rw [e, ← Bool.decide_and]
    exact decide_eq_decide.mpr ⟨fun ⟨a, b⟩ => by rw [a, b], fun z => ⟨(List.cons.inj z).1, (List.cons.inj z).2⟩⟩
theorem eqv_tup (ss ts : List Str) : PyData.eqv (.tuple (ss.map PyData.str)) (.tuple (ts.map PyData.str)) = decide (ss = ts) := by
  rw [← eqv_strs]
  unfold PyData.eqv
  rfl
theorem dp_strs {K : PySem.W.Frag} {H : Hp} : ∀ ss : List Str, DpAll K H (ss.map V.str) (ss.map PyData.str)
  | [] => .nil
  | s :: r => .cons (.str s) (dp_strs r)
theorem isName_ok {t : Str} (h : isName t = true) : PyData.strOk t = true := by
  unfold isName at h
  obtain ⟨_, h1⟩ := He.ba h
  obtain ⟨_, h2⟩ := He.ba h1
  unfold PyData.strOk
  rw [Array.all_eq_true_iff_forall_mem]
  intro c hc
  have h3 := of_decide_eq_true (List.all_eq_true.mp h2 c (Array.mem_toList_iff.mpr hc))
  have : ∀ c ∈ signs.cps.toList, decide (c < 1114112) = true := by decide +kernel
  exact this c h3
theorem sole0_ok {K : PySem.W.Frag} {a : Addr} (h : Hd.emptyB K a = true) (H : Hp) : SqT K H a [] := by
  unfold Hd.emptyB at h
  split at h
  · rename_i c its n sl q
    obtain ⟨h1, h2⟩ := He.ba h
    obtain ⟨h2, _⟩ := He.ba h2
    have e1 : c = "tuple" := of_decide_eq_true h1
    have e2 : its = #[] := by simpa using h2
    subst e1 e2
    exact .inr ⟨_, #[], n, q, rfl, rfl, by decide, .nil⟩
  · cases h
/-- an exception that a call lets out in a try: whatever the slots are -/
theorem passAll {X : Cx} {W : WX} (tk : Takes X W) : Passes (L2.CX X.prog X.w) X (fun cls d H => ∀ σ, W cls d σ H) := fun pins σ H s e s' I h => by
  refine passAt tk σ pins H s e s' I ?_
  obtain ⟨a, B, H', cls, d, h1, h2, h3, h4, h5, h6, h7, z⟩ := h
  exact ⟨a, B, H', cls, d, h1, h2, h3, h4, h5, h6, h7, z σ⟩
theorem Sx.out {x : Addr} {A B C : Hp} (h : A x = none) (s : Sm A B) (S : Sx x B C) : Sm A C :=
  ⟨fun b o e n => S.st b o (fun z => by rw [z, h] at e; cases e) (s.st b o e n) n, fun P t => S.tb P (s.tb P t), fun b e => s.fr b (S.fr b e)⟩
theorem mkCharter_some {rights sole : List Str} {fs : List (Str × List Str)} {rs : List Ru} {c : Ch} (h : mkCharter rights sole fs rs = some c) : c.rights = rights ∧ checkNames rights 6 = true ∧ listed rights sole = some c.sole ∧ keptFounders rights c.sole fs = some c.founders ∧ keptRules rights c.sole rs = some c.rules ∧ checkNames (c.rules.map (·.name)) 12 = true := by
  unfold mkCharter at h
  split at h
  · cases h
  · rename_i n
    cases q1 : listed rights sole with
    | none => rw [q1] at h; cases h
    | some s =>
      rw [q1] at h
      have h : ((keptFounders rights s fs).bind fun f => (keptRules rights s rs).bind fun u => if checkNames (u.map (·.name)) 12 = true then some (⟨rights, s, f, u⟩ : Ch) else none) = some c := h
      cases q2 : keptFounders rights s fs with
      | none => rw [q2] at h; cases h
      | some f =>
        rw [q2] at h
        have h : ((keptRules rights s rs).bind fun u => if checkNames (u.map (·.name)) 12 = true then some (⟨rights, s, f, u⟩ : Ch) else none) = some c := h
        cases q3 : keptRules rights s rs with
        | none => rw [q3] at h; cases h
        | some u =>
          rw [q3] at h
          have h : (if checkNames (u.map (·.name)) 12 = true then some (⟨rights, s, f, u⟩ : Ch) else none) = some c := h
          split at h
          · rename_i z
            cases h
            exact ⟨rfl, by
              cases y : checkNames rights 6 with
              | true => rfl
              | false => exact absurd (by rw [y]; simp) n, rfl, q2, q3, z⟩
          · cases h
theorem keptFounders_len {rights sole : List Str} {fs r : List (Str × List Str)} (h : keptFounders rights sole fs = some r) : r.length = fs.length := by
  have key : ∀ {fs r : List (Str × List Str)}, heldAll rights fs = some r → r.length = fs.length := fun {fs r} h => by
    have := congrArg List.length (heldAll_names h)
    rw [List.length_map, List.length_map] at this
    exact this
  unfold keptFounders at h
  cases q : heldAll rights fs with
  | none => rw [q] at h; cases h
  | some x =>
    rw [q] at h
    have e := key q
    have h : (if (checkNames (x.map (·.1)) 5 && sole.all fun r => decide ((x.filter fun f => f.2.contains r).length ≤ 1)) = true then some x else none) = some r := h
    split at h
    · cases h; exact e
    · cases h
theorem checkNames_names {xs : List Str} {m : Int} (h : checkNames xs m = true) : xs.all isName = true := (He.ba (He.ba h).2).1
def gI {α : Type} (vs mz zs : List α) : List α := vs ++ zs.take 1 ++ mz ++ zs.drop 1
section
variable {P : Program} {w : World} {K : PySem.W.Frag} {mg : Str → Option Value} {base : Heap}
theorem Tx.sole0 (T : Tx w K mg base) (H : Hp) : SqT K H (Hd.kwAt ("Charter", some "__init__") "sole" K) [] := by
  obtain ⟨⟨h, X, G, c⟩, _⟩ := T
  exact sole0_ok (He.ba c.exB).1 H
abbrev soleAt (K : PySem.W.Frag) : Addr := Hd.kwAt ("Charter", some "__init__") "sole" K
theorem kb_init {fd : FuncData} (F : FunD K "__init__" "Charter.__init__" (defArgs sCharter___init__) (defBody sCharter___init__) (defScope sCharter___init__) (dCharter___init__.dvs K) (dCharter___init__.kws K) (He.fAd K ("Charter", some "__init__")) fd) :
    ∃ mv, KBn K fd ["self", "rights", "sole", "founders", "rules"] 1 ["rights", "founders", "rules"] (fun us ws => gI us mv ws) fun vs zs => gI vs [V.ref (soleAt K)] zs := by
  refine FunD.kbinds0 F 1 ["rights", "founders", "rules"] [("sole", V.ref (soleAt K))] (fun vs mz zs => gI vs mz zs) (fun z => by cases z) (fun q hq => ?_) (fun h1 h2 h3 => ?_) fun D doc pm an cdv ct us mv ws h1 h2 h3 => ?_
  · rw [List.mem_singleton.mp hq]
    exact List.mem_cons_self ..
  · exact ((h1.append (h3.take _)).append h2).append (h3.drop _)
  · match us, h1, mv, h2, ws, h3 with
    | [s], _, [m], _, [r, f, u], _ => exact ⟨_, _, _, _, _, _, rfl, rfl, rfl⟩
def spTaken (K : PySem.W.Frag) : Sp := fun vs H Q _ => ∃ (r f u : Addr) (rights : List Str) (wf : List V) (fs : List (Str × List Str)) (wr : List V) (rs : List Ru), vs = [.ref r, .ref f, .ref u] ∧
  TxL K H r rights ∧ Sq K H f wf ∧ Paired (FdAt K H) wf fs ∧ Sq K H u wr ∧ Paired (RuAt K H) wr rs ∧ (rights.length ≤ 4000 ∧ fs.length ≤ 4000 ∧ rs.length ≤ 4000) ∧ (∀ x ∈ rights, x.length ≤ sizeLine) ∧ (∀ f ∈ fs, f.1.length ≤ sizeLine ∧ f.2.length ≤ 4000) ∧
  (∀ r ∈ rs, r.name.length ≤ sizeLine) ∧ Gd K H ∧ (∀ s', listed rights [] = some s' → ∀ r ∈ rs, (keptRule rights s' r).isSome = true ∧ RuOk rights r) ∧
  ∀ H', Sm H H' → Q (.bl (mkCharter rights [] fs rs).isSome) H'
abbrev Nlt : List Str := ["rights", "founders", "rules", "charter"]
theorem sc_taken : FnScope Nlt ["rights", "founders", "rules"] (defScope s_law_taken) := ⟨rfl, rfl, rfl, by decide +kernel, rfl, by decide +kernel, by decide +kernel⟩
theorem ok_taken (T : Tx w K mg base) : ∃ fd, FnOk P w K mg base CX0 8 (He.ga K "_law_taken") fd ["rights", "founders", "rules"] (spTaken K) ∧ Binds K fd ["rights", "founders", "rules"] [] ∧ PySem.W.keepIn K (.ref (He.ga K "_law_taken")) = true := by
  obtain ⟨fd, F⟩ := T.F__law_taken
  obtain ⟨fdI, GI, FI⟩ := ok_init (P := P) T
  obtain ⟨mv, kb⟩ := kb_init FI
  have MK := T.mkr_Charter
  refine ⟨fd, okC (k := 7) F (codeOf_at (p := ("_law_taken", none)) F) sc_taken (fun vs H Q E h => ?_) (fun A outer s H vs Q E hr h => ?_), F.bindsN (ps := ["rights", "founders", "rules"]) fun _ _ _ _ _ _ us hl => match us, hl with | [_, _, _], _ => rfl, F.kp⟩
  · obtain ⟨r, f, u, _, _, _, _, _, rfl, _⟩ := h
    rfl
  · obtain ⟨r, f, u, rights, wf, fs, wr, rs, rfl, hr1, hf1, hpf, hu1, hpu, ⟨lr, lf, lu⟩, lrs, lfs, lns, g, hq, k⟩ := h
    have nd := sc_taken.nd
    refine ⟨_, PSs.nox (pss_cons (ps_try_only (tb := fun W => tAsg (tMakeK (He.ga K "Charter") 0 3 (spInit K) (fun vs zs => gI vs [V.ref (soleAt K)] zs) (fun cls d H => ∀ σ, W cls d σ H) tNil (tCons (tVar 0) (tCons (tVar 1) (tCons (tVar 2) tNil)))) (gName 3)) (ts := fun _ _ _ => tRet (tC (.bl false))) (Wout := fun _ _ _ _ => False) rfl rfl ⟨rfl, by decide, Or.inl T.glo_InvalidCharter⟩ LamX.takes0
        (fun W pn xe tk _ => pss_one (ps_set (i := 3) nd rfl (Or.inl rfl) (by
            refine pe_makeK0 (x := "Charter") MK GI (hr.mono (by decide)) ?_ T.glo_Charter kb (passAll tk) (pk_cons (pv 0) (pk_cons (pv 1) (pk_cons (pv 2) pk_nil))) ?_ ?_ ?_ ?_
            all_goals rfl)))
        (fun a oe cls d pn _ _ => pss_one (ps_ret pe_bl)))
      (pss_one (ps_ret (pe_and (pe_cmpR (op_eqD hr.units) (pe_fld (pv 3) rfl) (pe_callTy call_tupS (by rfl) T.free_tuple (by decide +kernel) (pa_cons (pv 0) pa_nil)) (nomark _))
        (pe_and (pe_cmpR op_eq (pe_callB call_len_seq (by rfl) T.free_len PySem.boot_len (pa_cons (pe_fld (pv 3) rfl) pa_nil)) (pe_callB call_len_seq (by rfl) T.free_len PySem.boot_len (pa_cons (pv 1) pa_nil)) (nomark _))
          (pe_one (pe_cmpR op_eq (pe_callB call_len_seq (by rfl) T.free_len PySem.boot_len (pa_cons (pe_fld (pv 3) rfl) pa_nil)) (pe_callB call_len_seq (by rfl) T.free_len PySem.boot_len (pa_cons (pv 2) pa_nil)) (nomark _)))))))), ?_⟩
    refine ⟨_, rfl, _, rfl, _, rfl, rfl, rfl, fun x dx hx hdx ne => ?_⟩
    have hx2 : upd H dx (.own x) x = none := by rw [upd_ne (Ne.symm ne)]; exact hx
    have s1 : Sm H (upd (upd H dx (.own x)) x (.ins (He.ga K "Charter") dx [])) := (Sm.new hdx).trans (Sm.new hx2)
    have h1 : (upd (upd H dx (.own x)) x (.ins (He.ga K "Charter") dx [])) x = some (.ins (He.ga K "Charter") dx []) := upd_same
    show spInit K _ (upd (upd H dx (.own x)) x (.ins (He.ga K "Charter") dx [])) _ _
    generalize upd (upd H dx (.own x)) x (.ins (He.ga K "Charter") dx []) = H1 at s1 h1 ⊢
    refine ⟨x, dx, r, soleAt K, f, u, rights, [], wf, fs, wr, rs, rfl, h1, s1.txl hr1, .inr (T.sole0 H1), s1.sq hf1, GD.Paired.imp (fun _ _ z => z.mono s1) hpf, s1.sq hu1, GD.Paired.imp (fun _ _ z => z.mono s1) hpu, ⟨lr, Nat.zero_le _, lf, lu⟩, lrs, lfs, lns, g.mono s1, hq, fun H2 c S e hc => ⟨rfl, ?_⟩, fun H2 S e σ => ?_⟩
    · have s2 := Sx.out hx s1 S
      obtain ⟨e1, e2, e3, e4, e5, e6⟩ := mkCharter_some e
      obtain ⟨dx2, pr, ps, pf, pu, uf, uu, i1, i2, i3, i4, i5, i6, i7⟩ := hc.at_
      have last := k
      rw [e] at last
      rw [e1] at i2
      refine ⟨_, rfl, x, _, dx2, _, _, rfl, i1, T.cls_Charter, T.noat_Charter_rights, rfl, _, rfl, rd_tup (TxL.sq (s2.txl hr1)) fun p H3 s3 k3 => ?_⟩
      have ok : ∀ s ∈ rights, PyData.strOk s = true := fun s hs => isName_ok (List.all_eq_true.mp (checkNames_names e2) s hs)
      refine ⟨_, _, .tup (s3.tup i2) (dp_strs _), .tup k3 (dp_strs _), shaped_strs _ ok, shaped_strs _ ok, ?_⟩
      rw [eqv_tup, decide_eq_true rfl]
      have s13 := s2.trans s3
      have i13 := s3.st _ _ i1 fun _ z => by cases z
      have n1 : uf.length = wf.length := by rw [Paired.len i5, keptFounders_len e4, Paired.len hpf]
      have n2 : uu.length = wr.length := by
        rw [Paired.len i7, Paired.len hpu]
        rw [keptRules_some fun r hr => (hq _ e3 r hr).1] at e5
        rw [← Option.some.inj e5, List.length_map]
      refine ⟨true, rfl, ifT rfl ?_⟩
      refine ⟨_, rfl, x, _, dx2, _, _, rfl, i13, T.cls_Charter, T.noat_Charter_founders, rfl, pf, uf, rfl, .inr (s3.tup i4), _, rfl, f, wf, rfl, s13.sq hf1, rfl, ?_⟩
      refine ⟨_, rfl, ifT (decide_eq_true (by rw [n1])) ?_⟩
      refine ⟨_, rfl, x, _, dx2, _, _, rfl, i13, T.cls_Charter, T.noat_Charter_rules, rfl, pu, uu, rfl, .inr (s3.tup i6), _, rfl, u, wr, rfl, s13.sq hu1, rfl, ?_⟩
      have e7 : decide (V.int (uu.length : Nat) = V.int (wr.length : Nat)) = true := decide_eq_true (by rw [n2])
      rw [e7]
      exact last H3 s13
    · have s2 := Sx.out hx s1 S
      have last := k H2 s2
      rw [e] at last
      exact ⟨true, T.exm_InvalidCharter_InvalidCharter, fun _ a ha => last, fun q => nomatch q⟩
end
end K8

-- part C08m
set_option Elab.async false
set_option linter.all false
set_option maxRecDepth 100000
set_option maxHeartbeats 2000000
namespace K8
open PySem PySem.Spec PyProof.Rows L2 GxR GS GA GD
theorem names_one (t : Str) {m : Int} (h : 1 ≤ m) : checkNames [t] m = isName t := by
  unfold checkNames
  rw [decide_eq_true (by show ((1 : Nat) : Int) ≤ m; omega)]
  simp
theorem listed_nil (rs : List Str) : listed rs [] = some [] := by
  unfold listed
  simp
theorem mk1 (t : Str) : (mkCharter [t] [] [] []).isSome = isName t := by
  unfold mkCharter
  rw [names_one t (by decide), listed_nil]
  cases isName t <;> rfl
abbrev rr : List Str := ["r"]
theorem rOk : checkNames rr 6 = true := by decide +kernel
theorem rLs : listed rr rr = some rr := by decide +kernel
theorem mk2 (t : Str) : (mkCharter rr [] [(t, rr)] []).isSome = isName t := by
  unfold mkCharter
  rw [rOk, listed_nil]
  have e : keptFounders rr [] [(t, rr)] = if isName t = true then some ([(t, rr)] : List (Str × List Str)) else none := by
    unfold keptFounders
    have e1 : heldAll rr [(t, rr)] = some ([(t, rr)] : List (Str × List Str)) := by
      rw [heldAll_cons, rLs]
      rfl
    rw [e1]
    show (if (checkNames [t] 5 && true) = true then some ([(t, rr)] : List (Str × List Str)) else none) = _
    rw [names_one t (by decide), Bool.and_true]
  show ((keptFounders rr [] [(t, rr)]).bind _).isSome = _
  rw [e]
  cases isName t <;> rfl
theorem mk3 {r k : Ru} (h : keptRule rr [] r = some k) : (mkCharter rr [] [] [r]).isSome = isName r.name := by
  unfold mkCharter
  rw [rOk, listed_nil]
  have e1 : keptFounders rr [] [] = some [] := by decide +kernel
  have e2 : keptRules rr [] [r] = some [k] := by
    show (keptRule rr [] r).bind _ = _
    rw [h]
    rfl
  show ((keptFounders rr ([] : List Str) ([] : List (Str × List Str))).bind fun f => (keptRules rr [] [r]).bind fun u => if checkNames (u.map (·.name)) 12 = true then some (⟨rr, [], f, u⟩ : Ch) else none).isSome = _
  rw [e1, e2]
  show (if checkNames [k.name] 12 = true then _ else none).isSome = _
  rw [names_one _ (by decide), keptRule_name h]
  cases isName r.name <;> rfl
def ru1 (t : Str) : Ru := ⟨"join", t, [rr], none⟩
def ru2 (t : Str) : Ru := ⟨"claim", t, [[], []], some "r"⟩
def ru3 (t : Str) : Ru := ⟨"take", t, [[], [], []], some "r"⟩
theorem ku1 (t : Str) : keptRule rr [] (ru1 t) = some ⟨"join", t, [rr], none⟩ := by
  unfold keptRule ru1
  rw [if_neg (by show ¬ hasParts "join" 2 = false; decide +kernel)]
  show (listed rr rr).bind _ = _
  rw [rLs]
  rfl
theorem ku2 (t : Str) : keptRule rr [] (ru2 t) = some ⟨"claim", t, [[], []], some "r"⟩ := by
  unfold keptRule ru2
  rw [if_neg (by show ¬ hasParts "claim" 4 = false; decide +kernel)]
  show (if List.contains rr "r" = false then none else (listAll rr [[], []]).bind _) = _
  rw [if_neg (by decide +kernel), show listAll rr [[], []] = some [[], []] by decide +kernel]
  show (if checkRight "claim" [[], []] "r" [] = true then some (⟨"claim", t, [[], []], some "r"⟩ : Ru) else none) = _
  rw [show checkRight "claim" [[], []] "r" [] = true by decide +kernel]
  rfl
theorem ku3 (t : Str) : keptRule rr [] (ru3 t) = some ⟨"take", t, [[], [], []], some "r"⟩ := by
  unfold keptRule ru3
  rw [if_neg (by show ¬ hasParts "take" 5 = false; decide +kernel)]
  show (if List.contains rr "r" = false then none else (listAll rr [[], [], []]).bind _) = _
  rw [if_neg (by decide +kernel), show listAll rr [[], [], []] = some [[], [], []] by decide +kernel]
  show (if checkRight "take" [[], [], []] "r" [] = true then some (⟨"take", t, [[], [], []], some "r"⟩ : Ru) else none) = _
  rw [show checkRight "take" [[], [], []] "r" [] = true by decide +kernel]
  rfl
theorem ok1 (t : Str) : RuOk rr (ru1 t) := by
  refine ⟨fun _ => ⟨fun _ => rfl, fun _ => rfl⟩, fun right _ h => (by cases h), fun l hl => ?_⟩
  rw [List.mem_singleton.mp hl]
  decide
theorem ok2 (t : Str) : RuOk rr (ru2 t) := by
  refine ⟨fun _ => ⟨fun h => absurd h (by show ¬ ("claim" : Str) = "join"; decide +kernel), fun h => (by cases h)⟩, fun right _ h _ => (by show (listAll rr [[], []]).isSome = true; decide +kernel), fun l hl => ?_⟩
  have hl : l ∈ [([] : List Str), []] := hl
  simp at hl
  rw [hl]; decide
theorem ok3 (t : Str) : RuOk rr (ru3 t) := by
  refine ⟨fun _ => ⟨fun h => absurd h (by show ¬ ("take" : Str) = "join"; decide +kernel), fun h => (by cases h)⟩, fun right _ h _ => (by show (listAll rr [[], [], []]).isSome = true; decide +kernel), fun l hl => ?_⟩
  have hl : l ∈ [([] : List Str), [], []] := hl
  simp at hl
  rw [hl]; decide
end K8

-- part C08j
set_option Elab.async false
set_option linter.all false
set_option maxRecDepth 100000
set_option maxHeartbeats 2000000
namespace K8
open PySem PySem.Spec PyProof.Rows L2 GxR GS GA GD
/-- an if behind which the slots keep I, the heap as it was -/
theorem rd_ifK {C : Prop} {c : TT} {t rest : TS} {D : Ends} {σ : L2.St} {H : Hp} (I : L2.St → Prop) (hR : ∀ σ', I σ' → rest D σ' H) (hc : ∀ R : Bool → Hp → Prop, (C → R true H) → R false H → c σ H R) (hT : (∀ σ', I σ' → rest D σ' H) → C → t { D with nx := rest D } σ H) (hF : I σ) :
    tSeq (tIfS c t tNext) rest D σ H :=
  hc _ (fun z => ifT rfl (hT hR z)) (ifF rfl (hR σ hF))
def stL (a p : Addr) (good ac t : Str) (kv pl : Option V) : L2.St := [some (.ref a), some (.ref p), some (.str good), some (.str ac), some (.str t), kv, pl, none, none, none, none]
theorem str_len_append (x y : Str) : (x ++ y).length = x.length + y.length := Array.size_append ..
theorem cutS_len (z : Str) (lo hi : Option Int) : (cutS z lo hi).length ≤ z.length := by
  show ((List.take _ (List.drop _ z.cps.toList)).toArray).size ≤ z.cps.size
  rw [List.size_toArray, List.length_take, List.length_drop, Array.length_toList]
  omega
theorem at_int {ns : List Int} (i : Nat) (h : i < ns.length) : ∃ n, atI (ns.map V.int) (i : Int) = some (.int n) ∧ ns[i]? = some n := by
  refine ⟨ns[i], ?_, List.getElem?_eq_getElem h⟩
  rw [atI_nat (j := i)]
  rw [List.getElem?_map, List.getElem?_eq_getElem h]
  rfl
def digits : Str := "0123456789"
def due0 (t : Str) : Bool := (decide (1 ≤ t.length) && decide (t.length ≤ 12)) && t.cps.toList.head?.any fun c => !decide (c ∈ digits.cps.toList)
theorem due_isName (t : Str) : (due0 t && t.cps.toList.all fun c => decide (c ∈ signs.cps.toList)) = isName t := by
  unfold due0 isName
  rw [Bool.and_assoc]
  congr 1
  cases e : t.cps.toList with
  | nil => rfl
  | cons x r =>
    show (!decide (x ∈ digits.cps.toList) && (decide (x ∈ signs.cps.toList) && _)) = (decide (x ∈ letters.cps.toList) && (decide (x ∈ signs.cps.toList) && _))
    rw [← Bool.and_assoc, ← Bool.and_assoc]
    congr 1
    have h1 : ∀ x ∈ signs.cps.toList, (!decide (x ∈ digits.cps.toList)) = decide (x ∈ letters.cps.toList) := by decide +kernel
    by_cases h : x ∈ signs.cps.toList
    · rw [h1 x h]
    · rw [decide_eq_false h, Bool.and_false, Bool.and_false]
theorem cut_one {t : Str} {c : Nat} {r : List Nat} (h : t.cps.toList = c :: r) : cutS t none (some 1) = ⟨#[c]⟩ := by
  have e : t.length = r.length + 1 := by
    have : t.length = t.cps.toList.length := by rw [Array.length_toList]; rfl
    rw [this, h]; rfl
  have e1 : HT.sIx t.length 0 none = 0 := rfl
  have e2 : HT.sIx t.length t.length (some 1) = 1 := by
    show min 1 t.length = 1
    omega
  unfold cutS
  rw [e1, e2, h]
  rfl
theorem rd_due {t : Str} {σ : L2.St} {H : Hp} {R : VK} (hσ : σ[4]? = some (some (.str t))) (hl : t.length ≤ sizeLine) (h : R (.bl (due0 t)) H) : tAndV (tChain (rI0 fun i j => V.bl (decide (i ≤ j))) (rI0 fun i j => V.bl (decide (i ≤ j))) (tC (.int 1)) (tCB (fun xs H Q => ∃ z, xs = [V.str z] ∧ z.length ≤ sizeLine ∧ Q (V.int ↑z.length) H) (tCons (tVar 4) tNil)) (tC (.int 12)))
    (tOp (fun x y H Q => ∃ c z, x = V.str ⟨#[c]⟩ ∧ y = V.str z ∧ Q (V.bl !decide (c ∈ z.cps.toList)) H) (tSl rSlS (tVar 4) tNoPart (tPart (tC (.int 1)))) (tC (.str "0123456789"))) σ H R := by
  have no : due0 t = false → R (.bl false) H := fun e => e ▸ h
  refine ⟨_, hσ, t, rfl, hl, _, _, rfl, rfl, _, rfl, ?_⟩
  by_cases h1 : 1 ≤ t.length
  · refine ifT (decide_eq_true (by omega)) ⟨_, _, rfl, rfl, _, rfl, ?_⟩
    by_cases h2 : t.length ≤ 12
    · obtain ⟨c, r, e⟩ : ∃ c r, t.cps.toList = c :: r := by
        cases e : t.cps.toList with
        | nil => have : t.cps.size = 0 := by rw [← Array.length_toList, e]; rfl
                 have h1 : 1 ≤ t.cps.size := h1
                 omega
        | cons x r => exact ⟨x, r, rfl⟩
      refine ifT (decide_eq_true (by omega)) ⟨_, hσ, _, rfl, t, rfl, hl, c, digits, congrArg V.str (cut_one e), rfl, ?_⟩
      have e0 : due0 t = !decide (c ∈ digits.cps.toList) := by
        unfold due0
        rw [decide_eq_true h1, decide_eq_true h2, e]
        rfl
      rw [← e0]
      exact h
    · refine ifF (decide_eq_false (by omega)) (no ?_)
      unfold due0
      rw [decide_eq_false h2, Bool.and_false, Bool.false_and]
  · refine ifF (decide_eq_false (by omega)) ⟨_, rfl, ifF rfl (no ?_)⟩
    unfold due0
    rw [decide_eq_false h1, Bool.false_and, Bool.false_and]
theorem nr : ∀ x ∈ rr, x.length ≤ sizeLine := fun x hx => by rw [List.mem_singleton.mp hx]; decide +kernel
theorem eqB (b : Bool) : (!decide (V.bl b = V.bl b)) = false := by rw [decide_eq_true rfl]; rfl
theorem rd_fin {K : PySem.W.Frag} {H : Hp} {σ : L2.St} {D : Ends} {t : Str} {q : Addr} {r kr : Ru} (h7 : σ[7]? = some (some (.bl (isName t)))) (h10 : σ[10]? = some (some (.ref q))) (hru : RuAt K H (.ref q) r) (hk : keptRule rr [] r = some kr) (hok : RuOk rr r) (hn : r.name = t) (hl : t.length ≤ sizeLine) (g : Gd K H) (kt : ∀ H', D.rt (.bl true) H') :
    tRet (tOp rEq (tCall (spTaken K) [] E0 (tCons (tLst (tCons (tC (V.str "r")) tNil)) (tCons (tLst tNil) (tCons (tLst (tCons (tVar 10) tNil)) tNil)))) (tVar 7)) D σ H := by
  refine ⟨by show 1 ≤ sizeLine; decide, fun l1 hl1 => ⟨Nat.zero_le _, fun l2 hl2 => ⟨_, h10, by show 1 ≤ sizeLine; decide, fun l3 hl3 => ?_⟩⟩⟩
  have sa := Sm.new (o := .lst [.str "r"]) hl1
  have sb := Sm.new (o := .lst []) hl2
  have sc := Sm.new (o := .lst [.ref q]) hl3
  have q1 := sc.lst (sb.lst (SqL.of (K := K) (xs := [V.str "r"]) (upd_same (H := H) (a := l1))))
  have q2 := sc.lst (SqL.of (K := K) (xs := []) (upd_same (H := upd H l1 (.lst [.str "r"])) (a := l2)))
  have q3 := SqL.of (K := K) (xs := [.ref q]) (upd_same (H := upd (upd H l1 (.lst [.str "r"])) l2 (.lst [])) (a := l3))
  have sabc := (sa.trans sb).trans sc
  refine ⟨l1, l2, l3, rr, [], [], [.ref q], [r], rfl, .inl q1, .inl q2, .nil, .inl q3, .cons (hru.mono sabc) .nil, ⟨by decide, by decide, by show 1 ≤ 4000; decide⟩, nr, fun _ h => (by cases h), fun x h => (by rw [List.mem_singleton.mp h, hn]; exact hl), g.mono sabc, fun s' hs x hx => ?_, fun H5 s5 => ?_⟩
  · rw [List.mem_singleton.mp hx]
    rw [listed_nil] at hs
    rw [← Option.some.inj hs, hk]
    exact ⟨rfl, hok⟩
  · rw [mk3 hk, hn]
    refine ⟨_, h7, rfl, ?_⟩
    rw [decide_eq_true rfl]
    exact kt H5
theorem newL {K : PySem.W.Frag} {H : Hp} {a : Addr} {xs : List V} (h : H a = none) : Sm H (upd H a (.lst xs)) ∧ SqL K (upd H a (.lst xs)) a xs := ⟨Sm.new h, SqL.of upd_same⟩
theorem newT {K : PySem.W.Frag} {H : Hp} {a : Addr} {xs : List V} (h : H a = none) : Sm H (upd H a (.tup xs)) ∧ SqT K (upd H a (.tup xs)) a xs := ⟨Sm.new h, SqT.of upd_same⟩
def stM (a p : Addr) (good ac t : Str) (kv pl : Option V) (due : Bool) (cv : Option V) : L2.St := [some (.ref a), some (.ref p), some (.str good), some (.str ac), some (.str t), kv, pl, some (.bl due), cv, none, none]
section
variable {P : Program} {w : World} {K : PySem.W.Frag} {mg : Str → Option Value} {base : Heap}
def spLaw (K : PySem.W.Frag) : Sp := fun vs H Q _ => ∃ (a : Addr) (cs : List Int), vs = [.ref a] ∧ SqL K H a (cs.map V.int) ∧ cs.length ≤ 63 ∧ (∀ c ∈ cs, c.natAbs.log2 < 4000000) ∧ Gd K H ∧ ∀ H', Q (.bl true) H'
abbrev Nla : List Str := ["script", "numbers", "good", "all_chars", "text", "k", "place", "due", "char", "told", "rule"]
theorem sc_law : FnScope Nla ["script"] (defScope slaw) := ⟨rfl, rfl, rfl, by decide +kernel, rfl, by decide +kernel, by decide +kernel⟩
theorem ok_law (T : Tx w K mg base) {fd : FuncData} (F : FunD K "law" "law" (defArgs slaw) (defBody slaw) (defScope slaw) [] [] (He.fAd K ("law", none)) fd) : FnOk P w K mg base CX0 9 (He.ga K "law") fd ["script"] (spLaw K) := by
  obtain ⟨fdN, GN, bN, kN⟩ := ok_numbers (P := P) T
  obtain ⟨fdI, GI, bI, kI⟩ := ok_is_name (P := P) T
  obtain ⟨fdT, GT, bT, kT⟩ := ok_taken (P := P) T
  refine okC (k := 8) F (codeOf_at (p := ("law", none)) F) sc_law (fun vs H Q E h => ?_) (fun A outer s H vs Q E hr h => ?_)
  · obtain ⟨a, cs, rfl, _⟩ := h
    rfl
  · obtain ⟨a, cs, rfl, ha, lc, hb, g, k⟩ := h
    have nd := sc_law.nd
    refine ⟨_, PSs.nox (pss_cons (ps_set (i := 1) nd rfl (Or.inl rfl) (pe_call GN (hr.mono (by decide)) rfl T.glo__law_numbers kN bN .nil pass0 (pa_cons (pv 0) (pa_cons pe_int pa_nil))))
      (pss_cons (ps_set (i := 2) nd rfl (Or.inl rfl) pe_str)
      (pss_cons (ps_set (i := 3) nd rfl (Or.inl rfl) pe_str)
      (pss_cons (ps_set (i := 3) nd rfl (Or.inl rfl) (pe_op op_add_str (pv 3) pe_str))
      (pss_cons (ps_set (i := 4) nd rfl (Or.inl rfl) pe_str)
      (pss_cons (ps_forI PassesOwn.never rfl (pi_range1 rfl T.free_range (pa_cons (pe_op op_mod (pe_callTy call_int1 (by rfl) T.free_int (by decide +kernel) (pa_cons (pe_ix ix_list (pv 1) pe_int (fun _ _ => rfl)) pa_nil)) pe_int) pa_nil)) (pg_name (i := 5) nd rfl (Or.inl rfl))
        (pss_one (ps_set (i := 4) nd rfl (Or.inl rfl) (pe_op op_add_str (pv 4) (pe_item_str (pv 2) (pe_op op_mod (pe_callTy call_int1 (by rfl) T.free_int (by decide +kernel) (pa_cons (pe_ix ix_list (pv 1) (pe_op op_add pe_int (pv 5)) (fun _ _ => rfl)) pa_nil)) pe_int) (fun _ _ => rfl))))))
      (pss_cons (ps_if (PW.pt (pw_and (pt_cmpR op_gt (pe_op op_mod (pe_callTy call_int1 (by rfl) T.free_int (by decide +kernel) (pa_cons (pe_ix ix_list (pv 1) pe_int (fun _ _ => rfl)) pa_nil)) pe_int) pe_int (nomark _)) (pw_and1 (pt_cmpR op_gt (pe_callB call_len_str (by rfl) T.free_len PySem.boot_len (pa_cons (pv 4) pa_nil)) pe_int (nomark _)))))
        (pss_one (ps_set (i := 4) nd rfl (Or.inl rfl) (pe_op op_add_str (pe_item_str (pv 2) (pe_op op_mod (pe_callTy call_int1 (by rfl) T.free_int (by decide +kernel) (pa_cons (pe_ix ix_list (pv 1) pe_int (fun _ _ => rfl)) pa_nil)) pe_int) (fun _ _ => rfl)) (pe_slice sl_str (pv 4) (po_some pe_int) po_none)))) pss_nil)
      (pss_cons (ps_if (PW.pt (pw_and (pt_cmpR op_eq (pe_op op_mod (pe_callTy call_int1 (by rfl) T.free_int (by decide +kernel) (pa_cons (pe_ix ix_list (pv 1) pe_int (fun _ _ => rfl)) pa_nil)) pe_int) pe_int (nomark _)) (pw_and1 (pt_cmpR op_gt (pe_callB call_len_str (by rfl) T.free_len PySem.boot_len (pa_cons (pv 4) pa_nil)) pe_int (nomark _)))))
        (pss_cons (ps_set (i := 6) nd rfl (Or.inl rfl) (pe_op op_mod (pe_callTy call_int1 (by rfl) T.free_int (by decide +kernel) (pa_cons (pe_ix ix_list (pv 1) pe_int (fun _ _ => rfl)) pa_nil)) (pe_callB call_len_str (by rfl) T.free_len PySem.boot_len (pa_cons (pv 4) pa_nil))))
        (pss_one (ps_set (i := 4) nd rfl (Or.inl rfl) (pe_op op_add_str (pe_op op_add_str (pe_slice sl_str (pv 4) po_none (po_some (pv 6))) (pe_item_str (pv 3) (pe_op op_mod (pe_callTy call_int1 (by rfl) T.free_int (by decide +kernel) (pa_cons (pe_ix ix_list (pv 1) pe_int (fun _ _ => rfl)) pa_nil)) (pe_callB call_len_str (by rfl) T.free_len PySem.boot_len (pa_cons (pv 3) pa_nil))) (fun _ _ => rfl))) (pe_slice sl_str (pv 4) (po_some (pe_op op_add (pv 6) pe_int)) po_none))))) pss_nil)
      (pss_cons (ps_set (i := 7) nd rfl (Or.inl rfl) (pe_and (pe_chain op_le op_le pe_int (pe_callB call_len_str (by rfl) T.free_len PySem.boot_len (pa_cons (pv 4) pa_nil)) pe_int) (pe_one (pe_cmpR op_notIn_sign (pe_slice sl_str (pv 4) po_none (po_some pe_int)) pe_str (by rfl)))))
      (pss_cons (ps_forI PassesOwn.never rfl (pi_str (pv 4)) (pg_name (i := 8) nd rfl (Or.inl rfl))
        (pss_one (ps_if (pt_cmpR op_notIn_sign (pv 8) (pv 2) (by rfl)) (pss_one (ps_set (i := 7) nd rfl (Or.inl rfl) pe_bl)) pss_nil)))
      (pss_cons (ps_set (i := 9) nd rfl (Or.inl rfl) (pe_call GI (hr.mono (by decide)) rfl T.glo_is_name kI bI .nil pass0 (pa_cons (pv 4) pa_nil)))
      (pss_cons (ps_if (PW.pt (pw_or (pt_not (pt_val (pe_callB call_isi (by rfl) T.free_isinstance (by decide +kernel) (pa_cons (pv 9) (pa_cons (pe_bltn (v := .ty "bool") rfl T.free_bool rfl rfl) pa_nil))))) (pw_or1 (pt_cmpR op_ne (pv 9) (pv 7) (nomark _))))) (pss_one (ps_ret pe_bl)) pss_nil)
      (pss_cons (ps_if (PW.pt (pw_or (pt_cmpR op_ne (pe_call GT (hr.mono (by decide)) rfl T.glo__law_taken kT bT .nil pass0 (pa_cons (pe_lst (pa_cons (pv 4) pa_nil)) (pa_cons (pe_lst pa_nil) (pa_cons (pe_lst pa_nil) pa_nil)))) (pv 7) (nomark _))
          (pw_or1 (pt_cmpR op_ne (pe_call GT (hr.mono (by decide)) rfl T.glo__law_taken kT bT .nil pass0 (pa_cons (pe_lst (pa_cons pe_str pa_nil)) (pa_cons (pe_lst (pa_cons (pe_tup (pa_cons (pv 4) (pa_cons (pe_lst (pa_cons pe_str pa_nil)) pa_nil))) pa_nil)) (pa_cons (pe_lst pa_nil) pa_nil)))) (pv 7) (nomark _))))) (pss_one (ps_ret pe_bl)) pss_nil)
      (pss_cons (ps_set (i := 10) nd rfl (Or.inl rfl) (pe_ix ix_list (pe_lst (pa_cons (pe_tup (pa_cons pe_str (pa_cons (pv 4) (pa_cons (pe_lst (pa_cons pe_str pa_nil)) pa_nil))))
            (pa_cons (pe_tup (pa_cons pe_str (pa_cons (pv 4) (pa_cons (pe_lst pa_nil) (pa_cons (pe_lst pa_nil) (pa_cons pe_str pa_nil))))))
            (pa_cons (pe_tup (pa_cons pe_str (pa_cons (pv 4) (pa_cons (pe_lst pa_nil) (pa_cons (pe_lst pa_nil) (pa_cons (pe_lst pa_nil) (pa_cons pe_str pa_nil))))))) pa_nil))))
          (pe_op op_mod (pe_callTy call_int1 (by rfl) T.free_int (by decide +kernel) (pa_cons (pe_ix ix_list (pv 1) pe_int (fun _ _ => rfl)) pa_nil)) pe_int) (fun _ _ => rfl)))
      (pss_one (ps_ret (pe_cmpR op_eq (pe_call GT (hr.mono (by decide)) rfl T.glo__law_taken kT bT .nil pass0 (pa_cons (pe_lst (pa_cons pe_str pa_nil)) (pa_cons (pe_lst pa_nil) (pa_cons (pe_lst (pa_cons (pv 10) pa_nil)) pa_nil)))) (pv 7) (nomark _)))))))))))))))))), ?_⟩
    refine ⟨_, rfl, a, cs, 24, rfl, ha, lc, hb, by decide, fun H1 p ns s1 h1 hn h9 => ?_⟩
    have g1 := g.mono s1
    refine ⟨_, rfl, _, _, rfl, rfl, by decide +kernel, ?_⟩
    dsimp only [gName]
    obtain ⟨good, eg⟩ : ∃ good : Str, ("abcdefghijklmnopqrstuvwxyz0123456789" : Str) = good := ⟨_, rfl⟩
    obtain ⟨ac, ea⟩ : ∃ ac : Str, ((" !\"#$&'()*+,-./0123456789:;<=>?@ABCDEFGHIJKLMNOPQRSTUVWXYZ[\\]^_`" : Str) ++ ("abcdefghijklmnopqrstuvwxyz{|}~\n\t" : Str)) = ac := ⟨_, rfl⟩
    rw [eg, ea]
    have lg : good.length = 36 := by rw [← eg]; decide +kernel
    have la : 0 < ac.length ∧ ac.length < 1000 := by rw [← ea]; constructor <;> decide +kernel
    have L1 : SqL K H1 p (ns.map V.int) := SqL.of h1
    have num : ∀ (i : Nat) (R : VK), i < 24 → (∀ z, In9 z → R (.int z) H1) → rIxL K (.ref p) (.int (i : Int)) H1 R := fun i R hi hR => by
      obtain ⟨z, e1, e2⟩ := at_int (ns := ns) i (by omega)
      exact ⟨p, _, _, _, rfl, rfl, L1, e1, hR z (h9 z (List.mem_of_getElem? e2))⟩
    have sign : ∀ (z : Str) (j : Int), 0 ≤ j → j < z.length → ∃ c, z.cps[j.toNat]? = some c := fun z j h0 h1 => by
      have hj : j.toNat < z.cps.size := by
        have : z.length = z.cps.size := rfl
        omega
      exact ⟨z.cps[j.toNat], Array.getElem?_eq_getElem hj⟩
    obtain ⟨z0, i0, j0⟩ := at_int (ns := ns) 0 (by omega)
    have z1 := Int.emod_nonneg z0 (by decide : (15 : Int) ≠ 0)
    have z2 := Int.emod_lt_of_pos z0 (by decide : (0 : Int) < 15)
    refine rd_forR (i := 5) (n := (z0 % 15).toNat) (by omega) (fun k σ' H' => ∃ (t : Str) (v : Option V), σ' = stL a p good ac t v none ∧ t.length ≤ k ∧ H' = H1) ⟨"", none, rfl, by decide, rfl⟩ (fun i σ' H' hi q => ?_) (fun σ' H' q => ?_) (fun R hR => ?_)
    rotate_left 2
    · refine ⟨_, rfl, p, _, 0, _, rfl, rfl, L1, i0, .inl ⟨_, rfl, _, _, rfl, rfl, (by show (0 : Int) < 15; decide), ?_⟩⟩
      have e : ((z0 % 15).toNat : Int) = z0 % 15 := by omega
      rw [e] at hR
      exact hR
    · obtain ⟨t, v, rfl, lt, rfl⟩ := q
      have lt14 : i + 1 < 24 := by omega
      refine ⟨_, rfl, _, rfl, _, rfl, _, rfl, _, _, rfl, rfl, ?_⟩
      have e : (1 : Int) + (i : Int) = ((i + 1 : Nat) : Int) := by omega
      show rIxL _ (.ref p) (.int ((1 : Int) + (i : Int))) _ _
      rw [e]
      refine num (i + 1) _ lt14 fun z hz => .inl ⟨_, rfl, _, _, rfl, rfl, (by show (0 : Int) < 36; decide), ?_⟩
      have m1 := Int.emod_nonneg z (by decide : (36 : Int) ≠ 0)
      have m2 := Int.emod_lt_of_pos z (by decide : (0 : Int) < 36)
      obtain ⟨c, hc⟩ := sign good (z % 36) m1 (by omega)
      refine ⟨good, z % 36, c, rfl, rfl, m1, by omega, by omega, hc, ?_⟩
      refine ⟨_, _, rfl, rfl, ?_, t ++ ⟨#[c]⟩, some (.int (i : Int)), rfl, ?_, rfl⟩
      · show t.length + 1 ≤ sizeLine
        unfold sizeLine; omega
      · rw [str_len_append]
        show t.length + 1 ≤ i + 1
        omega
    obtain ⟨t, v, rfl, lt, rfl⟩ := q
    have lt : t.length ≤ 100 := by omega
    dsimp only
    refine rd_ifK (C := 0 < t.length) (fun σ' => ∃ (t : Str) (kv pl : Option V), σ' = stL a p good ac t kv pl ∧ t.length ≤ 200) (fun σ' h => ?_) (fun R hT hF => ?_) (fun J c0 => ?_) ⟨t, v, none, rfl, by omega⟩
    rotate_left
    · refine ⟨_, rfl, num 16 _ (by decide) fun z hz => .inl ⟨_, rfl, _, _, rfl, rfl, (by show (0 : Int) < 3; decide), _, _, rfl, rfl, _, rfl, ?_⟩⟩
      cases c : decide (0 < z % 3) with
      | false => exact ifF rfl hF
      | true =>
        refine ifT rfl ⟨_, rfl, t, rfl, by unfold sizeLine; omega, _, _, rfl, rfl, _, rfl, ?_⟩
        cases c2 : decide ((0 : Int) < (t.length : Int)) with
        | false => exact hF
        | true => exact hT (by have := of_decide_eq_true c2; omega)
    · refine ⟨_, rfl, _, rfl, num 19 _ (by decide) fun z hz => .inl ⟨_, rfl, _, _, rfl, rfl, (by show (0 : Int) < 26; decide), ?_⟩⟩
      have m1 := Int.emod_nonneg z (by decide : (26 : Int) ≠ 0)
      have m2 := Int.emod_lt_of_pos z (by decide : (0 : Int) < 26)
      obtain ⟨c, hc⟩ := sign good (z % 26) m1 (by omega)
      have q := cutS_len t (some 1) none
      refine ⟨good, z % 26, c, rfl, rfl, m1, by omega, by omega, hc, _, rfl, _, rfl, t, rfl, by unfold sizeLine; omega, _, _, rfl, rfl, ?_, J _ ⟨_, _, _, rfl, ?_⟩⟩
      · show 1 + _ ≤ sizeLine
        unfold sizeLine; omega
      · rw [str_len_append]
        show 1 + _ ≤ 200
        omega
    obtain ⟨t, kv, pl, rfl, lt⟩ := h
    refine rd_ifK (C := 0 < t.length) (fun σ' => ∃ (t : Str) (kv pl : Option V), σ' = stL a p good ac t kv pl ∧ t.length ≤ 1000) (fun σ' h => ?_) (fun R hT hF => ?_) (fun J c0 => ?_) ⟨t, kv, pl, rfl, by omega⟩
    rotate_left
    · refine ⟨_, rfl, num 16 _ (by decide) fun z hz => .inl ⟨_, rfl, _, _, rfl, rfl, (by show (0 : Int) < 6; decide), rfl, _, rfl, ?_⟩⟩
      cases c : decide (V.int (z % 6) = V.int 1) with
      | false => exact ifF rfl hF
      | true =>
        refine ifT rfl ⟨_, rfl, t, rfl, by unfold sizeLine; omega, _, _, rfl, rfl, _, rfl, ?_⟩
        cases c2 : decide ((0 : Int) < (t.length : Int)) with
        | false => exact hF
        | true => exact hT (by have := of_decide_eq_true c2; omega)
    · refine ⟨_, rfl, num 17 _ (by decide) fun z hz => .inl ⟨_, rfl, _, rfl, t, rfl, by unfold sizeLine; omega, _, _, rfl, rfl, (by show (0 : Int) < (t.length : Int); omega), ?_⟩⟩
      refine ⟨_, rfl, _, rfl, _, rfl, t, rfl, by unfold sizeLine; omega, _, rfl, _, rfl, num 18 _ (by decide) fun y hy => .inl ⟨_, rfl, _, rfl, ac, rfl, by unfold sizeLine; omega, _, _, rfl, rfl, (by show (0 : Int) < (ac.length : Int); omega), ?_⟩⟩
      have m1 := Int.emod_nonneg y (by omega : (ac.length : Int) ≠ 0)
      have m2 := Int.emod_lt_of_pos y (by omega : (0 : Int) < (ac.length : Int))
      obtain ⟨c, hc⟩ := sign ac (y % (ac.length : Int)) m1 m2
      have q1 := cutS_len t none (some (z % (t.length : Int)))
      have q2 := cutS_len t (some (z % (t.length : Int) + 1)) none
      refine ⟨ac, _, c, rfl, rfl, m1, by omega, m2, hc, _, _, rfl, rfl, ?_, _, rfl, _, rfl, _, _, rfl, rfl, _, rfl, t, rfl, by unfold sizeLine; omega, _, _, rfl, rfl, ?_, J _ ⟨_, _, _, rfl, ?_⟩⟩
      · show _ + 1 ≤ sizeLine
        unfold sizeLine; omega
      · rw [str_len_append]
        show (_ + 1) + _ ≤ sizeLine
        unfold sizeLine; omega
      · rw [str_len_append, str_len_append]
        show (_ + 1) + _ ≤ 1000
        omega
    obtain ⟨t, kv, pl, rfl, lt⟩ := h
    have hl : t.length ≤ sizeLine := by unfold sizeLine; omega
    refine rd_due rfl hl ?_
    refine rd_forS (z := t) (i := 8) (fun k σ' H'' => ∃ cv, σ' = stM a p good ac t kv pl (due0 t && (t.cps.toList.take k).all fun c => decide (c ∈ signs.cps.toList)) cv ∧ H'' = H') ⟨none, by rw [List.take_zero]; show _ = stM a p good ac t kv pl (due0 t && true) none; rw [Bool.and_true]; rfl, rfl⟩ (fun i c σ' H'' hc q => ?_) (fun σ' H'' q => ?_) (fun R hR => ⟨_, rfl, hR⟩)
    · obtain ⟨cv, rfl, rfl⟩ := q
      have tk : t.cps.toList.take (i + 1) = t.cps.toList.take i ++ [c] := by rw [List.take_add_one, hc]; rfl
      refine ⟨_, rfl, _, rfl, c, good, rfl, rfl, _, rfl, ?_⟩
      have eg2 : good = signs := eg.symm
      cases m : decide (c ∈ good.cps.toList) with
      | true =>
        refine ifF rfl ⟨some (.str ⟨#[c]⟩), ?_, rfl⟩
        rw [tk, List.all_append, List.all_cons, List.all_nil, ← eg2, m, Bool.and_true, Bool.and_true]
        rfl
      | false =>
        refine ifT rfl ⟨some (.str ⟨#[c]⟩), ?_, rfl⟩
        rw [tk, List.all_append, List.all_cons, List.all_nil, ← eg2, m, Bool.false_and, Bool.and_false, Bool.and_false]
        rfl
    obtain ⟨cv, rfl, rfl⟩ := q
    rw [List.take_length, due_isName]
    dsimp only
    refine ⟨_, rfl, t, rfl, hl, g1, fun H2 s2 => ?_⟩
    dsimp only [gName]
    refine rd_ifN false (fun R hR => ?_) (fun e => by cases e) (fun _ H3 s3 => ?_)
    · refine ⟨_, rfl, _, _, _, _, true, rfl, .ty "bool", .base (.bl _), kit_ty (by decide +kernel), _, rfl, ifF rfl ⟨_, rfl, _, rfl, rfl, _, rfl, ?_⟩⟩
      have e : (!decide (V.bl (isName t) = V.bl (isName t))) = false := by rw [decide_eq_true rfl]; rfl
      rw [e]
      exact hR H2 Sm.refl
    have g3 := g1.mono (s2.trans s3)
    have nt : ∀ x ∈ [t], x.length ≤ sizeLine := fun x hx => by rw [List.mem_singleton.mp hx]; exact hl
    refine rd_ifN false (fun R hR => ?_) (fun e => by cases e) (fun _ H4 s4 => ?_)
    · refine ⟨_, rfl, by show 1 ≤ sizeLine; decide, fun l1 hl1 => ⟨Nat.zero_le _, fun l2 hl2 => ⟨Nat.zero_le _, fun l3 hl3 => ?_⟩⟩⟩
      have sa := Sm.new (o := .lst [.str t]) hl1
      have sb := Sm.new (o := .lst []) hl2
      have sc := Sm.new (o := .lst []) hl3
      have q1 := sc.lst (sb.lst (SqL.of (K := K) (xs := [V.str t]) (upd_same (H := H3) (a := l1))))
      have q2 := sc.lst (SqL.of (K := K) (xs := []) (upd_same (H := upd H3 l1 (.lst [.str t])) (a := l2)))
      have q3 := SqL.of (K := K) (xs := []) (upd_same (H := upd (upd H3 l1 (.lst [.str t])) l2 (.lst [])) (a := l3))
      have sabc := (sa.trans sb).trans sc
      refine ⟨l1, l2, l3, [t], [], [], [], [], rfl, .inl q1, .inl q2, .nil, .inl q3, .nil, ⟨by show 1 ≤ 4000; decide, by decide, by decide⟩, nt, fun _ h => (by cases h), fun _ h => (by cases h), g3.mono sabc, fun _ _ _ h => (by cases h), fun H5 s5 => ?_⟩
      rw [mk1]
      refine ⟨_, rfl, rfl, _, rfl, ?_⟩
      have e : (!decide (V.bl (isName t) = V.bl (isName t))) = false := by rw [decide_eq_true rfl]; rfl
      rw [e]
      refine ifF rfl ?_
      have s35 := sabc.trans s5
      refine ⟨by show 1 ≤ sizeLine; decide, fun l4 hl4 => ⟨_, rfl, by show 1 ≤ sizeLine; decide, fun l5 hl5 => ?_⟩⟩
      refine ⟨by show 2 ≤ sizeLine; decide, fun l6 hl6 => ⟨by show 1 ≤ sizeLine; decide, fun l7 hl7 => ⟨Nat.zero_le _, fun l8 hl8 => ?_⟩⟩⟩
      have s4 := Sm.new (o := .lst [.str "r"]) hl4
      have s5' := Sm.new (o := .lst [.str "r"]) hl5
      have s6 := Sm.new (o := .tup [.str t, .ref l5]) hl6
      have s7 := Sm.new (o := .lst [.ref l6]) hl7
      have s8 := Sm.new (o := .lst []) hl8
      have p4 := (((s5'.trans s6).trans s7).trans s8).lst (SqL.of (K := K) (xs := [V.str "r"]) (upd_same (H := H5) (a := l4)))
      have p5 := ((s6.trans s7).trans s8).lst (SqL.of (K := K) (xs := [V.str "r"]) (upd_same (H := upd H5 l4 (.lst [.str "r"])) (a := l5)))
      have p6 := (s7.trans s8).tup (SqT.of (K := K) (xs := [.str t, .ref l5]) (upd_same (H := upd (upd H5 l4 (.lst [.str "r"])) l5 (.lst [.str "r"])) (a := l6)))
      have p7 := s8.lst (SqL.of (K := K) (xs := [.ref l6]) (upd_same (H := upd (upd (upd H5 l4 (.lst [.str "r"])) l5 (.lst [.str "r"])) l6 (.tup [.str t, .ref l5])) (a := l7)))
      have p8 := SqL.of (K := K) (xs := []) (upd_same (H := upd (upd (upd (upd H5 l4 (.lst [.str "r"])) l5 (.lst [.str "r"])) l6 (.tup [.str t, .ref l5])) l7 (.lst [.ref l6])) (a := l8))
      have s48 := (((s4.trans s5').trans s6).trans s7).trans s8
      refine ⟨l4, l7, l8, rr, [.ref l6], [(t, rr)], [], [], rfl, .inl p4, .inl p7, .cons ⟨l6, l5, rfl, p6, .inl p5⟩ .nil, .inl p8, .nil, ⟨by decide, by show 1 ≤ 4000; decide, by decide⟩, nr, fun f h => (by rw [List.mem_singleton.mp h]; exact ⟨hl, by show 1 ≤ 4000; decide⟩), fun _ h => (by cases h), g3.mono (s35.trans s48), fun _ _ _ h => (by cases h), fun H6 s6 => ?_⟩
      rw [mk2]
      refine ⟨_, rfl, rfl, _, rfl, ?_⟩
      rw [eqB]
      exact hR H6 ((s35.trans s48).trans s6)
    · have g4 := g3.mono s4
      obtain ⟨z, i20, _⟩ := at_int (ns := ns) 20 (by omega)
      refine ⟨_, rfl, by show 1 ≤ sizeLine; decide, fun a1 ha1 => ⟨by show 3 ≤ sizeLine; decide, fun a2 ha2 => ⟨_, rfl, Nat.zero_le _, fun b1 hb1 => ⟨Nat.zero_le _, fun b2 hb2 => ⟨by show 5 ≤ sizeLine; decide, fun b3 hb3 => ⟨_, rfl, Nat.zero_le _, fun c1 hc1 => ⟨Nat.zero_le _, fun c2 hc2 => ⟨Nat.zero_le _, fun c3 hc3 => ⟨by show 6 ≤ sizeLine; decide, fun c4 hc4 => ⟨by show 3 ≤ sizeLine; decide, fun d hd => ?_⟩⟩⟩⟩⟩⟩⟩⟩⟩⟩
      have A1 := newL (K := K) (xs := [.str "r"]) ha1
      have A2 := newT (K := K) (xs := [.str "join", .str t, .ref a1]) ha2
      have B1 := newL (K := K) (xs := []) hb1
      have B2 := newL (K := K) (xs := []) hb2
      have B3 := newT (K := K) (xs := [.str "claim", .str t, .ref b1, .ref b2, .str "r"]) hb3
      have C1 := newL (K := K) (xs := []) hc1
      have C2 := newL (K := K) (xs := []) hc2
      have C3 := newL (K := K) (xs := []) hc3
      have C4 := newT (K := K) (xs := [.str "take", .str t, .ref c1, .ref c2, .ref c3, .str "r"]) hc4
      have D := newL (K := K) (xs := [.ref a2, .ref b3, .ref c4]) hd
      have e9 := D.1
      have e8 := C4.1.trans e9
      have e7 := C3.1.trans e8
      have e6 := C2.1.trans e7
      have e5 := C1.1.trans e6
      have e4 := B3.1.trans e5
      have e3 := B2.1.trans e4
      have e2 := B1.1.trans e3
      have e1 := A2.1.trans e2
      have e0 := A1.1.trans e1
      have R1 : RuAt K _ (.ref a2) (ru1 t) := ⟨a2, [.ref a1], rfl, e2.tup A2.2, .cons ⟨a1, rfl, .inl (e1.lst A1.2)⟩ .nil⟩
      have R2 : RuAt K _ (.ref b3) (ru2 t) := ⟨b3, [.ref b1, .ref b2], rfl, e5.tup B3.2, .cons ⟨b1, rfl, .inl (e3.lst B1.2)⟩ (.cons ⟨b2, rfl, .inl (e4.lst B2.2)⟩ .nil)⟩
      have R3 : RuAt K _ (.ref c4) (ru3 t) := ⟨c4, [.ref c1, .ref c2, .ref c3], rfl, e9.tup C4.2, .cons ⟨c1, rfl, .inl (e6.lst C1.2)⟩ (.cons ⟨c2, rfl, .inl (e7.lst C2.2)⟩ (.cons ⟨c3, rfl, .inl (e8.lst C3.2)⟩ .nil))⟩
      have g5 := g4.mono e0
      refine ⟨_, rfl, p, _, 20, _, rfl, rfl, (((s2.trans s3).trans s4).trans e0).lst L1, i20, .inl ⟨_, rfl, _, _, rfl, rfl, (by show (0 : Int) < 3; decide), ?_⟩⟩
      have m1 := Int.emod_nonneg z (by decide : (3 : Int) ≠ 0)
      have m2 := Int.emod_lt_of_pos z (by decide : (0 : Int) < 3)
      show rIxL K (.ref d) (.int (z % 3)) _ _
      have h3 : z % 3 = 0 ∨ z % 3 = 1 ∨ z % 3 = 2 := by omega
      rcases h3 with h | h | h
      · rw [h]
        exact ⟨d, _, _, _, rfl, rfl, D.2, atI_nat (j := 0) rfl, rd_fin rfl rfl R1 (ku1 t) (ok1 t) rfl hl g5 k⟩
      · rw [h]
        exact ⟨d, _, _, _, rfl, rfl, D.2, atI_nat (j := 1) rfl, rd_fin rfl rfl R2 (ku2 t) (ok2 t) rfl hl g5 k⟩
      · rw [h]
        exact ⟨d, _, _, _, rfl, rfl, D.2, atI_nat (j := 2) rfl, rd_fin rfl rfl R3 (ku3 t) (ok3 t) rfl hl g5 k⟩
end
end K8

-- part E08
set_option Elab.async false
set_option linter.all false
set_option maxRecDepth 100000
set_option maxHeartbeats 2000000
namespace K8
open PySem PySem.Spec PyProof.Rows L2 GxR GS GA GD
theorem bits_log {z : Int} (h : Builtin.Int.intBits z ≤ 1048576) : z.natAbs.log2 < 4000000 := by
  unfold Builtin.Int.intBits at h
  split at h
  · rename_i e
    have e : z = 0 := by simpa using e
    rw [e]
    decide
  · omega
theorem facts {w : World} {K : PySem.W.Frag} {h : Heap} {mg : Str → Option Value} {f : Addr} (X : K.In h) (G : h.Ns mainGlobals mg) (hfa : mg ("law" : Str) = some (.ref f)) (c : Hd.SaysP fa fn tbs tf exq prs w h K) :
    LamX.LawAtS PySem.Challenge.rw_whoevermay_k08_names w K CX0 9 63 "script" mg f h := by
  have e := hfa.symm.trans (He.glo_ok X G (c.x.t.d.fact 11 (f := .glo "law") rfl))
  cases e
  have cs : ∀ q : Addr × Addr, q ∈ tf.map (He.cT K) → ∃ p ∈ tf, He.cT K p = q := fun q hq => List.mem_map.mp hq
  obtain ⟨fd0, F0⟩ := c.x.t.d.def_ 11 (d := dlaw) rfl
  have mk : ∀ base : Heap, K.In base → base.Ns mainGlobals mg → (∀ p ∈ tf.map (He.cT K), LamX.TabB base mg p.1 p.2) → Tx w K mg base := fun base _ _ tb =>
    ⟨⟨h, X, G, c⟩, fun p hp => ⟨(tb _ (List.mem_map_of_mem hp)).code, (tb _ (List.mem_map_of_mem hp)).bm, (tb _ (List.mem_map_of_mem hp)).gP⟩⟩
  refine ⟨fd0, tf.map (He.cT K), spLaw K, fun q hq => ?_, fun q hq => ?_, fun q hq => ?_, fun s u => (FunD.bindsA (ps := ["script"]) F0 fun _ _ _ _ _ _ us hl => match us, hl with | [_], _ => rfl) s [u] rfl, fun H a ns hl hb ht hS => ?_, fun base hB hN tb => ?_⟩
  · obtain ⟨p, hp, rfl⟩ := cs q hq
    exact c.x.empty p hp
  · obtain ⟨p, hp, rfl⟩ := cs q hq
    exact c.x.out p hp
  · obtain ⟨p, hp, rfl⟩ := cs q hq
    exact PySem.W.codeHd_of_K X (c.x.hd p hp)
  · exact ⟨a, ns, rfl, hS, hl, fun z hz => bits_log (hb z hz), fun p hp => ⟨#[], ht _ (List.mem_map_of_mem hp), trivial⟩, fun _ => rfl⟩
  · exact ok_law (P := PySem.Challenge.rw_whoevermay_k08_names.prog) (mk base hB hN tb) F0
end K8
open PySem PySem.W PySem.Calls PyProof.Rows
theorem PySem.Challenge.cw_whoevermay_k08_names_holds : PySem.Challenge.rw_whoevermay_k08_names.Holds := by
  w_on; o_law
  refine HandSHeadRun.head_any (r := OpenLaw.row PySem.Challenge.rw_whoevermay_k08_names) (q := view (OpenLaw.row PySem.Challenge.rw_whoevermay_k08_names).prog [22]) (H := K8.hk) (ob := K8.ob) (M := K8.steps) (loose := K8.loose) (d := HandSHeadRun.topDef (OpenLaw.row PySem.Challenge.rw_whoevermay_k08_names).prog 22) (kwd := []) K8.ob_eq
    (by kernel_rfl) (fun s => by kernel_rfl) K8.run (by kernel_rfl) (by kernel_rfl) (by kernel_rfl) (by rfl) (by first | assumption | decide +kernel) (by decide +kernel) ⟨rfl, rfl, rfl, rfl, rfl, by decide +kernel⟩ ?hw ?hc
  case hw => w_witness2
  case hc =>
    refine LamX.walk_ofTsE (l := PySem.Challenge.rw_whoevermay_k08_names) (n := 63) (k := 9) (x := "script") (CX := fun _ => L2.CX0) rfl (by decide) (by kernel_rfl) ⟨rfl, by decide, by decide⟩ ?F (fun _ _ _ _ _ z => z)
    intro w mg fa h Y G hmg0
    obtain ⟨K, KX, c⟩ := Y
    have hmg : mg ("law" : PySem.Str) = some (.ref fa) := by
      have e : (HandSHeadRun.topDef (OpenLaw.row PySem.Challenge.rw_whoevermay_k08_names).prog 22).name = ("law" : PySem.Str) := by kernel_rfl
      rw [← e]
      exact hmg0
    exact ⟨K, KX, K8.facts KX G hmg c⟩

