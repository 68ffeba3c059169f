import PyProof.Rows.All
import Wide.All
import OpenK.AllK
import Wide.FinOn
import HandS.ForMost
import HandS.GenList
import HandS.AnyAll
import HandS.EndTab
import PyProof.GenCompD
import PyProof.TupleOfGen
import HandS.IsInst
import HandS.Zip
import HandS.Flow
import HandS.More
import HandS.Style
import KE.GoesEnum
import HandS.Conv
import HandS.TupAny
import HandS.TupSets
import HandS.TryOnly
import KE.KIntText
import HandS.Small
import HandS.EndOwn
import KE.KNestM
import PySem.Challenge.RW_boxwitness_k06_walks_by_marks
set_option Elab.async false
set_option linter.all false
set_option maxRecDepth 100000
set_option maxHeartbeats 3000000
namespace Gx
open PySem PySem.Spec PyProof.Rows L2 GxR GenW

/-- the context of a generator expression's own frame -/
abbrev gxC (X : Cx) (A : Around) (s : Shared) (H : Hp) (cenv : Env) (fp : List Addr) (pn : List (Addr × Obj)) : Cx :=
  { X with A := A, s_0 := s, H_0 := H, env := cenv, outer := X.stack, stack := cenv :: X.stack, ex := fp, fn := fun _ => false, calm := true, pn := pn, xe := fun _ _ => False }

section
variable {X : Cx} {σ : L2.St} {H : Hp} {s : Shared} {pins : List (Addr × Obj)}
/-- the cells that a generator expression brings along are cells of the def around it -/
theorem brought {scope : Scope} {own : List (Str × Nat)} (I : Inv X pins σ H s) (bk : BlkOk X.N X.env.scope scope own) {n : Str} {c : Addr}
    (e : (cloFrom X.env.cells scope.names []).lookup n = some c) : X.env.cells.lookup n = some c ∧ c < s.heap.objs.size := by
  have fr : ∀ m, (m, NameKind.free) ∈ scope.names → ∃ d, X.env.cells.lookup m = some d := fun m hm =>
    (bk.free _ hm rfl).elim (fun z => I.ok.has _ (.inl z)) fun z => I.ok.has _ (.inr z)
  rcases cloFrom_mem (PySem.mem_of_lookup e) with z | ⟨z, ec⟩
  · exact absurd z (by simp)
  · obtain ⟨d, hd⟩ := fr n z
    rw [ec, hd]
    exact ⟨rfl, (I.cell n d hd).elim fun _ q => q.lt⟩
theorem carried {scope : Scope} {own : List (Str × Nat)} (I : Inv X pins σ H s) (bk : BlkOk X.N X.env.scope scope own) {n : Str} (e : scope.names.lookup n = some .free) :
    ∃ c, (cloFrom X.env.cells scope.names []).lookup n = some c ∧ X.env.cells.lookup n = some c := by
  obtain ⟨c, hc⟩ := mem_lookup (cloFrom_has (acc := []) (cells := X.env.cells) (PySem.mem_of_lookup e))
  exact ⟨c, hc, (brought I bk hc).1⟩
theorem gx_start {A : Around} {scope : Scope} {own : List (Str × Nat)} {fp : List Addr} {code : Value} {cenv : Env} {pn pins' : List (Addr × Obj)} {s5 : Shared}
    (I : Inv X pins σ H s) (ok : BlkOk X.N X.env.scope scope own) (hN : X.N.Nodup) (hfp : ∀ b ∈ fp, FpOk X pins H b ∧ b < s.heap.objs.size)
    (hcenv : cenv = genEnv scope (cloFrom X.env.cells scope.names []) s.heap.objs.size code builtinsNs X.env) (hcell : ∀ y ∈ scope.names, y.2 ≠ .cell)
    (hA : A.handled = none) (hfr : A.frames = some (cenv :: X.stack)) (hos : s5.os = s.os) (hb : AllBare s5.gens)
    (kp : ∀ b o, s.heap.get? b = some o → s5.heap.get? b = some o) (hn : ∃ m, s5.heap.Ns s.heap.objs.size m)
    (hpn : ∀ p ∈ pn ++ pins', s5.heap.get? p.1 = some p.2 ∧ s.heap.objs.size < p.1 ∧ ∀ v, p.2.data ≠ .cell v) :
    Inv (gxC X A s H cenv fp pn) pins' (wipe σ (own.map (·.2))) H s5 := by
  subst hcenv
  -- a name that is seen in the generator and not its own is one that it brings along
  have seen : ∀ (i : Nat) (n : Str), X.N[i]? = some n → i ∉ own.map (·.2) → Vis scope n → scope.names.lookup n = some .free := fun i n hi ni hv => by
    have mine : ∀ kd : NameKind, scope.names.lookup n = some kd → kd = .local ∨ kd = .cell → False := fun kd hk hor => by
      rcases ok.own _ (PySem.mem_of_lookup hk) hor with z | z
      · obtain ⟨⟨n', j⟩, hm, rfl⟩ := List.mem_map.mp z
        exact ni (List.mem_map.mpr ⟨_, hm, nodup_ix hN (ok.ix _ hm) hi⟩)
      · exact z (List.mem_of_getElem? hi)
    rcases hv with z | z | z
    · exact (mine _ z (.inl rfl)).elim
    · exact (mine _ z (.inr rfl)).elim
    · exact z
  have good : Cx.Ok (gxC X A s H (genEnv scope (cloFrom X.env.cells scope.names []) s.heap.objs.size code builtinsNs X.env) fp pn) := {
    mod := I.ok.mod
    kind := ok.kind
    glob := I.ok.glob
    blt := rfl
    above := Nat.le_refl _
    inj := fun n n' c e e' => I.ok.inj n n' c (brought I ok e).1 (brought I ok e').1
    has := fun n hk => by
      rcases hk with z | z
      · exact (hcell _ (PySem.mem_of_lookup z) rfl).elim
      · exact (carried I ok z).elim fun c q => ⟨c, q.1⟩
    cab := fun n c z _ => Bool.noConfusion z
    hd := fun _ => hA
    frames := hfr
    stk := .inr ⟨rfl, rfl⟩
    exf := fun b m => ⟨Nat.ne_of_lt (hfp b m).2, fun n c e => (hfp b m).1.2.2.2.2.1 n c (brought I ok e).1⟩
    bs := I.bs
    bsz := Nat.le_trans I.ok.bsz I.sz
    noex := fun b o e m => (hfp b m).1.2.2.2.1.elim (I.ok.noex b o e) fun z => Nat.lt_irrefl _ (Nat.lt_of_lt_of_le (Heap.lt_size e) (Nat.le_trans I.ok.bsz z))
    exfs := fun b m z => (List.mem_cons.mp (I.stkSub b z)).elim (hfp b m).1.2.1 (hfp b m).1.2.2.1
    funs := I.stack
    frf := I.stkFree }
  exact {
    ok := good
    os := hos
    bare := hb
    base := Un.kept kp
    loc := by
      obtain ⟨mm, hmm⟩ := hn
      refine ⟨mm, hmm, fun i n v hi hv vis => ?_⟩
      obtain ⟨hv', ni⟩ := wipe_some hv
      have fr := seen i n hi ni vis
      obtain ⟨m0, _, at0⟩ := I.loc
      have both := ok.free _ (PySem.mem_of_lookup fr) rfl
      obtain ⟨u, ru, lk⟩ := at0 i n v hi hv' (.inr both)
      obtain ⟨c, q1, q2⟩ := carried I ok fr
      refine ⟨u, ru, .inr ⟨.inr fr, c, q1, ?_⟩⟩
      rcases lk with ⟨z, _⟩ | ⟨_, d, qd, qc⟩
      · have z : X.env.scope.names.lookup n = some NameKind.local := z
        rcases both with y | y <;> exact absurd (z.symm.trans y) (by decide)
      · obtain rfl : c = d := Option.some.inj (q2.symm.trans qd)
        exact qc.keeps kp
    cell := fun n c e => (I.cell n c (brought I ok e).1).elim fun v q => ⟨v, q.keeps kp⟩
    free := I.hok.fresh (Nat.le_refl _)
    freeC := fun n c e => I.freeC n c (brought I ok e).1
    pin := fun p m => by
      obtain ⟨q1, q2, q3⟩ := hpn p m
      refine ⟨q1, I.hok.fresh (Nat.le_of_lt q2), Nat.ne_of_gt q2, fun z => ?_, q3⟩
      exact (List.mem_cons.mp (I.stkSub p.1 z)).elim (fun y => Nat.lt_irrefl _ (Nat.lt_trans q2 (y ▸ I.lt))) (I.nofs (Nat.le_of_lt q2))
    hok := I.hok.kept kp
    len := (wipe_length _ _).trans I.len }
end

/-- what the consumer holds (Ss: its own objects; Acc: what they bear), what it wants of an item, when it asks on, what it wants of the end -/
structure GP where
  Ss : List Addr
  Acc : List V → Heap → Prop
  stay : ∀ acc h h', Acc acc h → (∀ S ∈ Ss, ∀ o, h.get? S = some o → h'.get? S = some o) → Acc acc h'
  Yq : List V → V → Hp → Prop
  Rq : V → Prop
  En : List V → Hp → Prop
/-- the state when the generator is left for a while, or for ever -/
structure Held (X : Cx) (fp : List Addr) (H4 : Hp) (s4 : Shared) (a : Addr) (g : Nat) (Ss : List Addr) (s₀ : Shared) (H' : Hp) (s : Shared) : Prop where
  os : s.os = s4.os
  bare : AllBare s.gens
  un : Un (frs X.stack) fp H4 H' s4.heap s.heap
  hok : HOk X.prog X.w H' s.heap
  gen : s.heap.IsGen a g
  lim : s.heap.NoLimit
  own : ∀ S ∈ Ss, (∀ o, s₀.heap.get? S = some o → s.heap.get? S = some o) ∧ H' S = none
structure SleptG (Ss : List Addr) (s s' : Shared) : Prop where
  os : s'.os = s.os
  bare : AllBare s'.gens
  keep : ∀ b o, b ∉ Ss → s.heap.get? b = some o → s'.heap.get? b = some o
  own : ∀ S ∈ Ss, ∃ o, s'.heap.get? S = some o ∧ ∀ v, o.data ≠ .cell v
def YG (X : Cx) (fp : List Addr) (H4 : Hp) (s4 : Shared) (a : Addr) (g : Nat) (G : GP) : Protocol := fun n s₀ v s kap =>
  ∃ acc y H', RelV y v ∧ Held X fp H4 s4 a g G.Ss s₀ H' s ∧ G.Acc acc s.heap ∧ G.Yq acc y H' ∧ (G.Rq y → ∀ s', SleptG G.Ss s s' → G.Acc (acc ++ [y]) s'.heap → kap (.send .none) s')
def FG (X : Cx) (fp : List Addr) (H4 : Hp) (s4 : Shared) (a : Addr) (g : Nat) (G : GP) : Nat → Shared → Shared → Prop := fun n s₀ s =>
  ∃ acc H', Held X fp H4 s4 a g G.Ss s₀ H' s ∧ G.Acc acc s.heap ∧ G.En acc H'
abbrev RG (X : Cx) (fp : List Addr) (H4 : Hp) (s4 : Shared) (a : Addr) (g : Nat) (G : GP) : GenEnd := fun n s₀ r s =>
  ((r = .ok (.ret .none) ∨ r = .ok .next) ∧ FG X fp H4 s4 a g G n s₀ s) ∨ ∃ e, r = .error e ∧ (fun (_ : Value) (_ : Shared) => False) e s

/-- the reading: W by the turn, a measure, what was handed out and the heap -/
def GxW (J : It) (g : TG) (tt : TT) (te : TE) (vs : List Nat) (σ : L2.St) (G : GP) (W : Nat → Nat → List V → Hp → Prop) : Prop :=
  ∀ i m acc H, W i m acc H → (J.stop i H ∧ G.En acc H) ∨ (J.go i H ∧ ∃ Nx : List V → Hp → Prop, (∀ acc' H', Nx acc' H' → ∃ m', m' < m ∧ W (i + 1) m' acc' H') ∧
    ∀ x H', J.yld i H x H' → g x (wipe σ vs) H' fun σ2 H2 => wipe σ2 vs = wipe σ vs ∧ tt σ2 H2 fun b H3 => if b = true then te σ2 H3 fun y H4 => G.Yq acc y H4 ∧ (G.Rq y → Nx (acc ++ [y]) H4) else Nx acc H3)

section
variable {X : Cx} {σ : L2.St}
theorem Held.of {A : Around} {s4 : Shared} {H4 H' : Hp} {cenv : Env} {fp : List Addr} {a : Addr} {g : Nat} {go : Obj} {Ss : List Addr} {s₀ s : Shared} {σ' : L2.St} {more : List (Addr × Obj)}
    (hgo : ∀ h : Heap, h.get? a = some go → h.IsGen a g) (I : Inv (gxC X A s4 H4 cenv fp [(a, go)]) (pinsAt Ss s₀.heap ++ more) σ' H' s) (hS : ∀ S ∈ Ss, ∃ o, s₀.heap.get? S = some o) : Held X fp H4 s4 a g Ss s₀ H' s where
  os := I.os
  bare := I.bare
  un := I.base
  hok := I.hok
  gen := hgo _ (I.pin (a, go) (List.mem_append_left _ (List.mem_singleton.mpr rfl))).1
  lim := I.nolimit
  own := fun S hs => by
    obtain ⟨o, e⟩ := hS S hs
    have p := I.pin (S, o) (List.mem_append_right _ (List.mem_append_left _ (mem_pinsAt hs e)))
    exact ⟨fun o' e' => by rw [e] at e'; cases e'; exact p.1, p.2.1⟩

theorem seg_gx {A : Around} {elt tg iter : Expr} {ifs : List Expr} {scope : Scope} {pos : Pos} {it : Addr} {cenv : Env} {s4 : Shared} {H4 : Hp} {fp : List Addr} {a : Addr} {gi : Nat} {go : Obj} {tn : Nat → Heap → Prop} {J : It} {g : TG} {tt : TT} {te : TE} {vs : List Nat} {G : GP} {W : Nat → Nat → List V → Hp → Prop}
    (T : Turn X.prog X.w X.K tg J fp it tn) (hco : cenv.scope.isCoroutine = false) (hgo : ∀ h : Heap, h.get? a = some go → h.IsGen a gi)
    (hfp : ∀ b ∈ fp, b < s4.heap.objs.size) (ha : s4.heap.objs.size < a) (hSs : ∀ S ∈ G.Ss, s4.heap.objs.size < S ∧ S ≠ a) (hcl : cenv.locals = s4.heap.objs.size) (hcc : ∀ x c, cenv.cells.lookup x = some c → c < s4.heap.objs.size)
    (pg : PG (gxC X (A.over (.compLoop (.GeneratorExp elt [⟨tg, iter, ifs, 0⟩] scope pos) 0 (.ref it) .none cenv) []) s4 H4 cenv fp [(a, go)]) tg g)
    (pt : PTs (gxC X (A.over (.compLoop (.GeneratorExp elt [⟨tg, iter, ifs, 0⟩] scope pos) 0 (.ref it) .none cenv) []) s4 H4 cenv fp [(a, go)]) ifs tt)
    (pe : PE (gxC X (A.over (.compLoop (.GeneratorExp elt [⟨tg, iter, ifs, 0⟩] scope pos) 0 (.ref it) .none cenv) []) s4 H4 cenv fp [(a, go)]) elt te)
    (turn : GxW J g tt te vs σ G W) :
    ∀ (m n i : Nat) (acc : List V) (H5 : Hp) (s₀ s : Shared), m + 1 ≤ n → W i m acc H5 →
      Inv (gxC X (A.over (.compLoop (.GeneratorExp elt [⟨tg, iter, ifs, 0⟩] scope pos) 0 (.ref it) .none cenv) []) s4 H4 cenv fp [(a, go)]) (pinsAt G.Ss s₀.heap) (wipe σ vs) H5 s → tn i s.heap → (∀ b ∈ fp, H5 b = none) → G.Acc acc s.heap →
      (∀ S ∈ G.Ss, ∃ o, s₀.heap.get? S = some o ∧ ∀ v, o.data ≠ .cell v) →
      Seg (model X.prog X.w) A (RG X fp H4 s4 a gi G) (YG X fp H4 s4 a gi G) n s₀ (.compLoop (.GeneratorExp elt [⟨tg, iter, ifs, 0⟩] scope pos) 0 (.ref it) .none cenv)
        ((model X.prog X.w).den (.compLoop (.GeneratorExp elt [⟨tg, iter, ifs, 0⟩] scope pos) 0 (.ref it) .none cenv)) [] s := by
  generalize hAG : A.over (.compLoop (.GeneratorExp elt [⟨tg, iter, ifs, 0⟩] scope pos) 0 (.ref it) .none cenv) [] = AG at pg pt pe ⊢
  refine fun m => Nat.strongRecOn m fun m ih => ?_
  intro n i acc H5 s₀ s hn w5 I5 st5 n5 hAcc hS0
  have hS0' : ∀ S ∈ G.Ss, ∃ o, s₀.heap.get? S = some o := fun S hs => let ⟨o, e, _⟩ := hS0 S hs; ⟨o, e⟩
  have stat : ∀ {H' : Hp} (q : Shared), (∀ b ∈ fp, H' b = none) → ∀ b ∈ fp, FpOk (gxC X AG s4 H4 cenv fp [(a, go)]) (pinsAt G.Ss q.heap) H' b := fun {H'} q hn b hb =>
    ⟨hn b hb, (I5.ok.exf b hb).1, I5.ok.exfs b hb, .inl hb, fun x c e => (I5.ok.exf b hb).2 x c e, fun p hp z => by
      rcases List.mem_append.mp hp with inPn | hp
      · have e := List.mem_singleton.mp inPn
        rw [e] at z
        have := hfp b hb
        rw [← z] at this
        exact absurd (Nat.lt_trans ha this) (Nat.lt_irrefl _)
      · have := (hSs _ (of_pinsAt hp).1).1
        rw [z] at this
        exact absurd (Nat.lt_trans this (hfp b hb)) (Nat.lt_irrefl _)⟩
  show Seg _ A _ _ _ s₀ _ ((compTurn (.GeneratorExp elt [⟨tg, iter, ifs, 0⟩] scope pos) 0 (.ref it) .none cenv).onRaise (leaving cenv)) [] s
  rw [Sem.onRaise_eq_wrap, compTurn_gen]
  refine seg_bind_wrap (m := standAt iter.pos) (wpAny_standAt ?_)
  rcases turn i m acc H5 w5 with ⟨stop, en⟩ | ⟨go', Nx, hNx, step⟩
  · refine seg_bind_wrap ?_
    rw [hAG]
    refine wpAny_mono (T.done (gxC X AG s4 H4 cenv fp [(a, go)]) rfl rfl rfl rfl i _ s _ H5 (fun _ _ => False) I5 (stat s₀ n5) st5 stop) (fun r s6 ⟨hr, I6⟩ => ?_) fun _ _ z => False.elim z
    subst hr
    have hd : Held X fp H4 s4 a gi G.Ss s₀ H5 s6 := Held.of (more := []) hgo (by rw [List.append_nil]; exact I6) hS0'
    refine seg_end (.ok .next) (.inl ⟨.inr rfl, acc, H5, hd, ?_, en⟩)
    refine G.stay acc _ _ hAcc fun S hs o e => ?_
    obtain ⟨o0, e0, _⟩ := hS0 S hs
    have p5 := (I5.pin (S, o0) (List.mem_append_right _ (mem_pinsAt hs e0))).1
    rw [e] at p5; cases p5
    exact (I6.pin (S, o0) (List.mem_append_right _ (mem_pinsAt hs e0))).1
  · refine seg_bind_wrap ?_
    rw [hAG]
    refine wpAny_mono (T.item (gxC X AG s4 H4 cenv fp [(a, go)]) rfl rfl rfl rfl i _ s _ H5 (fun _ _ => False) I5 (stat s₀ n5) st5 go') (fun r s6 ⟨u, hr, h6⟩ => ?_) fun _ _ z => False.elim z
    subst hr
    refine seg_bind_wrap ?_
    rw [hAG]
    refine wpAny_mono h6 (fun _ s7 ⟨x, H7, I7, r7, y7, st7, n7⟩ => ?_) fun _ _ z => False.elim z
    have I7' := I7.pinned (stat s₀ n7) (T.obj _ _ st7)
    refine seg_bind_wrap ?_
    rw [hAG]
    refine wpAny_mono (pg.run _ s7 _ H7 x u _ I7' r7 (step x H7 y7)) (fun _ s8 ⟨σ8, H8, I8, hw8, q8⟩ => ?_) fun _ _ z => False.elim z
    refine seg_bind_wrap ?_
    rw [hAG]
    refine wpAny_mono (pt.run _ s8 σ8 H8 _ I8 q8) (fun b s9 ⟨H9, I9, q9⟩ => ?_) fun _ _ z => False.elim z
    have accAt : ∀ {σ' : L2.St} {H' : Hp} {s' : Shared}, Inv (gxC X AG s4 H4 cenv fp [(a, go)]) (pinsAt G.Ss s₀.heap ++ pinsAt fp s7.heap) σ' H' s' → G.Acc acc s'.heap := fun {σ' H' s'} I' =>
      G.stay acc _ _ hAcc fun S hs o e => by
        obtain ⟨o0, e0, _⟩ := hS0 S hs
        have p5 := (I5.pin (S, o0) (List.mem_append_right _ (mem_pinsAt hs e0))).1
        rw [e] at p5; cases p5
        exact (I'.pin (S, o0) (List.mem_append_right _ (List.mem_append_left _ (mem_pinsAt hs e0)))).1
    have hl8 : (wipe σ vs).length = σ8.length := by rw [← hw8, wipe_length]
    have hk8 : ∀ (j : Nat) v, (wipe σ vs)[j]? = some (some v) → σ8[j]? = some (some v) := fun j v e => by
      rw [← hw8] at e
      exact (wipe_some e).1
    have pin' : ∀ {σ' : L2.St} {H' : Hp} {s' : Shared}, Inv (gxC X AG s4 H4 cenv fp [(a, go)]) (pinsAt G.Ss s₀.heap ++ pinsAt fp s7.heap) σ' H' s' → ∀ b ∈ fp, ∀ o, s7.heap.get? b = some o → s'.heap.get? b = some o ∧ H' b = none := fun {σ' H' s'} I' b hb o e =>
      have pb := I'.pin (b, o) (List.mem_append_right _ (List.mem_append_right _ (mem_pinsAt hb e)))
      ⟨pb.1, pb.2.1⟩
    cases b with
    | false =>
      simp only [if_false, Bool.false_eq_true] at q9 ⊢
      obtain ⟨m', hm', w'⟩ := hNx acc H9 q9
      refine seg_again rfl (ih m' hm' n (i + 1) acc H9 s₀ s9 (by omega) w' (I9.unpinned.weak hl8 hk8) (T.keep _ _ _ st7 fun b hb o e => (pin' I9 b hb o e).1) (fun b hb => ?_) (accAt I9) hS0)
      exact (T.obj _ _ st7 b hb).elim fun o q => (pin' I9 b hb o q.1).2
    | true =>
      simp only [if_true] at q9 ⊢
      have plainYield : yieldOut cenv = yieldValue := funext fun v => by simp only [hco, yieldOut, if_false, Bool.false_eq_true]
      simp only [plainYield]
      simp only [Sem.bind_eq_wrap', Sem.wrap_wrap]
      refine seg_wrap ?_
      rw [hAG]
      refine wpAny_mono (pe.run _ s9 σ8 H9 _ I9 q9) (fun z s10 ⟨yv, H10, I10, r10, yq, nx⟩ => ?_) fun _ _ z => False.elim z
      obtain ⟨n', rfl⟩ : ∃ n', n = n' + 1 := ⟨n - 1, by omega⟩
      refine seg_at (seg_yield rfl rfl rfl ⟨acc, yv, H10, r10, Held.of hgo I10 hS0', accAt I10, yq, fun hR s'' sl hA'' => ?_⟩)
      obtain ⟨m', hm', w'⟩ := hNx _ H10 (nx hR)
      have fS : ∀ b ∈ fp, b ∉ G.Ss := fun b hb z => absurd (Nat.lt_trans (hSs b z).1 (hfp b hb)) (Nat.lt_irrefl _)
      have hSn : ∀ S ∈ G.Ss, H10 S = none ∧ S ≠ cenv.locals ∧ S ∉ frs X.stack := fun S hs => by
        obtain ⟨o0, e0, _⟩ := hS0 S hs
        have p := I10.pin (S, o0) (List.mem_append_right _ (List.mem_append_left _ (mem_pinsAt hs e0)))
        exact ⟨p.2.1, p.2.2.1, p.2.2.2.1⟩
      have nt : ∀ b u, H10 b = some u → b ∉ G.Ss := fun b u q hb => by rw [(hSn b hb).1] at q; cases q
      have I11 : Inv (gxC X AG s4 H4 cenv fp [(a, go)]) (pinsAt fp s7.heap) σ8 H10 s10 := I10.pins_of fun p hp => I10.pin p (List.mem_append_right _ (List.mem_append_right _ hp))
      have I12 : Inv (gxC X AG s4 H4 cenv fp [(a, go)]) (pinsAt fp s7.heap) σ8 H10 s'' := by
        obtain ⟨z1, z2, z3, z4⟩ := sl
        obtain ⟨hh, gg, d, t, o⟩ := s''
        have ho : o = s10.os := z1
        subst ho
        refine I11.step (g' := gg) (t' := t) (d' := d) (ch := G.Ss) (fun b hb => ?_)
          (fun b ob _ _ hc q _ => z3 b ob hc q) (fun b ob _ _ hc q _ => ⟨ob.slots, z3 b ob hc q⟩) (fun _ _ _ _ n => n) (fun b ob hc q => ⟨ob, z3 b ob hc q⟩)
          (fun _ _ same => same) (fun _ _ _ same => same) (fun b ps q => ⟨#[], by simp [q]⟩) (fun m hm => ?_) (fun b u q => ?_) z2
        · refine ⟨.inr (Nat.le_of_lt (hSs b hb).1), (hSn b hb).2.1, fun x c e z => ?_, fun p hp z => ?_⟩
          · have h1 := hcc x c e
            rw [z] at h1
            exact absurd (Nat.lt_trans (hSs b hb).1 h1) (Nat.lt_irrefl _)
          · rcases List.mem_append.mp hp with inPn | hp
            · have e := List.mem_singleton.mp inPn
              rw [e] at z
              exact (hSs b hb).2 z.symm
            · exact fS p.1 (of_pinsAt hp).1 (by rw [z]; exact hb)
        · obtain ⟨fo, ents, cnt, hfo, tl⟩ := hm
          exact ⟨fo, ents, cnt, z3 _ fo (fun z => (hSn _ z).2.1 rfl) hfo, tl⟩
        · refine (I11.hok b u q).stay (fun c v hc y => z3 c v ?_ y) (fun _ y => y) fun _ _ y => y
          rcases hc with y | y
          · rw [y]; exact nt b u q
          · exact nt c _ y
      have pin12 : ∀ b ∈ fp, ∀ o, s7.heap.get? b = some o → s''.heap.get? b = some o ∧ H10 b = none := fun b hb o e =>
        let z := I12.pin (b, o) (List.mem_append_right _ (mem_pinsAt hb e))
        ⟨z.1, z.2.1⟩
      have hS12 : ∀ S ∈ G.Ss, ∃ o, s''.heap.get? S = some o ∧ ∀ v, o.data ≠ .cell v := sl.own
      refine seg_again rfl (ih m' hm' n' (i + 1) (acc ++ [yv]) H10 s'' s'' (by omega) w' ?_ (T.keep _ _ _ st7 fun b hb o e => (pin12 b hb o e).1) (fun b hb => ?_) hA'' hS12)
      · refine (I12.weak hl8 hk8).pins_of fun p hp => ?_
        obtain ⟨h1, h2⟩ := of_pinsAt hp
        obtain ⟨o, e, hc⟩ := hS12 p.1 h1
        rw [h2] at e; cases e
        exact ⟨h2, (hSn _ h1).1, (hSn _ h1).2.1, (hSn _ h1).2.2, hc⟩
      · exact (T.obj _ _ st7 b hb).elim fun o q => (pin12 b hb o q.1).2
end
end Gx
set_option maxHeartbeats 3000000
namespace Gx
open PySem PySem.Spec PyProof.Rows L2 GxR GenW

theorem over_frames {A : Around} {st : List Env} {e : Expr} {itv acc : Value} {cenv : Env} (hg : ∃ elt gs sc p, e = .GeneratorExp elt gs sc p) (h : A.frames = some st) : (A.over (.compLoop e 0 itv acc cenv) []).frames = some (cenv :: st) := by
  obtain ⟨elt, gs, sc, p, rfl⟩ := hg
  show pushEnvs (Code.envs (.compLoop (.GeneratorExp elt gs sc p) 0 itv acc cenv)) (pushEnvs (envsOf []) A.frames) = some (cenv :: st)
  rw [h]
  rfl
theorem over_room {A : Around} {k : Nat} {e : Expr} {itv acc : Value} {cenv : Env} (hg : ∃ elt gs sc p, e = .GeneratorExp elt gs sc p) (r : Room (k + 1) A) : Room k (A.over (.compLoop e 0 itv acc cenv) []) := by
  obtain ⟨elt, gs, sc, p, rfl⟩ := hg
  have h1 : (A.over (.compLoop (.GeneratorExp elt gs sc p) 0 itv acc cenv) []).depth ≤ A.depth + 1 := Nat.le_of_eq rfl
  have h2 : (A.over (.compLoop (.GeneratorExp elt gs sc p) 0 itv acc cenv) []).units ≤ A.units + 3 := Nat.le_of_eq rfl
  exact ⟨r.hd, by have := r.dp; omega, by have := r.un; omega⟩

/-- the state behind the making of a generator expression -/
structure Made (X : Cx) (pins : List (Addr × Obj)) (σ : L2.St) (e : Expr) (scope : Scope) (tg : Expr) (J : It) (H4 : Hp) (s4 : Shared) (it : Addr) (fp : List Addr) (tn : Nat → Heap → Prop) (code : Value) (a : Addr) (gi : Nat) (go : Obj) (s5 : Shared) : Prop where
  inv : Inv X pins σ H4 s4
  T : Turn X.prog X.w X.K tg J fp it tn
  st : tn 0 s4.heap
  fpo : ∀ b ∈ fp, FpOk X pins H4 b ∧ b < s4.heap.objs.size
  os : s5.os = s4.os
  bare : AllBare s5.gens
  kp : ∀ b o, s4.heap.get? b = some o → s5.heap.get? b = some o
  ns : ∃ m, s5.heap.Ns s4.heap.objs.size m
  obj : s5.heap.get? a = some go
  gen : ∀ h : Heap, h.get? a = some go → h.IsGen a gi
  ncell : ∀ v, go.data ≠ .cell v
  lo : s4.heap.objs.size < a
  hi : a < s5.heap.objs.size
  gs : s5.gens[gi]? = some (.fresh (.compStart e 0 (.ref it) .none (genEnv scope (cloFrom X.env.cells scope.names []) s4.heap.objs.size code builtinsNs X.env)))

section
variable {X : Cx} {σ : L2.St} {H : Hp} {s : Shared} {pins : List (Addr × Obj)}
theorem gx_eval {c P : Addr} {elt tg iter : Expr} {ifs : List Expr} {scope : Scope} {own : List (Str × Nat)} {gpos : Pos} {wi : TI} {k : Nat} {R : It → Hp → Prop} {Q' : Value → Shared → Prop}
    (hr : Room k X.A) (TB : TabB X.base X.mg c P) (hcode : X.env.code = .ref c) (ok : BlkOk X.N X.env.scope scope own) (hcell : ∀ y ∈ scope.names, y.2 ≠ .cell) (h0 : scope.names.lookup (".0" : Str) = some NameKind.local) (hco : scope.isCoroutine = false)
    (hi : PI X tg iter wi) (hs : ∀ v, genFold iter X.env v = pure v) (I : Inv X pins σ H s) (h : wi σ H fun J H1 => TabG H1 P ∧ ∀ H1', Tabbed P H1 H1' → R J H1')
    (hQ : ∀ J H4 s4 it fp tn code a gi go s5, R J H4 → Made X pins σ (.GeneratorExp elt [⟨tg, iter, ifs, 0⟩] scope gpos) scope tg J H4 s4 it fp tn code a gi go s5 → Q' (.ref a) s5) :
    wpAny (model X.prog X.w) X.A (eval (.GeneratorExp elt [⟨tg, iter, ifs, 0⟩] scope gpos) X.env) Q' X.xe s := by
  have mayBring := fun (y : Str × NameKind) (hy : y ∈ scope.names) (e : y.2 = .free) => (ok.free y hy e).elim (fun z => I.ok.has y.1 (.inl z)) fun z => I.ok.has y.1 (.inr z)
  refine wpAny_GeneratorExp_make hco (closure_ok mayBring) hcell h0 ok.kind hr.depth ?_ hs
  refine thn (hi.run pins s σ H _ I h) fun xv s1 hx => thn hx fun itv s2 h2 => ?_
  obtain ⟨it, fp, tn, J, H2, e, I2, T, st2, f2, ⟨ps, hP, ht⟩, q⟩ := h2
  subst e
  have hPs : s2.heap.get? P = some { cls := .none, data := .fields ps } := I2.hok P _ hP
  have cd : PySem.W.CodeHd s2.heap c P := TB.code.keeps fun b u e => I2.bk b u e
  have fpP : ∀ b ∈ fp, b ≠ P := fun b hb z => by
    have := (f2 b hb).1
    rw [z, hP] at this
    cases this
  have goOn : ∀ (cv : Value) (g3 : Heap) (tk : Nat) (qs : Array Value), Heap.ExtBut P s2.heap g3 → s2.heap.objs.size ≤ g3.objs.size → g3.get? P = some { cls := .none, data := .fields qs } → (∃ new, qs = ps ++ new) → TriplesOk qs.toList →
      wpAny (model X.prog X.w) X.A (builtinsFor X.env.globals X.env.builtins)
        (fun bn t4 => ∀ h5, h5.Ns t4.heap.objs.size (fun y => if y = ".0" then some (.ref it) else none) → Heap.SameBut t4.heap.objs.size (t4.heap.push { cls := .type "frame", data := .dict #[] }) h5 →
          Q' (.ref h5.objs.size) { t4 with
            gens := t4.gens.push (.fresh (.compStart (.GeneratorExp elt [⟨tg, iter, ifs, 0⟩] scope gpos) 0 (.ref it) .none (genEnv scope (cloFrom X.env.cells scope.names []) t4.heap.objs.size cv bn X.env)))
            toks := t4.toks + 1 + 1 + 1
            heap := h5.push { cls := .type "generator", data := .fields #[.int t4.gens.size 0, .str "<genexpr>" (t4.toks + 1), .str (X.env.qual ++ "<genexpr>") (t4.toks + 1 + 1)] } }) X.xe { s2 with heap := g3, toks := tk } := by
    intro cv g3 tk qs ext grow atP ⟨new, enew⟩ trip
    obtain ⟨mo, mob, m1, m2, _, m4, m5, m6, m7, m8⟩ := TB.bm
    have kept3 : ∀ b u, b ≠ P → s2.heap.get? b = some u → g3.get? b = some u := ext
    have glob3 : g3.Ns X.env.globals X.mg := I2.ok.glob ▸ (I2.mod.glob.keeps I2.bk).extBut ext TB.gP
    refine wpAny_builtinsFor glob3 m1 m2 (kept3 _ _ m4 (I2.bk _ _ m5)) m6 m7 m8 fun h5 ns5 but5 => ?_
    have sz5 : h5.objs.size = g3.objs.size + 1 := but5.1.trans (Heap.size_push ..)
    have up5 : ∀ b o, g3.get? b = some o → h5.get? b = some o := fun b o e => but5.extBut b o (Nat.ne_of_lt (Heap.lt_size e)) (Heap.get?_push_of_some _ e)
    have J4 := inv_tab (h' := g3) (more := new) (g' := s2.gens) (d' := s2.drawn) (t' := tk) I2 hP kept3 (enew ▸ atP) I2.bare
    refine hQ J _ { s2 with heap := g3, gens := s2.gens, drawn := s2.drawn, toks := tk } it fp tn cv h5.objs.size s2.gens.size
      { cls := .type "generator", data := .fields #[.int s2.gens.size 0, .str "<genexpr>" (tk + 1), .str (X.env.qual ++ "<genexpr>") (tk + 1 + 1)] } _ (q _ ⟨⟨ps ++ new, upd_same, enew ▸ trip⟩, fun b nb => upd_ne nb⟩) {
        inv := J4
        T := T
        st := T.keep _ _ _ st2 fun b hb o e => kept3 b o (fpP b hb) e
        fpo := fun b hb => ⟨⟨(upd_ne (fpP b hb)).trans (f2 b hb).1, (f2 b hb).2⟩, (T.obj _ _ st2 b hb).elim fun o z => Nat.lt_of_lt_of_le (Heap.lt_size z.1) grow⟩
        os := rfl
        bare := I2.bare.push rfl
        kp := fun b o e => Heap.get?_push_of_some _ (up5 b o e)
        ns := ⟨_, ns5.push _⟩
        obj := Heap.get?_push_size _ rfl
        gen := fun h e => ⟨_, _, _, e, rfl, rfl, rfl⟩
        ncell := fun v z => nomatch z
        lo := by show g3.objs.size < h5.objs.size; omega
        hi := Nat.lt_of_lt_of_eq (Nat.lt_succ_self _) (Heap.size_push ..).symm
        gs := Array.getElem?_push_size .. }
  refine ⟨I2.nolimit, ?_⟩
  match known : codeAmong gpos ps.toList with
  | some old => exact wpAny_genexprCode_hit hcode (cd.code hPs ht) known (goOn old s2.heap s2.toks ps (Heap.ExtBut.refl _ _) (Nat.le_refl _) hPs ⟨#[], by simp⟩ ht)
  | none =>
    refine wpAny_genexprCodeX hcode (cd.code hPs ht) (cd.tab hPs) known fun c' g3 tk ext ge lt co _ tabAt _ => ?_
    obtain ⟨_, _, _, _, _, _, _, _, _, _, _, _, _, _, _, _, _, _, _, trip, _⟩ := co
    exact goOn _ g3 tk _ ext (Nat.le_trans ge (Nat.le_of_lt lt)) tabAt.2 ⟨_, rfl⟩ trip

/-- the generator's run, from its start, whoever wakes it -/
theorem gx_run {elt tg iter : Expr} {ifs : List Expr} {scope : Scope} {own : List (Str × Nat)} {gpos : Pos} {J : It} {H4 : Hp} {s4 : Shared} {it : Addr} {fp : List Addr} {tn : Nat → Heap → Prop} {code : Value} {a : Addr} {gi : Nat} {go : Obj} {s5 : Shared} {g : TG} {tt : TT} {te : TE} {k m : Nat} {G : GP} {W : Nat → Nat → List V → Hp → Prop}
    (ok : BlkOk X.N X.env.scope scope own) (hcell : ∀ y ∈ scope.names, y.2 ≠ .cell) (hco : scope.isCoroutine = false) (hN : X.N.Nodup)
    (M : Made X pins σ (.GeneratorExp elt [⟨tg, iter, ifs, 0⟩] scope gpos) scope tg J H4 s4 it fp tn code a gi go s5)
    (hg : ∀ (A : Around) (s : Shared) (H : Hp) (C : Addr) (cl : List (Str × Addr)) (code : Value) (fp : List Addr) (pn : List (Addr × Obj)), Room k A → PG (gxC X A s H (genEnv scope cl C code builtinsNs X.env) fp pn) tg g)
    (ht : ∀ (A : Around) (s : Shared) (H : Hp) (C : Addr) (cl : List (Str × Addr)) (code : Value) (fp : List Addr) (pn : List (Addr × Obj)), Room k A → PTs (gxC X A s H (genEnv scope cl C code builtinsNs X.env) fp pn) ifs tt)
    (he : ∀ (A : Around) (s : Shared) (H : Hp) (C : Addr) (cl : List (Str × Addr)) (code : Value) (fp : List Addr) (pn : List (Addr × Obj)), Room k A → PE (gxC X A s H (genEnv scope cl C code builtinsNs X.env) fp pn) elt te)
    (w0 : W 0 m [] H4) (turn : GxW J g tt te (own.map (·.2)) σ G W) {A : Around} {s6 : Shared} (hr : Room (k + 1) A) (hfr : A.frames = some X.stack)
    (hSs : ∀ S ∈ G.Ss, s4.heap.objs.size < S ∧ S ≠ a ∧ ∃ o, s6.heap.get? S = some o ∧ ∀ v, o.data ≠ .cell v) (hAcc : G.Acc [] s6.heap) (hos : s6.os = s5.os) (hb : AllBare s6.gens) (hk : ∀ b o, s5.heap.get? b = some o → s6.heap.get? b = some o) :
    (GenState.fresh (.compStart (.GeneratorExp elt [⟨tg, iter, ifs, 0⟩] scope gpos) 0 (.ref it) .none (genEnv scope (cloFrom X.env.cells scope.names []) s4.heap.objs.size code builtinsNs X.env))).Goes (model X.prog X.w) A (RG X fp H4 s4 a gi G) (YG X fp H4 s4 a gi G) (m + 1) (.send .none) s6 := by
  refine ⟨rfl, ?_⟩
  generalize hce : genEnv scope (cloFrom X.env.cells scope.names []) s4.heap.objs.size code builtinsNs X.env = cenv
  have hrG := over_room (e := .GeneratorExp elt [⟨tg, iter, ifs, 0⟩] scope gpos) (itv := .ref it) (acc := .none) (cenv := cenv) ⟨_, _, _, _, rfl⟩ hr
  have hfG := over_frames (e := .GeneratorExp elt [⟨tg, iter, ifs, 0⟩] scope gpos) (itv := .ref it) (acc := .none) (cenv := cenv) ⟨_, _, _, _, rfl⟩ hfr
  obtain ⟨m5, hn5⟩ := M.ns
  have kp6 : ∀ b o, s4.heap.get? b = some o → s6.heap.get? b = some o := fun b o e => hk b o (M.kp b o e)
  have I6 : Inv (gxC X (A.over (.compLoop (.GeneratorExp elt [⟨tg, iter, ifs, 0⟩] scope gpos) 0 (.ref it) .none cenv) []) s4 H4 cenv fp [(a, go)]) (pinsAt G.Ss s6.heap) (wipe σ (own.map (·.2))) H4 s6 := by
    refine gx_start M.inv ok hN M.fpo hce.symm hcell hrG.hd hfG (hos.trans M.os) hb kp6 ⟨m5, hn5.keeps hk⟩ fun p hp => ?_
    rcases List.mem_append.mp hp with inPn | hp
    · obtain rfl := List.mem_singleton.mp inPn
      exact ⟨hk _ _ M.obj, M.lo, M.ncell⟩
    · obtain ⟨h1, h2⟩ := of_pinsAt hp
      obtain ⟨q1, _, o, e, q2⟩ := hSs _ h1
      rw [h2] at e; cases e
      exact ⟨h2, q1, q2⟩
  have hcc : ∀ x c, cenv.cells.lookup x = some c → c < s4.heap.objs.size := fun x c e => (brought M.inv ok (by rw [← hce] at e; exact e)).2
  have st6 : tn 0 s6.heap := M.T.keep _ _ _ M.st fun b _ o e => kp6 b o e
  have loop := seg_gx (iter := iter) (scope := scope) (pos := gpos) (go := go) (A := A) (σ := σ) (G := G) (W := W) M.T (by rw [← hce]; exact hco) M.gen (fun b hb => (M.fpo b hb).2) M.lo (fun S hs => ⟨(hSs S hs).1, (hSs S hs).2.1⟩) (by rw [← hce]; rfl) hcc
    (by rw [← hce]; exact hg _ _ _ _ _ _ _ _ (by rw [hce]; exact hrG)) (by rw [← hce]; exact ht _ _ _ _ _ _ _ _ (by rw [hce]; exact hrG)) (by rw [← hce]; exact he _ _ _ _ _ _ _ _ (by rw [hce]; exact hrG)) turn m (m + 1) 0 [] H4 s6 s6 (Nat.le_refl _) w0 I6 st6 (fun b hb => (M.fpo b hb).1.1) hAcc (fun S hs => (hSs S hs).2.2)
  show Seg _ A _ _ _ s6 _ ((compStart (.GeneratorExp elt [⟨tg, iter, ifs, 0⟩] scope gpos) 0 (.ref it) .none cenv).onRaise (leaving cenv)) [] s6
  unfold compStart
  rw [Sem.onRaise_eq_wrap]
  show Seg _ A _ _ _ s6 _ ((ask >>= _).wrap _ _ _ _) [] s6
  refine seg_bind_wrap (m := ask) (wpAny_askSetting ?_)
  split
  · exact seg_again rfl loop
  · first
      | exact seg_bind_wrap (wpAny_rule (seg_bind_wrap (wpAny_standAt (seg_bind_wrap (M.T.self _ 0 s6 _ _ st6 (seg_again rfl loop))))))
      | (refine seg_bind_wrap (wpAny_rule ?_); show Seg _ A _ _ _ s6 _ ((standAt iter.pos >>= _).wrap _ _ _ _) [] s6; exact seg_bind_wrap (wpAny_standAt (seg_bind_wrap (M.T.self _ 0 s6 _ _ st6 (seg_again rfl loop)))))
end
end Gx
set_option maxHeartbeats 3000000
namespace Gx
open PySem PySem.Spec PyProof.Rows L2 GxR GenW

/-- into a built-in's own tree -/
theorem entered {prog : Program} {w : World} {A : Around} {R : Result → Shared → Prop} {s : Shared} {id : String} {b : Builtin} {args : Args} (he : entryFor table id = some b) (hp : plainId id = true)
    (h : wpAny (model prog w) A.in1 (b args) (fun f s' => match f with | .done fl => R (.ok fl) s' | .again c => c.quiet = true ∧ codeAny (model prog w) A c R s') (fun e s' => R (.error e) s') s) :
    codeAny (model prog w) A (.builtin id args) R s := codeAny_builtin he (by rw [Around.under_plainId hp args]; exact h)

/-- all(..): it stops at the first False -/
def gAll (Qt Qf : Hp → Prop) : GP where
  Ss := []
  Acc := fun _ _ => True
  stay := fun _ _ _ _ _ => trivial
  Yq := fun _ y H' => ∃ c, y = .bl c ∧ (c = false → Qf H')
  Rq := fun y => y = .bl true
  En := fun _ H' => Qt H'

theorem goesRG {X : Cx} {fp : List Addr} {H4 : Hp} {s4 : Shared} {a : Addr} {gi : Nat} {G : GP} {gs : GenState} {B : Around} {n : Nat} {r : Resume} {s : Shared}
    (h : gs.Goes (model X.prog X.w) B (RG X fp H4 s4 a gi G) (YG X fp H4 s4 a gi G) n r s) :
    gs.Goes (model X.prog X.w) B (fun n s₀ r s1 => ((r = .ok (.ret .none) ∨ r = .ok .next) ∧ FG X fp H4 s4 a gi G n s₀ s1) ∨ ∃ e, r = .error e ∧ (fun (_ : Value) (_ : Shared) => False) e s1) (YG X fp H4 s4 a gi G) n r s := h

/-- it may be asked n times more -/
def Left (X : Cx) (A : Around) (fp : List Addr) (H4 : Hp) (s4 : Shared) (a : Addr) (gi : Nat) (G : GP) (gs : GenState) (t : Shared) : Nat → Prop
  | 0 => False
  | m + 1 => gs.Goes (model X.prog X.w) A (RG X fp H4 s4 a gi G) (YG X fp H4 s4 a gi G) m (.send .none) t
/-- one asking: the next item in the state that it left, or the end; P n is what is wanted where n askings are left -/
theorem ask_gx {X : Cx} {A : Around} {E : Value → Shared → Prop} {Q : Option Value → Shared → Prop} {fp : List Addr} {H4 : Hp} {s4 s : Shared} {a : Addr} {gi n : Nat} {G : GP} {gs : GenState} (hh : A.handled = none) (hd : A.depth < recursionLimit)
    (hg : s.heap.IsGen a gi) (hl : s.heap.NoLimit) (hgs : s.gens[gi]? = some gs) (hgo : gs.Goes (model X.prog X.w) A.in1 (RG X fp H4 s4 a gi G) (YG X fp H4 s4 a gi G) n (.send .none) (s.setGen gi .running))
    (item : ∀ (acc : List V) (y : V) (v : Value) (H' : Hp) (t : Shared) (gs' : GenState), RelV y v → gs'.bare = true → gi < t.gens.size → Held X fp H4 s4 a gi G.Ss (s.setGen gi .running) H' t → G.Acc acc t.heap → G.Yq acc y H' →
      (∀ t', G.Rq y → SleptG G.Ss t t' → G.Acc (acc ++ [y]) t'.heap → Left X A.in1 fp H4 s4 a gi G gs' t' n) → Q (some v) (t.setGen gi gs'))
    (fin : ∀ (acc : List V) (H' : Hp) (t : Shared) (h' : Heap), Held X fp H4 s4 a gi G.Ss (s.setGen gi .running) H' t → G.Acc acc t.heap → G.En acc H' → (∀ b o, t.heap.get? b = some o → h'.get? b = some o) → Q none { t.setGen gi .finished with heap := h' }) :
    wpAny (model X.prog X.w) A (pyNext (.ref a)) Q E s := by
  have inG : gi + 1 ≤ s.gens.size := (Array.getElem?_eq_some_iff.mp hgs).1
  refine wpAny_gsz inG (next_genG hh hl hd hg hgs (goesRG hgo) (fun v t gs' nice hv grown => ?_) (fun t hp h' up _ => ?_) fun _ _ none => none.elim)
  · obtain ⟨acc, y, H', ry, held, hacc, yq, more⟩ := hv
    have sz : gi + 1 ≤ t.gens.size := setGen_size t gi gs' ▸ grown
    refine item acc y v H' t gs' ry nice sz held hacc yq fun t' r sl ac => ?_
    have z := more r t' sl ac
    cases n with
    | zero => exact z
    | succ m => exact z
  · obtain ⟨acc, H', held, hacc, en⟩ := hp
    exact fin acc H' t h' held hacc en up

theorem all_loop {X : Cx} {A : Around} {R : Result → Shared → Prop} {fp : List Addr} {H4 : Hp} {s4 : Shared} {a : Addr} {gi : Nat} {Qt Qf : Hp → Prop} (hh : A.handled = none) (hd : A.depth < recursionLimit)
    (hR : ∀ (b : Bool) (s' : Shared) (H' : Hp), s'.os = s4.os → AllBare s'.gens → Un (frs X.stack) fp H4 H' s4.heap s'.heap → HOk X.prog X.w H' s'.heap → (if b = true then Qt H' else Qf H') → R (.ok (.ret (.bool b))) s') :
    ∀ (n : Nat) (s : Shared), s.heap.IsGen a gi → s.heap.NoLimit → (∃ gs, s.gens[gi]? = some gs ∧ gs.Goes (model X.prog X.w) A.in1.in1 (RG X fp H4 s4 a gi (gAll Qt Qf)) (YG X fp H4 s4 a gi (gAll Qt Qf)) n (.send .none) (s.setGen gi .running)) →
      codeAny (model X.prog X.w) A (.builtin "all.loop" ⟨[.ref a], []⟩) R s := by
  refine fun n => Nat.strongRecOn n fun n ih s hg hl ⟨gs, hgs, hgo⟩ => entered F.entry_all_loop F.plain_all_loop ?_
  refine wpAny_bind (m := pyNext (.ref a)) (ask_gx (A := A.in1) hh hd hg hl hgs hgo (fun acc y v H' t gs' ry nice sz held _ yq more => ?_) fun acc H' t h' held _ en up => ?_)
  · obtain ⟨c, rfl, no⟩ := yq
    obtain rfl : v = Value.bool c := ry
    refine wpAny_bind (wpAny_holding (wpAny_truthy_bool (wpAny_bind (wpAny_letGo ?_))))
    cases c with
    | false => exact wpAny_bind (m := rule _) (wpAny_rule (wpAny_pure (hR false _ H' held.os (allBare_setGen held.bare nice) held.un held.hok (no rfl))))
    | true =>
      have next := more ((t.setGen gi gs').setGen gi .running) rfl ⟨rfl, allBare_setGen (s := t.setGen gi gs') (allBare_setGen held.bare nice) rfl, fun _ _ _ e => e, fun S z => nomatch z⟩ trivial
      cases n with
      | zero => exact next.elim
      | succ m => exact wpAny_pure ⟨plainId_quiet F.plain_all_loop _, ih m (Nat.lt_succ_self m) _ held.gen held.lim ⟨gs', setGen_at sz, next⟩⟩
  · exact wpAny_bind (m := rule _) (wpAny_rule (wpAny_pure (hR true _ H' held.os (allBare_setGen held.bare rfl) (held.un.trans (Un.kept up)) (held.hok.kept up) en)))

/-- tuple(..): what is handed out is kept in the list at S -/
def gTupG (S : Addr) (En : List V → Hp → Prop) : GP where
  Ss := [S]
  Acc := fun acc h => ∃ its c, h.get? S = some (lstObj its c) ∧ Vals acc its.toList
  stay := fun acc h h' ⟨its, c, e, r⟩ k => ⟨its, c, k S (List.mem_singleton.mpr rfl) _ e, r⟩
  Yq := fun acc _ _ => acc.length < sizeLine
  Rq := fun _ => True
  En := En

theorem ext_loop {X : Cx} {A : Around} {R : Result → Shared → Prop} {fp : List Addr} {H4 : Hp} {s4 : Shared} {a S : Addr} {gi : Nat} {En : List V → Hp → Prop} {res : Value} (hh : A.handled = none) (hd : A.depth < recursionLimit) (hSa : S ≠ a) (hSc : S ≠ cStatics)
    (hR : ∀ (s' : Shared) (its : Array Value) (c : Nat) (H' : Hp) (ys : List V), s'.heap.get? S = some (lstObj its c) → Vals ys its.toList → s'.os = s4.os → AllBare s'.gens → Un (frs X.stack) fp H4 H' s4.heap s'.heap → HOk X.prog X.w H' s'.heap → H' S = none → En ys H' → R (.ok (.ret res)) s') :
    ∀ (n : Nat) (s : Shared), s.heap.IsGen a gi → s.heap.NoLimit → (∃ gs, s.gens[gi]? = some gs ∧ gs.Goes (model X.prog X.w) A.in1.in1 (RG X fp H4 s4 a gi (gTupG S En)) (YG X fp H4 s4 a gi (gTupG S En)) n (.send .none) (s.setGen gi .running)) →
      codeAny (model X.prog X.w) A (.builtin "list.extend.loop" ⟨[.ref S, .ref a, res], []⟩) R s := by
  refine fun n => Nat.strongRecOn n fun n ih s hg hl ⟨gs, hgs, hgo⟩ => entered F.entry_extend_loop F.plain_extend_loop ?_
  refine wpAny_bind (m := pyNext (.ref a)) (ask_gx (A := A.in1) hh hd hg hl hgs hgo (fun acc y v H' t gs' ry nice sz held hacc yq more => ?_) fun acc H' t h' held ⟨its, c, e, r⟩ en up => ?_)
  · obtain ⟨its, c, e, r⟩ := hacc
    have few : acc.length < sizeLine := yq
    have same : acc.length = its.size := (Vals.length r).trans Array.length_toList
    obtain ⟨c', put⟩ : ∃ c', (t.heap.update S (Obj.mapSeq (·.push v))).get? S = some (lstObj (its.push v) c') := ⟨_, Heap.get?_update_self _ e rfl⟩
    have else_ : ∀ b o, b ≠ S → t.heap.get? b = some o → (t.heap.update S (Obj.mapSeq (·.push v))).get? b = some o := fun b o nb q => by
      rw [Heap.get?_update_other _ _ nb.symm]; exact q
    refine wpAny_bind (m := updateSeq S (·.push v)) (wpAny_updateSeq (s := t.setGen gi gs') e rfl ?_ (by omega) (by show (its.push v).size ≤ sizeLine + 1; rw [Array.size_push]; omega))
    have next := more ({ (t.setGen gi gs').setGen gi .running with heap := t.heap.update S (Obj.mapSeq (·.push v)) }) trivial
      ⟨rfl, allBare_setGen (s := t.setGen gi gs') (allBare_setGen held.bare nice) rfl, fun b o nb q => else_ b o (fun z => nb (z ▸ List.mem_singleton.mpr rfl)) q, fun S' z => by
        rw [List.mem_singleton.mp z]
        exact ⟨_, put, fun v z => nomatch z⟩⟩ ⟨_, _, put, by rw [Array.toList_push]; exact r.append (.cons ry .nil)⟩
    cases n with
    | zero => exact next.elim
    | succ m =>
      refine wpAny_pure ⟨plainId_quiet F.plain_extend_loop _, ih m (Nat.lt_succ_self m) { t.setGen gi gs' with heap := t.heap.update S (Obj.mapSeq (·.push v)) } ?_ ?_ ⟨gs', setGen_at sz, next⟩⟩
      · exact held.gen.elim fun o q => q.elim fun nm q => q.elim fun qn q => ⟨o, nm, qn, else_ a o hSa.symm q.1, q.2⟩
      · exact held.lim.elim fun mc q => ⟨mc, q.1.at' fun o z => else_ cStatics o hSc.symm z, q.2⟩
  · exact wpAny_pure (hR _ its c H' acc (up _ _ e) r held.os (allBare_setGen held.bare rfl) (held.un.trans (Un.kept up)) (held.hok.kept up) (held.own S (List.mem_singleton.mpr rfl)).2 en)

theorem collect_gx {X : Cx} {A : Around} {E : Value → Shared → Prop} {Q : List Value → Shared → Prop} {s : Shared} {fp : List Addr} {H4 : Hp} {s4 : Shared} {a : Addr} {gi n : Nat} {gs : GenState} {En : List V → Hp → Prop} (hh : A.handled = none) (hd : A.depth < recursionLimit)
    (hg : s.heap.IsGen a gi) (hl : s.heap.NoLimit) (hgs : s.gens[gi]? = some gs) (hb : AllBare s.gens)
    (hgo : ∀ s6 : Shared, (∃ c, s6.heap.get? s.heap.objs.size = some (lstObj #[] c)) → (∀ b o, s.heap.get? b = some o → s6.heap.get? b = some o) → s6.os = s.os → AllBare s6.gens → gs.Goes (model X.prog X.w) A.in1.in1 (RG X fp H4 s4 a gi (gTupG s.heap.objs.size En)) (YG X fp H4 s4 a gi (gTupG s.heap.objs.size En)) n (.send .none) s6)
    (hQ : ∀ (s' : Shared) (its : Array Value) (H' : Hp) (ys : List V), Vals ys its.toList → s'.os = s4.os → AllBare s'.gens → Un (frs X.stack) fp H4 H' s4.heap s'.heap → HOk X.prog X.w H' s'.heap → En ys H' → Q its.toList s') :
    wpAny (model X.prog X.w) A (collect (.ref a)) Q E s := by
  obtain ⟨go, _, _, hgo', _⟩ := id hg
  have older : a < s.heap.objs.size := Heap.lt_size hgo'
  have notA : s.heap.objs.size ≠ a := Nat.ne_of_gt older
  have notC : s.heap.objs.size ≠ cStatics := Nat.ne_of_gt (hl.elim fun _ z => z.1.lt)
  have up1 : ∀ b o, s.heap.get? b = some o → (s.heap.push (lstObj #[] 0)).get? b = some o := fun b o z => Heap.get?_push_of_some _ z
  have isG : ∀ {h : Heap}, (∀ b o, s.heap.get? b = some o → h.get? b = some o) → Shared.TypeIs { s with heap := h } (.ref a) "generator" := fun {h} z => Heap.IsGen.typeIs (s := { s with heap := h }) (hg.keeps z)
  -- the empty list is made, touched once, and filled
  refine wpAny_bind (m := runValue (.builtin "proto.collect" ⟨[.ref a], []⟩)) (wpAny_runValue (entered F.entry_proto_collect F.plain_proto_collect ?_))
  refine wpAny_bind (m := newList []) (wpAny_newObj_type (wpAny_pure ⟨plainId_quiet F.plain_list_iadd _, entered F.entry_list_iadd F.plain_list_iadd ?_⟩))
  show wpAny (model X.prog X.w) A.in1 (Builtin.List.listExtendWith (.ref s.heap.objs.size) (.ref a) (.ref s.heap.objs.size)) _ _ { s with heap := s.heap.push (lstObj #[] 0) }
  have other : Builtin.List.listSameRef (.ref s.heap.objs.size) (.ref a) = false := by simp [Builtin.List.listSameRef, notA]
  have noSeq : ((Value.type "generator" == Value.type "list") || (Value.type "generator" == Value.type "tuple")) = false := by decide
  simp only [Builtin.List.listExtendWith]
  refine wpAny_bind (wpAny_typeOf (isG up1) ?_)
  simp only [other, noSeq, Bool.false_or, Bool.or_self, if_false, Bool.false_eq_true]
  refine wpAny_bind (m := pyIter (.ref a)) (wpAny_pyIter_gen (s := { s with heap := s.heap.push (lstObj #[] 0) }) (hg.keeps up1) ?_)
  refine wpAny_bind (m := holding _ (Builtin.List.listLengthHint (.ref a))) (wpAny_holding ?_)
  simp only [Builtin.List.listLengthHint]
  refine wpAny_bind (wpAny_specialOf (isG up1) F.gen_no_len ?_)
  refine wpAny_bind (m := specialOf (Value.ref a) (Str.ofString "__length_hint__")) (wpAny_specialOf (isG up1) F.gen_no_hint (wpAny_pure ?_))
  refine wpAny_bind (m := rule "list.extend.makes-room") (wpAny_rule ?_)
  have e1 : (s.heap.push (lstObj #[] 0)).get? s.heap.objs.size = some (lstObj #[] 0) := Heap.get?_push_size _ rfl
  have e2 := Heap.get?_update_self (Obj.mapSeq fun xs => xs.push Value.none) e1 rfl
  have e3 := Heap.get?_update_self (Obj.mapSeq fun xs => xs.pop) e2 rfl
  refine wpAny_bind (m := updateSeq s.heap.objs.size (·.push .none) >>= fun _ => updateSeq s.heap.objs.size (·.pop)) (wpAny_bind (wpAny_updateSeq e1 rfl (wpAny_updateSeq e2 rfl ?_)))
  have up3 : ∀ b o, s.heap.get? b = some o → Heap.get? (Heap.update (Heap.update (s.heap.push (lstObj #[] 0)) s.heap.objs.size (Obj.mapSeq fun xs => xs.push Value.none)) s.heap.objs.size (Obj.mapSeq fun xs => xs.pop)) b = some o := fun b o z => by
    have nb : s.heap.objs.size ≠ b := Nat.ne_of_gt (Heap.lt_size z)
    rw [Heap.get?_update_other _ _ nb, Heap.get?_update_other _ _ nb]
    exact up1 b o z
  refine wpAny_pure ⟨plainId_quiet F.plain_extend_loop _, ext_loop (X := X) (A := A) (fp := fp) (H4 := H4) (s4 := s4) (S := s.heap.objs.size) (En := En) hh hd notA notC (fun s' its c H' ys q1 q2 q3 q4 q5 q6 _ q8 => ?_) n _ (hg.keeps up3) (hl.keeps up3) ⟨gs, hgs, hgo _ ⟨_, e3⟩ up3 rfl (allBare_setGen (s := { s with heap := _ }) hb rfl)⟩⟩
  exact wpAny_bind (m := load s.heap.objs.size) (wpAny_load q1 (wpAny_pure (hQ s' its H' ys q2 q3 q4 q5 q6 q8)))

section
variable {X : Cx}
/-- all(elt for tg in iter if ..); W's third letter: what was handed out -/
def tAllG (P : Addr) (wi : TI) (g : TG) (tt : TT) (te : TE) (vs : List Nat) : TE := fun σ H Q => wi σ H fun J H1 => TabG H1 P ∧ ∀ H1', Tabbed P H1 H1' →
  ∃ W : Nat → Nat → List V → Hp → Prop, (∃ m, W 0 m [] H1') ∧ GxW J g tt te vs σ (gAll (fun H => Q (.bl true) H) (fun H => Q (.bl false) H)) W
/-- tuple(elt for tg in iter if ..) -/
def tTupG (P : Addr) (wi : TI) (g : TG) (tt : TT) (te : TE) (vs : List Nat) : TE := fun σ H Q => wi σ H fun J H1 => TabG H1 P ∧ ∀ H1', Tabbed P H1 H1' →
  ∃ W : Nat → Nat → List V → Hp → Prop, (∃ m, W 0 m [] H1') ∧ GxW J g tt te vs σ (gTupG 0 (fun ys H => ys.length ≤ sizeLine ∧ ∀ p, H p = none → Q (.ref p) (upd H p (.tup ys)))) W

theorem pe_allG {c P : Addr} {elt tg iter : Expr} {ifs : List Expr} {scope : Scope} {own : List (Str × Nat)} {gpos p pos : Pos} {wi : TI} {g : TG} {tt : TT} {te : TE} {k : Nat}
    (hr : Room (k + 2) X.A) (hgl : Gl X "all") (hmg : X.mg "all" = none) (TB : TabB X.base X.mg c P) (hcode : X.env.code = .ref c) (hN : X.N.Nodup) (hi : PI X tg iter wi) (ok : BlkOk X.N X.env.scope scope own)
    (hg : ∀ (A : Around) (s : Shared) (H : Hp) (C : Addr) (cl : List (Str × Addr)) (code : Value) (fp : List Addr) (pn : List (Addr × Obj)), Room k A → PG (gxC X A s H (genEnv scope cl C code builtinsNs X.env) fp pn) tg g)
    (ht : ∀ (A : Around) (s : Shared) (H : Hp) (C : Addr) (cl : List (Str × Addr)) (code : Value) (fp : List Addr) (pn : List (Addr × Obj)), Room k A → PTs (gxC X A s H (genEnv scope cl C code builtinsNs X.env) fp pn) ifs tt)
    (he : ∀ (A : Around) (s : Shared) (H : Hp) (C : Addr) (cl : List (Str × Addr)) (code : Value) (fp : List Addr) (pn : List (Addr × Obj)), Room k A → PE (gxC X A s H (genEnv scope cl C code builtinsNs X.env) fp pn) elt te)
    (hcell : ∀ y ∈ scope.names, y.2 ≠ .cell := by decide) (h0 : scope.names.lookup (".0" : Str) = some NameKind.local := by rfl) (hco : scope.isCoroutine = false := by rfl) (hs : ∀ v, genFold iter X.env v = pure v := by intro _; rfl)
    (hst : starEach [.GeneratorExp elt [⟨tg, iter, ifs, 0⟩] scope gpos] X.env = (false, eval (.GeneratorExp elt [⟨tg, iter, ifs, 0⟩] scope gpos) X.env) :: starEach [] X.env := by rfl) :
    PE X (.Call (.Name "all" p) [.GeneratorExp elt [⟨tg, iter, ifs, 0⟩] scope gpos] [] pos) (tAllG P wi g tt te (own.map (·.2))) := by
  constructor
  intro pins s σ H Q I h
  refine wpAny_Call_Name_kw (ld_blt I hgl hmg (by decide +kernel : bootBuiltins "all" = some (.builtin "all")) ?_)
  refine PyProof.Rows.callWith_builtin1 ?_ hst (by rfl)
  rw [hst]
  show wpAny _ _ (spliced ((false, eval (.GeneratorExp elt [⟨tg, iter, ifs, 0⟩] scope gpos) X.env) :: backTo pos (starEach [] X.env))) _ _ s
  refine Calls.spliced_cons (gx_eval hr TB hcode ok hcell h0 hco hi hs I h fun J H4 s4 it fp tn code a gi go s5 hR M => ?_)
  refine Calls.spliced_nil ?_
  obtain ⟨W, ⟨m0, w0⟩, turn⟩ := hR
  refine call_function_tree F.kind_all F.plain_all F.entry_all (F.args_all1 (.ref a)) ?_
  refine wpAny_bind (m := oneArg "all" ⟨[.ref a], []⟩) (wpAny_pure ?_)
  refine wpAny_bind (wpAny_pyIter_gen (M.gen _ M.obj) ?_)
  have lim5 : s5.heap.NoLimit := M.inv.nolimit.keeps M.kp
  refine wpAny_pure ⟨plainId_quiet F.plain_all_loop _, all_loop (X := X) (A := X.A) (fp := fp) (H4 := H4) (s4 := s4) (Qt := fun H => Q (.bl true) H) (Qf := fun H => Q (.bl false) H) hr.hd hr.depth (fun b s' H' hos hb un hok q => ?_) (m0 + 1) s5 (M.gen _ M.obj) lim5 ⟨_, M.gs, ?_⟩⟩
  · show EP X pins σ Q (.bool b) s'
    refine ⟨.bl b, H', M.inv.call' (ch := fp) hos un hok hb fun b hb => ⟨(M.fpo b hb).1.2.2.2.1, (M.fpo b hb).1.2.1, (M.fpo b hb).1.2.2.2.2.1, (M.fpo b hb).1.2.2.2.2.2⟩, rfl, ?_⟩
    cases b with
    | true => exact q
    | false => exact q
  · refine gx_run ok hcell hco hN M hg ht he w0 turn (A := X.A.in1.in1) (s6 := s5.setGen gi .running) ?_ M.inv.ok.frames (fun S hs => by cases hs) trivial rfl (allBare_setGen M.bare rfl) fun b o e => e
    exact ⟨hr.hd, by have := hr.dp; show X.A.depth + 3 * (k + 1) + 5 < _; omega, by have := hr.un; show X.A.units + 1 + 1 + 16 * (k + 1) + 200 < _; omega⟩

theorem pe_tupG {c P : Addr} {elt tg iter : Expr} {ifs : List Expr} {scope : Scope} {own : List (Str × Nat)} {gpos p pos : Pos} {wi : TI} {g : TG} {tt : TT} {te : TE} {k : Nat}
    (hr : Room (k + 2) X.A) (hgl : Gl X "tuple") (hmg : X.mg "tuple" = none) (TB : TabB X.base X.mg c P) (hcode : X.env.code = .ref c) (hN : X.N.Nodup) (hi : PI X tg iter wi) (ok : BlkOk X.N X.env.scope scope own)
    (hg : ∀ (A : Around) (s : Shared) (H : Hp) (C : Addr) (cl : List (Str × Addr)) (code : Value) (fp : List Addr) (pn : List (Addr × Obj)), Room k A → PG (gxC X A s H (genEnv scope cl C code builtinsNs X.env) fp pn) tg g)
    (ht : ∀ (A : Around) (s : Shared) (H : Hp) (C : Addr) (cl : List (Str × Addr)) (code : Value) (fp : List Addr) (pn : List (Addr × Obj)), Room k A → PTs (gxC X A s H (genEnv scope cl C code builtinsNs X.env) fp pn) ifs tt)
    (he : ∀ (A : Around) (s : Shared) (H : Hp) (C : Addr) (cl : List (Str × Addr)) (code : Value) (fp : List Addr) (pn : List (Addr × Obj)), Room k A → PE (gxC X A s H (genEnv scope cl C code builtinsNs X.env) fp pn) elt te)
    (hcell : ∀ y ∈ scope.names, y.2 ≠ .cell := by decide) (h0 : scope.names.lookup (".0" : Str) = some NameKind.local := by rfl) (hco : scope.isCoroutine = false := by rfl) (hs : ∀ v, genFold iter X.env v = pure v := by intro _; rfl)
    (hst : starEach [.GeneratorExp elt [⟨tg, iter, ifs, 0⟩] scope gpos] X.env = (false, eval (.GeneratorExp elt [⟨tg, iter, ifs, 0⟩] scope gpos) X.env) :: starEach [] X.env := by rfl) :
    PE X (.Call (.Name "tuple" p) [.GeneratorExp elt [⟨tg, iter, ifs, 0⟩] scope gpos] [] pos) (tTupG P wi g tt te (own.map (·.2))) := by
  constructor
  intro pins s σ H Q I h
  refine wpAny_Call_Name_kw (ld_blt I hgl hmg (by decide +kernel : bootBuiltins "tuple" = some (.type "tuple")) ?_)
  refine PyProof.Rows.callWith_type1 ?_ hst (by rfl)
  rw [hst]
  show wpAny _ _ (spliced ((false, eval (.GeneratorExp elt [⟨tg, iter, ifs, 0⟩] scope gpos) X.env) :: backTo pos (starEach [] X.env))) _ _ s
  refine Calls.spliced_cons (gx_eval hr TB hcode ok hcell h0 hco hi hs I h fun J H4 s4 it fp tn code a gi go s5 hR M => ?_)
  refine Calls.spliced_nil ?_
  obtain ⟨W, ⟨m0, w0⟩, turn⟩ := hR
  have lim5 : s5.heap.NoLimit := M.inv.nolimit.keeps M.kp
  have hTI : s5.TypeIs (.ref a) "generator" := (M.gen _ M.obj).typeIs
  have main : ∀ {E : Value → Shared → Prop} {Qc : List Value → Shared → Prop}, (∀ (s' : Shared) (its : Array Value) (H' : Hp) (ys : List V), Vals ys its.toList → s'.os = s4.os → AllBare s'.gens → Un (frs X.stack) fp H4 H' s4.heap s'.heap → HOk X.prog X.w H' s'.heap → (ys.length ≤ sizeLine ∧ ∀ p, H' p = none → Q (.ref p) (upd H' p (.tup ys))) → Qc its.toList s') →
      wpAny (model X.prog X.w) X.A.in1.in1 (collect (.ref a)) Qc E s5 := fun {E Qc} hQc => by
    refine collect_gx (X := X) (n := m0 + 1) (En := fun ys H => ys.length ≤ sizeLine ∧ ∀ p, H p = none → Q (.ref p) (upd H p (.tup ys))) (fp := fp) (H4 := H4) (s4 := s4) hr.hd hr.depth (M.gen _ M.obj) lim5 M.gs M.bare (fun s6 hS6 hk6 hos6 hb6 => ?_) hQc
    have hSa : s5.heap.objs.size ≠ a := Nat.ne_of_gt M.hi
    obtain ⟨cS, eS⟩ := hS6
    refine gx_run (G := gTupG s5.heap.objs.size (fun ys H => ys.length ≤ sizeLine ∧ ∀ p, H p = none → Q (.ref p) (upd H p (.tup ys)))) ok hcell hco hN M hg ht he w0 turn (A := X.A.in1.in1.in1.in1) (s6 := s6) ?_ M.inv.ok.frames (fun S hs => ?_) ⟨_, _, eS, .nil⟩ hos6 hb6 hk6
    · exact ⟨hr.hd, by have := hr.dp; show X.A.depth + 3 * (k + 1) + 5 < _; omega, by have := hr.un; show X.A.units + 1 + 1 + 1 + 1 + 16 * (k + 1) + 200 < _; omega⟩
    · rw [List.mem_singleton.mp hs]
      exact ⟨Nat.lt_trans M.lo M.hi, hSa, _, eS, fun v z => by cases z⟩
  refine callType_codes (Q₁ := fun obj s₁ => s₁.TypeIs obj "tuple" ∧ EP X pins σ Q obj s₁) F.called_tuple (F.typeCall_tuple_1 _) F.entry_object_init (?_) fun obj s₁ h₁ => ?_
  · refine codeAny_of_tree ?_
    show wpAny _ X.A.in1.in1 (do checkBuiltinCall "tuple.__new__" ⟨[.type "tuple", .ref a], []⟩; again (.builtin "tuple.__new__" ⟨[.type "tuple", .ref a], []⟩)) _ _ s5
    refine wpAny_bind (wpAny_of_eq (F.newCall_tuple_1 (.ref a)) (wpAny_pure ⟨plainId_quiet F.plain_tuple_new _, entered F.entry_tuple_new F.plain_tuple_new ?_⟩))
    have isTup := sub_tuple_self
    have itsInit := init_tuple_lookup
    have here := madeHere_tuple
    wp_walk using wpAny_typeOf hTI, main
    intro s' its H' ys r hos hb un hok ⟨hlen, q⟩
    show wpAny _ _ (Builtin.Tuple.tupleExact its.toList.toArray >>= fun v => ret v) _ _ _
    simp only [Builtin.Tuple.tupleExact]
    have e : its.toList.toArray = its := by simp
    rw [e]
    have hl : ys.length = its.size := by
      rw [← Array.length_toList]
      exact Vals.length r
    refine wpAny_bind (wpAny_newObj_type ?_ (by show its.size ≤ sizeLine; omega))
    refine wpAny_pure ?_
    have isT : Shared.TypeIs { s' with heap := s'.heap.push { cls := .type "tuple", data := .seq its } } (.ref s'.heap.objs.size) "tuple" := ⟨_, Heap.get?_push_size _ rfl, rfl⟩
    refine ⟨isT, ?_⟩
    have I7 : Inv X pins σ H' s' := M.inv.call' (ch := fp) hos un hok hb fun b hb => ⟨(M.fpo b hb).1.2.2.2.1, (M.fpo b hb).1.2.1, (M.fpo b hb).1.2.2.2.2.1, (M.fpo b hb).1.2.2.2.2.2⟩
    have hf : H' s'.heap.objs.size = none := I7.hok.fresh (Nat.le_refl _)
    refine ⟨.ref s'.heap.objs.size, upd H' s'.heap.objs.size (.tup ys), I7.laid (t' := s'.toks) (fun b u e => Heap.get?_push_of_some _ e) (Nat.le_refl _) ⟨hlen, its.toList, r, ⟨_, Heap.get?_push_size _ rfl, rfl, 0, by rw [e]⟩⟩, rfl, q _ hf⟩
  · exact ⟨h₁.1, F.args_object_init_2 obj _, object_init_meets F.called_tuple.init.lookup F.called_tuple.made (by decide) X.prog X.w X.A.in1 _ s₁ ⟨h₁.1, rfl, h₁.2⟩⟩
end
end Gx
namespace Bw
open PySem
def topS (i : Nat) : Stmt := PySem.Challenge.pw_boxwitness_k06_walks_by_marks.main.body.getD i (.Pass ⟨0, 0, 0, 0⟩)
abbrev s_is_number : Stmt := topS 7
abbrev s_is_tuple_of : Stmt := topS 8
abbrev s_is_rising : Stmt := topS 9
abbrev s_check_program : Stmt := topS 15
abbrev s_head_can_be : Stmt := topS 16
abbrev s_row_can_be : Stmt := topS 17
abbrev s_names_of : Stmt := topS 18
abbrev s_handed : Stmt := topS 19
abbrev s_at_end : Stmt := topS 20
abbrev s_next_row : Stmt := topS 21
abbrev s_check_all : Stmt := topS 28
abbrev s_check_frame : Stmt := topS 29
abbrev s_frame_can_be : Stmt := topS 30
abbrev s_check_choice : Stmt := topS 31
abbrev s_places_can_be : Stmt := topS 32
abbrev s_place_can_be : Stmt := topS 33
abbrev s_highest_of : Stmt := topS 34
abbrev s_group_can_be : Stmt := topS 35
abbrev s_moves_can_be : Stmt := topS 36
abbrev s_move_can_be : Stmt := topS 37
abbrev s_cell_of : Stmt := topS 38
abbrev s_place_cells : Stmt := topS 39
abbrev s_do_moves : Stmt := topS 40
abbrev s_walk : Stmt := topS 44
abbrev s_begun : Stmt := topS 46
abbrev s_take : Stmt := topS 47
abbrev s_alike : Stmt := topS 48
abbrev s_row : Stmt := topS 49
abbrev s_program : Stmt := topS 50
abbrev s_law_frame : Stmt := topS 51
abbrev s_law_homes : Stmt := topS 52
abbrev s_law_group : Stmt := topS 53
abbrev s_law_choice : Stmt := topS 54
abbrev s_law_fits : Stmt := topS 55
abbrev s_law_move : Stmt := topS 56
abbrev s_law_bent : Stmt := topS 57
abbrev s_law_case : Stmt := topS 58
abbrev s_law_makes : Stmt := topS 59
abbrev s_law_held : Stmt := topS 60
abbrev s_law_marks : Stmt := topS 61
abbrev s_law_new : Stmt := topS 62
abbrev s_law_do : Stmt := topS 63
abbrev s_law_walk : Stmt := topS 64
abbrev s_law : Stmt := topS 65
abbrev s_k_init : Stmt := L2.inClass (topS 43) 0
abbrev s_k_fresh : Stmt := L2.inClass (topS 43) 1
abbrev s_k_do_row : Stmt := L2.inClass (topS 43) 2
abbrev s_k_agree : Stmt := L2.inClass (topS 43) 3
abbrev s_k_eat : Stmt := L2.inClass (topS 43) 4
abbrev s_k_make : Stmt := L2.inClass (topS 43) 5
end Bw
namespace Bw
open PySem PySem.Spec PyProof.Rows L2 GxR
/-! ### heaps: what may change -/
structure Ext (m : Addr → Prop) (H H' : Hp) : Prop where
  tup : ∀ a xs, H a = some (.tup xs) → H' a = some (.tup xs)
  oth : ∀ a o, ¬ m a → (∀ ps, o ≠ .tbl ps) → H a = some o → H' a = some o
  tab : ∀ P, TabG H P → TabG H' P
  dom : ∀ a, H' a = none → H a = none
theorem dom_upd {H : Hp} {p a : Addr} {o : HO} (e : upd H p o a = none) : H a = none := by
  by_cases z : a = p
  · rw [z, upd_same] at e
    cases e
  · rw [upd_ne z] at e
    exact e
abbrev no : Addr → Prop := fun _ => False
theorem Ext.refl (m : Addr → Prop) (H : Hp) : Ext m H H := ⟨fun _ _ h => h, fun _ _ _ _ h => h, fun _ h => h, fun _ h => h⟩
theorem Ext.trans {m : Addr → Prop} {H H1 H2 : Hp} (a : Ext m H H1) (b : Ext m H1 H2) : Ext m H H2 :=
  ⟨fun x xs h => b.tup x xs (a.tup x xs h), fun x o n t h => b.oth x o n t (a.oth x o n t h), fun P h => b.tab P (a.tab P h), fun x h => a.dom x (b.dom x h)⟩
theorem Ext.mono {m m' : Addr → Prop} {H H' : Hp} (a : Ext m H H') (h : ∀ x, m x → m' x) : Ext m' H H' := ⟨a.tup, fun x o n t e => a.oth x o (fun z => n (h x z)) t e, a.tab, a.dom⟩
theorem Ext.of0 {m : Addr → Prop} {H H' : Hp} (a : Ext no H H') : Ext m H H' := a.mono fun _ z => z.elim
theorem Ext.new {m : Addr → Prop} {H : Hp} {p : Addr} {o : HO} (h : H p = none) : Ext m H (upd H p o) :=
  ⟨fun x xs e => by rw [upd_ne (ne_of_none e h)]; exact e, fun x o' _ _ e => by rw [upd_ne (ne_of_none e h)]; exact e, fun P ⟨ps, e, t⟩ => ⟨ps, by rw [upd_ne (ne_of_none e h)]; exact e, t⟩, fun a e => dom_upd e⟩
theorem Ext.put {m : Addr → Prop} {H : Hp} {x : Addr} {o o' : HO} (e : H x = some o) (hm : m x) (h1 : ∀ xs, o ≠ .tup xs) (h2 : ∀ ps, o ≠ .tbl ps) : Ext m H (upd H x o') :=
  ⟨fun a xs h => by rw [upd_ne (ne_of h e (fun z => h1 xs z.symm))]; exact h, fun a u n _ h => by rw [upd_ne (fun z => n (by rw [z]; exact hm))]; exact h,
    fun P ⟨ps, h, t⟩ => ⟨ps, by rw [upd_ne (ne_of h e (fun z => h2 ps z.symm))]; exact h, t⟩, fun a e => dom_upd e⟩
theorem Ext.tbd {m : Addr → Prop} {H H' : Hp} {P : Addr} (t : TabG H P) (h : Tabbed P H H') : Ext m H H' := by
  obtain ⟨ps, e, t1⟩ := t
  refine ⟨fun a xs q => ?_, fun a o _ n q => ?_, fun P' ⟨ps', e', t'⟩ => ?_, fun a q => ?_⟩
  · rw [h.2 a (ne_of q e (by intro z; cases z))]; exact q
  · rw [h.2 a (ne_of q e (n ps))]; exact q
  · by_cases z : P' = P
    · rw [z]; exact h.1
    · exact ⟨ps', by rw [h.2 P' z]; exact e', t'⟩
  · by_cases z : a = P
    · obtain ⟨ps2, e2, _⟩ := h.1
      rw [z, e2] at q
      cases q
    · rw [h.2 a z] at q
      exact q
/-- an object of one's own is written -/
theorem Ext.own {m : Addr → Prop} {H0 H : Hp} {D : Addr} {o : HO} (e : Ext m H0 H) (n : H0 D = none) : Ext m H0 (upd H D o) :=
  ⟨fun x xs h => by rw [upd_ne (ne_of_none h n)]; exact e.tup x xs h, fun x u nm t h => by rw [upd_ne (ne_of_none h n)]; exact e.oth x u nm t h,
    fun P hP => by
      obtain ⟨ps, h, t⟩ := e.tab P hP
      obtain ⟨ps0, h0, _⟩ := hP
      exact ⟨ps, by rw [upd_ne (ne_of_none h0 n)]; exact h, t⟩, fun x h => e.dom x (dom_upd h)⟩
/-- what is new once stays apart from what stood -/
theorem Ext.lst {m : Addr → Prop} {H H' : Hp} (a : Ext m H H') {l : Addr} {xs : List V} (n : ¬ m l) (h : H l = some (.lst xs)) : H' l = some (.lst xs) := a.oth l _ n (fun _ z => by cases z) h
theorem Ext.sqL {m : Addr → Prop} {K : PySem.W.Frag} {H H' : Hp} (a : Ext m H H') {l : Addr} {xs : List V} (n : ¬ m l) (h : SqL K H l xs) : SqL K H' l xs := by
  rcases h with (h | ⟨locked, h⟩) | h
  · exact .inl (.inl (a.lst n h))
  · exact .inl (.inr ⟨locked, a.oth l _ n (fun _ z => by cases z) h⟩)
  · exact .inr h
/-- which built-ins are still the built-ins -/
structure Bt (mg : Str → Option Value) : Prop where
  len : mg "len" = none
  list : mg "list" = none
  int : mg "int" = none
  tuple : mg "tuple" = none
  dict : mg "dict" = none
  range : mg "range" = none
  min : mg "min" = none
  isinstance : mg "isinstance" = none
  bool : mg "bool" = none
  str : mg "str" = none
  all : mg "all" = none
  zip : mg "zip" = none
  enumerate : mg "enumerate" = none
/-- a def of the text, as callers want it -/
structure Df (K : PySem.W.Frag) (mg : Str → Option Value) (x : Str) (st : Stmt) (ps : List Str) (f : Addr) (fd : FuncData) : Prop where
  F : Fun K x x st f fd
  b : Binds K fd ps []
  g : mg x = some (.ref f)
theorem pcall {X : Cx} {x : Str} {st : Stmt} {ps : List Str} {f : Addr} {fd : FuncData} {k : Nat} {sp : Sp} {e : Expr} {es : List Expr} {t : TA} {p pos : Pos} (D : Df X.K X.mg x st ps f fd) (G : FnOk X.prog X.w X.K X.mg X.base CX0 k f fd ps sp) (hr : Room k X.A) (ha : PA X (e :: es) t) (hg : Gl X x := by rfl)
    (hdb : (x == ("__debug__" : Str)) = false := by decide) (he : starEach (e :: es) X.env = (false, eval e X.env) :: starEach es X.env := by rfl) (hpl : (backTo pos (starEach es X.env)).any (·.1) = false := by rfl) : PE X (.Call (.Name x p) (e :: es) [] pos) (tCall sp [] E0 t) :=
  pe_call G hr hg D.g D.F.kp D.b .nil pass0 ha hdb he hpl
theorem SqT.of {K : PySem.W.Frag} {H : Hp} {a : Addr} {xs : List V} (h : H a = some (.tup xs)) : SqT K H a xs := .inl (.inl h)
theorem SqL.of {K : PySem.W.Frag} {H : Hp} {a : Addr} {xs : List V} (h : H a = some (.lst xs)) : SqL K H a xs := .inl (.inl h)
theorem small_lt {n k : Nat} (h : n ≤ k) (hk : k ≤ 100000) : n < sizeLine := Nat.lt_of_le_of_lt (Nat.le_trans h hk) (by decide)
end Bw
set_option maxHeartbeats 3000000
namespace Bw
open PySem PySem.Spec PyProof.Rows L2 GxR
/-! ### d.update(e), both of them dicts that are tracked -/
def rUpdate : V → List V → Hp → VK → Prop := fun x vs H Q => ∃ (d o : Addr) (kvs more : List (Key × V)), x = .ref d ∧ vs = [.ref o] ∧ H d = some (.dK kvs) ∧ H o = some (.dK more) ∧ d ≠ o ∧ kvs.length + more.length ≤ sizeLine ∧ Q .non (upd H d (.dK (mergeK kvs more)))
theorem mt_update {X : Cx} : MtM X "dict.update" rUpdate := by
  intro pins s σ H x args v us Q I rx rv h
  obtain ⟨d, o, kvs, more, rfl, rfl, hd, ho, ne, few, q⟩ := h
  obtain rfl : v = .ref d := rx
  obtain ⟨u, rfl, ru⟩ := rv.one
  obtain rfl : u = .ref o := ru
  obtain ⟨_, low1, ws, kw, dw⟩ := dk_of I.hok hd
  obtain ⟨_, low2, ms, km, dm⟩ := dk_of I.hok ho
  have l1 := kw.length
  have l2 := km.length
  refine call_meetsIn PySem.F.slot_dict_update dw.typeIs PySem.F.entry_dict_update (PySem.F.args_dict_update_2 _ _) (meets_dict_update (mixKind X.prog X.w) d o ne low2) ⟨ws, ms, dw, dm, by omega, fun h' new _ but => ?_⟩
  have few' : (mergeK kvs more).length ≤ sizeLine := Nat.le_trans (length_mergeK more kvs) few
  refine ⟨.non, upd H d (.dK (mergeK kvs more)), d_write (t' := s.toks) I (by rw [hd]; trivial) but ?_ (dk_new few' low1 (KV.merge km kw) new), rfl, q⟩
  exact new.elim fun ob z => z.elim fun _ z => z.elim fun _ z => ⟨ob, z.1⟩
/-! ### xs[:c] = ys -/
section
variable {A : Around} {E : Value → Shared → Prop} {s : Shared} {prog : Program} {w : World}
theorem front_bounds {c n : Nat} (h : c ≤ n) : sliceBounds none (some (c : Int)) none n = (0, (c : Int), 1) := by
  have nn : ¬ (c : Int) < 0 := by omega
  simp only [sliceBounds, Option.getD_none, nn, if_false, if_true, show (1 : Int) > 0 by decide]
  congr 2
  omega
theorem store_front {l b sl : Addr} {items new : Array Value} {n n2 c : Nat} {vu : Value} {Q : Unit → Shared → Prop}
    (e : s.heap.get? l = some { cls := .type "list", data := .seq items n }) (e2 : s.heap.get? b = some { cls := .type "list", data := .seq new n2 }) (ne : l ≠ b)
    (sl_ : s.heap.IsSliceOf sl .none vu .none) (pu : IsPart vu (some (c : Int))) (hc : c ≤ items.size) (few : items.size + new.size ≤ sizeLine)
    (h : Q () { s with heap := s.heap.update l (Obj.mapSeq fun xs => xs.extract 0 0 ++ new ++ xs.extract c xs.size) }) : wpAny (model prog w) A (setItem (.ref l) (.ref sl) (.ref b)) Q E s := by
  have isL : s.heap.IsList l items := PySem.IsL.isList e
  have isB : s.heap.IsList b new := PySem.IsL.isList e2
  obtain ⟨so, hso, hcls, hdat⟩ := id sl_
  have isS : s.TypeIs (.ref sl) "slice" := ⟨so, hso, hcls⟩
  have apart : Builtin.List.listSameRef (.ref l) (.ref b) = false := by simp [Builtin.List.listSameRef, ne]
  -- the three parts of the slice, each on its own
  have noIndex : wpAny (model prog w) A.in1 (Builtin.List.listSubscript? (.ref sl)) (fun k s' => k = none ∧ s' = s) E s := by
    refine wpAny_bind (m := specialOf (.ref sl) "__index__") (wpAny_specialOf isS slice_no_index ?_)
    exact wpAny_pure ⟨rfl, rfl⟩
  have parts : wpAny (model prog w) A.in1 (Builtin.List.listSliceParts (.ref sl)) (fun t s' => t = (rawPart none, rawPart (some (c : Int)), rawPart none) ∧ s' = s) E s := by
    rw [listSliceParts_eq]
    refine wpAny_bind (m := field (.ref sl) 2) (wpAny_field hso hdat (x := .none) rfl (wpAny_bind (m := listPart .none) (wpAny_listPart .none ?_)))
    rw [if_neg (show ¬ ((rawPart none == rawInt 0) = true) from Bool.false_ne_true)]
    refine wpAny_bind (m := field (.ref sl) 0) (wpAny_field hso hdat (x := .none) rfl (wpAny_bind (m := listPart .none) (wpAny_listPart .none ?_)))
    exact wpAny_bind (m := field (.ref sl) 1) (wpAny_field hso hdat (x := vu) rfl (wpAny_bind (m := listPart vu) (wpAny_listPart pu (wpAny_pure ⟨rfl, rfl⟩))))
  have read : ∀ {a : Addr} {xs : Array Value} {k : Nat}, s.heap.get? a = some { cls := .type "list", data := .seq xs k } → wpAny (model prog w) A.in1 (Builtin.List.listItems (.ref a)) (fun ys s' => ys = xs ∧ s' = s) E s := fun {a xs k} q => by
    simp only [Builtin.List.listItems]
    exact wpAny_bind (wpAny_seqItems q rfl (wpAny_pure ⟨rfl, rfl⟩))
  have items2 : wpAny (model prog w) A.in1 (Builtin.List.listAllItems (.ref b) "must assign iterable to extended slice") (fun xs s' => xs = new ∧ s' = s) E s := by
    refine wpAny_bind (m := typeOf (.ref b)) (wpAny_typeOf isB.typeIs ?_)
    rw [if_pos (by decide)]
    exact read e2
  have all : wpAny (model prog w) A.in1 (Builtin.«list.__setitem__» ⟨[.ref l, .ref sl, .ref b], []⟩) (fun f s' => f = .done (.ret .none) ∧ s' = { s with heap := s.heap.update l (Obj.mapSeq fun xs => xs.extract 0 0 ++ new ++ xs.extract c xs.size) }) E s := by
    show wpAny (model prog w) A.in1 (Builtin.List.listSubscript? (.ref sl) >>= _) _ E s
    refine wpAny_bind (thn noIndex fun k s' ⟨ek, es⟩ => ?_)
    subst ek es
    refine wpAny_bind (m := typeOf (.ref sl)) (wpAny_typeOf isS ?_)
    rw [if_neg (by decide)]
    refine wpAny_bind (m := Builtin.List.listSliceParts (.ref sl)) (thn parts fun k s' ⟨ek, es⟩ => ?_)
    subst ek es
    simp only [apart, if_false, Bool.false_eq_true]
    refine wpAny_bind (m := Builtin.List.listAllItems (.ref b) "must assign iterable to extended slice") (thn items2 fun zs s' ⟨ey, es⟩ => ?_)
    subst ey es
    refine wpAny_bind (m := Builtin.List.listItems (.ref l)) (thn (read e) fun ys s' ⟨ey, es⟩ => ?_)
    subst ey es
    refine wpAny_bind (wpAny_of_eq ((sliceIndices_raw none (some (c : Int)) none ys.size (by simp)).trans (congrArg (pure : Int × Int × Int → Sem (Int × Int × Int)) (front_bounds hc))) ?_)
    show wpAny (model prog w) A.in1 (if ((1 : Int) == 1) = true then _ else _) _ E s'
    rw [if_pos (by decide)]
    refine wpAny_bind (m := rule _) (wpAny_rule ?_)
    simp only [notLongL few, if_false, Bool.false_eq_true]
    have top : (max (0 : Int) (c : Int)).toNat = c := by omega
    refine wpAny_bind (m := updateSeq l (fun xs => xs.extract 0 (0 : Int).toNat ++ zs ++ xs.extract (max (0 : Int) (c : Int)).toNat xs.size)) ?_
    rw [top]
    refine wpAny_updateSeq (hz := Nat.le_trans (Nat.le_add_right _ _) few) (_hz' := ?_) e rfl ?_
    · exact wpAny_bind (m := letGo _) (wpAny_letGo (wpAny_pure ⟨rfl, rfl⟩))
    · show (ys.extract 0 0 ++ zs ++ ys.extract c ys.size).size ≤ sizeLine + 1
      simp only [Array.size_extract, Array.size_append]
      omega
  simp only [setItem]
  refine wpAny_holding (wpAny_bind (m := sequenceKey (.ref l) (.ref sl) "__setitem__") (wpAny_sequenceKey isL.typeIs (by decide) ?_))
  refine wpAny_bind (m := callSpecial? (.ref l) "__setitem__" [.ref sl, .ref b]) (wpAny_callSpecial?_slot (name := Str.ofString "__setitem__") isL.typeIs slot_list_setitem (wpAny_call_entry slot_list_setitem isL.typeIs entry_list_setitem ?_ (args_list_setitem _ _ _)))
  refine thn all fun f s' ⟨ef, es⟩ => ?_
  subst ef es
  exact ⟨.none, rfl, wpAny_pure h⟩
end
section
variable {X : Cx}
/-- the target o[:e], what is stored a list of its own -/
def gFront (to te : TE) : TG := fun v σ H Q => to σ H fun x H1 => te σ H1 fun y H2 => ∃ (l b : Addr) (xs ys : List V) (c : Nat), x = .ref l ∧ v = .ref b ∧ y = .int c ∧ H2 l = some (.lst xs) ∧ H2 b = some (.lst ys) ∧ l ≠ b ∧ c ≤ xs.length ∧
  xs.length + ys.length ≤ sizeLine ∧ Q σ (upd H2 l (.lst (ys ++ xs.drop c)))
theorem pg_front {o e : Expr} {to te : TE} {p2 pos : Pos} (ho : PE X o to) (he : PE X e te) : PG X (.Subscript o (.Slice none (some e) none p2) pos) (gFront to te) := by
  constructor
  intro pins s σ H v u Q I r h
  refine wpAny_bind (m := holding [u] (eval o X.env)) (wpAny_holding (thn (ho.run pins s σ H _ I h) fun ov s1 ⟨x, H1, I1, r1, q1⟩ => ?_))
  refine wpAny_bind (m := holding [u, ov] (eval (.Slice none (some e) none p2) X.env)) (wpAny_holding (wpAny_Slice ?_))
  rw [evalPart_none]
  refine wpAny_pure ?_
  rw [evalPart_some]
  refine thn (he.run pins s1 σ H1 _ I1 q1) fun vu s2 ⟨y, H2, I2, r2, q2⟩ => ?_
  refine wpAny_pure ?_
  obtain ⟨l, b, xs, ys, c, rfl, rfl, rfl, hl, hb, ne, hc, few, q⟩ := q2
  obtain rfl : ov = .ref l := r1
  obtain rfl : u = .ref b := r
  obtain ⟨t, rfl⟩ := r2
  have I3 : Inv X pins σ H2 { s2 with heap := s2.heap.push { cls := .type "slice", data := .fields #[.none, .int c t, .none] } } := I2.kept (t' := s2.toks) fun b ob z => Heap.get?_push_of_some _ z
  obtain ⟨z1, its, n1, v1, len1, e1⟩ := I3.lstM hl
  obtain ⟨z2, its2, n2, v2, len2, e2⟩ := I3.lstM hb
  refine wpAny_bind (m := standAt pos) (wpAny_standAt (wpAny_bind (wpAny_holding (store_front (c := c) e1 e2 ne (Heap.IsSliceOf.new ..) (.int _ _) (by rw [List.size_toArray]; omega) (by rw [List.size_toArray, List.size_toArray]; omega) ?_))))
  refine wpAny_release ⟨σ, upd H2 l (.lst (ys ++ xs.drop c)), I3.lset (its' := its2 ++ its.drop c) (t' := s2.toks) hl e1 ?_ (v2.append (v1.drop c)) ?_, q⟩
  · have z := splice_eq its its2 0 c
    rw [List.take_zero, List.nil_append] at z
    exact z
  · rw [List.length_append, List.length_drop]
    omega
end
end Bw
namespace Bw
open PySem PySem.Spec PyProof.Rows L2 GxR
/-! ### enumerate(tuple) -/
set_option maxHeartbeats 1234000 in
theorem meets_enum1 {v : Value} {o : Obj} {Pz : Heap → Prop} (B : Begins v o Pz) : Meets (Builtin.«enumerate.__new__» ⟨[.type "enumerate", v], []⟩) (fun _ R s => Pz s.heap ∧
    R (.ok (.ret (.ref (s.heap.push o).objs.size))) { s with heap := (s.heap.push o).push { cls := .type "enumerate", data := .fields #[.none, .bool false, .ref s.heap.objs.size, rawInt 0, .none, .none] } }) :=
  .of_wp fun prog w A R s hs => by
    obtain ⟨hp, ge, dr, tk, os⟩ := s
    obtain ⟨at_, fin⟩ := hs
    have itself := sub_enumerate
    have begun : ∀ {A' : Around} {E' : Value → Shared → Prop} {Q' : Value → Shared → Prop}, Q' (.ref hp.objs.size) ⟨hp.push o, ge, dr, tk, os⟩ → wpAny (model prog w) A' (pyIter v) Q' E' ⟨hp, ge, dr, tk, os⟩ := fun z => B.iter prog w _ _ ⟨hp, ge, dr, tk, os⟩ _ at_ z
    wp_walk using begun
    refine wpAny_stack_any fun frames => wpAny_pure ?_
    split
    · rename_i kind _ _ _ _ _
      cases (kind == Value.type "enumerate") <;> (wp_walk using begun; exact ⟨_, rfl, fin⟩)
    · wp_walk using begun
      exact ⟨_, rfl, fin⟩
theorem enum_made {prog : Program} {w : World} {A : Around} {E : Value → Shared → Prop} {s : Shared} {t : Addr} {items : Array Value} {Q : Value → Shared → Prop} (ht : s.heap.IsTuple t items)
    (fin : ∀ h', IsEnum h' (s.heap.objs.size + 1) s.heap.objs.size 0 .none → h'.IsTupleIter s.heap.objs.size t 0 → (∀ b o, s.heap.get? b = some o → h'.get? b = some o) → Q (.ref (s.heap.objs.size + 1)) { s with heap := h' }) :
    wpAny (model prog w) A (call (.type "enumerate") [.ref t]) Q E s := by
  have B := begins_tuple t items
  refine callType_new F.called_enumerate (by decide) (F.typeCall_enumerate_1 _) (F.newCall_enumerate_1 _) (fun ob => F.args_object_init_2 ob _) F.entry_enumerate_new (meets_enum1 B) ⟨ht, ?_⟩
  generalize hI : ({ cls := .type "tuple_iterator", data := .fields #[.ref t, .int 0 0] } : Obj) = oI at B
  have z1 : (s.heap.push oI).objs.size = s.heap.objs.size + 1 := Heap.size_push ..
  have made := Heap.get?_push_size (s.heap.push oI) (o := { cls := .type "enumerate", data := .fields #[.none, .bool false, .ref s.heap.objs.size, rawInt 0, .none, .none] }) rfl
  rw [z1] at made
  show _ ∧ _
  rw [z1]
  refine ⟨⟨_, made, rfl⟩, fin _ made ⟨oI, Heap.get?_push_of_some _ (Heap.get?_push_size _ B.free), by rw [← hI], by rw [← hI]; rfl⟩ fun b o q => ?_⟩
  exact Heap.get?_push_of_some _ (Heap.get?_push_of_some _ q)
theorem wpAny_pyNext_enum_endT {prog : Program} {w : World} {A : Around} {E : Value → Shared → Prop} {s : Shared} {e it t : Addr} {i : Nat} {items : Array Value} {old : Value} {Q : Option Value → Shared → Prop} (hh : A.handled = none) (he : IsEnum s.heap e it i old) (hit : s.heap.IsTupleIter it t i) (ht : s.heap.IsTuple t items)
    (out : items[i]? = none) (fin : ∀ h', Heap.ExtBut it s.heap h' → Q none { s with heap := h' }) : wpAny (model prog w) A (pyNext (.ref e)) Q E s := by
  have kind : s.TypeIs (.ref e) "enumerate" := ⟨_, he, rfl⟩
  unfold pyNext
  refine wpAny_bind (wpAny_attempt (wpAny_callSpecial?_slot (name := Str.ofString "__next__") kind F.slot_enumerate_next (wpAny_call_entry F.slot_enumerate_next kind F.entry_enumerate_next ?_ (F.args_enumerate_next_1 _))))
  refine wpAny_bind (m := field (.ref e) 2) (wpAny_field he rfl (x := .ref it) rfl (wpAny_bind (wpAny_nextOf_tuple_end hh hit ht out fun h' x far ⟨o, oAt, oIs⟩ => ?_)))
  exact wpAny_bind (wpAny_isInstance (T := "StopIteration") (b := true) ⟨o, oAt, oIs⟩ isSubtype_stop (wpAny_pure (fin _ far)))
def IteT (K : PySem.W.Frag) (a : Addr) : It where
  go i H := ∃ (xs : List V) (x : V), SqT K H a xs ∧ xs[i]? = some x
  yld i H v H' := ∃ t x, v = .ref t ∧ H t = none ∧ H' = upd H t (.tup [.int (i : Nat), x]) ∧ ∀ xs, SqT K H a xs → xs[i]? = some x
  stop i H := ∃ xs : List V, SqT K H a xs ∧ xs.length ≤ i
theorem enumT_turn {P : Program} {w : World} {K : PySem.W.Frag} {elts : List Expr} {kk : Nat} {tpos : Pos} (a e it : Addr) (n1 : e ≠ it) (n2 : a ≠ it) (n3 : e ≠ a) :
    Turn P w K (.Tuple elts kk tpos) (IteT K a) [e, it] e (fun i h => (∃ before, IsEnum h e it ((i : Nat) : Int) before) ∧ h.IsTupleIter it a i) where
  mem := by simp
  obj := fun i h st b hb => by
    obtain ⟨⟨_, there⟩, ⟨o, oAt, _, oIs⟩⟩ := st
    rcases List.mem_cons.mp hb with q | q
    · rw [q]
      exact ⟨_, there, fun v no => nomatch no⟩
    · rw [List.mem_singleton.mp q]
      exact ⟨o, oAt, fun v z => by rw [oIs] at z; cases z⟩
  keep := fun i h h' st k => by
    obtain ⟨⟨old, there⟩, iter⟩ := st
    exact ⟨⟨old, k e (by simp) _ there⟩, iter.at fun o z => k it (by simp) o z⟩
  item := by
    rintro X hP hw hK hc i pins s σ H E I hf ⟨⟨_, there⟩, iter⟩ hg
    subst hP hw hK
    obtain ⟨xs, x, isT, isX⟩ := hg
    obtain ⟨its, rv, tup, _⟩ := I.tuple isT
    obtain ⟨u, isU, ru⟩ := rv.get isX
    have isU' : its.toArray[i]? = some u := by simpa using isU
    have e1 : e < s.heap.objs.size := Heap.lt_size there
    have e2 : it < s.heap.objs.size := iter.elim fun _ q => Heap.lt_size q.1
    have apart : e ∉ [it, a] := by simp [n1, n3]
    have Dr := Draws.tuple (prog := X.prog) (w := X.w) (A := X.A.in1) (I.ok.hd hc) it a n2 its.toArray
    refine wpAny_pyNext_enum_itemD Dr there ⟨iter, tup⟩ (Array.getElem?_eq_some_iff.mp isU').1 n1 apart fun y h1 tk isY out next new _ kept => ?_
    obtain rfl : u = y := by
      have z : its.toArray[i]? = some y := isY
      rw [isU'] at z
      exact Option.some.inj z
    refine ⟨_, rfl, wpAny_letOwnedTupleGo_enum (s := { s with heap := h1, toks := tk + 1 }) out fun h2 back same => ?_⟩
    have new2 : h2.get? s.heap.objs.size = some { cls := .type "tuple", data := .seq #[.int i tk, u] } := (same.2 _ (Nat.ne_of_gt e1)).trans new
    have objOk : ObjOk X.prog X.w (upd H s.heap.objs.size (.tup [.int (i : Nat), x])) h2 s.heap.objs.size (.tup [.int (i : Nat), x]) :=
      ⟨show 2 ≤ sizeLine by decide, _, .cons ⟨tk, rfl⟩ (.cons ru .nil), ⟨_, new2, rfl, 0, rfl⟩⟩
    have far : ∀ b ob, b ∉ [e, it] → s.heap.get? b = some ob → h2.get? b = some ob := fun b ob nb q => by
      rw [same.2 b (fun z => nb (by simp [z]))]
      exact kept b ob (fun z => nb (by simp [z])) (fun z => nb (by simp [z])) q
    have J := I.turnedNew (t' := tk + 1) (ch := [e, it]) far hf (Nat.le_refl _) objOk
    refine ⟨.ref s.heap.objs.size, _, J, rfl, ⟨_, x, rfl, I.hok.fresh (Nat.le_refl _), rfl, fun ys isY => by rw [I.tuple_inj isY isT]; exact isX⟩, ⟨⟨u, ?_⟩, next.1.at fun o q => (same.2 it n1.symm).trans q⟩, fun b hb => ?_⟩
    · rw [show ((i + 1 : Nat) : Int) = (i : Int) + 1 by omega]
      exact back
    · have low : b < s.heap.objs.size := by
        rcases List.mem_cons.mp hb with q | q
        · rw [q]; exact e1
        · rw [List.mem_singleton.mp q]; exact e2
      rw [upd_ne (Nat.ne_of_lt low)]
      exact (hf b hb).1
  done := by
    rintro X hP hw hK hc i pins s σ H E I hf ⟨⟨_, there⟩, iter⟩ hg
    subst hP hw hK
    obtain ⟨xs, isT, past⟩ := hg
    obtain ⟨its, rv, tup, _⟩ := I.tuple isT
    have same := rv.length
    have Dr := Draws.tuple (prog := X.prog) (w := X.w) (A := X.A.in1) (I.ok.hd hc) it a n2 its.toArray
    have out : its.toArray[i]? = none := by simp; omega
    refine wpAny_pyNext_enum_endT (I.ok.hd hc) there iter tup out fun h' far => ⟨rfl, ?_⟩
    exact I.turnedL (t' := s.toks) (ch := [e, it]) (fun b o nb q => far b o (fun z => nb (by simp [z])) q) hf
  self := fun A i s Q E st h => st.1.elim fun _ there => wpAny_pyIter_enum there h
def iEnumT (K : PySem.W.Frag) (ta : TA) : TI := fun σ H R => ta σ H fun vs H1 => ∃ a xs, vs = [.ref a] ∧ SqT K H1 a xs ∧ R (IteT K a) H1
theorem pi_enumT {X : Cx} {e : Expr} {ta : TA} {p pos tpos : Pos} {elts : List Expr} {kk : Nat} (hg : Gl X "enumerate") (hm : X.mg "enumerate" = none) (ha : PA X [e] ta) (one : starEach [e] X.env = [(false, eval e X.env)] := by rfl) :
    PI X (.Tuple elts kk tpos) (.Call (.Name "enumerate" p) [e] [] pos) (iEnumT X.K ta) := by
  constructor
  intro pins s σ H R I h
  refine Call_ (ld_blt I hg hm boot_enumerate (PyProof.Rows.callWith_type1 (thn (ha.run pos pins s σ H _ I h) fun us s1 ⟨vs, H1, I1, r1, a, xs, ev, isT, q⟩ => ?_) one rfl))
  subst ev
  obtain ⟨arg, rfl, ru⟩ := vals1 r1
  obtain rfl : arg = Value.ref a := ru
  obtain ⟨its, rv, tup, _⟩ := I1.tuple isT
  have low : a < s1.heap.objs.size := tup.elim fun _ q => Heap.lt_size q.1
  refine enum_made tup fun h' there iter kept => wpAny_pyIter_enum there ?_
  have J : Inv X pins σ H1 { s1 with heap := h' } := I1.kept (t' := s1.toks) kept
  refine ⟨s1.heap.objs.size + 1, [s1.heap.objs.size + 1, s1.heap.objs.size], _, _, H1, rfl, J, enumT_turn a (s1.heap.objs.size + 1) s1.heap.objs.size (Nat.succ_ne_self _) (Nat.ne_of_lt low) (fun z => absurd low (by rw [← z]; exact Nat.not_lt.mpr (Nat.le_succ _))), ⟨⟨.none, there⟩, iter⟩, fun b hb => ?_, q⟩
  have up : s1.heap.objs.size ≤ b := by
    rcases List.mem_cons.mp hb with at1 | at0
    · rw [at1]; exact Nat.le_succ _
    · rw [List.mem_singleton.mp at0]; exact Nat.le_refl _
  exact I1.fpOk up (I1.hok.fresh up)
/-- the walk over enumerate(tuple) -/
theorem for_enumT {K : PySem.W.Frag} {a : Addr} {xs : List V} {g : TG} {tb : TS} {D : Ends} {σ : L2.St} {H : Hp} (Pv : Nat → L2.St → Hp → Prop) (h0 : Pv 0 σ H) (hq : ∀ i σ H, Pv i σ H → SqT K H a xs)
    (hs : ∀ (i : Nat) (x : V) (t : Addr) (σ : L2.St) (H : Hp), xs[i]? = some x → Pv i σ H → H t = none → g (.ref t) σ (upd H t (.tup [.int (i : Nat), x])) fun σ2 H2 => tb { D with nx := Pv (i + 1), ct := Pv (i + 1), bk := D.nx } σ2 H2) (hd : ∀ σ H, Pv xs.length σ H → D.nx σ H) :
    ∃ W : Nat → Nat → L2.St → Hp → Prop, (∃ m, W 0 m σ H) ∧ ∀ i m σ H, W i m σ H → ((IteT K a).stop i H ∧ D.nx σ H) ∨ ((IteT K a).go i H ∧ ∃ N : L2.St → Hp → Prop, (∀ σ' H', N σ' H' → ∃ m', m' < m ∧ W (i + 1) m' σ' H') ∧ ∀ v H', (IteT K a).yld i H v H' → g v σ H' fun σ2 H2 => tb { D with nx := N, ct := N, bk := D.nx } σ2 H2) := by
  refine ⟨fun i m σ H => m = xs.length - i ∧ i ≤ xs.length ∧ Pv i σ H, ⟨_, rfl, Nat.zero_le _, h0⟩, ?_⟩
  rintro i m σ H ⟨rfl, le, here⟩
  have isT := hq i σ H here
  by_cases last : i = xs.length
  · subst last
    exact .inl ⟨⟨xs, isT, Nat.le_refl _⟩, hd σ H here⟩
  · have lt : i < xs.length := by omega
    refine .inr ⟨⟨xs, xs[i], isT, List.getElem?_eq_getElem lt⟩, Pv (i + 1), fun σ' H' n => ⟨xs.length - (i + 1), by omega, rfl, by omega, n⟩, ?_⟩
    rintro v H' ⟨t, x, rfl, nt, rfl, isX⟩
    exact hs i x t σ H (isX xs isT) here nt
end Bw
namespace Bw
open PySem PySem.Spec PyProof.Rows L2 GxR
/-! ### the law's own draws -/
/-- the box of draws: at b, its numbers at l -/
structure BoxAt (H : Hp) (b l : Addr) : Prop where
  ex : ∃ (L : List Int) (z : Int), H b = some (.lst [.ref l, .int z]) ∧ H l = some (.lst (L.map V.int)) ∧ 0 ≤ z ∧ z < 2147483647
theorem BoxAt.ne {H : Hp} {b l : Addr} (h : BoxAt H b l) : b ≠ l := by
  obtain ⟨L, z, h1, h2, _⟩ := h.ex
  refine ne_of h1 h2 fun e => ?_
  cases L with
  | nil => cases e
  | cons x r =>
    have e1 : [V.ref l, V.int z] = (x :: r).map V.int := HO.lst.inj e
    rw [List.map_cons] at e1
    cases e1
abbrev bx (b l : Addr) : Addr → Prop := fun x => x = b ∨ x = l
theorem BoxAt.ext {m : Addr → Prop} {H H' : Hp} {b l : Addr} (h : BoxAt H b l) (e : Ext m H H') (n1 : ¬ m b) (n2 : ¬ m l) : BoxAt H' b l := by
  obtain ⟨L, z, h1, h2, h3⟩ := h.ex
  exact ⟨L, z, e.lst n1 h1, e.lst n2 h2, h3⟩
theorem dpInts {K : PySem.W.Frag} {H : Hp} : ∀ L : List Int, DpAll K H (L.map V.int) (L.map PyData.int)
  | [] => .nil
  | x :: r => .cons (.int x) (dpInts r)
theorem shInts (L : List Int) : SeqAt.shaped (.list (L.map PyData.int)) = true := PySem.W.ke_shaped_ints L
theorem ixN_nat {n j : Nat} (h : j < n) : ixN n (j : Int) = some j := by
  unfold ixN
  rw [if_pos (by omega), if_pos (by omega), Int.toNat_natCast]
section
variable {base : Heap} {K : PySem.W.Frag} {mg : Str → Option Value} {P : Program} {w : World}
def spBegun (K : PySem.W.Frag) : Sp := fun vs H Q _ => ∃ (a : Addr) (ns : List Int), vs = [.ref a] ∧ SqL K H a (ns.map V.int) ∧ ns.length ≤ 63 ∧ ∀ H' b l, H b = none → H l = none → BoxAt H' b l → Ext no H H' → Q (.ref b) H'
theorem scBegun : FnScope ["_law_script", "_law_stirred", "_law_cell"] ["_law_script"] (defScope s_begun) := ⟨rfl, rfl, rfl, by decide +kernel, rfl, by decide +kernel, by decide +kernel⟩
theorem ok_begun {f : Addr} {fd : FuncData} (D : Df K mg "_law_begun" s_begun ["_law_script"] f fd) (B : Bt mg) : FnOk P w K mg base CX0 1 f fd ["_law_script"] (spBegun K) := by
  refine D.F.ok scBegun (fun vs H Q E h => ?_) (fun cdv A outer s H vs Q E hr h => ?_)
  · obtain ⟨a, ns, rfl, _⟩ := h
    rfl
  · obtain ⟨a, ns, rfl, hS, few, q⟩ := h
    refine ⟨_, pss_cons (ps_set (i := 1) scBegun.nd rfl (.inl rfl) pe_int)
      (pss_cons (ps_for PassesOwn.never rfl (pi_list (pv 0)) (pg_name (i := 2) scBegun.nd rfl (.inl rfl))
        (pss_one (ps_set (i := 1) scBegun.nd rfl (.inl rfl) (pe_op op_mod (pe_op op_add (pe_op op_add (pe_op op_mul (pv 1) pe_int) (pe_op op_mul (pe_op op_mod (pv 2) pe_int) pe_int)) pe_int) pe_int))))
      (pss_one (ps_ret (pe_lst (pa_cons (pe_callTy call_list_of (by rfl) B.list (by decide +kernel) (pa_cons (pv 0) pa_nil))
        (pa_cons (pe_op op_mul (pv 1) (pe_callTy call_int1 (by rfl) B.int (by decide +kernel) (pa_cons (pe_cmpR op_gt (pe_callB call_len_seq (by rfl) B.len PySem.boot_len (pa_cons (pv 0) pa_nil)) pe_int (nomark _)) pa_nil))) pa_nil)))))), ?_⟩
    refine ⟨_, rfl, a, rfl, ⟨_, hS⟩, for_list (K := K) (a := a) (xs := ns.map V.int) (fun i σ H2 => ∃ (z : Int) (v : Option V), σ = [some (.ref a), some (.int z), v] ∧ H2 = H ∧ 0 ≤ z ∧ z < 2147483647)
      ⟨0, none, rfl, rfl, by decide, by decide⟩ (fun i σ H2 _ ⟨_, _, _, e, _⟩ => by rw [e]; exact hS) ?_ ?_⟩
    · rintro i y σ H2 hi ⟨z, v, rfl, rfl, z0, z1⟩
      obtain ⟨c, rfl⟩ : ∃ c, y = V.int c := by
        rw [List.getElem?_map] at hi
        cases e : ns[i]? with
        | none => rw [e] at hi; cases hi
        | some z => rw [e] at hi; exact ⟨z, (Option.some.inj hi).symm⟩
      refine ⟨_, rfl, _, _, rfl, rfl, .inl ⟨by omega, by omega⟩, _, rfl, _, _, rfl, rfl, (by show (0 : Int) < 2147483647; decide), _, _, rfl, rfl, .inr ⟨by decide, by decide⟩, _, _, rfl, rfl, _, _, rfl, rfl, _, _, rfl, rfl, (by show (0 : Int) < 2147483647; decide), ?_⟩
      exact ⟨_, _, rfl, rfl, Int.emod_nonneg _ (by decide), Int.emod_lt_of_pos _ (by decide)⟩
    · rintro σ H2 ⟨z, v, rfl, rfl, z0, z1⟩
      refine ⟨_, rfl, a, _, rfl, .inl hS, fun l nl => ?_⟩
      refine ⟨_, rfl, _, rfl, a, _, rfl, .inl (Ext.sqL (Ext.new (m := no) nl) (fun z => z) hS), _, _, rfl, rfl, .inr ⟨_, rfl, _, _, rfl, rfl, .inl ⟨by omega, by omega⟩, ?_⟩⟩
      refine ⟨by show 2 ≤ sizeLine; decide, fun b nb => ?_⟩
      have nbl : b ≠ l := fun e => by rw [e, upd_same] at nb; cases nb
      have nb' : H2 b = none := by rw [upd_ne nbl] at nb; exact nb
      refine q _ b l nb' nl ⟨ns, _, upd_same, by rw [upd_ne nbl.symm, upd_same], ?_⟩ ((Ext.new nl).trans (Ext.new nb))
      split
      · omega
      · omega
def spTake : Sp := fun vs H Q _ => ∃ (b l : Addr) (many : Int), vs = [.ref b, .int many] ∧ BoxAt H b l ∧ 0 < many ∧ many < 1073741824 ∧ ∀ H' r, 0 ≤ r → r < many → BoxAt H' b l → Ext (bx b l) H H' → Q (.int r) H'
theorem scTake : FnScope ["_law_box", "_law_many", "_law_number"] ["_law_box", "_law_many"] (defScope s_take) := ⟨rfl, rfl, rfl, by decide +kernel, rfl, by decide +kernel, by decide +kernel⟩
theorem ok_take {f : Addr} {fd : FuncData} (D : Df K mg "_law_take" s_take ["_law_box", "_law_many"] f fd) : FnOk P w K mg base CX0 1 f fd ["_law_box", "_law_many"] spTake := by
  refine D.F.ok scTake (fun vs H Q E h => ?_) (fun cdv A outer s H vs Q E hr h => ?_)
  · obtain ⟨b, l, many, rfl, _⟩ := h
    rfl
  · obtain ⟨b, l, many, rfl, bo, m0, m1, q⟩ := h
    have hu := hr.units
    refine ⟨_, pss_cons (ps_if (pt_cmpR (op_eqD hu) (pe_ix ix_list (pv 0) pe_int (fun _ _ => rfl)) (pe_lst pa_nil) (nomark _))
        (pss_cons (ps_asg (pe_op op_mod (pe_op op_mul (pe_ix ix_list (pv 0) pe_int (fun _ _ => rfl)) pe_int) pe_int) (pg_sub (pv 0) pe_int set_list))
        (pss_one (ps_ret (pe_op op_mod (pe_op op_fdiv (pe_ix ix_list (pv 0) pe_int (fun _ _ => rfl)) pe_int) (pv 1))))) pss_nil)
      (pss_cons (ps_set (i := 2) scTake.nd rfl (.inl rfl) (pe_ix ix_list (pe_ix ix_list (pv 0) pe_int (fun _ _ => rfl)) pe_int (fun _ _ => rfl)))
      (pss_cons (ps_asg (pe_op op_fdiv (pv 2) (pv 1)) (pg_sub (pe_ix ix_list (pv 0) pe_int (fun _ _ => rfl)) pe_int set_list))
      (pss_cons (ps_if (PW.pt (pw_or (pt_cmpR op_eq (pe_ix ix_list (pe_ix ix_list (pv 0) pe_int (fun _ _ => rfl)) pe_int (fun _ _ => rfl)) pe_int (nomark _)) (pw_or1 (pt_cmpR op_eq (pe_ix ix_list (pe_ix ix_list (pv 0) pe_int (fun _ _ => rfl)) pe_int (fun _ _ => rfl)) (pe_un un_neg pe_int) (nomark _)))))
        (pss_one (ps_expr (pe_bm PySem.F.plainAttrs_list PySem.F.slot_list_pop PySem.F.type_list_pop mt_popAt (pe_ix ix_list (pv 0) pe_int (fun _ _ => rfl)) (pa_cons pe_int pa_nil)))) pss_nil)
      (pss_one (ps_ret (pe_op op_mod (pv 2) (pv 1))))))), ?_⟩
    obtain ⟨L, z, h1, h2, z0, z1⟩ := bo.ex
    have nbl := bo.ne
    -- if box[0] == []
    refine ⟨_, rfl, b, _, 0, _, rfl, rfl, SqL.of h1, atI_nat (j := 0) rfl, Nat.zero_le _, fun p np => ?_⟩
    have npl : l ≠ p := ne_of_none h2 np
    have npb : b ≠ p := ne_of_none h1 np
    have k1 : (upd H p (.lst [])) b = some (.lst [.ref l, .int z]) := by rw [upd_ne npb]; exact h1
    have k2 : (upd H p (.lst [])) l = some (.lst (L.map V.int)) := by rw [upd_ne npl]; exact h2
    have ex0 : Ext (bx b l) H (upd H p (.lst [])) := Ext.new np
    refine ⟨.list (L.map PyData.int), .list [], .lst (SqL.of k2) (dpInts L), .lst (SqL.of upd_same) .nil, shInts L, rfl, _, rfl, ite2 (fun e => ?_) (fun e => ?_)⟩
    · -- the script is used up
      have hs1 := Ext.put (m := bx b l) (o' := .lst [.ref l, .int (z * 48271 % 2147483647)]) k1 (.inl rfl) (fun _ z => by cases z) (fun _ z => by cases z)
      refine ⟨_, rfl, b, _, 1, _, rfl, rfl, SqL.of k1, atI_nat (j := 1) rfl, _, _, rfl, rfl, .inl ⟨by omega, by omega⟩, _, _, rfl, rfl, (by show (0 : Int) < 2147483647; decide), ?_⟩
      refine ⟨_, rfl, b, _, 1, 1, rfl, rfl, k1, rfl, ?_⟩
      refine ⟨_, rfl, b, _, 1, _, rfl, rfl, SqL.of upd_same, atI_nat (j := 1) rfl, _, _, rfl, rfl, ⟨by decide, by decide⟩, _, rfl, _, _, rfl, rfl, m0, ?_⟩
      refine q _ _ (Int.emod_nonneg _ (by omega)) (Int.emod_lt_of_pos _ m0) ⟨L, z * 48271 % 2147483647, upd_same, by rw [upd_ne nbl.symm]; exact k2, Int.emod_nonneg _ (by decide), Int.emod_lt_of_pos _ (by decide)⟩ (ex0.trans hs1)
    · obtain ⟨x, r, rfl⟩ : ∃ x r, L = x :: r := by
        cases L with
        | nil => exact absurd rfl e
        | cons first more => exact ⟨first, more, rfl⟩
      -- number = box[0][0]
      refine ⟨_, rfl, b, _, 0, _, rfl, rfl, SqL.of k1, atI_nat (j := 0) rfl, l, _, 0, _, rfl, rfl, SqL.of k2, atI_nat (j := 0) rfl, ?_⟩
      -- box[0][0] = number // many
      refine ⟨_, rfl, _, rfl, _, _, rfl, rfl, ⟨m0, m1⟩, _, rfl, b, _, 0, _, rfl, rfl, SqL.of k1, atI_nat (j := 0) rfl, l, _, 0, 0, rfl, rfl, k2, ixN_nat (j := 0) (Nat.zero_lt_succ _), ?_⟩
      have e1 : ((x :: r).map V.int).set 0 (V.int (x / many)) = ((x / many) :: r).map V.int := rfl
      rw [e1]
      generalize hH2 : upd (upd H p (.lst [])) l (.lst (((x / many) :: r).map V.int)) = H2
      have j1 : H2 b = some (.lst [.ref l, .int z]) := by rw [← hH2, upd_ne nbl]; exact k1
      have j2 : H2 l = some (.lst (((x / many) :: r).map V.int)) := by rw [← hH2]; exact upd_same
      have ex2 : Ext (bx b l) H H2 := by
        rw [← hH2]
        exact ex0.trans (Ext.put k2 (.inr rfl) (fun _ z => by cases z) (fun _ z => by cases z))
      -- the end
      have fin : ∀ (H3 : Hp) (L3 : List Int), H3 b = some (.lst [.ref l, .int z]) → H3 l = some (.lst (L3.map V.int)) → Ext (bx b l) H H3 → Q (.int (x % many)) H3 := fun H3 L3 q1 q2 q3 =>
        q H3 _ (Int.emod_nonneg _ (by omega)) (Int.emod_lt_of_pos _ m0) ⟨L3, z, q1, q2, z0, z1⟩ q3
      have pop : atI [V.ref l, V.int z] 0 = some (.ref l) → ∃ (H3 : Hp), H3 = upd H2 l (.lst (r.map V.int)) ∧ H3 b = some (.lst [.ref l, .int z]) ∧ H3 l = some (.lst (r.map V.int)) ∧ Ext (bx b l) H H3 := fun _ =>
        ⟨_, rfl, by rw [upd_ne nbl]; exact j1, upd_same, ex2.trans (Ext.put j2 (.inr rfl) (fun _ z => by cases z) (fun _ z => by cases z))⟩
      obtain ⟨H3, eH3, p1, p2, p3⟩ := pop (atI_nat (j := 0) rfl)
      refine ⟨_, rfl, b, _, 0, _, rfl, rfl, SqL.of j1, atI_nat (j := 0) rfl, l, _, 0, _, rfl, rfl, SqL.of j2, atI_nat (j := 0) rfl, rfl, _, rfl, ite2 (fun e => ?_) (fun e => ?_)⟩
      · refine iteT ?_
        refine ⟨_, rfl, b, _, 0, _, rfl, rfl, SqL.of j1, atI_nat (j := 0) rfl, .inl ⟨rfl, _, SqL.of j2⟩, l, _, 0, 0, _, rfl, rfl, j2, by decide, by decide, (ixN_seq (ixN_nat (j := 0) (Nat.zero_lt_succ _))).1, rfl, ?_⟩
        refine ⟨_, rfl, _, rfl, _, _, rfl, rfl, m0, ?_⟩
        rw [show (List.map V.int (x / many :: r)).eraseIdx 0 = r.map V.int from rfl, ← eH3]
        exact fin H3 r p1 p2 p3
      · refine ⟨_, rfl, b, _, 0, _, rfl, rfl, SqL.of j1, atI_nat (j := 0) rfl, l, _, 0, _, rfl, rfl, SqL.of j2, atI_nat (j := 0) rfl, _, rfl, rfl, _, rfl, ite2 (fun e => ?_) (fun e => ?_)⟩
        · refine ⟨_, rfl, b, _, 0, _, rfl, rfl, SqL.of j1, atI_nat (j := 0) rfl, .inl ⟨rfl, _, SqL.of j2⟩, l, _, 0, 0, _, rfl, rfl, j2, by decide, by decide, (ixN_seq (ixN_nat (j := 0) (Nat.zero_lt_succ _))).1, rfl, ?_⟩
          refine ⟨_, rfl, _, rfl, _, _, rfl, rfl, m0, ?_⟩
          rw [show (List.map V.int (x / many :: r)).eraseIdx 0 = r.map V.int from rfl, ← eH3]
          exact fin H3 r p1 p2 p3
        · refine ⟨_, rfl, _, rfl, _, _, rfl, rfl, m0, ?_⟩
          exact fin H2 _ j1 j2 ex2
end
end Bw
namespace Bw
open PySem PySem.Spec PyProof.Rows L2 GxR
/-! ### programs -/
inductive Row where
  | put (n : Nat) (v : Int) | copy (n o : Nat) | add (n a b : Nat) | take (n a b : Nat) | less (n a b : Nat) | call (n o : Nat) | say (n : Nat) | iff (n r : Nat) | go (r : Nat) | fin
def rowV : Row → List V
  | .put n v => [.str "put", .int n, .int v]
  | .copy n o => [.str "copy", .int n, .int o]
  | .add n a b => [.str "add", .int n, .int a, .int b]
  | .take n a b => [.str "take", .int n, .int a, .int b]
  | .less n a b => [.str "less", .int n, .int a, .int b]
  | .call n o => [.str "call", .int n, .int o]
  | .say n => [.str "say", .int n]
  | .iff n r => [.str "if", .int n, .int r]
  | .go r => [.str "go", .int r]
  | .fin => [.str "end"]
def RowOk (names many : Nat) : Row → Prop
  | .put n v => n < names ∧ 0 ≤ v ∧ v < 1000
  | .copy n o => n < names ∧ o < names
  | .add n a b => n < names ∧ a < names ∧ b < names
  | .take n a b => n < names ∧ a < names ∧ b < names
  | .less n a b => n < names ∧ a < names ∧ b < names
  | .call n o => n < names ∧ o < names
  | .say n => n < names
  | .iff n r => n < names ∧ r < many
  | .go r => r < many
  | .fin => True
theorem nat_of {i : Int} {n : Nat} (h0 : 0 ≤ i) (h1 : i < n) : ∃ k : Nat, i = (k : Int) ∧ k < n := ⟨i.toNat, by omega, by omega⟩
theorem BoxAt.nb {H : Hp} {b l p : Addr} (h : BoxAt H b l) (np : H p = none) : ¬ bx b l p := by
  obtain ⟨L, z, h1, h2, _⟩ := h.ex
  rintro (e | e)
  · rw [e, h1] at np; cases np
  · rw [e, h2] at np; cases np
theorem BoxAt.new {H : Hp} {b l p : Addr} {o : HO} (h : BoxAt H b l) (np : H p = none) : BoxAt (upd H p o) b l := h.ext (Ext.new (m := no) np) (fun z => z) (fun z => z)
theorem pick2 {x y : V} {i : Int} (h0 : 0 ≤ i) (h1 : i < 2) : ∃ v, atI [x, y] i = some v ∧ (v = x ∨ v = y) := by
  have e : i = 0 ∨ i = 1 := by omega
  rcases e with rfl | rfl
  · exact ⟨x, atI_nat (j := 0) rfl, .inl rfl⟩
  · exact ⟨y, atI_nat (j := 1) rfl, .inr rfl⟩
theorem pick3 {x y z : V} {i : Int} (h0 : 0 ≤ i) (h1 : i < 3) : ∃ v, atI [x, y, z] i = some v ∧ (v = x ∨ v = y ∨ v = z) := by
  have e : i = 0 ∨ i = 1 ∨ i = 2 := by omega
  rcases e with rfl | rfl | rfl
  · exact ⟨x, atI_nat (j := 0) rfl, .inl rfl⟩
  · exact ⟨y, atI_nat (j := 1) rfl, .inr (.inl rfl)⟩
  · exact ⟨z, atI_nat (j := 2) rfl, .inr (.inr rfl)⟩
section
variable {base : Heap} {K : PySem.W.Frag} {mg : Str → Option Value} {P : Program} {w : World}
def spRow : Sp := fun vs H Q _ => ∃ (b l : Addr) (names many at_ : Nat), vs = [.ref b, .int names, .int many, .int at_] ∧ BoxAt H b l ∧ 0 < names ∧ names ≤ 8 ∧ 0 < many ∧ many ≤ 24 ∧ at_ < many ∧
  ∀ H' r row, RowOk names many row → H' r = some (.tup (rowV row)) → BoxAt H' b l → Ext (bx b l) H H' → Q (.ref r) H'
theorem scRow : FnScope ["_law_box", "_law_names", "_law_many", "_law_at", "_law_way", "_law_name", "_law_one", "_law_other", "_law_goal"] ["_law_box", "_law_names", "_law_many", "_law_at"] (defScope s_row) := ⟨rfl, rfl, rfl, by decide +kernel, rfl, by decide +kernel, by decide +kernel⟩
theorem ok_row {f fT : Addr} {fd fdT : FuncData} (D : Df K mg "_law_row" s_row ["_law_box", "_law_names", "_law_many", "_law_at"] f fd) (DT : Df K mg "_law_take" s_take ["_law_box", "_law_many"] fT fdT) (B : Bt mg) :
    FnOk P w K mg base CX0 2 f fd ["_law_box", "_law_names", "_law_many", "_law_at"] spRow := by
  have GT : FnOk P w K mg base CX0 1 fT fdT ["_law_box", "_law_many"] spTake := ok_take DT
  refine D.F.ok scRow (fun vs H Q E h => ?_) (fun cdv A outer s H vs Q E hr h => ?_)
  · obtain ⟨b, l, names, many, at_, rfl, _⟩ := h
    rfl
  · obtain ⟨b, l, names, many, at_, rfl, bo, n0, n1, m0, m1, a1, q⟩ := h
    refine ⟨_, pss_cons (ps_set (i := 4) scRow.nd rfl (.inl rfl) (pcall DT GT hr (pa_cons (pv 0) (pa_cons pe_int pa_nil))))
      (pss_cons (ps_par3 (i := 5) (j := 6) (l := 7) rfl scRow.nd rfl rfl rfl (by decide) (by decide) (by decide) rfl rfl rfl
        (pa_cons (pcall DT GT hr (pa_cons (pv 0) (pa_cons (pv 1) pa_nil))) (pa_cons (pcall DT GT hr (pa_cons (pv 0) (pa_cons (pv 1) pa_nil))) (pa_cons (pcall DT GT hr (pa_cons (pv 0) (pa_cons (pv 1) pa_nil))) pa_nil))) (by rfl))
      (pss_cons (ps_if (pt_cmpR op_lt (pv 4) pe_int (nomark _)) (pss_one (ps_ret (pe_tup (pa_cons pe_str (pa_cons (pv 5) (pa_cons
          (pe_ix ix_list (pe_lst (pa_cons (pcall DT GT hr (pa_cons (pv 0) (pa_cons pe_int pa_nil))) (pa_cons (pcall DT GT hr (pa_cons (pv 0) (pa_cons pe_int pa_nil))) pa_nil))) (pcall DT GT hr (pa_cons (pv 0) (pa_cons pe_int pa_nil))) (fun _ _ => rfl)) pa_nil)))))) pss_nil)
      (pss_cons (ps_if (pt_cmpR op_lt (pv 4) pe_int (nomark _)) (pss_one (ps_ret (pe_tup (pa_cons pe_str (pa_cons (pv 5) (pa_cons (pv 6) pa_nil)))))) pss_nil)
      (pss_cons (ps_if (pt_cmpR op_lt (pv 4) pe_int (nomark _)) (pss_one (ps_ret (pe_tup (pa_cons (pe_ix ix_list (pe_lst (pa_cons pe_str (pa_cons pe_str (pa_cons pe_str pa_nil)))) (pe_op op_sub (pv 4) pe_int) (fun _ _ => rfl)) (pa_cons (pv 5) (pa_cons (pv 6) (pa_cons (pv 7) pa_nil))))))) pss_nil)
      (pss_cons (ps_if (pt_cmpR op_lt (pv 4) pe_int (nomark _)) (pss_one (ps_ret (pe_tup (pa_cons pe_str (pa_cons (pv 5) (pa_cons (pv 6) pa_nil)))))) pss_nil)
      (pss_cons (ps_if (pt_cmpR op_lt (pv 4) pe_int (nomark _)) (pss_one (ps_ret (pe_tup (pa_cons pe_str (pa_cons (pv 6) pa_nil))))) pss_nil)
      (pss_cons (ps_set (i := 8) scRow.nd rfl (.inl rfl) (pcall DT GT hr (pa_cons (pv 0) (pa_cons (pv 2) pa_nil))))
      (pss_cons (ps_if (pt_cmpR op_lt (pv 4) pe_int (nomark _)) (pss_one (ps_ret (pe_tup (pa_cons pe_str (pa_cons (pv 6) (pa_cons
          (pe_ix ix_list (pe_lst (pa_cons (pv 8) (pa_cons (pe_callB (call_min2 rfl) (by rfl) B.min (by decide +kernel) (pa_cons (pe_op op_sub (pv 2) pe_int) (pa_cons (pe_op op_add (pe_op op_add (pv 3) pe_int) (pe_op op_mod (pv 8) pe_int)) pa_nil))) pa_nil))) (pcall DT GT hr (pa_cons (pv 0) (pa_cons pe_int pa_nil))) (fun _ _ => rfl)) pa_nil)))))) pss_nil)
      (pss_one (ps_ret (pe_ix ix_list (pe_lst (pa_cons (pe_tup (pa_cons pe_str (pa_cons (pe_callB (call_min2 rfl) (by rfl) B.min (by decide +kernel) (pa_cons (pe_op op_sub (pv 2) pe_int) (pa_cons (pe_op op_add (pe_op op_add (pv 3) pe_int) (pe_op op_mod (pv 8) pe_int)) pa_nil))) pa_nil)))
          (pa_cons (pe_tup (pa_cons pe_str (pa_cons (pv 8) pa_nil))) (pa_cons (pe_tup (pa_cons pe_str pa_nil)) pa_nil)))) (pcall DT GT hr (pa_cons (pv 0) (pa_cons pe_int pa_nil))) (fun _ _ => rfl)))))))))))), ?_⟩
    refine ⟨_, rfl, b, l, 15, rfl, bo, by decide, by decide, fun H1 way w0 w1 bo1 x1 => ?_⟩
    refine ⟨_, rfl, _, rfl, b, l, names, rfl, bo1, by omega, by omega, fun H2 na na0 na1 bo2 x2 => ?_⟩
    refine ⟨_, rfl, _, rfl, b, l, names, rfl, bo2, by omega, by omega, fun H3 on on0 on1 bo3 x3 => ?_⟩
    refine ⟨_, rfl, _, rfl, b, l, names, rfl, bo3, by omega, by omega, fun H4 ot ot0 ot1 bo4 x4 => ⟨_, _, _, rfl, ?_⟩⟩
    have X4 : Ext (bx b l) H H4 := ((x1.trans x2).trans x3).trans x4
    obtain ⟨n, rfl, hn⟩ := nat_of na0 na1
    obtain ⟨o, rfl, ho⟩ := nat_of on0 on1
    obtain ⟨u, rfl, hu⟩ := nat_of ot0 ot1
    -- put
    refine ⟨_, rfl, _, _, rfl, rfl, _, rfl, ite2 (fun e => ?_) (fun e1 => ?_)⟩
    · refine ⟨_, rfl, _, rfl, b, l, 1000, rfl, bo4, by decide, by decide, fun H5 v1 v10 v11 bo5 x5 => ?_⟩
      refine ⟨_, rfl, b, l, 3, rfl, bo5, by decide, by decide, fun H6 v2 v20 v21 bo6 x6 => ⟨by show 2 ≤ sizeLine; decide, fun p np => ?_⟩⟩
      refine ⟨_, rfl, b, l, 2, rfl, bo6.new np, by decide, by decide, fun H7 i i0 i1 bo7 x7 => ?_⟩
      obtain ⟨v, ev, hv⟩ := pick2 (x := .int v1) (y := .int v2) i0 i1
      refine ⟨p, _, i, v, rfl, rfl, SqL.of (x7.lst (bo6.nb np) upd_same), ev, by show 3 ≤ sizeLine; decide, fun t nt => ?_⟩
      have X7 : Ext (bx b l) H (upd H7 t (.tup [.str "put", .int n, v])) := (((X4.trans x5).trans x6).trans (Ext.new np)).trans (x7.trans (Ext.new nt))
      rcases hv with rfl | rfl
      · exact q _ t (.put n v1) ⟨hn, v10, v11⟩ upd_same (bo7.new nt) X7
      · exact q _ t (.put n v2) ⟨hn, v20, by omega⟩ upd_same (bo7.new nt) X7
    -- copy
    refine ⟨_, rfl, _, _, rfl, rfl, _, rfl, ite2 (fun e => ?_) (fun e2 => ?_)⟩
    · refine ⟨_, rfl, _, rfl, by show 3 ≤ sizeLine; decide, fun t nt => ?_⟩
      exact q _ t (.copy n o) ⟨hn, ho⟩ upd_same (bo4.new nt) (X4.trans (Ext.new nt))
    -- add, take, less
    have w2 : ¬ way < 4 := fun z => e2 (decide_eq_true z)
    refine ⟨_, rfl, _, _, rfl, rfl, _, rfl, ite2 (fun e => ?_) (fun e3 => ?_)⟩
    · have w7 : way < 7 := of_decide_eq_true e
      refine ⟨by show 3 ≤ sizeLine; decide, fun p np => ?_⟩
      obtain ⟨v, ev, hv⟩ := pick3 (x := .str "add") (y := .str "take") (z := .str "less") (i := way - 4) (by omega) (by omega)
      refine ⟨_, rfl, _, _, rfl, rfl, p, _, _, v, rfl, rfl, SqL.of upd_same, ev, _, rfl, _, rfl, _, rfl, by show 4 ≤ sizeLine; decide, fun t nt => ?_⟩
      have X7 : Ext (bx b l) H (upd (upd H4 p (.lst [.str "add", .str "take", .str "less"])) t (.tup [v, .int n, .int o, .int u])) := X4.trans ((Ext.new np).trans (Ext.new nt))
      rcases hv with rfl | rfl | rfl
      · exact q _ t (.add n o u) ⟨hn, ho, hu⟩ upd_same ((bo4.new np).new nt) X7
      · exact q _ t (.take n o u) ⟨hn, ho, hu⟩ upd_same ((bo4.new np).new nt) X7
      · exact q _ t (.less n o u) ⟨hn, ho, hu⟩ upd_same ((bo4.new np).new nt) X7
    -- call
    refine ⟨_, rfl, _, _, rfl, rfl, _, rfl, ite2 (fun e => ?_) (fun e4 => ?_)⟩
    · refine ⟨_, rfl, _, rfl, by show 3 ≤ sizeLine; decide, fun t nt => ?_⟩
      exact q _ t (.call n o) ⟨hn, ho⟩ upd_same (bo4.new nt) (X4.trans (Ext.new nt))
    -- say
    refine ⟨_, rfl, _, _, rfl, rfl, _, rfl, ite2 (fun e => ?_) (fun e5 => ?_)⟩
    · refine ⟨_, rfl, by show 2 ≤ sizeLine; decide, fun t nt => ?_⟩
      exact q _ t (.say o) ho upd_same (bo4.new nt) (X4.trans (Ext.new nt))
    -- goal
    refine ⟨_, rfl, _, rfl, b, l, many, rfl, bo4, by omega, by omega, fun H5 gl g0 g1 bo5 x5 => ?_⟩
    obtain ⟨gn, rfl, hg⟩ := nat_of g0 g1
    have X5 := X4.trans x5
    have mn : ∀ (d : Int), 0 < d → ∃ r : Nat, (if (at_ : Int) + 1 + (gn : Int) % d < (many : Int) - 1 then (at_ : Int) + 1 + (gn : Int) % d else (many : Int) - 1) = (r : Int) ∧ r < many := fun d hd => by
      have h1 := Int.emod_nonneg (gn : Int) (show d ≠ 0 by omega)
      split
      · exact ⟨((at_ : Int) + 1 + (gn : Int) % d).toNat, by omega, by omega⟩
      · exact ⟨many - 1, by omega, by omega⟩
    refine ⟨_, rfl, _, _, rfl, rfl, _, rfl, ite2 (fun e => ?_) (fun e6 => ?_)⟩
    · obtain ⟨r1, er, hr1⟩ := mn 4 (by decide)
      refine ⟨_, rfl, _, rfl, _, rfl, _, _, rfl, rfl, _, rfl, _, _, rfl, rfl, _, rfl, _, _, rfl, rfl, (by show (0 : Int) < 4; decide), _, _, rfl, rfl, _, _, rfl, by show 2 ≤ sizeLine; decide, fun p np => ?_⟩
      rw [er]
      refine ⟨_, rfl, b, l, 2, rfl, bo5.new np, by decide, by decide, fun H7 i i0 i1 bo7 x7 => ?_⟩
      obtain ⟨v, ev, hv⟩ := pick2 (x := .int gn) (y := .int r1) i0 i1
      refine ⟨p, _, i, v, rfl, rfl, SqL.of (x7.lst (bo5.nb np) upd_same), ev, by show 3 ≤ sizeLine; decide, fun t nt => ?_⟩
      have X7 : Ext (bx b l) H (upd H7 t (.tup [.str "if", .int o, v])) := (X5.trans (Ext.new np)).trans (x7.trans (Ext.new nt))
      rcases hv with rfl | rfl
      · exact q _ t (.iff o gn) ⟨ho, hg⟩ upd_same (bo7.new nt) X7
      · exact q _ t (.iff o r1) ⟨ho, hr1⟩ upd_same (bo7.new nt) X7
    · obtain ⟨r1, er, hr1⟩ := mn 3 (by decide)
      refine ⟨_, rfl, _, _, rfl, rfl, _, rfl, _, _, rfl, rfl, _, rfl, _, _, rfl, rfl, (by show (0 : Int) < 3; decide), _, _, rfl, rfl, _, _, rfl, by show 2 ≤ sizeLine; decide, fun p1 np1 => ?_⟩
      rw [er]
      refine ⟨_, rfl, by show 2 ≤ sizeLine; decide, fun p2 np2 => ⟨by show 1 ≤ sizeLine; decide, fun p3 np3 => ⟨by show 3 ≤ sizeLine; decide, fun p np => ?_⟩⟩⟩
      have bo6 := ((bo5.new (o := .tup [.str "go", .int r1]) np1).new (o := .tup [.str "go", .int gn]) np2).new (o := .tup [.str "end"]) np3
      have X6 := X5.trans ((Ext.new (o := .tup [.str "go", .int r1]) np1).trans ((Ext.new (o := .tup [.str "go", .int gn]) np2).trans ((Ext.new (o := .tup [.str "end"]) np3).trans (Ext.new (o := .lst [.ref p1, .ref p2, .ref p3]) np))))
      refine ⟨_, rfl, b, l, 3, rfl, bo6.new np, by decide, by decide, fun H7 i i0 i1 bo7 x7 => ?_⟩
      obtain ⟨v, ev, hv⟩ := pick3 (x := .ref p1) (y := .ref p2) (z := .ref p3) i0 i1
      refine ⟨p, _, i, v, rfl, rfl, SqL.of (x7.lst (bo6.nb np) upd_same), ev, ?_⟩
      have t1 : H7 p1 = some (.tup [.str "go", .int r1]) := x7.tup _ _ ((Ext.new (m := no) np).tup _ _ ((Ext.new (m := no) np3).tup _ _ ((Ext.new (m := no) np2).tup _ _ upd_same)))
      have t2 : H7 p2 = some (.tup [.str "go", .int gn]) := x7.tup _ _ ((Ext.new (m := no) np).tup _ _ ((Ext.new (m := no) np3).tup _ _ upd_same))
      have t3 : H7 p3 = some (.tup [.str "end"]) := x7.tup _ _ ((Ext.new (m := no) np).tup _ _ upd_same)
      rcases hv with rfl | rfl | rfl
      · exact q _ p1 (.go r1) hr1 t1 bo7 (X6.trans x7)
      · exact q _ p2 (.go gn) hg t2 bo7 (X6.trans x7)
      · exact q _ p3 .fin trivial t3 bo7 (X6.trans x7)
end
end Bw
namespace Bw
open PySem PySem.Spec PyProof.Rows L2 GxR
structure Prog where
  params : Nat
  names : Nat
  rows : List Row
structure Prog.Ok (p : Prog) : Prop where
  n0 : 0 < p.names
  n1 : p.names ≤ 8
  pn : p.params ≤ p.names
  r0 : 0 < p.rows.length
  r1 : p.rows.length ≤ 24
  ok : ∀ row ∈ p.rows, RowOk p.names p.rows.length row
structure RowsAt (H : Hp) (as : List Addr) (rows : List Row) : Prop where
  len : as.length = rows.length
  at_ : ∀ (i : Nat) (r : Addr) (row : Row), as[i]? = some r → rows[i]? = some row → H r = some (.tup (rowV row))
theorem RowsAt.ext {m : Addr → Prop} {H H' : Hp} {as : List Addr} {rows : List Row} (h : RowsAt H as rows) (e : Ext m H H') : RowsAt H' as rows := ⟨h.len, fun i r row h1 h2 => e.tup _ _ (h.at_ i r row h1 h2)⟩
theorem RowsAt.snoc {H : Hp} {as : List Addr} {rows : List Row} {r : Addr} {row : Row} (h : RowsAt H as rows) (e : H r = some (.tup (rowV row))) : RowsAt H (as ++ [r]) (rows ++ [row]) := by
  refine ⟨by rw [List.length_append, List.length_append, h.len]; rfl, fun i r' row' h1 h2 => ?_⟩
  by_cases hi : i < as.length
  · rw [List.getElem?_append_left hi] at h1
    rw [List.getElem?_append_left (by rw [← h.len]; exact hi)] at h2
    exact h.at_ i r' row' h1 h2
  · have hi2 : i = as.length := by
      have := (List.getElem?_eq_some_iff.mp h1).1
      rw [List.length_append] at this
      simp at this
      omega
    subst hi2
    rw [List.getElem?_append_right (Nat.le_refl _), Nat.sub_self] at h1
    rw [List.getElem?_append_right (by rw [h.len]; exact Nat.le_refl _), h.len, Nat.sub_self] at h2
    cases h1
    cases h2
    exact e
structure ProgAt (H : Hp) (a : Addr) (p : Prog) : Prop where
  ex : ∃ (rs : Addr) (as : List Addr), H a = some (.tup [.int p.params, .int p.names, .ref rs]) ∧ H rs = some (.tup (as.map V.ref)) ∧ RowsAt H as p.rows
theorem ProgAt.ext {m : Addr → Prop} {H H' : Hp} {a : Addr} {p : Prog} (h : ProgAt H a p) (e : Ext m H H') : ProgAt H' a p := by
  obtain ⟨rs, as, h1, h2, h3⟩ := h.ex
  exact ⟨rs, as, e.tup _ _ h1, e.tup _ _ h2, h3.ext e⟩
theorem asg_int {i : Nat} {a b : Int} {σ : L2.St} {H : Hp} {D : L2.St → Hp → Prop} (e : a = b) (h : gName i (.int b) σ H D) : gName i (.int a) σ H D := e ▸ h
section
variable {base : Heap} {K : PySem.W.Frag} {mg : Str → Option Value} {P : Program} {w : World}
def spProgram : Sp := fun vs H Q _ => ∃ (b l : Addr) (most : Nat), vs = [.ref b, .int most] ∧ BoxAt H b l ∧ 0 < most ∧ most ≤ 24 ∧
  ∀ H' a p, p.Ok → p.rows.length ≤ most → ProgAt H' a p → BoxAt H' b l → Ext (bx b l) H H' → Q (.ref a) H'
theorem scProgram : FnScope ["_law_box", "_law_most", "_law_names", "_law_params", "_law_many", "_law_at"] ["_law_box", "_law_most"] (defScope s_program) := ⟨rfl, rfl, rfl, by decide +kernel, rfl, by decide +kernel, by decide +kernel⟩
theorem ok_program {f fT fR : Addr} {fd fdT fdR : FuncData} (D : Df K mg "_law_program" s_program ["_law_box", "_law_most"] f fd) (DT : Df K mg "_law_take" s_take ["_law_box", "_law_many"] fT fdT)
    (DR : Df K mg "_law_row" s_row ["_law_box", "_law_names", "_law_many", "_law_at"] fR fdR) (B : Bt mg) :
    FnOk P w K mg base CX0 3 f fd ["_law_box", "_law_most"] spProgram := by
  have GT : FnOk P w K mg base CX0 1 fT fdT ["_law_box", "_law_many"] spTake := ok_take DT
  have GR : FnOk P w K mg base CX0 2 fR fdR ["_law_box", "_law_names", "_law_many", "_law_at"] spRow := ok_row DR DT B
  refine D.F.ok scProgram (fun vs H Q E h => ?_) (fun cdv A outer s H vs Q E hr h => ?_)
  · obtain ⟨b, l, most, rfl, _⟩ := h
    rfl
  · obtain ⟨b, l, most, rfl, bo, m0, m1, q⟩ := h
    have hr1 := hr.mono (show 1 ≤ 2 by decide)
    refine ⟨_, pss_cons (ps_set (i := 2) scProgram.nd rfl (.inr rfl) (pe_op op_add pe_int (pcall DT GT hr1 (pa_cons (pv 0) (pa_cons (pe_ix ix_list (pe_lst (pa_cons pe_int (pa_cons pe_int (pa_cons pe_int pa_nil)))) (pcall DT GT hr1 (pa_cons (pv 0) (pa_cons pe_int pa_nil))) (fun _ _ => rfl)) pa_nil)))))
      (pss_cons (ps_set (i := 3) scProgram.nd rfl (.inl rfl) (pe_ix ix_list (pe_lst (pa_cons (pv 2) (pa_cons (pcall DT GT hr1 (pa_cons (pv 0) (pa_cons (pe_op op_add (pv 2) pe_int) pa_nil))) pa_nil))) (pcall DT GT hr1 (pa_cons (pv 0) (pa_cons pe_int pa_nil))) (fun _ _ => rfl)))
      (pss_cons (ps_set (i := 4) scProgram.nd rfl (.inr rfl) (pe_op op_add pe_int (pcall DT GT hr1 (pa_cons (pv 0) (pa_cons (pe_ix ix_list (pe_lst (pa_cons (pv 1) (pa_cons (pe_callB (call_min2 rfl) (by rfl) B.min (by decide +kernel) (pa_cons (pv 1) (pa_cons pe_int pa_nil))) pa_nil))) (pcall DT GT hr1 (pa_cons (pv 0) (pa_cons pe_int pa_nil))) (fun _ _ => rfl)) pa_nil)))))
      (pss_one (ps_ret (pe_tup (pa_cons (pv 3) (pa_cons (pv 2) (pa_cons (pe_callTy call_tuple_of (by rfl) B.tuple (by decide +kernel) (pa_cons
        (pe_lc (own := [("_law_at", 5)]) (g := gName 5) (tt := tYes) rfl scProgram.nd (pi_range1 (by rfl) B.range (pa_cons (pv 4) pa_nil)) (blkOk_by (N := ["_law_box", "_law_most", "_law_names", "_law_params", "_law_many", "_law_at"]) (sc := defScope s_program) (by decide +kernel))
          (fun _ _ _ _ _ => pg_name (i := 5) scProgram.nd rfl (Or.inl rfl)) (fun _ _ _ _ _ => pts_nil) (fun _ _ _ _ _ => pcall DR GR hr (pa_cons (pv 0) (pa_cons (pv 2) (pa_cons (pv 4) (pa_cons (pv 5) pa_nil)))))) pa_nil)) pa_nil)))))))), ?_⟩
    -- names
    refine ⟨_, rfl, by show 3 ≤ sizeLine; decide, fun p np => ?_⟩
    refine ⟨_, rfl, b, l, 3, rfl, bo.new np, by decide, by decide, fun H1 i i0 i1 bo1 x1 => ?_⟩
    obtain ⟨v, ev, hv⟩ := pick3 (x := .int 3) (y := .int 4) (z := .int 8) i0 i1
    refine ⟨p, _, i, v, rfl, rfl, SqL.of (x1.lst (bo.nb np) upd_same), ev, ?_⟩
    obtain ⟨c, rfl, c0, c1⟩ : ∃ c : Int, v = .int c ∧ 0 < c ∧ c ≤ 8 := by
      rcases hv with rfl | rfl | rfl
      · exact ⟨_, rfl, by decide, by decide⟩
      · exact ⟨_, rfl, by decide, by decide⟩
      · exact ⟨_, rfl, by decide, by decide⟩
    refine ⟨b, l, c, rfl, bo1, c0, by omega, fun H2 r r0 r1 bo2 x2 => ⟨_, _, rfl, rfl, ?_⟩⟩
    obtain ⟨nm, en, nm0, nm1⟩ : ∃ nm : Nat, 1 + r = (nm : Int) ∧ 0 < nm ∧ nm ≤ 8 := ⟨(1 + r).toNat, by omega, by omega, by omega⟩
    refine asg_int en ?_
    have X2 : Ext (bx b l) H H2 := (Ext.new np).trans (x1.trans x2)
    -- params
    refine ⟨_, rfl, _, rfl, _, rfl, _, _, rfl, rfl, b, l, (nm : Int) + 1, rfl, bo2, by omega, by omega, fun H3 pa pa0 pa1 bo3 x3 => ⟨by show 2 ≤ sizeLine; decide, fun p2 np2 => ?_⟩⟩
    refine ⟨_, rfl, b, l, 2, rfl, bo3.new np2, by decide, by decide, fun H4 i2 i20 i21 bo4 x4 => ?_⟩
    obtain ⟨v2, ev2, hv2⟩ := pick2 (x := .int nm) (y := .int pa) i20 i21
    refine ⟨p2, _, i2, v2, rfl, rfl, SqL.of (x4.lst (bo3.nb np2) upd_same), ev2, ?_⟩
    obtain ⟨par, rfl, hpar⟩ : ∃ par : Nat, v2 = .int par ∧ par ≤ nm := by
      rcases hv2 with rfl | rfl
      · exact ⟨nm, rfl, Nat.le_refl _⟩
      · exact ⟨pa.toNat, by rw [Int.toNat_of_nonneg pa0], by omega⟩
    have X4 : Ext (bx b l) H H4 := X2.trans (x3.trans ((Ext.new np2).trans x4))
    -- many
    refine ⟨_, rfl, _, rfl, _, rfl, _, _, rfl, by show 2 ≤ sizeLine; decide, fun p3 np3 => ?_⟩
    refine ⟨_, rfl, b, l, 2, rfl, bo4.new np3, by decide, by decide, fun H5 i3 i30 i31 bo5 x5 => ?_⟩
    obtain ⟨v3, ev3, hv3⟩ := pick2 (x := .int most) (y := .int (if (6 : Int) < (most : Int) then 6 else (most : Int))) i30 i31
    refine ⟨p3, _, i3, v3, rfl, rfl, SqL.of (x5.lst (bo4.nb np3) upd_same), ev3, ?_⟩
    obtain ⟨c3, rfl, c30, c31⟩ : ∃ c : Int, v3 = .int c ∧ 0 < c ∧ c ≤ most := by
      rcases hv3 with rfl | rfl
      · exact ⟨_, rfl, by omega, by omega⟩
      · refine ⟨_, rfl, ?_, ?_⟩
        · split <;> omega
        · split <;> omega
    refine ⟨b, l, c3, rfl, bo5, c30, by omega, fun H6 r3 r30 r31 bo6 x6 => ⟨_, _, rfl, rfl, ?_⟩⟩
    obtain ⟨many, em, my0, my1⟩ : ∃ many : Nat, 1 + r3 = (many : Int) ∧ 0 < many ∧ many ≤ most := ⟨(1 + r3).toNat, by omega, by omega, by omega⟩
    refine asg_int em ?_
    have X6 : Ext (bx b l) H H6 := X4.trans ((Ext.new np3).trans (x5.trans x6))
    -- the rows
    refine ⟨_, rfl, _, rfl, _, rfl, many, rfl, by omega, by omega, fun D nD => ?_⟩
    refine lc_range (lo := 0) (n := many) (fun i H => ∃ (as : List Addr) (rows : List Row), rows.length = i ∧ H D = some (.lst (as.map V.ref)) ∧ RowsAt H as rows ∧ (∀ row ∈ rows, RowOk nm many row) ∧ BoxAt H b l ∧ Ext (bx b l) H6 H)
      ⟨[], [], rfl, upd_same, ⟨rfl, fun i r row h _ => by simp at h⟩, fun row h => by simp at h, bo6.new nD, Ext.new nD⟩ ?_ ?_
    · rintro i H7 hi ⟨as, rows, hlen, hD, hrows, hoks, bo7, x7⟩
      rw [show ((0 : Int) + (i : Int)) = (i : Int) from Int.zero_add _]
      refine ⟨rfl, ?_⟩
      refine ⟨_, rfl, _, rfl, _, rfl, _, rfl, b, l, nm, many, i, rfl, bo7, nm0, nm1, my0, by omega, hi, fun H8 r8 row8 ok8 at8 bo8 x8 => ?_⟩
      have hD8 : H8 D = some (.lst (as.map V.ref)) := x8.lst (bo6.nb nD) hD
      have hl : as.length = i := by rw [hrows.len]; exact hlen
      have ne : ∀ {a : Addr} {xs : List V}, H8 a = some (.tup xs) → a ≠ D := fun h => ne_of h hD8 (by intro z; cases z)
      have x9 : Ext (bx b l) H6 (upd H8 D (.lst (as.map V.ref ++ [.ref r8]))) := (x7.trans x8).own nD
      have x9' : Ext (fun x => x = D) H8 (upd H8 D (.lst (as.map V.ref ++ [.ref r8]))) := Ext.put hD8 rfl (fun _ z => by cases z) (fun _ z => by cases z)
      refine ⟨_, hD8, by rw [List.length_map]; exact small_lt (k := 24) (by omega) (by decide), as ++ [r8], rows ++ [row8], by rw [List.length_append, hlen]; rfl, by rw [upd_same, List.map_append]; rfl, ((hrows.ext x8).snoc at8).ext x9', fun row hrow => ?_, bo8.ext x9' (fun z => bo6.nb nD (.inl z.symm)) (fun z => bo6.nb nD (.inr z.symm)), x9⟩
      rcases List.mem_append.mp hrow with h | h
      · exact hoks row h
      · rw [List.mem_singleton.mp h]
        exact ok8
    · rintro H7 ⟨as, rows, hlen, hD, hrows, hoks, bo7, x7⟩
      refine ⟨D, _, rfl, .inl ⟨SqL.of hD, fun rs nrs => ⟨by show 3 ≤ sizeLine; decide, fun a na => ?_⟩⟩⟩
      have x8 : Ext (bx b l) H7 (upd (upd H7 rs (.tup (as.map V.ref))) a (.tup [.int par, .int nm, .ref rs])) := (Ext.new nrs).trans (Ext.new na)
      refine q _ a ⟨par, nm, rows⟩ ⟨nm0, nm1, hpar, by show 0 < rows.length; omega, by show rows.length ≤ 24; omega, fun row h => by show RowOk nm rows.length row; rw [hlen]; exact hoks row h⟩ (by show rows.length ≤ most; omega)
        ⟨rs, as, upd_same, (Ext.new (m := no) na).tup _ _ upd_same, hrows.ext x8⟩ ((bo7.new nrs).new na) (X6.trans (x7.trans x8))
end
end Bw
namespace Bw
open PySem PySem.Spec PyProof.Rows L2 GxR
/-! ### alike -/
def Lv : Nat → PyData → Bool
  | 0, _ => false
  | _ + 1, .none => true
  | _ + 1, .bool _ => true
  | _ + 1, .int _ => true
  | _ + 1, .str _ => true
  | n + 1, .list ds => decide (ds.length ≤ 100000) && ds.all (Lv n)
  | n + 1, .tuple ds => decide (ds.length ≤ 100000) && ds.all (Lv n)
  | _ + 1, _ => false
theorem DpAll.len {K : PySem.W.Frag} {H : Hp} : ∀ {vs : List V} {ds : List PyData}, DpAll K H vs ds → vs.length = ds.length
  | _, _, .nil => rfl
  | _, _, .cons _ r => by rw [List.length_cons, List.length_cons, DpAll.len r]
theorem DpAll.get {K : PySem.W.Frag} {H : Hp} : ∀ {vs : List V} {ds : List PyData} {i : Nat} {d : PyData}, DpAll K H vs ds → ds[i]? = some d → ∃ v, vs[i]? = some v ∧ Dp K H v d
  | _, _, _, _, .nil, h => by simp at h
  | _, _, 0, _, .cons a r, h => by
    simp at h
    subst h
    exact ⟨_, rfl, a⟩
  | _, _, i + 1, d, .cons a r, h => by
    obtain ⟨v, h1, h2⟩ := DpAll.get (i := i) (d := d) r (by simpa using h)
    exact ⟨v, by simpa using h1, h2⟩
theorem tyL {K : PySem.W.Frag} {H : Hp} {a : Addr} {xs : List V} (h : SqL K H a xs) : TyX K H (.ref a) (.type "list") := by
  rcases h with (h | ⟨o, h⟩) | ⟨o, its, n, h1, h2, _⟩
  · exact .base (.lst h)
  · exact .base (.frz h)
  · exact .kList h1 h2
theorem tyT {K : PySem.W.Frag} {H : Hp} {a : Addr} {xs : List V} (h : SqT K H a xs) : TyX K H (.ref a) (.type "tuple") := by
  rcases h with (h | ⟨o, h⟩) | ⟨o, its, n, h1, h2, _⟩
  · exact .base (.tup h)
  · exact .fTuple h
  · exact .kTuple h1 h2
section
variable {base : Heap} {K : PySem.W.Frag} {mg : Str → Option Value} {P : Program} {w : World}
def spAlike (K : PySem.W.Frag) (n : Nat) : Sp := fun vs H Q _ => ∃ (x y : V) (d : PyData), vs = [x, y] ∧ Dp K H x d ∧ Dp K H y d ∧ Lv n d = true ∧ Q (.bl true) H
theorem scAlike : FnScope ["_law_found", "_law_due", "_law_k"] ["_law_found", "_law_due"] (defScope s_alike) := ⟨rfl, rfl, rfl, by decide +kernel, rfl, by decide +kernel, by decide +kernel⟩
theorem alike_step {f : Addr} {fd : FuncData} {k n : Nat} (D : Df K mg "_law_alike" s_alike ["_law_found", "_law_due"] f fd) (B : Bt mg) (G : FnOk P w K mg base CX0 k f fd ["_law_found", "_law_due"] (spAlike K n)) :
    FnOk P w K mg base CX0 (k + 1) f fd ["_law_found", "_law_due"] (spAlike K (n + 1)) := by
  refine D.F.ok scAlike (fun vs H Q E h => ?_) (fun cdv A outer s H vs Q E hr h => ?_)
  · obtain ⟨x, y, d, rfl, _⟩ := h
    rfl
  · obtain ⟨x, y, d, rfl, hx, hy, hL, q⟩ := h
    refine ⟨_, pss_cons (ps_if (pt_cmpR op_isN (pv 1) pe_non (nomark _)) (pss_one (ps_ret (pe_cmpR op_isN (pv 0) pe_non (nomark _)))) pss_nil)
      (pss_cons (ps_if (pt_val (pe_callB call_isi (by rfl) B.isinstance (by decide +kernel) (pa_cons (pv 1) (pa_cons (pe_bltn (v := .ty "bool") (by rfl) B.bool (by decide +kernel) rfl) pa_nil))))
        (pss_one (ps_ret (pe_and (pe_callB call_isi (by rfl) B.isinstance (by decide +kernel) (pa_cons (pv 0) (pa_cons (pe_bltn (v := .ty "bool") (by rfl) B.bool (by decide +kernel) rfl) pa_nil))) (pe_one (pe_cmpR op_eq (pv 0) (pv 1) (nomark _)))))) pss_nil)
      (pss_cons (ps_if (pt_val (pe_callB call_isi (by rfl) B.isinstance (by decide +kernel) (pa_cons (pv 1) (pa_cons (pe_bltn (v := .ty "int") (by rfl) B.int (by decide +kernel) rfl) pa_nil))))
        (pss_one (ps_ret (pe_and (pe_callB call_isi (by rfl) B.isinstance (by decide +kernel) (pa_cons (pv 0) (pa_cons (pe_bltn (v := .ty "int") (by rfl) B.int (by decide +kernel) rfl) pa_nil)))
          (pe_and (pe_not (pe_callB call_isi (by rfl) B.isinstance (by decide +kernel) (pa_cons (pv 0) (pa_cons (pe_bltn (v := .ty "bool") (by rfl) B.bool (by decide +kernel) rfl) pa_nil)))) (pe_one (pe_cmpR op_eq (pv 0) (pv 1) (nomark _))))))) pss_nil)
      (pss_cons (ps_if (pt_val (pe_callB call_isi (by rfl) B.isinstance (by decide +kernel) (pa_cons (pv 1) (pa_cons (pe_bltn (v := .ty "str") (by rfl) B.str (by decide +kernel) rfl) pa_nil))))
        (pss_one (ps_ret (pe_and (pe_callB call_isi (by rfl) B.isinstance (by decide +kernel) (pa_cons (pv 0) (pa_cons (pe_bltn (v := .ty "str") (by rfl) B.str (by decide +kernel) rfl) pa_nil))) (pe_one (pe_cmpR op_eq (pv 0) (pv 1) (nomark _)))))) pss_nil)
      (pss_cons (ps_if (PW.pt (pw_or (pt_cmpR op_ne (pe_callB call_isi (by rfl) B.isinstance (by decide +kernel) (pa_cons (pv 1) (pa_cons (pe_bltn (v := .ty "tuple") (by rfl) B.tuple (by decide +kernel) rfl) pa_nil))) (pe_callB call_isi (by rfl) B.isinstance (by decide +kernel) (pa_cons (pv 0) (pa_cons (pe_bltn (v := .ty "tuple") (by rfl) B.tuple (by decide +kernel) rfl) pa_nil))) (nomark _))
          (pw_or1 (pt_cmpR op_ne (pe_callB call_isi (by rfl) B.isinstance (by decide +kernel) (pa_cons (pv 1) (pa_cons (pe_bltn (v := .ty "list") (by rfl) B.list (by decide +kernel) rfl) pa_nil))) (pe_callB call_isi (by rfl) B.isinstance (by decide +kernel) (pa_cons (pv 0) (pa_cons (pe_bltn (v := .ty "list") (by rfl) B.list (by decide +kernel) rfl) pa_nil))) (nomark _)))))
        (pss_one (ps_ret pe_bl)) pss_nil)
      (pss_cons (ps_if (pt_cmpR op_ne (pe_callB call_len_seq (by rfl) B.len PySem.boot_len (pa_cons (pv 0) pa_nil)) (pe_callB call_len_seq (by rfl) B.len PySem.boot_len (pa_cons (pv 1) pa_nil)) (nomark _)) (pss_one (ps_ret pe_bl)) pss_nil)
      (pss_cons (ps_for PassesOwn.never rfl (pi_range1 (by rfl) B.range (pa_cons (pe_callB call_len_seq (by rfl) B.len PySem.boot_len (pa_cons (pv 1) pa_nil)) pa_nil)) (pg_name (i := 2) scAlike.nd rfl (.inl rfl))
        (pss_one (ps_if (pt_not (pt_val (pcall D G hr (pa_cons (pe_ix ix_seq (pv 0) (pv 2) (fun _ _ => rfl)) (pa_cons (pe_ix ix_seq (pv 1) (pv 2) (fun _ _ => rfl)) pa_nil))))) (pss_one (ps_ret pe_bl)) pss_nil)))
      (pss_one (ps_ret pe_bl)))))))), ?_⟩
    have eqSelf : ∀ z : V, decide (z = z) = true := fun z => decide_eq_true rfl
    cases hy with
    | non =>
      cases hx
      refine ⟨_, rfl, rfl, _, rfl, iteT ⟨_, rfl, rfl, ?_⟩⟩
      exact q
    | bl c =>
      cases hx
      refine ⟨_, rfl, rfl, _, rfl, iteF ?_⟩
      refine ⟨_, rfl, _, _, _, _, true, rfl, .ty "bool", .base (.bl c), kit_ty (by decide +kernel), _, rfl, iteT ?_⟩
      refine ⟨_, rfl, _, _, _, _, true, rfl, .ty "bool", .base (.bl c), kit_ty (by decide +kernel), _, rfl, iteT ⟨_, rfl, _, rfl, rfl, ?_⟩⟩
      rw [eqSelf]
      exact q
    | int i =>
      cases hx
      refine ⟨_, rfl, rfl, _, rfl, iteF ?_⟩
      refine ⟨_, rfl, _, _, _, _, false, rfl, .ty "bool", .base (.int i), kit_ty (by decide +kernel), _, rfl, iteF ?_⟩
      refine ⟨_, rfl, _, _, _, _, true, rfl, .ty "int", .base (.int i), kit_ty (by decide +kernel), _, rfl, iteT ?_⟩
      refine ⟨_, rfl, _, _, _, _, true, rfl, .ty "int", .base (.int i), kit_ty (by decide +kernel), _, rfl, iteT ?_⟩
      refine ⟨_, rfl, _, _, _, _, false, rfl, .ty "bool", .base (.int i), kit_ty (by decide +kernel), _, rfl, _, rfl, iteT ⟨_, rfl, _, rfl, rfl, ?_⟩⟩
      rw [eqSelf]
      exact q
    | str i =>
      cases hx
      refine ⟨_, rfl, rfl, _, rfl, iteF ?_⟩
      refine ⟨_, rfl, _, _, _, _, false, rfl, .ty "bool", .base (.str i), kit_ty (by decide +kernel), _, rfl, iteF ?_⟩
      refine ⟨_, rfl, _, _, _, _, false, rfl, .ty "int", .base (.str i), kit_ty (by decide +kernel), _, rfl, iteF ?_⟩
      refine ⟨_, rfl, _, _, _, _, true, rfl, .ty "str", .base (.str i), kit_ty (by decide +kernel), _, rfl, iteT ?_⟩
      refine ⟨_, rfl, _, _, _, _, true, rfl, .ty "str", .base (.str i), kit_ty (by decide +kernel), _, rfl, iteT ⟨_, rfl, _, rfl, rfl, ?_⟩⟩
      rw [eqSelf]
      exact q
    | lst hs hd =>
      rename_i a xs ds
      cases hx with
      | lst hs' hd' =>
      rename_i a' xs'
      have hL' := hL
      simp only [Lv, Bool.and_eq_true, decide_eq_true_eq, List.all_eq_true] at hL'
      have l1 := (DpAll.len hd)
      have l2 := (DpAll.len hd')
      refine ⟨_, rfl, rfl, _, rfl, iteF ?_⟩
      refine ⟨_, rfl, _, _, _, _, false, rfl, .ty "bool", tyL hs, kit_ty (by decide +kernel), _, rfl, iteF ?_⟩
      refine ⟨_, rfl, _, _, _, _, false, rfl, .ty "int", tyL hs, kit_ty (by decide +kernel), _, rfl, iteF ?_⟩
      refine ⟨_, rfl, _, _, _, _, false, rfl, .ty "str", tyL hs, kit_ty (by decide +kernel), _, rfl, iteF ?_⟩
      refine ⟨_, rfl, _, _, _, _, false, rfl, .ty "tuple", tyL hs, kit_ty (by decide +kernel), _, rfl, _, _, _, _, false, rfl, .ty "tuple", tyL hs', kit_ty (by decide +kernel), rfl, _, rfl, iteF ?_⟩
      refine ⟨_, rfl, _, _, _, _, true, rfl, .ty "list", tyL hs, kit_ty (by decide +kernel), _, rfl, _, _, _, _, true, rfl, .ty "list", tyL hs', kit_ty (by decide +kernel), rfl, _, rfl, iteF ?_⟩
      refine ⟨_, rfl, a', _, rfl, .inl hs', _, rfl, a, _, rfl, .inl hs, rfl, _, rfl, iteNS (by rw [l1, l2]) ?_⟩
      refine ⟨_, rfl, a, _, rfl, .inl hs, (xs.length : Int), rfl, by omega, by omega, for_range (lo := 0) (n := xs.length) (fun i σ H2 => ∃ v, σ = [some (.ref a'), some (.ref a), v] ∧ H2 = H) ⟨none, rfl, rfl⟩ ?_ ?_⟩
      · rintro i σ H2 hi ⟨v, rfl, rfl⟩
        rw [show ((0 : Int) + (i : Int)) = (i : Int) from Int.zero_add _]
        have hi2 : i < ds.length := by omega
        obtain ⟨v1, g1, p1⟩ := DpAll.get hd (List.getElem?_eq_getElem hi2)
        obtain ⟨v2, g2, p2⟩ := DpAll.get hd' (List.getElem?_eq_getElem hi2)
        refine ⟨_, rfl, _, rfl, .inl ⟨a', xs', i, v2, rfl, rfl, hs', atI_nat g2, _, rfl, _, rfl, .inl ⟨a, xs, i, v1, rfl, rfl, hs, atI_nat g1, v2, v1, ds[i], rfl, p2, p1, hL'.2 _ (List.getElem_mem hi2), _, rfl, ?_⟩⟩⟩
        exact iteF ⟨_, rfl, rfl⟩
      · rintro σ H2 ⟨v, rfl, rfl⟩
        exact q
    | tup hs hd =>
      rename_i a xs ds
      cases hx with
      | tup hs' hd' =>
      rename_i a' xs'
      have hL' := hL
      simp only [Lv, Bool.and_eq_true, decide_eq_true_eq, List.all_eq_true] at hL'
      have l1 := (DpAll.len hd)
      have l2 := (DpAll.len hd')
      refine ⟨_, rfl, rfl, _, rfl, iteF ?_⟩
      refine ⟨_, rfl, _, _, _, _, false, rfl, .ty "bool", tyT hs, kit_ty (by decide +kernel), _, rfl, iteF ?_⟩
      refine ⟨_, rfl, _, _, _, _, false, rfl, .ty "int", tyT hs, kit_ty (by decide +kernel), _, rfl, iteF ?_⟩
      refine ⟨_, rfl, _, _, _, _, false, rfl, .ty "str", tyT hs, kit_ty (by decide +kernel), _, rfl, iteF ?_⟩
      refine ⟨_, rfl, _, _, _, _, true, rfl, .ty "tuple", tyT hs, kit_ty (by decide +kernel), _, rfl, _, _, _, _, true, rfl, .ty "tuple", tyT hs', kit_ty (by decide +kernel), rfl, _, rfl, iteF ?_⟩
      refine ⟨_, rfl, _, _, _, _, false, rfl, .ty "list", tyT hs, kit_ty (by decide +kernel), _, rfl, _, _, _, _, false, rfl, .ty "list", tyT hs', kit_ty (by decide +kernel), rfl, _, rfl, iteF ?_⟩
      refine ⟨_, rfl, a', _, rfl, .inr hs', _, rfl, a, _, rfl, .inr hs, rfl, _, rfl, iteNS (by rw [l1, l2]) ?_⟩
      refine ⟨_, rfl, a, _, rfl, .inr hs, (xs.length : Int), rfl, by omega, by omega, for_range (lo := 0) (n := xs.length) (fun i σ H2 => ∃ v, σ = [some (.ref a'), some (.ref a), v] ∧ H2 = H) ⟨none, rfl, rfl⟩ ?_ ?_⟩
      · rintro i σ H2 hi ⟨v, rfl, rfl⟩
        rw [show ((0 : Int) + (i : Int)) = (i : Int) from Int.zero_add _]
        have hi2 : i < ds.length := by omega
        obtain ⟨v1, g1, p1⟩ := DpAll.get hd (List.getElem?_eq_getElem hi2)
        obtain ⟨v2, g2, p2⟩ := DpAll.get hd' (List.getElem?_eq_getElem hi2)
        refine ⟨_, rfl, _, rfl, .inr <| .inl ⟨a', xs', i, v2, rfl, rfl, hs', atI_nat g2, _, rfl, _, rfl, .inr <| .inl ⟨a, xs, i, v1, rfl, rfl, hs, atI_nat g1, v2, v1, ds[i], rfl, p2, p1, hL'.2 _ (List.getElem_mem hi2), _, rfl, ?_⟩⟩⟩
        exact iteF ⟨_, rfl, rfl⟩
      · rintro σ H2 ⟨v, rfl, rfl⟩
        exact q
theorem ok_alike {f : Addr} {fd : FuncData} (D : Df K mg "_law_alike" s_alike ["_law_found", "_law_due"] f fd) (B : Bt mg) : ∀ n : Nat, FnOk P w K mg base CX0 n f fd ["_law_found", "_law_due"] (spAlike K n)
  | 0 => ⟨fun vs H Q E h => by obtain ⟨_, _, d, _, _, _, hL, _⟩ := h; simp [Lv] at hL, fun A outer s H args us vs Q E hr he hb hv h => by obtain ⟨_, _, d, _, _, _, hL, _⟩ := h; simp [Lv] at hL⟩
  | n + 1 => alike_step D B (ok_alike D B n)
end
end Bw
namespace Bw
open PySem PySem.Spec PyProof.Rows L2 GxR
/-! ### what a program does -/
def at0 (c : List Int) (n : Nat) : Int := (c[n]?).getD 0
def doRow : Row → List Int → List Int
  | .put n v, c => c.set n v
  | .copy n o, c => c.set n (at0 c o)
  | .add n a b, c => c.set n ((at0 c a + at0 c b) % 1000)
  | .take n a b, c => c.set n ((at0 c a - at0 c b) % 1000)
  | .less n a b, c => c.set n (if at0 c a < at0 c b then 1 else 0)
  | .call n o, c => c.set n ((7 * at0 c o * at0 c o + at0 c o + 3) % 1000)
  | _, c => c
def saidOf : Row → List Int → List Int → List Int
  | .say n, c, s => s ++ [at0 c n]
  | _, _, s => s
def nextAt : Row → List Int → Nat → Nat
  | .iff n r, c, i => if at0 c n = 0 then i + 1 else r
  | .go r, _, _ => r
  | _, _, i => i + 1
/-- said, whether it came to its end, how many rows were done -/
def goM (rows : List Row) : Nat → List Int → Nat → List Int → Nat → List Int × Bool × Nat
  | 0, c, i, s, d => (s, (match rows[i]? with | none => true | some .fin => true | _ => false), d)
  | f + 1, c, i, s, d => match rows[i]? with
    | none => (s, true, d)
    | some .fin => (s, true, d)
    | some row => goM rows f (doRow row c) (nextAt row c i) (saidOf row c s) (d + 1)
def atEnd (rows : List Row) (i : Nat) : Bool := match rows[i]? with
  | none => true
  | some .fin => true
  | _ => false
theorem goM_end {rows : List Row} {f i d : Nat} {c s : List Int} (h : atEnd rows i = true) : goM rows f c i s d = (s, true, d) := by
  unfold atEnd at h
  cases f with
  | zero =>
    unfold goM
    cases e : rows[i]? with
    | none => rfl
    | some r => rw [e] at h; cases r <;> first | rfl | cases h
  | succ f =>
    unfold goM
    cases e : rows[i]? with
    | none => rfl
    | some r => rw [e] at h; cases r <;> first | rfl | cases h
theorem goM_out {rows : List Row} {i d : Nat} {c s : List Int} (h : atEnd rows i = false) : goM rows 0 c i s d = (s, false, d) := by
  unfold atEnd at h
  unfold goM
  cases e : rows[i]? with
  | none => simp [e] at h
  | some r => rw [e] at h; cases r <;> first | rfl | cases h
theorem goM_step {rows : List Row} {f i d : Nat} {c s : List Int} {row : Row} (e : rows[i]? = some row) (h : row ≠ .fin) : goM rows (f + 1) c i s d = goM rows f (doRow row c) (nextAt row c i) (saidOf row c s) (d + 1) := by
  rw [goM, e]
  cases row <;> first | rfl | exact absurd rfl h
theorem atEnd_of {rows : List Row} {i : Nat} (h : atEnd rows i = false) : ∃ row, rows[i]? = some row ∧ row ≠ .fin := by
  unfold atEnd at h
  cases e : rows[i]? with
  | none => simp [e] at h
  | some r =>
    refine ⟨r, rfl, fun z => ?_⟩
    rw [e, z] at h
    cases h
/-- numbers that names have -/
def Nums (c : List Int) : Prop := ∀ v ∈ c, 0 ≤ v ∧ v < 1000
theorem Nums.at0 {c : List Int} (h : Nums c) (n : Nat) : 0 ≤ at0 c n ∧ at0 c n < 1000 := by
  unfold Bw.at0
  cases e : c[n]? with
  | none => exact ⟨by decide, by decide⟩
  | some v => exact h v (List.mem_of_getElem? e)
theorem Nums.set {c : List Int} (h : Nums c) {n : Nat} {v : Int} (hv : 0 ≤ v ∧ v < 1000) : Nums (c.set n v) := fun z hz => by
  rcases List.mem_or_eq_of_mem_set hz with q | q
  · exact h z q
  · rw [q]; exact hv
theorem mod1000 (x : Int) : 0 ≤ x % 1000 ∧ x % 1000 < 1000 := ⟨Int.emod_nonneg _ (by decide), Int.emod_lt_of_pos _ (by decide)⟩
theorem Nums.row {c : List Int} (h : Nums c) {names many : Nat} {row : Row} (ok : RowOk names many row) : Nums (doRow row c) := by
  cases row with
  | put n v => exact h.set ok.2
  | copy n o => exact h.set (h.at0 o)
  | add n a b => exact h.set (mod1000 _)
  | take n a b => exact h.set (mod1000 _)
  | less n a b =>
    refine h.set ?_
    split <;> exact ⟨by decide, by decide⟩
  | call n o => exact h.set (mod1000 _)
  | _ => exact h
theorem doRow_len (row : Row) (c : List Int) : (doRow row c).length = c.length := by
  cases row <;> simp [doRow]
theorem next_le {names : Nat} {rows : List Row} {row : Row} {c : List Int} {i : Nat} (ok : RowOk names rows.length row) (h : rows[i]? = some row) : nextAt row c i ≤ rows.length := by
  have hi := (List.getElem?_eq_some_iff.mp h).1
  cases row with
  | iff n r =>
    have h2 : r < rows.length := ok.2
    simp only [nextAt]
    split <;> omega
  | go r =>
    have h2 : r < rows.length := ok
    simp only [nextAt]
    omega
  | _ => simp only [nextAt]; omega
theorem at_get {c : List Int} {n : Nat} (h : n < c.length) : (c.map V.int)[n]? = some (.int (at0 c n)) := by
  rw [List.getElem?_map, List.getElem?_eq_getElem h]
  unfold at0
  rw [List.getElem?_eq_getElem h]
  rfl
theorem at0_set {c : List Int} {n k : Nat} {v : Int} (h : n < c.length) : at0 (c.set n v) k = if k = n then v else at0 c k := by
  unfold at0
  by_cases e : k = n
  · subst e
    rw [if_pos rfl, List.getElem?_set_self h]
    rfl
  · rw [if_neg e, List.getElem?_set_ne (Ne.symm e)]
/-! ### numbers of names in a dict -/
/-- the dict tells each name's number -/
structure DictFor (kvs : List (Key × V)) (c : List Int) (most : Nat) : Prop where
  few : kvs.length ≤ most
  tells : ∀ n, n < c.length → valV kvs (Sum.inl (n : Int)) = some (.int (at0 c n))
theorem DictFor.put {kvs : List (Key × V)} {c : List Int} {most n : Nat} {v : Int} (h : DictFor kvs c most) (hn : n < c.length) : DictFor (putK kvs (Sum.inl (n : Int)) (.int v)) (c.set n v) (most + 1) := by
  refine ⟨Nat.le_trans (length_putK _ _ _) (Nat.succ_le_succ h.few), fun k hk => ?_⟩
  rw [List.length_set] at hk
  rw [valV_put, at0_set hn]
  by_cases e : k = n
  · subst e
    rw [if_pos rfl, if_pos rfl]
  · rw [if_neg e, if_neg (fun z => e (by have := Sum.inl.inj z; omega))]
    exact h.tells k hk
theorem DictFor.more {kvs : List (Key × V)} {c : List Int} {most : Nat} (h : DictFor kvs c most) : DictFor kvs c (most + 1) := ⟨Nat.le_succ_of_le h.few, h.tells⟩
def prs (f : Nat → V) (n : Nat) : List (Key × V) := (List.range n).map fun (i : Nat) => ((Sum.inl (i : Int) : Key), f i)
theorem prs_succ (f : Nat → V) (n : Nat) : prs f (n + 1) = prs f n ++ [(Sum.inl (n : Int), f n)] := by
  unfold prs
  rw [List.range_succ, List.map_append]
  rfl
theorem merge_val (f : Nat → V) (kvs : List (Key × V)) (k : Nat) : ∀ n, valV (mergeK kvs (prs f n)) (Sum.inl (k : Int)) = if k < n then some (f k) else valV kvs (Sum.inl (k : Int))
  | 0 => by rw [if_neg (Nat.not_lt_zero k)]; rfl
  | n + 1 => by
    have step : mergeK kvs (prs f (n + 1)) = putK (mergeK kvs (prs f n)) (Sum.inl (n : Int)) (f n) := by
      unfold mergeK
      rw [prs_succ, List.foldl_append]
      rfl
    rw [step, valV_put, merge_val f kvs k n]
    by_cases e : k = n
    · subst e
      rw [if_pos rfl, if_pos (Nat.lt_succ_self k)]
    · rw [if_neg (fun z => e (by have := Sum.inl.inj z; omega))]
      by_cases l : k < n
      · rw [if_pos l, if_pos (Nat.lt_succ_of_lt l)]
      · rw [if_neg l, if_neg (by omega)]
theorem prs_len (f : Nat → V) (n : Nat) : (prs f n).length = n := by simp [prs]
/-- the numbers at first -/
def cells0 (names : Nat) (given : List Int) : List Int := given ++ List.replicate (names - given.length) 0
theorem cells0_len {names : Nat} {given : List Int} (h : given.length ≤ names) : (cells0 names given).length = names := by
  unfold cells0
  simp only [List.length_append, List.length_replicate]
  omega
theorem cells0_at {names k : Nat} {given : List Int} : at0 (cells0 names given) k = if k < given.length then at0 given k else 0 := by
  unfold cells0 at0
  by_cases h : k < given.length
  · rw [if_pos h, List.getElem?_append_left h]
  · rw [if_neg h, List.getElem?_append_right (by omega), List.getElem?_replicate]
    split <;> rfl
theorem cells0_nums {names : Nat} {given : List Int} (h : Nums given) : Nums (cells0 names given) := fun v hv => by
  rcases List.mem_append.mp hv with q | q
  · exact h v q
  · rw [List.eq_of_mem_replicate q]
    exact ⟨by decide, by decide⟩
theorem dict0 {names : Nat} {given : List Int} (h : given.length ≤ names) : DictFor (mergeK (mergeK [] (prs (fun _ => .int 0) names)) (prs (fun i => .int (at0 given i)) given.length)) (cells0 names given) (names + names) := by
  refine ⟨?_, fun k hk => ?_⟩
  · refine Nat.le_trans (length_mergeK _ _) ?_
    have := length_mergeK (prs (fun _ => .int 0) names) []
    rw [prs_len] at *
    have e : ([] : List (Key × V)).length = 0 := rfl
    omega
  · rw [cells0_len h] at hk
    rw [merge_val, merge_val, cells0_at]
    by_cases l : k < given.length
    · rw [if_pos l, if_pos l]
    · rw [if_neg l, if_neg l, if_pos hk]
end Bw
namespace Bw
open PySem PySem.Spec PyProof.Rows L2 GxR
theorem nS {x y : Str} {A B : Prop} (h : decide (V.str x = V.str y) = false) (b : B) : if decide (V.str x = V.str y) = true then A else B := by
  rw [h]; exact iteF b
theorem yS {x : V} {A B : Prop} (a : A) : if decide (x = x) = true then A else B := by
  rw [decide_eq_true rfl]; exact iteT a
theorem nNS {x : V} {A B : Prop} (b : B) : if (!decide (x = x)) = true then A else B := iteNS rfl b
theorem yNS {x y : V} {A B : Prop} (h : decide (x = y) = false) (a : A) : if (!decide (x = y)) = true then A else B := by
  rw [h]; exact iteT a
theorem ifF {b : Bool} {A B : Prop} (h : b = false) (x : B) : if b = true then A else B := by
  rw [h]; exact iteF x
theorem ifT {b : Bool} {A B : Prop} (h : b = true) (x : A) : if b = true then A else B := by
  rw [h]; exact iteT x
theorem pairedSnoc {α β : Type} {F : α → β → Prop} : ∀ {xs : List α} {ys : List β} {x : α} {y : β}, Paired F xs ys → F x y → Paired F (xs ++ [x]) (ys ++ [y])
  | _, _, _, _, .nil, last => .cons last .nil
  | _, _, _, _, .cons r t, h => .cons r (pairedSnoc t h)
theorem cutFrom (xs : List V) (k : Nat) : cutV xs (some (k : Int)) none = xs.drop k := by
  unfold cutV
  rw [HT.sIx_nat, HT.sIx_none]
  by_cases h : k ≤ xs.length
  · rw [Nat.min_eq_left h]
    exact List.take_of_length_le (by rw [List.length_drop]; exact Nat.le_refl _)
  · rw [Nat.min_eq_right (by omega), List.drop_of_length_le (Nat.le_refl _), List.drop_of_length_le (by omega), List.take_nil]
theorem notAll {xs : List V} {k : Nat} (hk : 0 < k) (hx : 0 < xs.length) : ¬ (HT.sIx xs.length 0 (some (k : Int)) = 0 ∧ HT.sIx xs.length xs.length none = xs.length) := by
  rw [HT.sIx_nat]
  omega
theorem prs_merge (f : Nat → V) : ∀ n, mergeK [] (prs f n) = prs f n
  | 0 => rfl
  | n + 1 => by
    have fresh : valV (mergeK [] (prs f n)) (Sum.inl (n : Int)) = none := by
      rw [merge_val, if_neg (Nat.lt_irrefl n)]
      rfl
    have step : mergeK [] (prs f (n + 1)) = putK (mergeK [] (prs f n)) (Sum.inl (n : Int)) (f n) := by
      unfold mergeK
      rw [prs_succ, List.foldl_append]
      rfl
    rw [step, putK_new _ fresh, prs_merge f n, prs_succ]
def wordOf : Row → Str
  | .put .. => "put" | .copy .. => "copy" | .add .. => "add" | .take .. => "take" | .less .. => "less" | .call .. => "call" | .say .. => "say" | .iff .. => "if" | .go .. => "go" | .fin => "end"
theorem rowV_word (row : Row) : ∃ r, rowV row = .str (wordOf row) :: r := by
  cases row <;> exact ⟨_, rfl⟩
theorem word_end {row : Row} (h : row ≠ .fin) : decide (V.str (wordOf row) = V.str "end") = false := by
  cases row with
  | put => exact (by decide +kernel : decide (V.str "put" = V.str "end") = false)
  | copy => exact (by decide +kernel : decide (V.str "copy" = V.str "end") = false)
  | add => exact (by decide +kernel : decide (V.str "add" = V.str "end") = false)
  | take => exact (by decide +kernel : decide (V.str "take" = V.str "end") = false)
  | less => exact (by decide +kernel : decide (V.str "less" = V.str "end") = false)
  | call => exact (by decide +kernel : decide (V.str "call" = V.str "end") = false)
  | say => exact (by decide +kernel : decide (V.str "say" = V.str "end") = false)
  | iff => exact (by decide +kernel : decide (V.str "if" = V.str "end") = false)
  | go => exact (by decide +kernel : decide (V.str "go" = V.str "end") = false)
  | fin => exact absurd rfl h
theorem word_fin : wordOf .fin = "end" := rfl
/-- what a comprehension over a row's numbers gets from a dict -/
def getV (kvs : List (Key × V)) : V → V
  | .int k => (valV kvs (Sum.inl k)).getD (.int 0)
  | v => v
theorem drop2_ints (row : Row) : ∀ v ∈ (rowV row).drop 2, ∃ k : Int, v = .int k := by
  cases row <;> simp [rowV]
theorem rowV_small (row : Row) : (rowV row).length ≤ 4 := by cases row <;> simp [rowV]
theorem getV_at {kvs : List (Key × V)} {c : List Int} {most n : Nat} (h : DictFor kvs c most) (hn : n < c.length) : getV kvs (.int n) = .int (at0 c n) := by
  show (valV kvs (Sum.inl (n : Int))).getD (.int 0) = .int (at0 c n)
  rw [h.tells n hn]
  rfl
end Bw
namespace Bw
open PySem PySem.Spec PyProof.Rows L2 GxR
/-! ### tuples of numbers, words and tuples, as they lie in the heap -/
mutual
inductive Tp (H : Hp) : V → PyData → Prop where
  | int (i : Int) : Tp H (.int i) (.int i)
  | str (s : Str) : Tp H (.str s) (.str s)
  | tup {a : Addr} {vs : List V} {ds : List PyData} (h : H a = some (.tup vs)) (all : TpAll H vs ds) : Tp H (.ref a) (.tuple ds)
inductive TpAll (H : Hp) : List V → List PyData → Prop where
  | nil : TpAll H [] []
  | cons {v : V} {d : PyData} {vs : List V} {ds : List PyData} (h : Tp H v d) (t : TpAll H vs ds) : TpAll H (v :: vs) (d :: ds)
end
mutual
theorem Tp.ext {m : Addr → Prop} {H H' : Hp} (x : Ext m H H') : ∀ {v : V} {d : PyData}, Tp H v d → Tp H' v d
  | _, _, .int i => .int i
  | _, _, .str s => .str s
  | _, _, .tup h all => .tup (x.tup _ _ h) (TpAll.ext x all)
theorem TpAll.ext {m : Addr → Prop} {H H' : Hp} (x : Ext m H H') : ∀ {vs : List V} {ds : List PyData}, TpAll H vs ds → TpAll H' vs ds
  | _, _, .nil => .nil
  | _, _, .cons h t => .cons (Tp.ext x h) (TpAll.ext x t)
end
mutual
theorem Tp.dp {K : PySem.W.Frag} {H : Hp} : ∀ {v : V} {d : PyData}, Tp H v d → Dp K H v d
  | _, _, .int i => .int i
  | _, _, .str s => .str s
  | _, _, .tup h all => .tup (SqT.of h) (TpAll.dp all)
theorem TpAll.dp {K : PySem.W.Frag} {H : Hp} : ∀ {vs : List V} {ds : List PyData}, TpAll H vs ds → DpAll K H vs ds
  | _, _, .nil => .nil
  | _, _, .cons h t => .cons (Tp.dp h) (TpAll.dp t)
end
theorem Tp.tupE {H : Hp} {v : V} {ds : List PyData} (h : Tp H v (.tuple ds)) : ∃ a vs, v = .ref a ∧ H a = some (.tup vs) ∧ TpAll H vs ds := by
  cases h with
  | tup h all => exact ⟨_, _, rfl, h, all⟩
theorem TpAll.len {H : Hp} : ∀ {vs : List V} {ds : List PyData}, TpAll H vs ds → vs.length = ds.length
  | _, _, .nil => rfl
  | _, _, .cons _ t => congrArg Nat.succ (TpAll.len t)
theorem TpAll.app {H : Hp} : ∀ {vs us : List V} {ds es : List PyData}, TpAll H vs ds → TpAll H us es → TpAll H (vs ++ us) (ds ++ es)
  | _, _, _, _, .nil, u => u
  | _, _, _, _, .cons h t, u => .cons h (TpAll.app t u)
theorem TpAll.take {H : Hp} : ∀ {vs : List V} {ds : List PyData} (n : Nat), TpAll H vs ds → TpAll H (vs.take n) (ds.take n)
  | _, _, 0, _ => .nil
  | _, _, _ + 1, .nil => .nil
  | _, _, n + 1, .cons h t => .cons h (TpAll.take n t)
theorem TpAll.drop {H : Hp} : ∀ {vs : List V} {ds : List PyData} (n : Nat), TpAll H vs ds → TpAll H (vs.drop n) (ds.drop n)
  | _, _, 0, t => t
  | _, _, _ + 1, .nil => .nil
  | _, _, n + 1, .cons _ t => TpAll.drop n t
theorem TpAll.get {H : Hp} : ∀ {vs : List V} {ds : List PyData} {i : Nat} {d : PyData}, TpAll H vs ds → ds[i]? = some d → ∃ v, vs[i]? = some v ∧ Tp H v d
  | _, _, _, _, .nil, h => by simp at h
  | _, _, 0, _, .cons a _, h => ⟨_, rfl, by cases h; exact a⟩
  | _, _, i + 1, d, .cons _ t, h => TpAll.get (i := i) t h
abbrev nV (l : List Nat) : List V := l.map fun (n : Nat) => V.int (n : Int)
abbrev nD (l : List Nat) : List PyData := l.map fun (n : Nat) => PyData.int (n : Int)
theorem TpAll.nats {H : Hp} : ∀ l : List Nat, TpAll H (nV l) (nD l)
  | [] => .nil
  | n :: l => .cons (.int n) (TpAll.nats l)
theorem TpAll.natsE {H : Hp} : ∀ {l : List Nat} {vs : List V}, TpAll H vs (nD l) → vs = nV l
  | [], _, .nil => rfl
  | n :: l, _, .cons h t => by
    cases h
    rw [TpAll.natsE t]
    rfl
/-! ### frames and choices -/
structure Fr where
  boxes : Nat
  slots : Nat
  eaten : List Nat
structure Fr.Ok (f : Fr) : Prop where
  b1 : 0 < f.boxes
  b6 : f.boxes ≤ 6
  s8 : f.slots ≤ 8
  eat : ∀ e ∈ f.eaten, e < f.boxes
  rise : f.eaten.Pairwise (· < ·)
structure FrAt (H : Hp) (a : Addr) (f : Fr) : Prop where
  ex : ∃ e : Addr, H a = some (.tup [.int f.boxes, .int f.slots, .ref e]) ∧ H e = some (.tup (nV f.eaten))
theorem FrAt.ext {m : Addr → Prop} {H H' : Hp} {a : Addr} {f : Fr} (h : FrAt H a f) (x : Ext m H H') : FrAt H' a f := by
  obtain ⟨e, h1, h2⟩ := h.ex
  exact ⟨e, x.tup _ _ h1, x.tup _ _ h2⟩
inductive Mv where
  | copy (a b : Nat) | swap (a b : Nat) | store (s b : Nat) | load (b s : Nat)
def Mv.d : Mv → PyData
  | .copy a b => .tuple [.str "copy", .int a, .int b]
  | .swap a b => .tuple [.str "swap", .int a, .int b]
  | .store s b => .tuple [.str "store", .int s, .int b]
  | .load b s => .tuple [.str "load", .int b, .int s]
def Mv.Ok (f : Fr) : Mv → Prop
  | .copy a b => a < f.boxes ∧ b < f.boxes
  | .swap a b => a < f.boxes ∧ b < f.boxes
  | .store s b => s < f.slots ∧ b < f.boxes
  | .load b s => b < f.boxes ∧ s < f.slots
structure Grp where
  ahead : List Mv
  boxes : List Nat
  behind : List Mv
def Grp.d (g : Grp) : PyData := .tuple [.tuple (g.ahead.map Mv.d), .tuple (nD g.boxes), .tuple (g.behind.map Mv.d)]
/-- the names of a row -/
def rowNames : Row → List Nat
  | .put n _ => [n]
  | .copy n o => [n, o]
  | .add n a b => [n, a, b]
  | .take n a b => [n, a, b]
  | .less n a b => [n, a, b]
  | .call n o => [n, o]
  | .say n => [n]
  | .iff n _ => [n]
  | _ => []
/-- rows behind which moves can be done -/
def rowGoesOn : Row → Bool
  | .iff .. => false
  | .go .. => false
  | .fin => false
  | _ => true
structure Grp.Ok (f : Fr) (row : Row) (g : Grp) : Prop where
  a6 : g.ahead.length ≤ 6
  h6 : g.behind.length ≤ 6
  am : ∀ m ∈ g.ahead, m.Ok f
  hm : ∀ m ∈ g.behind, m.Ok f
  on : rowGoesOn row = false → g.behind = []
  len : g.boxes.length = (rowNames row).length
  bm : ∀ b ∈ g.boxes, b < f.boxes
/-- a place: a box, or a slot -/
structure Pl where
  box : Bool
  n : Nat
deriving DecidableEq
def Pl.d (p : Pl) : PyData := .tuple [.str (if p.box = true then "box" else "slot"), .int p.n]
def Pl.Ok (f : Fr) (p : Pl) : Prop := p.n < if p.box = true then f.boxes else f.slots
structure Ch where
  places : List Pl
  groups : List Grp
def Ch.d (c : Ch) : PyData := .tuple [.tuple (c.places.map Pl.d), .tuple (c.groups.map Grp.d)]
structure Ch.Ok (p : Prog) (f : Fr) (c : Ch) : Prop where
  pl : c.places.length = p.params
  pm : ∀ q ∈ c.places, q.Ok f
  own : c.places.Nodup
  gl : c.groups.length = p.rows.length
  gm : ∀ (i : Nat) (g : Grp) (row : Row), c.groups[i]? = some g → p.rows[i]? = some row → Grp.Ok f row g
section
variable {base : Heap} {K : PySem.W.Frag} {mg : Str → Option Value} {P : Program} {w : World}
/-! _law_frame -/
def spLframe : Sp := fun vs H Q _ => ∃ (b l : Addr), vs = [.ref b] ∧ BoxAt H b l ∧ ∀ H' a f, Fr.Ok f → FrAt H' a f → BoxAt H' b l → Ext (bx b l) H H' → Q (.ref a) H'
abbrev nLframe : List Str := ["_law_box", "_law_boxes", "_law_slots", "_law_one"]
theorem scLframe : FnScope nLframe ["_law_box"] (defScope s_law_frame) := ⟨rfl, rfl, rfl, by decide +kernel, rfl, by decide +kernel, by decide +kernel⟩
theorem ok_lframe {f fT : Addr} {fd fdT : FuncData} (D : Df K mg "_law_frame" s_law_frame ["_law_box"] f fd) (DT : Df K mg "_law_take" s_take ["_law_box", "_law_many"] fT fdT) (B : Bt mg) : FnOk P w K mg base CX0 2 f fd ["_law_box"] spLframe := by
  have GT : FnOk P w K mg base CX0 1 fT fdT ["_law_box", "_law_many"] spTake := ok_take DT
  refine D.F.ok scLframe (fun vs H Q E h => ?_) (fun cdv A outer s H vs Q E hr h => ?_)
  · obtain ⟨b, l, rfl, _⟩ := h
    rfl
  · obtain ⟨b, l, rfl, bo, q⟩ := h
    refine ⟨_, pss_cons (ps_set (i := 1) scLframe.nd rfl (.inl rfl) (pe_ix ix_list (pe_lst (pa_cons (pe_op op_add pe_int (pcall DT GT hr (pa_cons (pv 0) (pa_cons pe_int pa_nil)))) (pa_cons (pe_op op_add pe_int (pcall DT GT hr (pa_cons (pv 0) (pa_cons pe_int pa_nil)))) (pa_cons (pe_op op_add pe_int (pcall DT GT hr (pa_cons (pv 0) (pa_cons pe_int pa_nil)))) pa_nil)))) (pcall DT GT hr (pa_cons (pv 0) (pa_cons pe_int pa_nil))) (fun _ _ => rfl)))
      (pss_cons (ps_set (i := 2) scLframe.nd rfl (.inl rfl) (pe_ix ix_list (pe_lst (pa_cons pe_int (pa_cons (pcall DT GT hr (pa_cons (pv 0) (pa_cons pe_int pa_nil))) pa_nil))) (pcall DT GT hr (pa_cons (pv 0) (pa_cons pe_int pa_nil))) (fun _ _ => rfl)))
      (pss_one (ps_ret (pe_tup (pa_cons (pv 1) (pa_cons (pv 2) (pa_cons (pe_callTy call_tuple_of (by rfl) B.tuple (by decide +kernel) (pa_cons
        (pe_lc (own := [("_law_one", 3)]) (g := gName 3) rfl scLframe.nd (pi_range1 (by rfl) B.range (pa_cons (pv 1) pa_nil)) (blkOk_by (N := nLframe) (sc := defScope s_law_frame) (by decide +kernel))
          (fun _ _ _ _ _ => pg_name (i := 3) scLframe.nd rfl (Or.inl rfl)) (fun _ _ _ _ _ => pts_one (pt_cmpR op_eq (pcall DT GT hr (pa_cons (pv 0) (pa_cons pe_int pa_nil))) pe_int (nomark _))) (fun _ _ _ _ _ => pv 3)) pa_nil)) pa_nil))))))), ?_⟩
    refine ⟨_, rfl, b, l, 4, rfl, bo, by decide, by decide, fun H1 r1 r10 r11 bo1 x1 => ⟨_, _, rfl, rfl, ?_⟩⟩
    refine ⟨_, rfl, b, l, 4, rfl, bo1, by decide, by decide, fun H2 r2 r20 r21 bo2 x2 => ⟨_, _, rfl, rfl, ?_⟩⟩
    refine ⟨_, rfl, b, l, 6, rfl, bo2, by decide, by decide, fun H3 r3 r30 r31 bo3 x3 => ⟨_, _, rfl, rfl, by show 3 ≤ sizeLine; decide, fun L1 nL1 => ?_⟩⟩
    refine ⟨_, rfl, b, l, 3, rfl, bo3.new nL1, by decide, by decide, fun H4 k k0 k1 bo4 x4 => ?_⟩
    obtain ⟨v, ev, hv⟩ := pick3 (x := .int (3 + r1)) (y := .int (3 + r2)) (z := .int (1 + r3)) k0 k1
    refine ⟨L1, _, k, v, rfl, rfl, SqL.of (x4.lst (bo3.nb nL1) upd_same), ev, ?_⟩
    obtain ⟨bs, rfl, bs1, bs6⟩ : ∃ n : Nat, v = .int n ∧ 0 < n ∧ n ≤ 6 := by
      rcases hv with rfl | rfl | rfl
      · exact ⟨(3 + r1).toNat, by rw [Int.toNat_of_nonneg (by omega)], by omega, by omega⟩
      · exact ⟨(3 + r2).toNat, by rw [Int.toNat_of_nonneg (by omega)], by omega, by omega⟩
      · exact ⟨(1 + r3).toNat, by rw [Int.toNat_of_nonneg (by omega)], by omega, by omega⟩
    have X4 : Ext (bx b l) H H4 := (x1.trans x2).trans (x3.trans ((Ext.new nL1).trans x4))
    -- slots
    refine ⟨_, rfl, b, l, 9, rfl, bo4, by decide, by decide, fun H5 r4 r40 r41 bo5 x5 => ⟨by show 2 ≤ sizeLine; decide, fun L2 nL2 => ?_⟩⟩
    refine ⟨_, rfl, b, l, 2, rfl, bo5.new nL2, by decide, by decide, fun H6 k2 k20 k21 bo6 x6 => ?_⟩
    obtain ⟨v2, ev2, hv2⟩ := pick2 (x := .int 8) (y := .int r4) k20 k21
    refine ⟨L2, _, k2, v2, rfl, rfl, SqL.of (x6.lst (bo5.nb nL2) upd_same), ev2, ?_⟩
    obtain ⟨sl, rfl, sl8⟩ : ∃ n : Nat, v2 = .int n ∧ n ≤ 8 := by
      rcases hv2 with rfl | rfl
      · exact ⟨8, rfl, by decide⟩
      · exact ⟨r4.toNat, by rw [Int.toNat_of_nonneg r40], by omega⟩
    have X6 : Ext (bx b l) H H6 := X4.trans (x5.trans ((Ext.new nL2).trans x6))
    -- the eaten ones
    refine ⟨_, rfl, _, rfl, _, rfl, bs, rfl, by omega, by omega, fun D nD => ?_⟩
    refine lc_range (lo := 0) (n := bs) (fun i H7 => ∃ es : List Nat, es.length ≤ i ∧ H7 D = some (.lst (nV es)) ∧ (∀ e ∈ es, e < i) ∧ es.Pairwise (· < ·) ∧ BoxAt H7 b l ∧ Ext (bx b l) H6 H7)
      ⟨[], Nat.le_refl _, upd_same, fun e h => by simp at h, List.Pairwise.nil, bo6.new nD, Ext.new nD⟩ ?_ ?_
    · rintro i H7 hi ⟨es, el, hD, elt, erise, bo7, x7⟩
      rw [show ((0 : Int) + (i : Int)) = (i : Int) from Int.zero_add _]
      refine ⟨rfl, ?_⟩
      refine ⟨_, rfl, b, l, 3, rfl, bo7, by decide, by decide, fun H8 r8 _ _ bo8 x8 => ⟨rfl, _, rfl, ?_⟩⟩
      have hD8 := x8.lst (bo6.nb nD) hD
      refine ite2 (fun e => ⟨_, rfl, _, hD8, ?_, ?_⟩) (fun e => ⟨es, Nat.le_succ_of_le el, hD8, fun z hz => Nat.lt_succ_of_lt (elt z hz), erise, bo8, x7.trans x8⟩)
      · rw [List.length_map]
        exact small_lt (k := 6) (by omega) (by decide)
      · have y : Ext (fun x => x = D) H8 (upd H8 D (.lst (nV es ++ [.int i]))) := Ext.put hD8 rfl (fun _ z => by cases z) (fun _ z => by cases z)
        refine ⟨es ++ [i], by rw [List.length_append]; exact Nat.succ_le_succ el, by rw [upd_same, nV, nV, List.map_append]; rfl, fun z hz => ?_, ?_, bo8.ext y (fun z => bo6.nb nD (.inl z.symm)) (fun z => bo6.nb nD (.inr z.symm)), (x7.trans x8).own nD⟩
        · rcases List.mem_append.mp hz with h | h
          · exact Nat.lt_succ_of_lt (elt z h)
          · rw [List.mem_singleton.mp h]
            exact Nat.lt_succ_self i
        · rw [List.pairwise_append]
          exact ⟨erise, List.pairwise_singleton _ _, fun a ha c hc => by rw [List.mem_singleton.mp hc]; exact elt a ha⟩
    · rintro H7 ⟨es, el, hD, elt, erise, bo7, x7⟩
      refine ⟨D, _, rfl, .inl ⟨SqL.of hD, fun e ne => ⟨by show 3 ≤ sizeLine; decide, fun a na => ?_⟩⟩⟩
      have x8 : Ext (bx b l) H7 (upd (upd H7 e (.tup (nV es))) a (.tup [.int bs, .int sl, .ref e])) := (Ext.new ne).trans (Ext.new na)
      exact q _ a ⟨bs, sl, es⟩ ⟨bs1, bs6, sl8, elt, erise⟩ ⟨e, upd_same, (Ext.new (m := no) na).tup _ _ upd_same⟩ ((bo7.new ne).new na) (X6.trans (x7.trans x8))
end
end Bw
namespace Bw
open PySem PySem.Spec PyProof.Rows L2 GxR
theorem rgV_nat (n : Nat) : rgV 0 n = nV (List.range n) := by
  unfold rgV
  rw [show ((n : Int) - 0).toNat = n by omega]
  exact List.map_congr_left fun i _ => by rw [Int.zero_add]
theorem nV_get {l : List Nat} {i : Nat} {x : V} (h : (nV l)[i]? = some x) : ∃ n, l[i]? = some n ∧ x = .int n := by
  rw [List.getElem?_map] at h
  cases e : l[i]? with
  | none =>
    rw [e] at h
    cases h
  | some n => rw [e] at h; exact ⟨n, rfl, (Option.some.inj h).symm⟩
theorem nV_at {l : List Nat} {i n : Nat} (h : l[i]? = some n) : (nV l)[i]? = some (.int n) := by
  rw [List.getElem?_map, h]
  rfl
theorem nV_snoc (l : List Nat) (n : Nat) : nV l ++ [.int n] = nV (l ++ [n]) := by
  show _ = (l ++ [n]).map _
  rw [List.map_append]
  rfl
theorem nV_len (l : List Nat) : (nV l).length = l.length := List.length_map ..
theorem nV_flat (l : List Nat) : (nV l).all flatV = true := List.all_eq_true.mpr fun x hx => by
  obtain ⟨n, _, rfl⟩ := List.mem_map.mp hx
  rfl
/-- the dps of a list of numbers -/
theorem dpNats {K : PySem.W.Frag} {H : Hp} (l : List Nat) : DpAll K H (nV l) (nD l) := (TpAll.nats l).dp
theorem shNats (l : List Nat) : SeqAt.shaped (.list (nD l)) = true := by
  have e : nD l = (l.map fun (n : Nat) => (n : Int)).map PyData.int := by rw [List.map_map]; rfl
  rw [e]
  exact shInts _
theorem eqNil (l : List Nat) : (!PyData.eqv (.list (nD l)) (.list [])) = !l.isEmpty := by
  cases l <;> rfl
section
variable {base : Heap} {K : PySem.W.Frag} {mg : Str → Option Value} {P : Program} {w : World}
def spHomes : Sp := fun vs H Q _ => ∃ (b l a : Addr) (names : Nat) (f : Fr), vs = [.ref b, .int names, .ref a] ∧ BoxAt H b l ∧ FrAt H a f ∧ f.Ok ∧ names ≤ 8 ∧
  ∀ H' r hs, H r = none → H' r = some (.lst (nV hs)) → hs.length = names → (∀ x ∈ hs, x < f.boxes + f.slots) → BoxAt H' b l → Ext (bx b l) H H' → Q (.ref r) H'
abbrev nHomes : List Str := ["_law_box", "_law_names", "_law_frame_here", "_law_left", "_law_found", "_law_name", "_law_good", "_law_some", "_law_place"]
theorem scHomes : FnScope nHomes ["_law_box", "_law_names", "_law_frame_here"] (defScope s_law_homes) := ⟨rfl, rfl, rfl, by decide +kernel, rfl, by decide +kernel, by decide +kernel⟩
theorem ok_homes {f fT : Addr} {fd fdT : FuncData} (D : Df K mg "_law_homes" s_law_homes ["_law_box", "_law_names", "_law_frame_here"] f fd) (DT : Df K mg "_law_take" s_take ["_law_box", "_law_many"] fT fdT) (B : Bt mg) : FnOk P w K mg base CX0 2 f fd ["_law_box", "_law_names", "_law_frame_here"] spHomes := by
  have GT : FnOk P w K mg base CX0 1 fT fdT ["_law_box", "_law_many"] spTake := ok_take DT
  refine D.F.ok scHomes (fun vs H Q E h => ?_) (fun cdv A outer s H vs Q E hr h => ?_)
  · obtain ⟨b, l, a, names, f, rfl, _⟩ := h
    rfl
  · obtain ⟨b, l, a, names, f, rfl, bo, hf, ok, n8, q⟩ := h
    have hu := hr.units
    refine ⟨_, pss_cons (ps_asg (pe_tup (pa_cons (pe_listRg rfl (by rfl) B.list (prg_1 (by rfl) B.range (pe_op op_add (pe_ix ix_tup (pv 2) pe_int (fun _ _ => rfl)) (pe_ix ix_tup (pv 2) pe_int (fun _ _ => rfl))))) (pa_cons (pe_lst pa_nil) pa_nil)))
        (pg_tup rfl (pgs_cons (pg_name (i := 3) scHomes.nd rfl (.inl rfl)) (pgs_cons (pg_name (i := 4) scHomes.nd rfl (.inr rfl)) pgs_nil))))
      (pss_cons (ps_for PassesOwn.never rfl (pi_range1 (by rfl) B.range (pa_cons (pv 1) pa_nil)) (pg_name (i := 5) scHomes.nd rfl (.inl rfl))
        (pss_cons (ps_setLc (i := 6) (own := [("_law_place", 8)]) (g := gName 8) rfl scHomes.nd rfl rfl (sw_true rfl rfl rfl (by decide +kernel)) (pi_list (pv 3)) (blkOk_by (N := nHomes) (sc := defScope s_law_homes) (by decide +kernel))
          (fun _ _ _ _ _ => pg_name (i := 8) scHomes.nd rfl (Or.inl rfl)) (fun _ _ _ _ _ => pts_one (pt_cmpR (r := rIn K true) op_notIn_seq (pv 8) (pe_ix (r := rIxT K) ix_tup (pv 2) pe_int (fun _ _ => rfl)) (by rfl))) (fun _ _ _ _ _ => pv 8))
        (pss_cons (ps_set (i := 7) scHomes.nd rfl (.inl rfl) (pe_ifExp (PW.pt (pw_and (pt_cmpR (op_neD hu) (pv 6) (pe_lst pa_nil) (nomark _)) (pw_and1 (pt_cmpR op_gt (pcall DT GT hr (pa_cons (pv 0) (pa_cons pe_int pa_nil))) pe_int (nomark _))))) (pv 6) (pv 3)))
        (pss_cons (ps_expr (pe_bm PySem.F.plainAttrs_list PySem.F.slot_list_append PySem.F.type_list_append mt_append (pv 4) (pa_cons (pe_ifExp (pt_cmpR (op_neD hu) (pv 7) (pe_lst pa_nil) (nomark _))
            (pe_ix ix_list (pv 7) (pcall DT GT hr (pa_cons (pv 0) (pa_cons (pe_callB call_len_seq (by rfl) B.len PySem.boot_len (pa_cons (pv 7) pa_nil)) pa_nil))) (fun _ _ => rfl)) (pcall DT GT hr (pa_cons (pv 0) (pa_cons (pe_ix ix_tup (pv 2) pe_int (fun _ _ => rfl)) pa_nil)))) pa_nil)))
        (pss_one (ps_setLc (i := 3) (own := [("_law_place", 8)]) (g := gName 8) rfl scHomes.nd rfl rfl (sw_true rfl rfl rfl (by decide +kernel)) (pi_list (pv 3)) (blkOk_by (N := nHomes) (sc := defScope s_law_homes) (by decide +kernel))
          (fun _ _ _ _ _ => pg_name (i := 8) scHomes.nd rfl (Or.inl rfl)) (fun _ _ _ _ _ => pts_one (pt_cmpR op_ne (pv 8) (pe_ix (r := rIxL K) ix_list (pv 4) (pe_un un_neg pe_int) (fun _ _ => rfl)) (nomark _))) (fun _ _ _ _ _ => pv 8)))))))
      (pss_one (ps_ret (pv 4)))), ?_⟩
    obtain ⟨e, ha, he⟩ := hf.ex
    have b6 := ok.b6
    have s8 := ok.s8
    have b1 := ok.b1
    refine ⟨_, rfl, a, _, 0, _, rfl, rfl, SqT.of ha, atI_nat (j := 0) rfl, _, rfl, a, _, 1, _, rfl, rfl, SqT.of ha, atI_nat (j := 1) rfl, _, _, rfl, rfl, ?_⟩
    refine ⟨(f.boxes : Int) + f.slots, rfl, RgOk.of_le (by decide) (by omega) (by decide) (by omega), fun lf nlf => ⟨Nat.zero_le _, fun fo nfo => ⟨by show 2 ≤ sizeLine; decide, fun tp ntp => ?_⟩⟩⟩
    rw [show rgV 0 ((f.boxes : Int) + f.slots) = nV (List.range (f.boxes + f.slots)) from rgV_nat _] at *
    generalize hH1 : upd (upd (upd H lf (.lst (nV (List.range (f.boxes + f.slots))))) fo (.lst [])) tp (.tup [.ref lf, .ref fo]) = H1
    have e0 : H1 tp = some (.tup [.ref lf, .ref fo]) := by rw [← hH1]; exact upd_same
    have nlf0 : lf ≠ fo := fun z => by rw [z, upd_same] at nfo; cases nfo
    have nlt : lf ≠ tp := fun z => by rw [← z, upd_ne nlf0, upd_same] at ntp; cases ntp
    have nft : fo ≠ tp := fun z => by rw [← z, upd_same] at ntp; cases ntp
    have hlf1 : H1 lf = some (.lst (nV (List.range (f.boxes + f.slots)))) := by rw [← hH1, upd_ne nlt, upd_ne nlf0]; exact upd_same
    have hfo1 : H1 fo = some (.lst (nV [])) := by rw [← hH1, upd_ne nft]; exact upd_same
    have fo0 : H fo = none := by rw [upd_ne nlf0.symm] at nfo; exact nfo
    have fob : ¬ bx b l fo := bo.nb fo0
    have lfb0 : ¬ bx b l lf := bo.nb nlf
    have x1 : Ext (bx b l) H H1 := by rw [← hH1]; exact ((Ext.new nlf).trans (Ext.new nfo)).trans (Ext.new ntp)
    have bo1 : BoxAt H1 b l := by rw [← hH1]; exact ((bo.new nlf).new nfo).new ntp
    refine ⟨tp, _, rfl, SqT.of e0, rfl, _, _, rfl, _, _, rfl, rfl, ?_⟩
    refine ⟨_, rfl, names, rfl, by omega, by omega, for_range (lo := 0) (n := names) (fun i σ H2 => ∃ (lf : Addr) (left found : List Nat) (v5 v6 v7 : Option V), σ = [some (.ref b), some (.int names), some (.ref a), some (.ref lf), some (.ref fo), v5, v6, v7, none] ∧ H2 lf = some (.lst (nV left)) ∧ lf ≠ fo ∧ (∀ x ∈ left, x < f.boxes + f.slots) ∧ left.length ≤ 14 ∧
        H2 fo = some (.lst (nV found)) ∧ found.length = i ∧ (∀ x ∈ found, x < f.boxes + f.slots) ∧ BoxAt H2 b l ∧ ¬ bx b l lf ∧ Ext (bx b l) H H2)
      ⟨lf, List.range (f.boxes + f.slots), [], _, _, _, rfl, hlf1, nlf0, fun x h => List.mem_range.mp h, by rw [List.length_range]; omega, hfo1, rfl, fun x h => by simp at h, bo1, lfb0, x1⟩ ?_ ?_⟩
    · clear hlf1 nlf0 nlt nft lfb0 e0 hH1 hfo1 nlf nfo ntp lf
      rintro i σ H2 hi ⟨lf, left, found, v5, v6, v7, rfl, hlf2, nlf, ltot, ll, hfo2, flen0, ftot, bo2, lfb, x2⟩
      have ha2 := x2.tup _ _ ha
      have he2 := x2.tup _ _ he
      -- good = [place for place in left if place not in frame[2]]
      refine ⟨_, rfl, lf, rfl, ⟨_, SqL.of hlf2⟩, fun D1 nD1 => ?_⟩
      have D1b : ¬ bx b l D1 := bo2.nb nD1
      refine lc_list (K := K) (a := lf) (xs := nV left) (fun j H3 => ∃ gs : List Nat, gs.length ≤ j ∧ H3 D1 = some (.lst (nV gs)) ∧ (∀ x ∈ gs, x ∈ left) ∧ Ext no H2 H3) ⟨[], Nat.le_refl _, upd_same, fun x h => by simp at h, Ext.new nD1⟩ (fun j H3 _ z => z.elim fun gs z => SqL.of (z.2.2.2.lst (fun z => z) hlf2)) ?_ ?_
      · rintro j x H3 hx ⟨gs, gl, hD, gin, x3⟩
        obtain ⟨u, hu0, rfl⟩ := nV_get hx
        have jlt : j < left.length := (List.getElem?_eq_some_iff.mp hu0).1
        refine ⟨rfl, ⟨_, rfl, _, rfl, a, _, 2, _, rfl, rfl, SqT.of (x3.tup _ _ ha2), atI_nat (j := 2) rfl, e, _, rfl, .inr (SqT.of (x3.tup _ _ he2)), rfl, nV_flat _, _, rfl, ite2 (fun e => ⟨_, rfl, _, hD, ?_, gs ++ [u], ?_, by rw [upd_same, nV_snoc], ?_, x3.own nD1⟩) (fun e => ⟨gs, Nat.le_succ_of_le gl, hD, gin, x3⟩)⟩⟩
        · rw [nV_len]
          exact small_lt (k := 14) (by omega) (by decide)
        · rw [List.length_append]
          exact Nat.succ_le_succ gl
        · intro x hx
          rcases List.mem_append.mp hx with h | h
          · exact gin x h
          · rw [List.mem_singleton.mp h]
            exact List.mem_of_getElem? hu0
      rintro H3 ⟨gs, gl, hD3, gin, x3⟩
      rw [nV_len] at gl
      -- some = good if good != [] and take(8) > 0 else left
      refine ⟨_, rfl, Nat.zero_le _, fun z1 nz1 => ?_⟩
      have y3 : Ext no H3 (upd H3 z1 (.lst [])) := Ext.new nz1
      have hD4 := y3.lst (fun z => z) hD3
      refine ⟨.list (nD gs), .list [], .lst (SqL.of hD4) (dpNats gs), .lst (SqL.of upd_same) .nil, shNats gs, rfl, _, rfl, ?_⟩
      have x4 : Ext no H2 (upd H3 z1 (.lst [])) := x3.trans y3
      have bo4 : BoxAt (upd H3 z1 (.lst [])) b l := (bo2.ext x3 (fun z => z) (fun z => z)).new nz1
      generalize upd H3 z1 (.lst []) = H4 at y3 hD4 x4 bo4 ⊢
      rw [eqNil]
      have hlf4 := x4.lst (fun z => z) hlf2
      have hfo4 := x4.lst (fun z => z) hfo2
      have gtot : ∀ x ∈ gs, x < f.boxes + f.slots := fun x h => ltot x (gin x h)
      by_cases ge : gs = []
      · rw [show (!gs.isEmpty) = false by rw [ge]; rfl]
        refine iteF (iteF ⟨_, rfl, ?_⟩)
        have hso := hlf4
        have hss := ltot
        have sob := lfb
        have hlf5 := hlf4
        have hfo5 := hfo4
        have bo5 := bo4
        have x5 : Ext (bx b l) H H4 := x2.trans x4.of0
        -- found.append(..)
        refine ⟨_, rfl, .inl ⟨rfl, _, SqL.of hfo5⟩, _, rfl, Nat.zero_le _, fun z2 nz2 => ?_⟩
        have y1 : Ext no H4 (upd H4 z2 (.lst [])) := Ext.new nz2
        have hso6 := y1.lst (fun z => z) hso
        refine ⟨.list (nD left), .list [], .lst (SqL.of hso6) (dpNats left), .lst (SqL.of upd_same) .nil, shNats left, rfl, _, rfl, ?_⟩
        rw [eqNil]
        have bo6 := bo5.new (o := .lst []) nz2
        have hfo6 := y1.lst (fun z => z) hfo5
        have hlf6 := y1.lst (fun z => z) hlf5
        have ha6 := (x5.trans y1.of0).tup _ _ ha
        generalize upd H4 z2 (.lst []) = H6 at y1 hso6 bo6 hfo6 hlf6 ha6 ⊢
        have x6 : Ext (bx b l) H H6 := x5.trans y1.of0
        -- the place drawn, n
        have put : ∀ (H7 : Hp) (n : Nat), n < f.boxes + f.slots → H7 fo = some (.lst (nV found)) → H7 lf = some (.lst (nV left)) → BoxAt H7 b l → Ext (bx b l) H H7 → (upd H7 fo (.lst (nV found ++ [.int n]))) fo = some (.lst (nV (found ++ [n]))) ∧ (upd H7 fo (.lst (nV found ++ [.int n]))) lf = some (.lst (nV left)) ∧ BoxAt (upd H7 fo (.lst (nV found ++ [.int n]))) b l ∧ Ext (bx b l) H (upd H7 fo (.lst (nV found ++ [.int n]))) := fun H7 n _ z1 z2 z3 z4 =>
          ⟨by rw [upd_same, nV_snoc], by rw [upd_ne nlf]; exact z2, z3.ext (Ext.put (m := fun x => x = fo) z1 rfl (fun _ z => by cases z) (fun _ z => by cases z)) (fun z => fob (.inl z.symm)) (fun z => fob (.inr z.symm)), z4.own fo0⟩
        have flen : (nV found).length < sizeLine := by rw [nV_len]; exact small_lt (k := 8) (by omega) (by decide)
        by_cases emp : left = []
        · rw [show (!left.isEmpty) = false by rw [emp]; rfl]
          refine iteF ⟨_, rfl, _, rfl, a, _, 0, _, rfl, rfl, SqT.of ha6, atI_nat (j := 0) rfl, b, l, f.boxes, rfl, bo6, by omega, by omega, fun H7 r r0 r1 bo7 x7 => ?_⟩
          obtain ⟨n, rfl, nlt⟩ := nat_of r0 r1
          have hfo7 := x7.lst fob hfo6
          have hlf7 := x7.lst lfb hlf6
          obtain ⟨p1, p2, p3, p4⟩ := put H7 n (by omega) hfo7 hlf7 bo7 (x6.trans x7)
          refine ⟨fo, _, _, rfl, rfl, hfo7, flen, ?_⟩
          generalize upd H7 fo (.lst (nV found ++ [.int n])) = H8 at p1 p2 p3 p4 ⊢
          have nb : n < f.boxes + f.slots := by omega
          -- left = [place for place in left if place != found[-1]]
          refine ⟨_, rfl, lf, rfl, ⟨_, SqL.of p2⟩, fun D2 nD2 => ?_⟩
          have D2b : ¬ bx b l D2 := p3.nb nD2
          have D2f : D2 ≠ fo := fun z => by rw [z, p1] at nD2; cases nD2
          have D2l : D2 ≠ lf := fun z => by rw [z, p2] at nD2; cases nD2
          refine lc_list (K := K) (a := lf) (xs := nV left) (fun j H9 => ∃ gs : List Nat, gs.length ≤ j ∧ H9 D2 = some (.lst (nV gs)) ∧ (∀ x ∈ gs, x ∈ left) ∧ Ext no H8 H9) ⟨[], Nat.le_refl _, upd_same, fun x h => by simp at h, Ext.new nD2⟩ (fun j H9 _ z => z.elim fun gs z => SqL.of (z.2.2.2.lst (fun z => z) p2)) ?_ ?_
          · rintro j x H9 hx ⟨gs, gl, hD, gin, x9⟩
            obtain ⟨u, hu0, rfl⟩ := nV_get hx
            have jlt : j < left.length := (List.getElem?_eq_some_iff.mp hu0).1
            have hlast : atI (nV (found ++ [n])) (-1) = some (.int n) := by rw [← nV_snoc]; exact atI_last _ _
            refine ⟨rfl, ⟨_, rfl, _, rfl, _, rfl, fo, _, -1, _, rfl, rfl, SqL.of (x9.lst (fun z => z) p1), hlast, rfl, _, rfl, ite2 (fun e => ⟨_, rfl, _, hD, ?_, gs ++ [u], ?_, by rw [upd_same, nV_snoc], ?_, x9.own nD2⟩) (fun e => ⟨gs, Nat.le_succ_of_le gl, hD, gin, x9⟩)⟩⟩
            · rw [nV_len]
              exact small_lt (k := 14) (by omega) (by decide)
            · rw [List.length_append]
              exact Nat.succ_le_succ gl
            · intro x hx
              rcases List.mem_append.mp hx with h | h
              · exact gin x h
              · rw [List.mem_singleton.mp h]
                exact List.mem_of_getElem? hu0
          rintro H9 ⟨gs, gl, hD, gin, x9⟩
          refine ⟨D2, gs, found ++ [n], _, _, _, rfl, hD, D2f, fun x h => ltot x (gin x h), by rw [nV_len] at gl; omega, x9.lst (fun z => z) p1, by rw [List.length_append, flen0]; rfl, ?_, p3.ext x9 (fun z => z) (fun z => z), D2b, p4.trans x9.of0⟩
          intro x hx
          rcases List.mem_append.mp hx with h | h
          · exact ftot x h
          · rw [List.mem_singleton.mp h]
            exact nb
        · rw [show (!left.isEmpty) = true by cases h : left with | nil => exact absurd h emp | cons _ _ => rfl]
          have spos : 0 < left.length := List.length_pos_iff.mpr emp
          refine iteT ⟨_, rfl, _, rfl, _, rfl, lf, _, rfl, .inl (SqL.of hso6), b, l, (nV left).length, rfl, bo6, by rw [nV_len]; omega, by rw [nV_len]; omega, fun H7 r r0 r1 bo7 x7 => ?_⟩
          rw [nV_len] at r1
          obtain ⟨k, rfl, klt⟩ := nat_of r0 r1
          have hso7 := x7.lst sob hso6
          refine ⟨lf, _, k, _, rfl, rfl, SqL.of hso7, atI_nat (nV_at (List.getElem?_eq_getElem klt)), ?_⟩
          have nb : left[k] < f.boxes + f.slots := hss _ (List.getElem_mem klt)
          generalize left[k] = n at nb ⊢
          have hfo7 := x7.lst fob hfo6
          have hlf7 := x7.lst lfb hlf6
          obtain ⟨p1, p2, p3, p4⟩ := put H7 n nb hfo7 hlf7 bo7 (x6.trans x7)
          refine ⟨fo, _, _, rfl, rfl, hfo7, flen, ?_⟩
          generalize upd H7 fo (.lst (nV found ++ [.int n])) = H8 at p1 p2 p3 p4 ⊢
          -- left = [place for place in left if place != found[-1]]
          refine ⟨_, rfl, lf, rfl, ⟨_, SqL.of p2⟩, fun D2 nD2 => ?_⟩
          have D2b : ¬ bx b l D2 := p3.nb nD2
          have D2f : D2 ≠ fo := fun z => by rw [z, p1] at nD2; cases nD2
          have D2l : D2 ≠ lf := fun z => by rw [z, p2] at nD2; cases nD2
          refine lc_list (K := K) (a := lf) (xs := nV left) (fun j H9 => ∃ gs : List Nat, gs.length ≤ j ∧ H9 D2 = some (.lst (nV gs)) ∧ (∀ x ∈ gs, x ∈ left) ∧ Ext no H8 H9) ⟨[], Nat.le_refl _, upd_same, fun x h => by simp at h, Ext.new nD2⟩ (fun j H9 _ z => z.elim fun gs z => SqL.of (z.2.2.2.lst (fun z => z) p2)) ?_ ?_
          · rintro j x H9 hx ⟨gs, gl, hD, gin, x9⟩
            obtain ⟨u, hu0, rfl⟩ := nV_get hx
            have jlt : j < left.length := (List.getElem?_eq_some_iff.mp hu0).1
            have hlast : atI (nV (found ++ [n])) (-1) = some (.int n) := by rw [← nV_snoc]; exact atI_last _ _
            refine ⟨rfl, ⟨_, rfl, _, rfl, _, rfl, fo, _, -1, _, rfl, rfl, SqL.of (x9.lst (fun z => z) p1), hlast, rfl, _, rfl, ite2 (fun e => ⟨_, rfl, _, hD, ?_, gs ++ [u], ?_, by rw [upd_same, nV_snoc], ?_, x9.own nD2⟩) (fun e => ⟨gs, Nat.le_succ_of_le gl, hD, gin, x9⟩)⟩⟩
            · rw [nV_len]
              exact small_lt (k := 14) (by omega) (by decide)
            · rw [List.length_append]
              exact Nat.succ_le_succ gl
            · intro x hx
              rcases List.mem_append.mp hx with h | h
              · exact gin x h
              · rw [List.mem_singleton.mp h]
                exact List.mem_of_getElem? hu0
          rintro H9 ⟨gs, gl, hD, gin, x9⟩
          refine ⟨D2, gs, found ++ [n], _, _, _, rfl, hD, D2f, fun x h => ltot x (gin x h), by rw [nV_len] at gl; omega, x9.lst (fun z => z) p1, by rw [List.length_append, flen0]; rfl, ?_, p3.ext x9 (fun z => z) (fun z => z), D2b, p4.trans x9.of0⟩
          intro x hx
          rcases List.mem_append.mp hx with h | h
          · exact ftot x h
          · rw [List.mem_singleton.mp h]
            exact nb
      · rw [show (!gs.isEmpty) = true by cases h : gs with | nil => exact absurd h ge | cons _ _ => rfl]
        refine iteT ⟨_, rfl, b, l, 8, rfl, bo4, by decide, by decide, fun H5 r8 r80 r81 bo5 x45 => ⟨_, _, rfl, rfl, _, rfl, ?_⟩⟩
        have hlf5 := x45.lst lfb hlf4
        have hfo5 := x45.lst fob hfo4
        have x5 : Ext (bx b l) H H5 := x2.trans (x4.of0.trans x45)
        refine ite2 (fun e8 => ⟨_, rfl, ?_⟩) (fun e8 => ⟨_, rfl, ?_⟩)
        · have hso := x45.lst D1b hD4
          have hss := gtot
          have sob := D1b
          -- found.append(..)
          refine ⟨_, rfl, .inl ⟨rfl, _, SqL.of hfo5⟩, _, rfl, Nat.zero_le _, fun z2 nz2 => ?_⟩
          have y1 : Ext no H5 (upd H5 z2 (.lst [])) := Ext.new nz2
          have hso6 := y1.lst (fun z => z) hso
          refine ⟨.list (nD gs), .list [], .lst (SqL.of hso6) (dpNats gs), .lst (SqL.of upd_same) .nil, shNats gs, rfl, _, rfl, ?_⟩
          rw [eqNil]
          have bo6 := bo5.new (o := .lst []) nz2
          have hfo6 := y1.lst (fun z => z) hfo5
          have hlf6 := y1.lst (fun z => z) hlf5
          have ha6 := (x5.trans y1.of0).tup _ _ ha
          generalize upd H5 z2 (.lst []) = H6 at y1 hso6 bo6 hfo6 hlf6 ha6 ⊢
          have x6 : Ext (bx b l) H H6 := x5.trans y1.of0
          -- the place drawn, n
          have put : ∀ (H7 : Hp) (n : Nat), n < f.boxes + f.slots → H7 fo = some (.lst (nV found)) → H7 lf = some (.lst (nV left)) → BoxAt H7 b l → Ext (bx b l) H H7 → (upd H7 fo (.lst (nV found ++ [.int n]))) fo = some (.lst (nV (found ++ [n]))) ∧ (upd H7 fo (.lst (nV found ++ [.int n]))) lf = some (.lst (nV left)) ∧ BoxAt (upd H7 fo (.lst (nV found ++ [.int n]))) b l ∧ Ext (bx b l) H (upd H7 fo (.lst (nV found ++ [.int n]))) := fun H7 n _ z1 z2 z3 z4 =>
            ⟨by rw [upd_same, nV_snoc], by rw [upd_ne nlf]; exact z2, z3.ext (Ext.put (m := fun x => x = fo) z1 rfl (fun _ z => by cases z) (fun _ z => by cases z)) (fun z => fob (.inl z.symm)) (fun z => fob (.inr z.symm)), z4.own fo0⟩
          have flen : (nV found).length < sizeLine := by rw [nV_len]; exact small_lt (k := 8) (by omega) (by decide)
          by_cases emp : gs = []
          · rw [show (!gs.isEmpty) = false by rw [emp]; rfl]
            refine iteF ⟨_, rfl, _, rfl, a, _, 0, _, rfl, rfl, SqT.of ha6, atI_nat (j := 0) rfl, b, l, f.boxes, rfl, bo6, by omega, by omega, fun H7 r r0 r1 bo7 x7 => ?_⟩
            obtain ⟨n, rfl, nlt⟩ := nat_of r0 r1
            have hfo7 := x7.lst fob hfo6
            have hlf7 := x7.lst lfb hlf6
            obtain ⟨p1, p2, p3, p4⟩ := put H7 n (by omega) hfo7 hlf7 bo7 (x6.trans x7)
            refine ⟨fo, _, _, rfl, rfl, hfo7, flen, ?_⟩
            generalize upd H7 fo (.lst (nV found ++ [.int n])) = H8 at p1 p2 p3 p4 ⊢
            have nb : n < f.boxes + f.slots := by omega
            -- left = [place for place in left if place != found[-1]]
            refine ⟨_, rfl, lf, rfl, ⟨_, SqL.of p2⟩, fun D2 nD2 => ?_⟩
            have D2b : ¬ bx b l D2 := p3.nb nD2
            have D2f : D2 ≠ fo := fun z => by rw [z, p1] at nD2; cases nD2
            have D2l : D2 ≠ lf := fun z => by rw [z, p2] at nD2; cases nD2
            refine lc_list (K := K) (a := lf) (xs := nV left) (fun j H9 => ∃ gs : List Nat, gs.length ≤ j ∧ H9 D2 = some (.lst (nV gs)) ∧ (∀ x ∈ gs, x ∈ left) ∧ Ext no H8 H9) ⟨[], Nat.le_refl _, upd_same, fun x h => by simp at h, Ext.new nD2⟩ (fun j H9 _ z => z.elim fun gs z => SqL.of (z.2.2.2.lst (fun z => z) p2)) ?_ ?_
            · rintro j x H9 hx ⟨gs, gl, hD, gin, x9⟩
              obtain ⟨u, hu0, rfl⟩ := nV_get hx
              have jlt : j < left.length := (List.getElem?_eq_some_iff.mp hu0).1
              have hlast : atI (nV (found ++ [n])) (-1) = some (.int n) := by rw [← nV_snoc]; exact atI_last _ _
              refine ⟨rfl, ⟨_, rfl, _, rfl, _, rfl, fo, _, -1, _, rfl, rfl, SqL.of (x9.lst (fun z => z) p1), hlast, rfl, _, rfl, ite2 (fun e => ⟨_, rfl, _, hD, ?_, gs ++ [u], ?_, by rw [upd_same, nV_snoc], ?_, x9.own nD2⟩) (fun e => ⟨gs, Nat.le_succ_of_le gl, hD, gin, x9⟩)⟩⟩
              · rw [nV_len]
                exact small_lt (k := 14) (by omega) (by decide)
              · rw [List.length_append]
                exact Nat.succ_le_succ gl
              · intro x hx
                rcases List.mem_append.mp hx with h | h
                · exact gin x h
                · rw [List.mem_singleton.mp h]
                  exact List.mem_of_getElem? hu0
            rintro H9 ⟨gs, gl, hD, gin, x9⟩
            refine ⟨D2, gs, found ++ [n], _, _, _, rfl, hD, D2f, fun x h => ltot x (gin x h), by rw [nV_len] at gl; omega, x9.lst (fun z => z) p1, by rw [List.length_append, flen0]; rfl, ?_, p3.ext x9 (fun z => z) (fun z => z), D2b, p4.trans x9.of0⟩
            intro x hx
            rcases List.mem_append.mp hx with h | h
            · exact ftot x h
            · rw [List.mem_singleton.mp h]
              exact nb
          · rw [show (!gs.isEmpty) = true by cases h : gs with | nil => exact absurd h emp | cons _ _ => rfl]
            have spos : 0 < gs.length := List.length_pos_iff.mpr emp
            refine iteT ⟨_, rfl, _, rfl, _, rfl, D1, _, rfl, .inl (SqL.of hso6), b, l, (nV gs).length, rfl, bo6, by rw [nV_len]; omega, by rw [nV_len]; omega, fun H7 r r0 r1 bo7 x7 => ?_⟩
            rw [nV_len] at r1
            obtain ⟨k, rfl, klt⟩ := nat_of r0 r1
            have hso7 := x7.lst sob hso6
            refine ⟨D1, _, k, _, rfl, rfl, SqL.of hso7, atI_nat (nV_at (List.getElem?_eq_getElem klt)), ?_⟩
            have nb : gs[k] < f.boxes + f.slots := hss _ (List.getElem_mem klt)
            generalize gs[k] = n at nb ⊢
            have hfo7 := x7.lst fob hfo6
            have hlf7 := x7.lst lfb hlf6
            obtain ⟨p1, p2, p3, p4⟩ := put H7 n nb hfo7 hlf7 bo7 (x6.trans x7)
            refine ⟨fo, _, _, rfl, rfl, hfo7, flen, ?_⟩
            generalize upd H7 fo (.lst (nV found ++ [.int n])) = H8 at p1 p2 p3 p4 ⊢
            -- left = [place for place in left if place != found[-1]]
            refine ⟨_, rfl, lf, rfl, ⟨_, SqL.of p2⟩, fun D2 nD2 => ?_⟩
            have D2b : ¬ bx b l D2 := p3.nb nD2
            have D2f : D2 ≠ fo := fun z => by rw [z, p1] at nD2; cases nD2
            have D2l : D2 ≠ lf := fun z => by rw [z, p2] at nD2; cases nD2
            refine lc_list (K := K) (a := lf) (xs := nV left) (fun j H9 => ∃ gs : List Nat, gs.length ≤ j ∧ H9 D2 = some (.lst (nV gs)) ∧ (∀ x ∈ gs, x ∈ left) ∧ Ext no H8 H9) ⟨[], Nat.le_refl _, upd_same, fun x h => by simp at h, Ext.new nD2⟩ (fun j H9 _ z => z.elim fun gs z => SqL.of (z.2.2.2.lst (fun z => z) p2)) ?_ ?_
            · rintro j x H9 hx ⟨gs, gl, hD, gin, x9⟩
              obtain ⟨u, hu0, rfl⟩ := nV_get hx
              have jlt : j < left.length := (List.getElem?_eq_some_iff.mp hu0).1
              have hlast : atI (nV (found ++ [n])) (-1) = some (.int n) := by rw [← nV_snoc]; exact atI_last _ _
              refine ⟨rfl, ⟨_, rfl, _, rfl, _, rfl, fo, _, -1, _, rfl, rfl, SqL.of (x9.lst (fun z => z) p1), hlast, rfl, _, rfl, ite2 (fun e => ⟨_, rfl, _, hD, ?_, gs ++ [u], ?_, by rw [upd_same, nV_snoc], ?_, x9.own nD2⟩) (fun e => ⟨gs, Nat.le_succ_of_le gl, hD, gin, x9⟩)⟩⟩
              · rw [nV_len]
                exact small_lt (k := 14) (by omega) (by decide)
              · rw [List.length_append]
                exact Nat.succ_le_succ gl
              · intro x hx
                rcases List.mem_append.mp hx with h | h
                · exact gin x h
                · rw [List.mem_singleton.mp h]
                  exact List.mem_of_getElem? hu0
            rintro H9 ⟨gs, gl, hD, gin, x9⟩
            refine ⟨D2, gs, found ++ [n], _, _, _, rfl, hD, D2f, fun x h => ltot x (gin x h), by rw [nV_len] at gl; omega, x9.lst (fun z => z) p1, by rw [List.length_append, flen0]; rfl, ?_, p3.ext x9 (fun z => z) (fun z => z), D2b, p4.trans x9.of0⟩
            intro x hx
            rcases List.mem_append.mp hx with h | h
            · exact ftot x h
            · rw [List.mem_singleton.mp h]
              exact nb
        · have hso := hlf5
          have hss := ltot
          have sob := lfb
          -- found.append(..)
          refine ⟨_, rfl, .inl ⟨rfl, _, SqL.of hfo5⟩, _, rfl, Nat.zero_le _, fun z2 nz2 => ?_⟩
          have y1 : Ext no H5 (upd H5 z2 (.lst [])) := Ext.new nz2
          have hso6 := y1.lst (fun z => z) hso
          refine ⟨.list (nD left), .list [], .lst (SqL.of hso6) (dpNats left), .lst (SqL.of upd_same) .nil, shNats left, rfl, _, rfl, ?_⟩
          rw [eqNil]
          have bo6 := bo5.new (o := .lst []) nz2
          have hfo6 := y1.lst (fun z => z) hfo5
          have hlf6 := y1.lst (fun z => z) hlf5
          have ha6 := (x5.trans y1.of0).tup _ _ ha
          generalize upd H5 z2 (.lst []) = H6 at y1 hso6 bo6 hfo6 hlf6 ha6 ⊢
          have x6 : Ext (bx b l) H H6 := x5.trans y1.of0
          -- the place drawn, n
          have put : ∀ (H7 : Hp) (n : Nat), n < f.boxes + f.slots → H7 fo = some (.lst (nV found)) → H7 lf = some (.lst (nV left)) → BoxAt H7 b l → Ext (bx b l) H H7 → (upd H7 fo (.lst (nV found ++ [.int n]))) fo = some (.lst (nV (found ++ [n]))) ∧ (upd H7 fo (.lst (nV found ++ [.int n]))) lf = some (.lst (nV left)) ∧ BoxAt (upd H7 fo (.lst (nV found ++ [.int n]))) b l ∧ Ext (bx b l) H (upd H7 fo (.lst (nV found ++ [.int n]))) := fun H7 n _ z1 z2 z3 z4 =>
            ⟨by rw [upd_same, nV_snoc], by rw [upd_ne nlf]; exact z2, z3.ext (Ext.put (m := fun x => x = fo) z1 rfl (fun _ z => by cases z) (fun _ z => by cases z)) (fun z => fob (.inl z.symm)) (fun z => fob (.inr z.symm)), z4.own fo0⟩
          have flen : (nV found).length < sizeLine := by rw [nV_len]; exact small_lt (k := 8) (by omega) (by decide)
          by_cases emp : left = []
          · rw [show (!left.isEmpty) = false by rw [emp]; rfl]
            refine iteF ⟨_, rfl, _, rfl, a, _, 0, _, rfl, rfl, SqT.of ha6, atI_nat (j := 0) rfl, b, l, f.boxes, rfl, bo6, by omega, by omega, fun H7 r r0 r1 bo7 x7 => ?_⟩
            obtain ⟨n, rfl, nlt⟩ := nat_of r0 r1
            have hfo7 := x7.lst fob hfo6
            have hlf7 := x7.lst lfb hlf6
            obtain ⟨p1, p2, p3, p4⟩ := put H7 n (by omega) hfo7 hlf7 bo7 (x6.trans x7)
            refine ⟨fo, _, _, rfl, rfl, hfo7, flen, ?_⟩
            generalize upd H7 fo (.lst (nV found ++ [.int n])) = H8 at p1 p2 p3 p4 ⊢
            have nb : n < f.boxes + f.slots := by omega
            -- left = [place for place in left if place != found[-1]]
            refine ⟨_, rfl, lf, rfl, ⟨_, SqL.of p2⟩, fun D2 nD2 => ?_⟩
            have D2b : ¬ bx b l D2 := p3.nb nD2
            have D2f : D2 ≠ fo := fun z => by rw [z, p1] at nD2; cases nD2
            have D2l : D2 ≠ lf := fun z => by rw [z, p2] at nD2; cases nD2
            refine lc_list (K := K) (a := lf) (xs := nV left) (fun j H9 => ∃ gs : List Nat, gs.length ≤ j ∧ H9 D2 = some (.lst (nV gs)) ∧ (∀ x ∈ gs, x ∈ left) ∧ Ext no H8 H9) ⟨[], Nat.le_refl _, upd_same, fun x h => by simp at h, Ext.new nD2⟩ (fun j H9 _ z => z.elim fun gs z => SqL.of (z.2.2.2.lst (fun z => z) p2)) ?_ ?_
            · rintro j x H9 hx ⟨gs, gl, hD, gin, x9⟩
              obtain ⟨u, hu0, rfl⟩ := nV_get hx
              have jlt : j < left.length := (List.getElem?_eq_some_iff.mp hu0).1
              have hlast : atI (nV (found ++ [n])) (-1) = some (.int n) := by rw [← nV_snoc]; exact atI_last _ _
              refine ⟨rfl, ⟨_, rfl, _, rfl, _, rfl, fo, _, -1, _, rfl, rfl, SqL.of (x9.lst (fun z => z) p1), hlast, rfl, _, rfl, ite2 (fun e => ⟨_, rfl, _, hD, ?_, gs ++ [u], ?_, by rw [upd_same, nV_snoc], ?_, x9.own nD2⟩) (fun e => ⟨gs, Nat.le_succ_of_le gl, hD, gin, x9⟩)⟩⟩
              · rw [nV_len]
                exact small_lt (k := 14) (by omega) (by decide)
              · rw [List.length_append]
                exact Nat.succ_le_succ gl
              · intro x hx
                rcases List.mem_append.mp hx with h | h
                · exact gin x h
                · rw [List.mem_singleton.mp h]
                  exact List.mem_of_getElem? hu0
            rintro H9 ⟨gs, gl, hD, gin, x9⟩
            refine ⟨D2, gs, found ++ [n], _, _, _, rfl, hD, D2f, fun x h => ltot x (gin x h), by rw [nV_len] at gl; omega, x9.lst (fun z => z) p1, by rw [List.length_append, flen0]; rfl, ?_, p3.ext x9 (fun z => z) (fun z => z), D2b, p4.trans x9.of0⟩
            intro x hx
            rcases List.mem_append.mp hx with h | h
            · exact ftot x h
            · rw [List.mem_singleton.mp h]
              exact nb
          · rw [show (!left.isEmpty) = true by cases h : left with | nil => exact absurd h emp | cons _ _ => rfl]
            have spos : 0 < left.length := List.length_pos_iff.mpr emp
            refine iteT ⟨_, rfl, _, rfl, _, rfl, lf, _, rfl, .inl (SqL.of hso6), b, l, (nV left).length, rfl, bo6, by rw [nV_len]; omega, by rw [nV_len]; omega, fun H7 r r0 r1 bo7 x7 => ?_⟩
            rw [nV_len] at r1
            obtain ⟨k, rfl, klt⟩ := nat_of r0 r1
            have hso7 := x7.lst sob hso6
            refine ⟨lf, _, k, _, rfl, rfl, SqL.of hso7, atI_nat (nV_at (List.getElem?_eq_getElem klt)), ?_⟩
            have nb : left[k] < f.boxes + f.slots := hss _ (List.getElem_mem klt)
            generalize left[k] = n at nb ⊢
            have hfo7 := x7.lst fob hfo6
            have hlf7 := x7.lst lfb hlf6
            obtain ⟨p1, p2, p3, p4⟩ := put H7 n nb hfo7 hlf7 bo7 (x6.trans x7)
            refine ⟨fo, _, _, rfl, rfl, hfo7, flen, ?_⟩
            generalize upd H7 fo (.lst (nV found ++ [.int n])) = H8 at p1 p2 p3 p4 ⊢
            -- left = [place for place in left if place != found[-1]]
            refine ⟨_, rfl, lf, rfl, ⟨_, SqL.of p2⟩, fun D2 nD2 => ?_⟩
            have D2b : ¬ bx b l D2 := p3.nb nD2
            have D2f : D2 ≠ fo := fun z => by rw [z, p1] at nD2; cases nD2
            have D2l : D2 ≠ lf := fun z => by rw [z, p2] at nD2; cases nD2
            refine lc_list (K := K) (a := lf) (xs := nV left) (fun j H9 => ∃ gs : List Nat, gs.length ≤ j ∧ H9 D2 = some (.lst (nV gs)) ∧ (∀ x ∈ gs, x ∈ left) ∧ Ext no H8 H9) ⟨[], Nat.le_refl _, upd_same, fun x h => by simp at h, Ext.new nD2⟩ (fun j H9 _ z => z.elim fun gs z => SqL.of (z.2.2.2.lst (fun z => z) p2)) ?_ ?_
            · rintro j x H9 hx ⟨gs, gl, hD, gin, x9⟩
              obtain ⟨u, hu0, rfl⟩ := nV_get hx
              have jlt : j < left.length := (List.getElem?_eq_some_iff.mp hu0).1
              have hlast : atI (nV (found ++ [n])) (-1) = some (.int n) := by rw [← nV_snoc]; exact atI_last _ _
              refine ⟨rfl, ⟨_, rfl, _, rfl, _, rfl, fo, _, -1, _, rfl, rfl, SqL.of (x9.lst (fun z => z) p1), hlast, rfl, _, rfl, ite2 (fun e => ⟨_, rfl, _, hD, ?_, gs ++ [u], ?_, by rw [upd_same, nV_snoc], ?_, x9.own nD2⟩) (fun e => ⟨gs, Nat.le_succ_of_le gl, hD, gin, x9⟩)⟩⟩
              · rw [nV_len]
                exact small_lt (k := 14) (by omega) (by decide)
              · rw [List.length_append]
                exact Nat.succ_le_succ gl
              · intro x hx
                rcases List.mem_append.mp hx with h | h
                · exact gin x h
                · rw [List.mem_singleton.mp h]
                  exact List.mem_of_getElem? hu0
            rintro H9 ⟨gs, gl, hD, gin, x9⟩
            refine ⟨D2, gs, found ++ [n], _, _, _, rfl, hD, D2f, fun x h => ltot x (gin x h), by rw [nV_len] at gl; omega, x9.lst (fun z => z) p1, by rw [List.length_append, flen0]; rfl, ?_, p3.ext x9 (fun z => z) (fun z => z), D2b, p4.trans x9.of0⟩
            intro x hx
            rcases List.mem_append.mp hx with h | h
            · exact ftot x h
            · rw [List.mem_singleton.mp h]
              exact nb
    · rintro σ H2 ⟨lf, left, found, v5, v6, v7, rfl, _, _, _, _, hfo2, flen0, ftot, bo2, _, x2⟩
      exact ⟨_, rfl, q _ fo found fo0 hfo2 flen0 ftot bo2 x2⟩
end
end Bw
namespace Bw
open PySem PySem.Spec PyProof.Rows L2 GxR
theorem pick4 {x y z u : V} {i : Int} (h0 : 0 ≤ i) (h1 : i < 4) : ∃ v, atI [x, y, z, u] i = some v ∧ ((v = x ∧ i = 0) ∨ (v = y ∧ i = 1) ∨ (v = z ∧ i = 2) ∨ (v = u ∧ i = 3)) := by
  have e : i = 0 ∨ i = 1 ∨ i = 2 ∨ i = 3 := by omega
  rcases e with rfl | rfl | rfl | rfl
  · exact ⟨x, atI_nat (j := 0) rfl, .inl ⟨rfl, rfl⟩⟩
  · exact ⟨y, atI_nat (j := 1) rfl, .inr (.inl ⟨rfl, rfl⟩)⟩
  · exact ⟨z, atI_nat (j := 2) rfl, .inr (.inr (.inl ⟨rfl, rfl⟩))⟩
  · exact ⟨u, atI_nat (j := 3) rfl, .inr (.inr (.inr ⟨rfl, rfl⟩))⟩
theorem tp3 {H : Hp} {r : Addr} {s : Str} {m n : Nat} (h : H r = some (.tup [.str s, .int m, .int n])) : Tp H (.ref r) (.tuple [.str s, .int m, .int n]) := .tup h (.cons (.str s) (.cons (.int m) (.cons (.int n) .nil)))
section
variable {base : Heap} {K : PySem.W.Frag} {mg : Str → Option Value} {P : Program} {w : World}
def spMv : Sp := fun vs H Q _ => ∃ (b l a : Addr) (f : Fr), vs = [.ref b, .ref a] ∧ BoxAt H b l ∧ FrAt H a f ∧ f.Ok ∧ ∀ H' r m, Mv.Ok f m → Tp H' (.ref r) m.d → BoxAt H' b l → Ext (bx b l) H H' → Q (.ref r) H'
abbrev nMv : List Str := ["_law_box", "_law_frame_here", "_law_word", "_law_one", "_law_other"]
theorem scMv : FnScope nMv ["_law_box", "_law_frame_here"] (defScope s_law_move) := ⟨rfl, rfl, rfl, by decide +kernel, rfl, by decide +kernel, by decide +kernel⟩
theorem ok_mv {f fT : Addr} {fd fdT : FuncData} (D : Df K mg "_law_move" s_law_move ["_law_box", "_law_frame_here"] f fd) (DT : Df K mg "_law_take" s_take ["_law_box", "_law_many"] fT fdT) : FnOk P w K mg base CX0 2 f fd ["_law_box", "_law_frame_here"] spMv := by
  have GT : FnOk P w K mg base CX0 1 fT fdT ["_law_box", "_law_many"] spTake := ok_take DT
  refine D.F.ok scMv (fun vs H Q E h => ?_) (fun cdv A outer s H vs Q E hr h => ?_)
  · obtain ⟨b, l, a, f, rfl, _⟩ := h
    rfl
  · obtain ⟨b, l, a, f, rfl, bo, hf, ok, q⟩ := h
    refine ⟨_, pss_cons (ps_set (i := 2) scMv.nd rfl (.inl rfl) (pe_ix ix_list (pe_lst (pa_cons pe_str (pa_cons pe_str (pa_cons pe_str (pa_cons pe_str pa_nil))))) (pcall DT GT hr (pa_cons (pv 0) (pa_cons (pe_ifExp (pt_cmpR op_gt (pe_ix ix_tup (pv 1) pe_int (fun _ _ => rfl)) pe_int (nomark _)) pe_int pe_int) pa_nil))) (fun _ _ => rfl)))
      (pss_cons (ps_par (i := 3) (j := 4) rfl scMv.nd rfl rfl (by decide) rfl rfl (pa_cons (pcall DT GT hr (pa_cons (pv 0) (pa_cons (pe_ix ix_tup (pv 1) pe_int (fun _ _ => rfl)) pa_nil))) (pa_cons (pcall DT GT hr (pa_cons (pv 0) (pa_cons (pe_ix ix_tup (pv 1) pe_int (fun _ _ => rfl)) pa_nil))) pa_nil)) (by rfl))
      (pss_cons (ps_if (pt_cmpR op_eq (pv 2) pe_str (nomark _)) (pss_one (ps_ret (pe_tup (pa_cons (pv 2) (pa_cons (pcall DT GT hr (pa_cons (pv 0) (pa_cons (pe_ix ix_tup (pv 1) pe_int (fun _ _ => rfl)) pa_nil))) (pa_cons (pv 3) pa_nil)))))) pss_nil)
      (pss_one (ps_ret (pe_ifExp (pt_cmpR op_eq (pv 2) pe_str (nomark _)) (pe_tup (pa_cons (pv 2) (pa_cons (pv 3) (pa_cons (pcall DT GT hr (pa_cons (pv 0) (pa_cons (pe_ix ix_tup (pv 1) pe_int (fun _ _ => rfl)) pa_nil))) pa_nil)))) (pe_tup (pa_cons (pv 2) (pa_cons (pv 3) (pa_cons (pv 4) pa_nil))))))))), ?_⟩
    obtain ⟨e, ha, he⟩ := hf.ex
    have b1 := ok.b1
    have b6 := ok.b6
    have s8 := ok.s8
    refine ⟨by show 4 ≤ sizeLine; decide, fun L nL => ?_⟩
    have x0 : Ext (bx b l) H (upd H L (.lst [.str "copy", .str "swap", .str "store", .str "load"])) := Ext.new nL
    have hL0 : (upd H L (.lst [.str "copy", .str "swap", .str "store", .str "load"])) L = some (.lst [.str "copy", .str "swap", .str "store", .str "load"]) := upd_same
    have bo0 := bo.new (o := .lst [.str "copy", .str "swap", .str "store", .str "load"]) nL
    have Lb := bo.nb nL
    generalize upd H L (.lst [.str "copy", .str "swap", .str "store", .str "load"]) = H0 at x0 hL0 bo0 ⊢
    refine ⟨_, rfl, _, rfl, a, _, 1, _, rfl, rfl, SqT.of (x0.tup _ _ ha), atI_nat (j := 1) rfl, _, _, rfl, rfl, _, rfl, ?_⟩
    -- the word
    have out : ∀ (k : Int), 0 ≤ k → (k < 2 ∨ (k < 4 ∧ 0 < f.slots)) → ∃ s : Str, atI [V.str "copy", .str "swap", .str "store", .str "load"] k = some (.str s) ∧ (s = "copy" ∨ s = "swap" ∨ (s = "store" ∧ 0 < f.slots) ∨ (s = "load" ∧ 0 < f.slots)) := by
      intro k k0 k1
      obtain ⟨v, ev, hv⟩ := pick4 (x := .str "copy") (y := .str "swap") (z := .str "store") (u := .str "load") k0 (by omega)
      rcases hv with ⟨rfl, _⟩ | ⟨rfl, _⟩ | ⟨rfl, e2⟩ | ⟨rfl, e3⟩
      · exact ⟨_, ev, .inl rfl⟩
      · exact ⟨_, ev, .inr (.inl rfl)⟩
      · exact ⟨_, ev, .inr (.inr (.inl ⟨rfl, by omega⟩))⟩
      · exact ⟨_, ev, .inr (.inr (.inr ⟨rfl, by omega⟩))⟩
    refine ite2 (fun e => ⟨b, l, 4, rfl, bo0, by decide, by decide, fun H1 k k0 k1 bo1 x1 => ?_⟩) (fun e => ⟨b, l, 2, rfl, bo0, by decide, by decide, fun H1 k k0 k1 bo1 x1 => ?_⟩)
    all_goals
      obtain ⟨s, es, hs⟩ := out k k0 (by first | exact .inl k1 | exact .inr ⟨k1, by have := of_decide_eq_true e; omega⟩)
      refine ⟨L, _, k, _, rfl, rfl, SqL.of (x1.lst Lb hL0), es, ?_⟩
      have X1 := x0.trans x1
      refine ⟨_, rfl, _, rfl, a, _, 0, _, rfl, rfl, SqT.of (X1.tup _ _ ha), atI_nat (j := 0) rfl, b, l, f.boxes, rfl, bo1, by omega, by omega, fun H2 r2 r20 r21 bo2 x2 => ?_⟩
      have X2 := X1.trans x2
      refine ⟨_, rfl, _, rfl, a, _, 0, _, rfl, rfl, SqT.of (X2.tup _ _ ha), atI_nat (j := 0) rfl, b, l, f.boxes, rfl, bo2, by omega, by omega, fun H3 r3 r30 r31 bo3 x3 => ⟨_, _, rfl, ?_⟩⟩
      have X3 := X2.trans x3
      obtain ⟨one, rfl, one1⟩ := nat_of r20 r21
      obtain ⟨other, rfl, other1⟩ := nat_of r30 r31
      refine ⟨_, rfl, rfl, ⟨_, rfl, ?_⟩⟩
      rcases hs with rfl | rfl | ⟨rfl, hsl⟩ | ⟨rfl, hsl⟩
      · refine ifF (by decide +kernel) ⟨_, rfl, rfl, _, rfl, ifF (by decide +kernel) ⟨_, rfl, _, rfl, _, rfl, by show 3 ≤ sizeLine; decide, fun p np => ?_⟩⟩
        exact q _ p (.copy one other) ⟨one1, other1⟩ (tp3 upd_same) (bo3.new np) (X3.trans (Ext.new np))
      · refine ifF (by decide +kernel) ⟨_, rfl, rfl, _, rfl, ifF (by decide +kernel) ⟨_, rfl, _, rfl, _, rfl, by show 3 ≤ sizeLine; decide, fun p np => ?_⟩⟩
        exact q _ p (.swap one other) ⟨one1, other1⟩ (tp3 upd_same) (bo3.new np) (X3.trans (Ext.new np))
      · refine ifT (by decide +kernel) ⟨_, rfl, _, rfl, _, rfl, a, _, 1, _, rfl, rfl, SqT.of (X3.tup _ _ ha), atI_nat (j := 1) rfl, b, l, f.slots, rfl, bo3, by omega, by omega, fun H4 r4 r40 r41 bo4 x4 => ⟨_, rfl, by show 3 ≤ sizeLine; decide, fun p np => ?_⟩⟩
        obtain ⟨slot, rfl, slot1⟩ := nat_of r40 r41
        exact q _ p (.store slot one) ⟨slot1, one1⟩ (tp3 upd_same) (bo4.new np) (X3.trans (x4.trans (Ext.new np)))
      · refine ifF (by decide +kernel) ⟨_, rfl, rfl, _, rfl, ifT (by decide +kernel) ⟨_, rfl, _, rfl, _, rfl, _, rfl, a, _, 1, _, rfl, rfl, SqT.of (X3.tup _ _ ha), atI_nat (j := 1) rfl, b, l, f.slots, rfl, bo3, by omega, by omega, fun H4 r4 r40 r41 bo4 x4 => ⟨by show 3 ≤ sizeLine; decide, fun p np => ?_⟩⟩⟩
        obtain ⟨slot, rfl, slot1⟩ := nat_of r40 r41
        exact q _ p (.load one slot) ⟨one1, slot1⟩ (tp3 upd_same) (bo4.new np) (X3.trans (x4.trans (Ext.new np)))
end
end Bw
namespace Bw
open PySem PySem.Spec PyProof.Rows L2 GxR
theorem cutOne (xs : List V) (h : 0 < xs.length) : cutV xs (some 1) (some 2) = (xs.drop 1).take 1 := by
  unfold cutV
  rw [show (some (1 : Int)) = some ((1 : Nat) : Int) from rfl, show (some (2 : Int)) = some ((2 : Nat) : Int) from rfl, HT.sIx_nat, HT.sIx_nat]
  match xs, h with
  | [x], _ => rfl
  | x :: y :: r, _ =>
    have e1 : min 1 (x :: y :: r).length = 1 := by simp only [List.length_cons]; omega
    have e2 : min 2 (x :: y :: r).length = 2 := by simp only [List.length_cons]; omega
    rw [e1, e2]
theorem notAll2 {xs : List V} (hx : 0 < xs.length) : ¬ (HT.sIx xs.length 0 (some 1) = 0 ∧ HT.sIx xs.length xs.length (some 2) = xs.length) := by
  rw [show (some (1 : Int)) = some ((1 : Nat) : Int) from rfl, HT.sIx_nat]
  omega
/-- the numbers that _law_group takes for a row's names, first by what they are, then for go and end none -/
def isLong : Row → Bool
  | .copy .. => true | .add .. => true | .take .. => true | .less .. => true | .call .. => true | _ => false
def isBare : Row → Bool
  | .go .. => true | .fin => true | _ => false
def asks : Row → Bool
  | .say .. => true | .iff .. => true | _ => false
theorem in_long (row : Row) : inV (.str (wordOf row)) [.str "copy", .str "add", .str "take", .str "less", .str "call"] = isLong row := by
  cases row with
  | put => exact (by decide +kernel : inV (.str "put") [.str "copy", .str "add", .str "take", .str "less", .str "call"] = false)
  | copy => exact (by decide +kernel : inV (.str "copy") [.str "copy", .str "add", .str "take", .str "less", .str "call"] = true)
  | add => exact (by decide +kernel : inV (.str "add") [.str "copy", .str "add", .str "take", .str "less", .str "call"] = true)
  | take => exact (by decide +kernel : inV (.str "take") [.str "copy", .str "add", .str "take", .str "less", .str "call"] = true)
  | less => exact (by decide +kernel : inV (.str "less") [.str "copy", .str "add", .str "take", .str "less", .str "call"] = true)
  | call => exact (by decide +kernel : inV (.str "call") [.str "copy", .str "add", .str "take", .str "less", .str "call"] = true)
  | say => exact (by decide +kernel : inV (.str "say") [.str "copy", .str "add", .str "take", .str "less", .str "call"] = false)
  | iff => exact (by decide +kernel : inV (.str "if") [.str "copy", .str "add", .str "take", .str "less", .str "call"] = false)
  | go => exact (by decide +kernel : inV (.str "go") [.str "copy", .str "add", .str "take", .str "less", .str "call"] = false)
  | fin => exact (by decide +kernel : inV (.str "end") [.str "copy", .str "add", .str "take", .str "less", .str "call"] = false)
theorem in_bare (row : Row) : inV (.str (wordOf row)) [.str "go", .str "end"] = isBare row := by
  cases row with
  | put => exact (by decide +kernel : inV (.str "put") [.str "go", .str "end"] = false)
  | copy => exact (by decide +kernel : inV (.str "copy") [.str "go", .str "end"] = false)
  | add => exact (by decide +kernel : inV (.str "add") [.str "go", .str "end"] = false)
  | take => exact (by decide +kernel : inV (.str "take") [.str "go", .str "end"] = false)
  | less => exact (by decide +kernel : inV (.str "less") [.str "go", .str "end"] = false)
  | call => exact (by decide +kernel : inV (.str "call") [.str "go", .str "end"] = false)
  | say => exact (by decide +kernel : inV (.str "say") [.str "go", .str "end"] = false)
  | iff => exact (by decide +kernel : inV (.str "if") [.str "go", .str "end"] = false)
  | go => exact (by decide +kernel : inV (.str "go") [.str "go", .str "end"] = true)
  | fin => exact (by decide +kernel : inV (.str "end") [.str "go", .str "end"] = true)
theorem in_asks (row : Row) : inV (.str (wordOf row)) [.str "say", .str "if"] = asks row := by
  cases row with
  | put => exact (by decide +kernel : inV (.str "put") [.str "say", .str "if"] = false)
  | copy => exact (by decide +kernel : inV (.str "copy") [.str "say", .str "if"] = false)
  | add => exact (by decide +kernel : inV (.str "add") [.str "say", .str "if"] = false)
  | take => exact (by decide +kernel : inV (.str "take") [.str "say", .str "if"] = false)
  | less => exact (by decide +kernel : inV (.str "less") [.str "say", .str "if"] = false)
  | call => exact (by decide +kernel : inV (.str "call") [.str "say", .str "if"] = false)
  | say => exact (by decide +kernel : inV (.str "say") [.str "say", .str "if"] = true)
  | iff => exact (by decide +kernel : inV (.str "if") [.str "say", .str "if"] = true)
  | go => exact (by decide +kernel : inV (.str "go") [.str "say", .str "if"] = false)
  | fin => exact (by decide +kernel : inV (.str "end") [.str "say", .str "if"] = false)
theorem long_names {row : Row} (h : isLong row = true) : (rowV row).drop 1 = nV (rowNames row) := by
  cases row <;> first | rfl | cases h
theorem short_names {row : Row} (h : isLong row = false) (h2 : isBare row = false) : ((rowV row).drop 1).take 1 = nV (rowNames row) := by
  cases row <;> first | rfl | (cases h; done) | (cases h2; done)
theorem bare_names {row : Row} (h : isBare row = true) : rowNames row = [] := by
  cases row <;> first | rfl | cases h
theorem stays {row : Row} (h : rowGoesOn row = false) : isBare row = true ∨ asks row = true := by
  cases row <;> first | exact .inl rfl | exact .inr rfl | cases h
theorem names_few (row : Row) : (rowNames row).length ≤ 3 := by cases row <;> simp [rowNames]
theorem first_word' (row : Row) : atI (rowV row) 0 = some (.str (wordOf row)) := by
  obtain ⟨rest, word⟩ := rowV_word row
  rw [word]
  exact atI_nat (j := 0) rfl
theorem row_pos (row : Row) : 0 < (rowV row).length := by
  obtain ⟨rest, word⟩ := rowV_word row
  rw [word]
  exact Nat.zero_lt_succ _
theorem rowNames_ok {names many : Nat} {row : Row} (ok : RowOk names many row) : ∀ n ∈ rowNames row, n < names := by
  cases row with
  | put n v => intro k hk; rw [List.mem_singleton.mp hk]; exact ok.1
  | copy n o => intro k hk; simp [rowNames] at hk; rcases hk with rfl | rfl; exact ok.1; exact ok.2
  | add n a b => intro k hk; simp [rowNames] at hk; rcases hk with rfl | rfl | rfl; exact ok.1; exact ok.2.1; exact ok.2.2
  | take n a b => intro k hk; simp [rowNames] at hk; rcases hk with rfl | rfl | rfl; exact ok.1; exact ok.2.1; exact ok.2.2
  | less n a b => intro k hk; simp [rowNames] at hk; rcases hk with rfl | rfl | rfl; exact ok.1; exact ok.2.1; exact ok.2.2
  | call n o => intro k hk; simp [rowNames] at hk; rcases hk with rfl | rfl; exact ok.1; exact ok.2
  | say n => intro k hk; rw [List.mem_singleton.mp hk]; exact ok
  | iff n r => intro k hk; rw [List.mem_singleton.mp hk]; exact ok.1
  | go r => intro k hk; simp [rowNames] at hk
  | fin => intro k hk; simp [rowNames] at hk
theorem Ext.hide {H H1 H2 : Hp} {p : Addr} (a : Ext no H H1) (n : H p = none) (b : Ext (fun x => x = p) H1 H2) : Ext no H H2 :=
  ⟨fun x xs h => b.tup _ _ (a.tup _ _ h), fun x o m t h => b.oth x o (fun z : x = p => by rw [z, n] at h; cases h) t (a.oth x o m t h), fun T t => b.tab T (a.tab T t), fun x h => a.dom x (b.dom x h)⟩
theorem snocTp {H : Hp} {vs : List V} {am : List Mv} {m : Mv} {v : V} (h : TpAll H vs (am.map Mv.d)) (hm : Tp H v m.d) : TpAll H (vs ++ [v]) ((am ++ [m]).map Mv.d) := by
  rw [List.map_append]
  exact h.app (.cons hm .nil)
theorem memSnoc {α : Type} {R : α → Prop} {xs : List α} {y : α} (h : ∀ x ∈ xs, R x) (hy : R y) : ∀ x ∈ xs ++ [y], R x := fun x hx => by
  rcases List.mem_append.mp hx with early | last
  · exact h x early
  · rw [List.mem_singleton.mp last]
    exact hy
theorem nV_app (xs ys : List Nat) : nV xs ++ nV ys = nV (xs ++ ys) := by
  show _ = (xs ++ ys).map _
  rw [List.map_append]
theorem emodN (k n : Nat) : ((k : Int) % (n : Int)) = ((k % n : Nat) : Int) := rfl
theorem lstNe {H : Hp} {x y : Addr} {xs : List V} (hx : H x = some (.lst xs)) (hy : H y = none) : x ≠ y := ne_of_none hx hy
section
variable {base : Heap} {K : PySem.W.Frag} {mg : Str → Option Value} {P : Program} {w : World}
def spGroup : Sp := fun vs H Q _ => ∃ (x : V) (r hm a : Addr) (row : Row) (hs : List Nat) (f : Fr) (names many : Nat), vs = [x, .ref r, .ref hm, .ref a] ∧ H r = some (.tup (rowV row)) ∧ RowOk names many row ∧ H hm = some (.lst (nV hs)) ∧ hs.length = names ∧ names ≤ 8 ∧ (∀ h ∈ hs, h < f.boxes + f.slots) ∧ FrAt H a f ∧ f.Ok ∧
  ∀ H' t (g : Grp), Grp.Ok f row g → Tp H' (.ref t) g.d → Ext no H H' → Q (.ref t) H'
abbrev nGroup : List Str := ["_law_box", "_law_row_here", "_law_homes_here", "_law_frame_here", "_law_spare", "_law_first", "_law_names", "_law_ahead", "_law_boxes", "_law_behind", "_law_k", "_law_home", "_law_one"]
theorem scGroup : FnScope nGroup ["_law_box", "_law_row_here", "_law_homes_here", "_law_frame_here"] (defScope s_law_group) := ⟨rfl, rfl, rfl, by decide +kernel, rfl, by decide +kernel, by decide +kernel⟩
theorem ok_group {f : Addr} {fd : FuncData} (D : Df K mg "_law_group" s_law_group ["_law_box", "_law_row_here", "_law_homes_here", "_law_frame_here"] f fd) (B : Bt mg) : FnOk P w K mg base CX0 1 f fd ["_law_box", "_law_row_here", "_law_homes_here", "_law_frame_here"] spGroup := by
  refine D.F.ok scGroup (fun vs H Q E h => ?_) (fun cdv A outer s H vs Q E hr h => ?_)
  · obtain ⟨x, r, hm, a, row, hs, f, names, many, rfl, _⟩ := h
    rfl
  · obtain ⟨x, r, hm, a, row, hs, f, names, many, rfl, hrow, rok, hhm, hsl, n8, htot, hf, ok, q⟩ := h
    refine ⟨_, pss_cons (ps_set (i := 4) scGroup.nd rfl (.inl rfl) (pe_op op_cat
          (pe_lc (own := [("_law_one", 12)]) (g := gName 12) rfl scGroup.nd (pi_range1 (by rfl) B.range (pa_cons (pe_ix ix_tup (pv 3) pe_int (fun _ _ => rfl)) pa_nil)) (blkOk_by (N := nGroup) (sc := defScope s_law_group) (by decide +kernel))
            (fun _ _ _ _ _ => pg_name (i := 12) scGroup.nd rfl (Or.inl rfl)) (fun _ _ _ _ _ => pts_one (pt_cmpR (r := rIn K true) op_notIn_seq (pv 12) (pv 2) (by rfl))) (fun _ _ _ _ _ => pv 12))
          (pe_lc (own := [("_law_one", 12)]) (g := gName 12) (tt := tYes) rfl scGroup.nd (pi_range1 (by rfl) B.range (pa_cons (pe_ix ix_tup (pv 3) pe_int (fun _ _ => rfl)) pa_nil)) (blkOk_by (N := nGroup) (sc := defScope s_law_group) (by decide +kernel))
            (fun _ _ _ _ _ => pg_name (i := 12) scGroup.nd rfl (Or.inl rfl)) (fun _ _ _ _ _ => pts_nil) (fun _ _ _ _ _ => pv 12))))
      (pss_cons (ps_set (i := 5) scGroup.nd rfl (.inl rfl) (pe_callTy call_int1 (by rfl) B.int (by decide +kernel) (pa_cons (pe_cmpR op_notIn_seq (pe_ix ix_tup (pv 1) pe_int (fun _ _ => rfl)) (pe_tup (pa_cons pe_str (pa_cons pe_str pa_nil))) (by rfl)) pa_nil)))
      (pss_cons (ps_set (i := 6) scGroup.nd rfl (.inl rfl) (pe_ifExp (pt_cmpR op_in_seq (pe_ix ix_tup (pv 1) pe_int (fun _ _ => rfl)) (pe_tup (pa_cons pe_str (pa_cons pe_str (pa_cons pe_str (pa_cons pe_str (pa_cons pe_str pa_nil)))))) (by rfl))
          (pe_callTy call_list_of (by rfl) B.list (by decide +kernel) (pa_cons (pe_slice sl_tup (pv 1) (po_some pe_int) po_none) pa_nil)) (pe_callTy call_list_of (by rfl) B.list (by decide +kernel) (pa_cons (pe_slice sl_tup (pv 1) (po_some pe_int) (po_some pe_int)) pa_nil))))
      (pss_cons (ps_set (i := 6) scGroup.nd rfl (.inl rfl) (pe_ifExp (pt_cmpR op_in_seq (pe_ix ix_tup (pv 1) pe_int (fun _ _ => rfl)) (pe_tup (pa_cons pe_str (pa_cons pe_str pa_nil))) (by rfl)) (pe_lst pa_nil) (pv 6)))
      (pss_cons (ps_par3 (i := 7) (j := 8) (l := 9) rfl scGroup.nd rfl rfl rfl (by decide) (by decide) (by decide) rfl rfl rfl (pa_cons (pe_tup pa_nil) (pa_cons (pe_lst pa_nil) (pa_cons (pe_tup pa_nil) pa_nil))) (by rfl))
      (pss_cons (ps_for PassesOwn.never rfl (pi_range1 (by rfl) B.range (pa_cons (pe_callB call_len_seq (by rfl) B.len PySem.boot_len (pa_cons (pv 6) pa_nil)) pa_nil)) (pg_name (i := 10) scGroup.nd rfl (.inl rfl))
        (pss_cons (ps_set (i := 11) scGroup.nd rfl (.inl rfl) (pe_ix ix_list (pv 2) (pe_ix ix_list (pv 6) (pv 10) (fun _ _ => rfl)) (fun _ _ => rfl)))
        (pss_one (ps_if (pt_cmpR op_lt (pv 11) (pe_ix ix_tup (pv 3) pe_int (fun _ _ => rfl)) (nomark _)) (pss_one (ps_expr (pe_bm PySem.F.plainAttrs_list PySem.F.slot_list_append PySem.F.type_list_append mt_append (pv 8) (pa_cons (pv 11) pa_nil))))
          (pss_cons (ps_expr (pe_bm PySem.F.plainAttrs_list PySem.F.slot_list_append PySem.F.type_list_append mt_append (pv 8) (pa_cons (pe_ix ix_list (pv 4) (pe_op op_mod (pv 10) (pe_callB call_len_seq (by rfl) B.len PySem.boot_len (pa_cons (pv 4) pa_nil))) (fun _ _ => rfl)) pa_nil)))
          (pss_one (ps_if (pt_cmpR op_ge (pv 10) (pv 5) (nomark _))
            (pss_one (ps_set (i := 7) scGroup.nd rfl (.inl rfl) (pe_op op_catA (pv 7) (pe_tup (pa_cons (pe_tup (pa_cons pe_str (pa_cons (pe_ix ix_list (pv 8) (pv 10) (fun _ _ => rfl)) (pa_cons (pe_op op_sub (pv 11) (pe_ix ix_tup (pv 3) pe_int (fun _ _ => rfl))) pa_nil)))) pa_nil)))))
            (pss_one (ps_set (i := 9) scGroup.nd rfl (.inl rfl) (pe_tup (pa_cons (pe_tup (pa_cons pe_str (pa_cons (pe_op op_sub (pv 11) (pe_ix ix_tup (pv 3) pe_int (fun _ _ => rfl))) (pa_cons (pe_ix ix_list (pv 8) (pv 10) (fun _ _ => rfl)) pa_nil)))) pa_nil)))))))))))
      (pss_one (ps_ret (pe_tup (pa_cons (pv 7) (pa_cons (pe_callTy call_tuple_of (by rfl) B.tuple (by decide +kernel) (pa_cons (pv 8) pa_nil)) (pa_cons (pv 9) pa_nil))))))))))), ?_⟩
    obtain ⟨e, ha, he⟩ := hf.ex
    have b1 := ok.b1
    have b6 := ok.b6
    -- spare
    refine ⟨_, rfl, a, _, 0, _, rfl, rfl, SqT.of ha, atI_nat (j := 0) rfl, f.boxes, rfl, by omega, by omega, fun D1 nD1 => ?_⟩
    refine lc_range (lo := 0) (n := f.boxes) (fun i H1 => ∃ gs : List Nat, gs.length ≤ i ∧ H1 D1 = some (.lst (nV gs)) ∧ (∀ y ∈ gs, y < f.boxes) ∧ Ext no H H1) ⟨[], Nat.le_refl _, upd_same, fun y h => by simp at h, Ext.new nD1⟩ ?_ ?_
    · rintro i H1 hi ⟨gs, gl, hD, gb, x1⟩
      rw [show ((0 : Int) + (i : Int)) = (i : Int) from Int.zero_add _]
      refine ⟨rfl, ⟨_, rfl, _, rfl, hm, _, rfl, .inl (SqL.of (x1.lst (fun z => z) hhm)), rfl, nV_flat _, _, rfl, ite2 (fun e => ⟨_, rfl, _, hD, ?_, gs ++ [i], ?_, by rw [upd_same, nV_snoc], memSnoc gb hi, x1.own nD1⟩) (fun e => ⟨gs, Nat.le_succ_of_le gl, hD, gb, x1⟩)⟩⟩
      · rw [nV_len]
        exact small_lt (k := 6) (by omega) (by decide)
      · rw [List.length_append]
        exact Nat.succ_le_succ gl
    rintro H1 ⟨gs, gl, hD1, gb, x1⟩
    refine ⟨_, rfl, a, _, 0, _, rfl, rfl, SqT.of (x1.tup _ _ ha), atI_nat (j := 0) rfl, f.boxes, rfl, by omega, by omega, fun D2 nD2 => ?_⟩
    refine lc_range (lo := 0) (n := f.boxes) (fun i H2 => H2 D2 = some (.lst (nV (List.range i))) ∧ Ext no H1 H2) ⟨upd_same, Ext.new nD2⟩ ?_ ?_
    · rintro i H2 hi ⟨hD, x2⟩
      rw [show ((0 : Int) + (i : Int)) = (i : Int) from Int.zero_add _]
      refine ⟨rfl, ⟨_, rfl, _, hD, by rw [nV_len, List.length_range]; exact small_lt (k := 6) (by omega) (by decide), by rw [upd_same, nV_snoc, List.range_succ], x2.own nD2⟩⟩
    rintro H2 ⟨hD2, x2⟩
    refine ⟨D1, D2, _, _, rfl, rfl, x2.lst (fun z => z) hD1, hD2, by rw [nV_len, nV_len, List.length_range]; exact Nat.le_of_lt (small_lt (k := 12) (by omega) (by decide)), fun sp nsp => ?_⟩
    obtain ⟨spare, espare, spos, sall⟩ : ∃ spare, nV gs ++ nV (List.range f.boxes) = nV spare ∧ 0 < spare.length ∧ ∀ y ∈ spare, y < f.boxes := ⟨gs ++ List.range f.boxes, nV_app _ _, by rw [List.length_append, List.length_range]; omega, fun y hy => by
      rcases List.mem_append.mp hy with h | h
      · exact gb y h
      · exact List.mem_range.mp h⟩
    have hsp3 : (upd H2 sp (.lst (nV gs ++ nV (List.range f.boxes)))) sp = some (.lst (nV spare)) := by rw [upd_same, espare]
    have x3 : Ext no H (upd H2 sp (.lst (nV gs ++ nV (List.range f.boxes)))) := x1.trans (x2.trans (Ext.new nsp))
    generalize upd H2 sp (.lst (nV gs ++ nV (List.range f.boxes))) = H3 at hsp3 x3 ⊢
    -- first
    have hT3 := SqT.of (K := K) (x3.tup _ _ hrow)
    refine ⟨_, rfl, r, _, 0, _, rfl, rfl, hT3, first_word' row, by show 2 ≤ sizeLine; decide, fun t1 nt1 => ⟨t1, _, rfl, .inr (SqT.of upd_same), rfl, rfl, .inr ⟨_, rfl, ?_⟩⟩⟩
    obtain ⟨fi, hfi⟩ : ∃ fi : Int, fi = if asks row = true then 0 else 1 := ⟨_, rfl⟩
    refine asg_int (b := fi) (by
      show (if (!inV (.str (wordOf row)) [.str "say", .str "if"]) = true then (1 : Int) else 0) = fi
      rw [in_asks, hfi]
      cases asks row <;> rfl) ?_
    have w1 : Ext no H3 (upd H3 t1 (.tup [.str "say", .str "if"])) := Ext.new nt1
    generalize upd H3 t1 (.tup [.str "say", .str "if"]) = H3a at w1 ⊢
    have x3a := x3.trans w1
    -- names
    have hT4 := SqT.of (K := K) (x3a.tup _ _ hrow)
    refine ⟨_, rfl, r, _, 0, _, rfl, rfl, hT4, first_word' row, by show 5 ≤ sizeLine; decide, fun t2 nt2 => ⟨t2, _, rfl, .inr (SqT.of upd_same), rfl, rfl, _, rfl, ?_⟩⟩
    show if inV (.str (wordOf row)) [.str "copy", .str "add", .str "take", .str "less", .str "call"] = true then _ else _
    rw [in_long]
    have w2 : Ext no H3a (upd H3a t2 (.tup [.str "copy", .str "add", .str "take", .str "less", .str "call"])) := Ext.new nt2
    generalize upd H3a t2 (.tup [.str "copy", .str "add", .str "take", .str "less", .str "call"]) = H4 at w2 ⊢
    have x4 := x3a.trans w2
    have hT5 := SqT.of (K := K) (x4.tup _ _ hrow)
    have hsp4 := (w1.trans w2).lst (fun z => z) hsp3
    have cut1 : cutV (rowV row) (some 1) none = (rowV row).drop 1 := cutFrom _ 1
    have cut2 : cutV (rowV row) (some 1) (some 2) = ((rowV row).drop 1).take 1 := cutOne _ (row_pos row)
    by_cases lg : isLong row = true
    · rw [lg]
      have bare : isBare row = false := by cases row <;> first | rfl | cases lg
      refine iteT ⟨_, rfl, 1, rfl, r, _, rfl, hT5, notAll (k := 1) (by decide) (row_pos row), fun s1 ns1 => ⟨s1, _, rfl, .inr (SqT.of upd_same), fun nm nnm => ?_⟩⟩
      have w3 : Ext no H4 (upd (upd H4 s1 (.tup (cutV (rowV row) (some 1) none))) nm (.lst (cutV (rowV row) (some 1) none))) := (Ext.new ns1).trans (Ext.new nnm)
      have hnm4 : (upd (upd H4 s1 (.tup (cutV (rowV row) (some 1) none))) nm (.lst (cutV (rowV row) (some 1) none))) nm = some (.lst (nV (rowNames row))) := by rw [upd_same, cut1, long_names lg]
      generalize upd (upd H4 s1 (.tup (cutV (rowV row) (some 1) none))) nm (.lst (cutV (rowV row) (some 1) none)) = H4b at w3 hnm4 ⊢
      have x4b := x4.trans w3
      refine ⟨_, rfl, r, _, 0, _, rfl, rfl, SqT.of (x4b.tup _ _ hrow), first_word' row, by show 2 ≤ sizeLine; decide, fun t3 nt3 => ⟨t3, _, rfl, .inr (SqT.of upd_same), rfl, rfl, _, rfl, ?_⟩⟩
      show if inV (.str (wordOf row)) [.str "go", .str "end"] = true then _ else _
      rw [in_bare, bare]
      have w4 : Ext no H4b (upd H4b t3 (.tup [.str "go", .str "end"])) := Ext.new nt3
      generalize upd H4b t3 (.tup [.str "go", .str "end"]) = H5 at w4 ⊢
      refine iteF ⟨_, rfl, ?_⟩
      have x5 := x4b.trans w4
      have hnm := w4.lst (fun z => z) hnm4
      have hsp := (w3.trans w4).lst (fun z => z) hsp4
      -- ahead, boxes, behind = (), [], ()
      refine ⟨Nat.zero_le _, fun ah0 nah => ⟨Nat.zero_le _, fun bo nbo => ⟨Nat.zero_le _, fun bh0 nbh => ⟨_, _, _, rfl, ?_⟩⟩⟩⟩
      have z1 : Ext no H5 (upd (upd (upd H5 ah0 (.tup [])) bo (.lst [])) bh0 (.tup [])) := ((Ext.new nah).trans (Ext.new nbo)).trans (Ext.new nbh)
      have hah : (upd (upd (upd H5 ah0 (.tup [])) bo (.lst [])) bh0 (.tup [])) ah0 = some (.tup []) := ((Ext.new (m := no) nbo).trans (Ext.new nbh)).tup _ _ upd_same
      have hbo : (upd (upd (upd H5 ah0 (.tup [])) bo (.lst [])) bh0 (.tup [])) bo = some (.lst (nV [])) := (Ext.new (m := no) nbh).lst (fun z => z) upd_same
      have hbh : (upd (upd (upd H5 ah0 (.tup [])) bo (.lst [])) bh0 (.tup [])) bh0 = some (.tup []) := upd_same
      have nmb : ¬ nm = bo := lstNe ((Ext.new (m := no) nah).lst (fun z => z) hnm) nbo
      have spb : ¬ sp = bo := lstNe ((Ext.new (m := no) nah).lst (fun z => z) hsp) nbo
      have bo0 : H bo = none := (x5.trans (Ext.new nah)).dom bo nbo
      generalize upd (upd (upd H5 ah0 (.tup [])) bo (.lst [])) bh0 (.tup []) = H6 at z1 hah hbo hbh ⊢
      have x6 : Ext no H H6 := x5.trans z1
      have hnm6 := z1.lst (fun z => z) hnm
      have nfew := names_few row
      refine ⟨_, rfl, nm, _, rfl, .inl (SqL.of hnm6), ((nV (rowNames row)).length : Int), rfl, by rw [nV_len]; omega, by rw [nV_len]; omega, for_range (lo := 0) (n := (nV (rowNames row)).length) (fun k σ H7 => ∃ (ah bh : Addr) (am hv : List Mv) (bs : List Nat) (v10 v11 : Option V),
          σ = [some x, some (.ref r), some (.ref hm), some (.ref a), some (.ref sp), some (.int fi), some (.ref nm), some (.ref ah), some (.ref bo), some (.ref bh), v10, v11, none] ∧ H7 bo = some (.lst (nV bs)) ∧ bs.length = k ∧ (∀ y ∈ bs, y < f.boxes) ∧ Tp H7 (.ref ah) (.tuple (am.map Mv.d)) ∧ am.length ≤ k ∧ (∀ m ∈ am, Mv.Ok f m) ∧
          Tp H7 (.ref bh) (.tuple (hv.map Mv.d)) ∧ hv.length ≤ 1 ∧ (∀ m ∈ hv, Mv.Ok f m) ∧ (hv ≠ [] → fi = 1 ∧ 0 < (rowNames row).length) ∧ Ext (fun x => x = bo) H6 H7)
        ⟨ah0, bh0, [], [], [], _, _, rfl, hbo, rfl, fun y h => by simp at h, .tup hah .nil, Nat.le_refl _, fun m h => by simp at h, .tup hbh .nil, Nat.zero_le _, fun m h => by simp at h, fun h => absurd rfl h, Ext.refl _ _⟩ ?_ ?_⟩
      · rintro k σ H7 hk ⟨ah, bh, am, hv, bs, v10, v11, rfl, hbo7, bl, bb, hah7, al, aok, hbh7, hl, hok, hfirst, x7⟩
        rw [show ((0 : Int) + (k : Int)) = (k : Int) from Int.zero_add _]
        have x07 := x6.hide bo0 x7
        have kn : k < (rowNames row).length := by rw [← nV_len]; exact hk
        have ein : (rowNames row)[k]? = some (rowNames row)[k] := List.getElem?_eq_getElem kn
        have nlt : (rowNames row)[k] < hs.length := by rw [hsl]; exact rowNames_ok rok _ (List.getElem_mem kn)
        generalize hn : (rowNames row)[k] = n at ein nlt
        have eih : hs[n]? = some hs[n] := List.getElem?_eq_getElem nlt
        have hlt := htot _ (List.getElem_mem nlt)
        generalize hh : hs[n] = home at eih hlt
        have ha7 := x07.tup _ _ ha
        have hhm7 := x07.lst (fun z => z) hhm
        have hsp7 := x7.lst spb (z1.lst (fun z => z) hsp)
        refine ⟨_, rfl, _, rfl, _, rfl, nm, _, k, _, rfl, rfl, SqL.of (x7.lst nmb hnm6), atI_nat (nV_at ein), hm, _, n, _, rfl, rfl, SqL.of hhm7, atI_nat (nV_at eih), ?_⟩
        refine ⟨_, rfl, _, rfl, a, _, 0, _, rfl, rfl, SqT.of ha7, atI_nat (j := 0) rfl, _, _, rfl, rfl, _, rfl, ite2 (fun e1 => ?_) (fun e1 => ?_)⟩
        · have lt : home < f.boxes := by have := of_decide_eq_true e1; omega
          refine ⟨_, rfl, .inl ⟨rfl, _, SqL.of hbo7⟩, _, rfl, bo, _, _, rfl, rfl, hbo7, by rw [nV_len]; exact small_lt (k := 3) (by omega) (by decide), ?_⟩
          have y : Ext (fun x => x = bo) H7 (upd H7 bo (.lst (nV bs ++ [.int home]))) := Ext.put hbo7 rfl (fun _ z => by cases z) (fun _ z => by cases z)
          exact ⟨ah, bh, am, hv, bs ++ [home], _, _, rfl, by rw [upd_same, nV_snoc], by rw [List.length_append, bl]; rfl, memSnoc bb lt, hah7.ext y, Nat.le_succ_of_le al, aok, hbh7.ext y, hl, hok, hfirst, x7.trans y⟩
        · have ge : f.boxes ≤ home := by
            have : ¬ (home : Int) < (f.boxes : Int) := fun z => e1 (decide_eq_true z)
            omega
          have spl : k % spare.length < spare.length := Nat.mod_lt _ spos
          have eis : spare[k % spare.length]? = some spare[k % spare.length] := List.getElem?_eq_getElem spl
          have vlt := sall _ (List.getElem_mem spl)
          generalize spare[k % spare.length] = v at eis vlt
          have eat : atI (nV spare) ((k : Int) % ((nV spare).length : Int)) = some (.int v) := by
            rw [nV_len, emodN]
            exact atI_nat (nV_at eis)
          refine ⟨_, rfl, .inl ⟨rfl, _, SqL.of hbo7⟩, _, rfl, _, rfl, _, rfl, sp, _, rfl, .inl (SqL.of hsp7), _, _, rfl, rfl, by rw [nV_len]; omega, sp, _, _, _, rfl, rfl, SqL.of hsp7, eat, bo, _, _, rfl, rfl, hbo7, by rw [nV_len]; exact small_lt (k := 3) (by omega) (by decide), ?_⟩
          have y : Ext (fun x => x = bo) H7 (upd H7 bo (.lst (nV bs ++ [.int v]))) := Ext.put hbo7 rfl (fun _ z => by cases z) (fun _ z => by cases z)
          have hbo8 : (upd H7 bo (.lst (nV bs ++ [.int v]))) bo = some (.lst (nV (bs ++ [v]))) := by rw [upd_same, nV_snoc]
          generalize upd H7 bo (.lst (nV bs ++ [.int v])) = H8 at y hbo8 ⊢
          have x8 := x7.trans y
          have ha8 := (x6.hide bo0 x8).tup _ _ ha
          have ekb : (bs ++ [v])[k]? = some v := by
            rw [List.getElem?_append_right (by omega), bl, Nat.sub_self]
            rfl
          have esl : ((home : Int) - (f.boxes : Int)) = ((home - f.boxes : Nat) : Int) := by omega
          refine ⟨_, rfl, _, rfl, _, _, rfl, rfl, _, rfl, ite2 (fun e2 => ?_) (fun e2 => ?_)⟩
          · refine ⟨_, rfl, _, rfl, _, rfl, bo, _, k, _, rfl, rfl, SqL.of hbo8, atI_nat (nV_at ekb), _, rfl, _, rfl, a, _, 0, _, rfl, rfl, SqT.of ha8, atI_nat (j := 0) rfl, _, _, rfl, rfl, by show 3 ≤ sizeLine; decide, fun m1 nm1 => ⟨by show 1 ≤ sizeLine; decide, fun o1 no1 => ?_⟩⟩
            obtain ⟨ah', vs, eA, hA, allA⟩ := hah7.tupE
            obtain rfl : ah = ah' := V.ref.inj eA
            have lenA := allA.len
            rw [List.length_map] at lenA
            have y2 : Ext (fun x => x = bo) H8 (upd (upd H8 m1 (.tup [.str "load", .int v, .int ((home : Int) - (f.boxes : Int))])) o1 (.tup [.ref m1])) := (Ext.new nm1).trans (Ext.new no1)
            have hm1 : (upd (upd H8 m1 (.tup [.str "load", .int v, .int ((home : Int) - (f.boxes : Int))])) o1 (.tup [.ref m1])) m1 = some (.tup [.str "load", .int v, .int ((home - f.boxes : Nat) : Int)]) := by rw [← esl]; exact (Ext.new (m := no) no1).tup _ _ upd_same
            have ho1 : (upd (upd H8 m1 (.tup [.str "load", .int v, .int ((home : Int) - (f.boxes : Int))])) o1 (.tup [.ref m1])) o1 = some (.tup [.ref m1]) := upd_same
            have hbo9 : (upd (upd H8 m1 (.tup [.str "load", .int v, .int ((home : Int) - (f.boxes : Int))])) o1 (.tup [.ref m1])) bo = some (.lst (nV (bs ++ [v]))) := ((Ext.new (m := no) nm1).trans (Ext.new no1)).lst (fun z => z) hbo8
            generalize upd (upd H8 m1 (.tup [.str "load", .int v, .int ((home : Int) - (f.boxes : Int))])) o1 (.tup [.ref m1]) = H9 at y2 hm1 ho1 hbo9 ⊢
            have y9 := y.trans y2
            have mvOk : Mv.Ok f (.load v (home - f.boxes)) := ⟨vlt, by omega⟩
            have mvTp : Tp H9 (.ref m1) (Mv.load v (home - f.boxes)).d := tp3 hm1
            refine ⟨ah, o1, vs, [.ref m1], rfl, rfl, SqT.of (y9.tup _ _ hA), SqT.of ho1, Nat.le_of_lt (small_lt (k := 4) (by show vs.length + 1 ≤ 4; omega) (by decide)), fun e3 => ?_, fun _ e3 => (nomatch e3), fun _ _ p np => ?_⟩
            · have am0 : am = [] := List.eq_nil_of_length_eq_zero (by rw [← lenA, e3]; rfl)
              subst am0
              exact ⟨o1, bh, [.load v (home - f.boxes)], hv, bs ++ [v], _, _, rfl, hbo9, by rw [List.length_append, bl]; rfl, memSnoc bb vlt, .tup ho1 (.cons mvTp .nil), by show 1 ≤ k + 1; omega, fun m h => by rw [List.mem_singleton.mp h]; exact mvOk, hbh7.ext y9, hl, hok, hfirst, x8.trans y2⟩
            · have y3 : Ext no H9 (upd H9 p (.tup (vs ++ [.ref m1]))) := Ext.new np
              exact ⟨p, bh, am ++ [.load v (home - f.boxes)], hv, bs ++ [v], _, _, rfl, y3.lst (fun z => z) hbo9, by rw [List.length_append, bl]; rfl, memSnoc bb vlt, .tup upd_same (snocTp ((allA.ext y9).ext y3) (mvTp.ext y3)), by rw [List.length_append]; exact Nat.succ_le_succ al, memSnoc aok mvOk, (hbh7.ext y9).ext y3, hl, hok, hfirst, (x8.trans y2).trans y3.of0⟩
          · refine ⟨_, rfl, _, rfl, a, _, 0, _, rfl, rfl, SqT.of ha8, atI_nat (j := 0) rfl, _, _, rfl, rfl, _, rfl, _, rfl, bo, _, k, _, rfl, rfl, SqL.of hbo8, atI_nat (nV_at ekb), by show 3 ≤ sizeLine; decide, fun m1 nm1 => ⟨by show 1 ≤ sizeLine; decide, fun o1 no1 => ?_⟩⟩
            have y2 : Ext (fun x => x = bo) H8 (upd (upd H8 m1 (.tup [.str "store", .int ((home : Int) - (f.boxes : Int)), .int v])) o1 (.tup [.ref m1])) := (Ext.new nm1).trans (Ext.new no1)
            have hm1 : (upd (upd H8 m1 (.tup [.str "store", .int ((home : Int) - (f.boxes : Int)), .int v])) o1 (.tup [.ref m1])) m1 = some (.tup [.str "store", .int ((home - f.boxes : Nat) : Int), .int v]) := by rw [← esl]; exact (Ext.new (m := no) no1).tup _ _ upd_same
            have ho1 : (upd (upd H8 m1 (.tup [.str "store", .int ((home : Int) - (f.boxes : Int)), .int v])) o1 (.tup [.ref m1])) o1 = some (.tup [.ref m1]) := upd_same
            have hbo9 : (upd (upd H8 m1 (.tup [.str "store", .int ((home : Int) - (f.boxes : Int)), .int v])) o1 (.tup [.ref m1])) bo = some (.lst (nV (bs ++ [v]))) := ((Ext.new (m := no) nm1).trans (Ext.new no1)).lst (fun z => z) hbo8
            generalize upd (upd H8 m1 (.tup [.str "store", .int ((home : Int) - (f.boxes : Int)), .int v])) o1 (.tup [.ref m1]) = H9 at y2 hm1 ho1 hbo9 ⊢
            have y9 := y.trans y2
            have mvOk : Mv.Ok f (.store (home - f.boxes) v) := ⟨by omega, vlt⟩
            have mvTp : Tp H9 (.ref m1) (Mv.store (home - f.boxes) v).d := tp3 hm1
            have f1 : fi = 1 := by
              have lt : ¬ fi ≤ (k : Int) := fun z => e2 (decide_eq_true z)
              rw [hfi] at lt ⊢
              split
              · rename_i h
                rw [if_pos h] at lt
                omega
              · rfl
            exact ⟨ah, o1, am, [.store (home - f.boxes) v], bs ++ [v], _, _, rfl, hbo9, by rw [List.length_append, bl]; rfl, memSnoc bb vlt, hah7.ext y9, Nat.le_succ_of_le al, aok, .tup ho1 (.cons mvTp .nil), Nat.le_refl _, fun m h => by rw [List.mem_singleton.mp h]; exact mvOk, fun _ => ⟨f1, by omega⟩, x8.trans y2⟩
      · rintro σ H7 ⟨ah, bh, am, hv, bs, v10, v11, rfl, hbo7, bl, bb, hah7, al, aok, hbh7, hl, hok, hfirst, x7⟩
        refine ⟨_, rfl, _, rfl, bo, _, rfl, .inl ⟨SqL.of hbo7, fun t nt => ⟨_, rfl, by show 3 ≤ sizeLine; decide, fun g ng => ?_⟩⟩⟩
        have y : Ext no H7 (upd (upd H7 t (.tup (nV bs))) g (.tup [.ref ah, .ref t, .ref bh])) := (Ext.new nt).trans (Ext.new ng)
        rw [nV_len] at bl al
        refine q _ g ⟨am, bs, hv⟩ ⟨Nat.le_trans al (by omega), Nat.le_trans hl (by decide), aok, hok, fun stop => ?_, bl, bb⟩ (.tup upd_same (.cons (hah7.ext y) (.cons (.tup ((Ext.new (m := no) ng).tup _ _ upd_same) (TpAll.nats bs)) (.cons (hbh7.ext y) .nil)))) ((x6.hide bo0 x7).trans y)
        refine Classical.byContradiction fun ne => ?_
        obtain ⟨f1, pos⟩ := hfirst ne
        rcases stays stop with h | h
        · rw [bare_names h] at pos
          exact absurd pos (Nat.lt_irrefl 0)
        · rw [hfi, h] at f1
          cases f1
    · rw [Bool.not_eq_true] at lg
      rw [lg]
      refine iteF ⟨_, rfl, 1, rfl, 2, rfl, r, _, rfl, hT5, notAll2 (row_pos row), fun s1 ns1 => ⟨s1, _, rfl, .inr (SqT.of upd_same), fun nm nnm => ?_⟩⟩
      have w3 : Ext no H4 (upd (upd H4 s1 (.tup (cutV (rowV row) (some 1) (some 2)))) nm (.lst (cutV (rowV row) (some 1) (some 2)))) := (Ext.new ns1).trans (Ext.new nnm)
      have hnm4 : (upd (upd H4 s1 (.tup (cutV (rowV row) (some 1) (some 2)))) nm (.lst (cutV (rowV row) (some 1) (some 2)))) nm = some (.lst (((rowV row).drop 1).take 1)) := by rw [upd_same, cut2]
      generalize upd (upd H4 s1 (.tup (cutV (rowV row) (some 1) (some 2)))) nm (.lst (cutV (rowV row) (some 1) (some 2))) = H4b at w3 hnm4 ⊢
      have x4b := x4.trans w3
      refine ⟨_, rfl, r, _, 0, _, rfl, rfl, SqT.of (x4b.tup _ _ hrow), first_word' row, by show 2 ≤ sizeLine; decide, fun t3 nt3 => ⟨t3, _, rfl, .inr (SqT.of upd_same), rfl, rfl, _, rfl, ?_⟩⟩
      show if inV (.str (wordOf row)) [.str "go", .str "end"] = true then _ else _
      rw [in_bare]
      have w4 : Ext no H4b (upd H4b t3 (.tup [.str "go", .str "end"])) := Ext.new nt3
      generalize upd H4b t3 (.tup [.str "go", .str "end"]) = H4c at w4 ⊢
      by_cases br : isBare row = true
      · rw [br]
        refine iteT ⟨Nat.zero_le _, fun nm nnm => ?_⟩
        have w5 : Ext no H4c (upd H4c nm (.lst [])) := Ext.new nnm
        have hnm : (upd H4c nm (.lst [])) nm = some (.lst (nV (rowNames row))) := by rw [upd_same, bare_names br]; rfl
        generalize upd H4c nm (.lst []) = H5 at w5 hnm ⊢
        have x5 := (x4b.trans w4).trans w5
        have hsp := ((w3.trans w4).trans w5).lst (fun z => z) hsp4
        -- ahead, boxes, behind = (), [], ()
        refine ⟨Nat.zero_le _, fun ah0 nah => ⟨Nat.zero_le _, fun bo nbo => ⟨Nat.zero_le _, fun bh0 nbh => ⟨_, _, _, rfl, ?_⟩⟩⟩⟩
        have z1 : Ext no H5 (upd (upd (upd H5 ah0 (.tup [])) bo (.lst [])) bh0 (.tup [])) := ((Ext.new nah).trans (Ext.new nbo)).trans (Ext.new nbh)
        have hah : (upd (upd (upd H5 ah0 (.tup [])) bo (.lst [])) bh0 (.tup [])) ah0 = some (.tup []) := ((Ext.new (m := no) nbo).trans (Ext.new nbh)).tup _ _ upd_same
        have hbo : (upd (upd (upd H5 ah0 (.tup [])) bo (.lst [])) bh0 (.tup [])) bo = some (.lst (nV [])) := (Ext.new (m := no) nbh).lst (fun z => z) upd_same
        have hbh : (upd (upd (upd H5 ah0 (.tup [])) bo (.lst [])) bh0 (.tup [])) bh0 = some (.tup []) := upd_same
        have nmb : ¬ nm = bo := lstNe ((Ext.new (m := no) nah).lst (fun z => z) hnm) nbo
        have spb : ¬ sp = bo := lstNe ((Ext.new (m := no) nah).lst (fun z => z) hsp) nbo
        have bo0 : H bo = none := (x5.trans (Ext.new nah)).dom bo nbo
        generalize upd (upd (upd H5 ah0 (.tup [])) bo (.lst [])) bh0 (.tup []) = H6 at z1 hah hbo hbh ⊢
        have x6 : Ext no H H6 := x5.trans z1
        have hnm6 := z1.lst (fun z => z) hnm
        have nfew := names_few row
        refine ⟨_, rfl, nm, _, rfl, .inl (SqL.of hnm6), ((nV (rowNames row)).length : Int), rfl, by rw [nV_len]; omega, by rw [nV_len]; omega, for_range (lo := 0) (n := (nV (rowNames row)).length) (fun k σ H7 => ∃ (ah bh : Addr) (am hv : List Mv) (bs : List Nat) (v10 v11 : Option V),
            σ = [some x, some (.ref r), some (.ref hm), some (.ref a), some (.ref sp), some (.int fi), some (.ref nm), some (.ref ah), some (.ref bo), some (.ref bh), v10, v11, none] ∧ H7 bo = some (.lst (nV bs)) ∧ bs.length = k ∧ (∀ y ∈ bs, y < f.boxes) ∧ Tp H7 (.ref ah) (.tuple (am.map Mv.d)) ∧ am.length ≤ k ∧ (∀ m ∈ am, Mv.Ok f m) ∧
            Tp H7 (.ref bh) (.tuple (hv.map Mv.d)) ∧ hv.length ≤ 1 ∧ (∀ m ∈ hv, Mv.Ok f m) ∧ (hv ≠ [] → fi = 1 ∧ 0 < (rowNames row).length) ∧ Ext (fun x => x = bo) H6 H7)
          ⟨ah0, bh0, [], [], [], _, _, rfl, hbo, rfl, fun y h => by simp at h, .tup hah .nil, Nat.le_refl _, fun m h => by simp at h, .tup hbh .nil, Nat.zero_le _, fun m h => by simp at h, fun h => absurd rfl h, Ext.refl _ _⟩ ?_ ?_⟩
        · rintro k σ H7 hk ⟨ah, bh, am, hv, bs, v10, v11, rfl, hbo7, bl, bb, hah7, al, aok, hbh7, hl, hok, hfirst, x7⟩
          rw [show ((0 : Int) + (k : Int)) = (k : Int) from Int.zero_add _]
          have x07 := x6.hide bo0 x7
          have kn : k < (rowNames row).length := by rw [← nV_len]; exact hk
          have ein : (rowNames row)[k]? = some (rowNames row)[k] := List.getElem?_eq_getElem kn
          have nlt : (rowNames row)[k] < hs.length := by rw [hsl]; exact rowNames_ok rok _ (List.getElem_mem kn)
          generalize hn : (rowNames row)[k] = n at ein nlt
          have eih : hs[n]? = some hs[n] := List.getElem?_eq_getElem nlt
          have hlt := htot _ (List.getElem_mem nlt)
          generalize hh : hs[n] = home at eih hlt
          have ha7 := x07.tup _ _ ha
          have hhm7 := x07.lst (fun z => z) hhm
          have hsp7 := x7.lst spb (z1.lst (fun z => z) hsp)
          refine ⟨_, rfl, _, rfl, _, rfl, nm, _, k, _, rfl, rfl, SqL.of (x7.lst nmb hnm6), atI_nat (nV_at ein), hm, _, n, _, rfl, rfl, SqL.of hhm7, atI_nat (nV_at eih), ?_⟩
          refine ⟨_, rfl, _, rfl, a, _, 0, _, rfl, rfl, SqT.of ha7, atI_nat (j := 0) rfl, _, _, rfl, rfl, _, rfl, ite2 (fun e1 => ?_) (fun e1 => ?_)⟩
          · have lt : home < f.boxes := by have := of_decide_eq_true e1; omega
            refine ⟨_, rfl, .inl ⟨rfl, _, SqL.of hbo7⟩, _, rfl, bo, _, _, rfl, rfl, hbo7, by rw [nV_len]; exact small_lt (k := 3) (by omega) (by decide), ?_⟩
            have y : Ext (fun x => x = bo) H7 (upd H7 bo (.lst (nV bs ++ [.int home]))) := Ext.put hbo7 rfl (fun _ z => by cases z) (fun _ z => by cases z)
            exact ⟨ah, bh, am, hv, bs ++ [home], _, _, rfl, by rw [upd_same, nV_snoc], by rw [List.length_append, bl]; rfl, memSnoc bb lt, hah7.ext y, Nat.le_succ_of_le al, aok, hbh7.ext y, hl, hok, hfirst, x7.trans y⟩
          · have ge : f.boxes ≤ home := by
              have : ¬ (home : Int) < (f.boxes : Int) := fun z => e1 (decide_eq_true z)
              omega
            have spl : k % spare.length < spare.length := Nat.mod_lt _ spos
            have eis : spare[k % spare.length]? = some spare[k % spare.length] := List.getElem?_eq_getElem spl
            have vlt := sall _ (List.getElem_mem spl)
            generalize spare[k % spare.length] = v at eis vlt
            have eat : atI (nV spare) ((k : Int) % ((nV spare).length : Int)) = some (.int v) := by
              rw [nV_len, emodN]
              exact atI_nat (nV_at eis)
            refine ⟨_, rfl, .inl ⟨rfl, _, SqL.of hbo7⟩, _, rfl, _, rfl, _, rfl, sp, _, rfl, .inl (SqL.of hsp7), _, _, rfl, rfl, by rw [nV_len]; omega, sp, _, _, _, rfl, rfl, SqL.of hsp7, eat, bo, _, _, rfl, rfl, hbo7, by rw [nV_len]; exact small_lt (k := 3) (by omega) (by decide), ?_⟩
            have y : Ext (fun x => x = bo) H7 (upd H7 bo (.lst (nV bs ++ [.int v]))) := Ext.put hbo7 rfl (fun _ z => by cases z) (fun _ z => by cases z)
            have hbo8 : (upd H7 bo (.lst (nV bs ++ [.int v]))) bo = some (.lst (nV (bs ++ [v]))) := by rw [upd_same, nV_snoc]
            generalize upd H7 bo (.lst (nV bs ++ [.int v])) = H8 at y hbo8 ⊢
            have x8 := x7.trans y
            have ha8 := (x6.hide bo0 x8).tup _ _ ha
            have ekb : (bs ++ [v])[k]? = some v := by
              rw [List.getElem?_append_right (by omega), bl, Nat.sub_self]
              rfl
            have esl : ((home : Int) - (f.boxes : Int)) = ((home - f.boxes : Nat) : Int) := by omega
            refine ⟨_, rfl, _, rfl, _, _, rfl, rfl, _, rfl, ite2 (fun e2 => ?_) (fun e2 => ?_)⟩
            · refine ⟨_, rfl, _, rfl, _, rfl, bo, _, k, _, rfl, rfl, SqL.of hbo8, atI_nat (nV_at ekb), _, rfl, _, rfl, a, _, 0, _, rfl, rfl, SqT.of ha8, atI_nat (j := 0) rfl, _, _, rfl, rfl, by show 3 ≤ sizeLine; decide, fun m1 nm1 => ⟨by show 1 ≤ sizeLine; decide, fun o1 no1 => ?_⟩⟩
              obtain ⟨ah', vs, eA, hA, allA⟩ := hah7.tupE
              obtain rfl : ah = ah' := V.ref.inj eA
              have lenA := allA.len
              rw [List.length_map] at lenA
              have y2 : Ext (fun x => x = bo) H8 (upd (upd H8 m1 (.tup [.str "load", .int v, .int ((home : Int) - (f.boxes : Int))])) o1 (.tup [.ref m1])) := (Ext.new nm1).trans (Ext.new no1)
              have hm1 : (upd (upd H8 m1 (.tup [.str "load", .int v, .int ((home : Int) - (f.boxes : Int))])) o1 (.tup [.ref m1])) m1 = some (.tup [.str "load", .int v, .int ((home - f.boxes : Nat) : Int)]) := by rw [← esl]; exact (Ext.new (m := no) no1).tup _ _ upd_same
              have ho1 : (upd (upd H8 m1 (.tup [.str "load", .int v, .int ((home : Int) - (f.boxes : Int))])) o1 (.tup [.ref m1])) o1 = some (.tup [.ref m1]) := upd_same
              have hbo9 : (upd (upd H8 m1 (.tup [.str "load", .int v, .int ((home : Int) - (f.boxes : Int))])) o1 (.tup [.ref m1])) bo = some (.lst (nV (bs ++ [v]))) := ((Ext.new (m := no) nm1).trans (Ext.new no1)).lst (fun z => z) hbo8
              generalize upd (upd H8 m1 (.tup [.str "load", .int v, .int ((home : Int) - (f.boxes : Int))])) o1 (.tup [.ref m1]) = H9 at y2 hm1 ho1 hbo9 ⊢
              have y9 := y.trans y2
              have mvOk : Mv.Ok f (.load v (home - f.boxes)) := ⟨vlt, by omega⟩
              have mvTp : Tp H9 (.ref m1) (Mv.load v (home - f.boxes)).d := tp3 hm1
              refine ⟨ah, o1, vs, [.ref m1], rfl, rfl, SqT.of (y9.tup _ _ hA), SqT.of ho1, Nat.le_of_lt (small_lt (k := 4) (by show vs.length + 1 ≤ 4; omega) (by decide)), fun e3 => ?_, fun _ e3 => (nomatch e3), fun _ _ p np => ?_⟩
              · have am0 : am = [] := List.eq_nil_of_length_eq_zero (by rw [← lenA, e3]; rfl)
                subst am0
                exact ⟨o1, bh, [.load v (home - f.boxes)], hv, bs ++ [v], _, _, rfl, hbo9, by rw [List.length_append, bl]; rfl, memSnoc bb vlt, .tup ho1 (.cons mvTp .nil), by show 1 ≤ k + 1; omega, fun m h => by rw [List.mem_singleton.mp h]; exact mvOk, hbh7.ext y9, hl, hok, hfirst, x8.trans y2⟩
              · have y3 : Ext no H9 (upd H9 p (.tup (vs ++ [.ref m1]))) := Ext.new np
                exact ⟨p, bh, am ++ [.load v (home - f.boxes)], hv, bs ++ [v], _, _, rfl, y3.lst (fun z => z) hbo9, by rw [List.length_append, bl]; rfl, memSnoc bb vlt, .tup upd_same (snocTp ((allA.ext y9).ext y3) (mvTp.ext y3)), by rw [List.length_append]; exact Nat.succ_le_succ al, memSnoc aok mvOk, (hbh7.ext y9).ext y3, hl, hok, hfirst, (x8.trans y2).trans y3.of0⟩
            · refine ⟨_, rfl, _, rfl, a, _, 0, _, rfl, rfl, SqT.of ha8, atI_nat (j := 0) rfl, _, _, rfl, rfl, _, rfl, _, rfl, bo, _, k, _, rfl, rfl, SqL.of hbo8, atI_nat (nV_at ekb), by show 3 ≤ sizeLine; decide, fun m1 nm1 => ⟨by show 1 ≤ sizeLine; decide, fun o1 no1 => ?_⟩⟩
              have y2 : Ext (fun x => x = bo) H8 (upd (upd H8 m1 (.tup [.str "store", .int ((home : Int) - (f.boxes : Int)), .int v])) o1 (.tup [.ref m1])) := (Ext.new nm1).trans (Ext.new no1)
              have hm1 : (upd (upd H8 m1 (.tup [.str "store", .int ((home : Int) - (f.boxes : Int)), .int v])) o1 (.tup [.ref m1])) m1 = some (.tup [.str "store", .int ((home - f.boxes : Nat) : Int), .int v]) := by rw [← esl]; exact (Ext.new (m := no) no1).tup _ _ upd_same
              have ho1 : (upd (upd H8 m1 (.tup [.str "store", .int ((home : Int) - (f.boxes : Int)), .int v])) o1 (.tup [.ref m1])) o1 = some (.tup [.ref m1]) := upd_same
              have hbo9 : (upd (upd H8 m1 (.tup [.str "store", .int ((home : Int) - (f.boxes : Int)), .int v])) o1 (.tup [.ref m1])) bo = some (.lst (nV (bs ++ [v]))) := ((Ext.new (m := no) nm1).trans (Ext.new no1)).lst (fun z => z) hbo8
              generalize upd (upd H8 m1 (.tup [.str "store", .int ((home : Int) - (f.boxes : Int)), .int v])) o1 (.tup [.ref m1]) = H9 at y2 hm1 ho1 hbo9 ⊢
              have y9 := y.trans y2
              have mvOk : Mv.Ok f (.store (home - f.boxes) v) := ⟨by omega, vlt⟩
              have mvTp : Tp H9 (.ref m1) (Mv.store (home - f.boxes) v).d := tp3 hm1
              have f1 : fi = 1 := by
                have lt : ¬ fi ≤ (k : Int) := fun z => e2 (decide_eq_true z)
                rw [hfi] at lt ⊢
                split
                · rename_i h
                  rw [if_pos h] at lt
                  omega
                · rfl
              exact ⟨ah, o1, am, [.store (home - f.boxes) v], bs ++ [v], _, _, rfl, hbo9, by rw [List.length_append, bl]; rfl, memSnoc bb vlt, hah7.ext y9, Nat.le_succ_of_le al, aok, .tup ho1 (.cons mvTp .nil), Nat.le_refl _, fun m h => by rw [List.mem_singleton.mp h]; exact mvOk, fun _ => ⟨f1, by omega⟩, x8.trans y2⟩
        · rintro σ H7 ⟨ah, bh, am, hv, bs, v10, v11, rfl, hbo7, bl, bb, hah7, al, aok, hbh7, hl, hok, hfirst, x7⟩
          refine ⟨_, rfl, _, rfl, bo, _, rfl, .inl ⟨SqL.of hbo7, fun t nt => ⟨_, rfl, by show 3 ≤ sizeLine; decide, fun g ng => ?_⟩⟩⟩
          have y : Ext no H7 (upd (upd H7 t (.tup (nV bs))) g (.tup [.ref ah, .ref t, .ref bh])) := (Ext.new nt).trans (Ext.new ng)
          rw [nV_len] at bl al
          refine q _ g ⟨am, bs, hv⟩ ⟨Nat.le_trans al (by omega), Nat.le_trans hl (by decide), aok, hok, fun stop => ?_, bl, bb⟩ (.tup upd_same (.cons (hah7.ext y) (.cons (.tup ((Ext.new (m := no) ng).tup _ _ upd_same) (TpAll.nats bs)) (.cons (hbh7.ext y) .nil)))) ((x6.hide bo0 x7).trans y)
          refine Classical.byContradiction fun ne => ?_
          obtain ⟨f1, pos⟩ := hfirst ne
          rcases stays stop with h | h
          · rw [bare_names h] at pos
            exact absurd pos (Nat.lt_irrefl 0)
          · rw [hfi, h] at f1
            cases f1
      · rw [Bool.not_eq_true] at br
        rw [br]
        refine iteF ⟨_, rfl, ?_⟩
        have x5 := x4b.trans w4
        have hnm : H4c nm = some (.lst (nV (rowNames row))) := by rw [← short_names lg br]; exact w4.lst (fun z => z) hnm4
        have hsp := (w3.trans w4).lst (fun z => z) hsp4
        -- ahead, boxes, behind = (), [], ()
        refine ⟨Nat.zero_le _, fun ah0 nah => ⟨Nat.zero_le _, fun bo nbo => ⟨Nat.zero_le _, fun bh0 nbh => ⟨_, _, _, rfl, ?_⟩⟩⟩⟩
        have z1 : Ext no H4c (upd (upd (upd H4c ah0 (.tup [])) bo (.lst [])) bh0 (.tup [])) := ((Ext.new nah).trans (Ext.new nbo)).trans (Ext.new nbh)
        have hah : (upd (upd (upd H4c ah0 (.tup [])) bo (.lst [])) bh0 (.tup [])) ah0 = some (.tup []) := ((Ext.new (m := no) nbo).trans (Ext.new nbh)).tup _ _ upd_same
        have hbo : (upd (upd (upd H4c ah0 (.tup [])) bo (.lst [])) bh0 (.tup [])) bo = some (.lst (nV [])) := (Ext.new (m := no) nbh).lst (fun z => z) upd_same
        have hbh : (upd (upd (upd H4c ah0 (.tup [])) bo (.lst [])) bh0 (.tup [])) bh0 = some (.tup []) := upd_same
        have nmb : ¬ nm = bo := lstNe ((Ext.new (m := no) nah).lst (fun z => z) hnm) nbo
        have spb : ¬ sp = bo := lstNe ((Ext.new (m := no) nah).lst (fun z => z) hsp) nbo
        have bo0 : H bo = none := (x5.trans (Ext.new nah)).dom bo nbo
        generalize upd (upd (upd H4c ah0 (.tup [])) bo (.lst [])) bh0 (.tup []) = H6 at z1 hah hbo hbh ⊢
        have x6 : Ext no H H6 := x5.trans z1
        have hnm6 := z1.lst (fun z => z) hnm
        have nfew := names_few row
        refine ⟨_, rfl, nm, _, rfl, .inl (SqL.of hnm6), ((nV (rowNames row)).length : Int), rfl, by rw [nV_len]; omega, by rw [nV_len]; omega, for_range (lo := 0) (n := (nV (rowNames row)).length) (fun k σ H7 => ∃ (ah bh : Addr) (am hv : List Mv) (bs : List Nat) (v10 v11 : Option V),
            σ = [some x, some (.ref r), some (.ref hm), some (.ref a), some (.ref sp), some (.int fi), some (.ref nm), some (.ref ah), some (.ref bo), some (.ref bh), v10, v11, none] ∧ H7 bo = some (.lst (nV bs)) ∧ bs.length = k ∧ (∀ y ∈ bs, y < f.boxes) ∧ Tp H7 (.ref ah) (.tuple (am.map Mv.d)) ∧ am.length ≤ k ∧ (∀ m ∈ am, Mv.Ok f m) ∧
            Tp H7 (.ref bh) (.tuple (hv.map Mv.d)) ∧ hv.length ≤ 1 ∧ (∀ m ∈ hv, Mv.Ok f m) ∧ (hv ≠ [] → fi = 1 ∧ 0 < (rowNames row).length) ∧ Ext (fun x => x = bo) H6 H7)
          ⟨ah0, bh0, [], [], [], _, _, rfl, hbo, rfl, fun y h => by simp at h, .tup hah .nil, Nat.le_refl _, fun m h => by simp at h, .tup hbh .nil, Nat.zero_le _, fun m h => by simp at h, fun h => absurd rfl h, Ext.refl _ _⟩ ?_ ?_⟩
        · rintro k σ H7 hk ⟨ah, bh, am, hv, bs, v10, v11, rfl, hbo7, bl, bb, hah7, al, aok, hbh7, hl, hok, hfirst, x7⟩
          rw [show ((0 : Int) + (k : Int)) = (k : Int) from Int.zero_add _]
          have x07 := x6.hide bo0 x7
          have kn : k < (rowNames row).length := by rw [← nV_len]; exact hk
          have ein : (rowNames row)[k]? = some (rowNames row)[k] := List.getElem?_eq_getElem kn
          have nlt : (rowNames row)[k] < hs.length := by rw [hsl]; exact rowNames_ok rok _ (List.getElem_mem kn)
          generalize hn : (rowNames row)[k] = n at ein nlt
          have eih : hs[n]? = some hs[n] := List.getElem?_eq_getElem nlt
          have hlt := htot _ (List.getElem_mem nlt)
          generalize hh : hs[n] = home at eih hlt
          have ha7 := x07.tup _ _ ha
          have hhm7 := x07.lst (fun z => z) hhm
          have hsp7 := x7.lst spb (z1.lst (fun z => z) hsp)
          refine ⟨_, rfl, _, rfl, _, rfl, nm, _, k, _, rfl, rfl, SqL.of (x7.lst nmb hnm6), atI_nat (nV_at ein), hm, _, n, _, rfl, rfl, SqL.of hhm7, atI_nat (nV_at eih), ?_⟩
          refine ⟨_, rfl, _, rfl, a, _, 0, _, rfl, rfl, SqT.of ha7, atI_nat (j := 0) rfl, _, _, rfl, rfl, _, rfl, ite2 (fun e1 => ?_) (fun e1 => ?_)⟩
          · have lt : home < f.boxes := by have := of_decide_eq_true e1; omega
            refine ⟨_, rfl, .inl ⟨rfl, _, SqL.of hbo7⟩, _, rfl, bo, _, _, rfl, rfl, hbo7, by rw [nV_len]; exact small_lt (k := 3) (by omega) (by decide), ?_⟩
            have y : Ext (fun x => x = bo) H7 (upd H7 bo (.lst (nV bs ++ [.int home]))) := Ext.put hbo7 rfl (fun _ z => by cases z) (fun _ z => by cases z)
            exact ⟨ah, bh, am, hv, bs ++ [home], _, _, rfl, by rw [upd_same, nV_snoc], by rw [List.length_append, bl]; rfl, memSnoc bb lt, hah7.ext y, Nat.le_succ_of_le al, aok, hbh7.ext y, hl, hok, hfirst, x7.trans y⟩
          · have ge : f.boxes ≤ home := by
              have : ¬ (home : Int) < (f.boxes : Int) := fun z => e1 (decide_eq_true z)
              omega
            have spl : k % spare.length < spare.length := Nat.mod_lt _ spos
            have eis : spare[k % spare.length]? = some spare[k % spare.length] := List.getElem?_eq_getElem spl
            have vlt := sall _ (List.getElem_mem spl)
            generalize spare[k % spare.length] = v at eis vlt
            have eat : atI (nV spare) ((k : Int) % ((nV spare).length : Int)) = some (.int v) := by
              rw [nV_len, emodN]
              exact atI_nat (nV_at eis)
            refine ⟨_, rfl, .inl ⟨rfl, _, SqL.of hbo7⟩, _, rfl, _, rfl, _, rfl, sp, _, rfl, .inl (SqL.of hsp7), _, _, rfl, rfl, by rw [nV_len]; omega, sp, _, _, _, rfl, rfl, SqL.of hsp7, eat, bo, _, _, rfl, rfl, hbo7, by rw [nV_len]; exact small_lt (k := 3) (by omega) (by decide), ?_⟩
            have y : Ext (fun x => x = bo) H7 (upd H7 bo (.lst (nV bs ++ [.int v]))) := Ext.put hbo7 rfl (fun _ z => by cases z) (fun _ z => by cases z)
            have hbo8 : (upd H7 bo (.lst (nV bs ++ [.int v]))) bo = some (.lst (nV (bs ++ [v]))) := by rw [upd_same, nV_snoc]
            generalize upd H7 bo (.lst (nV bs ++ [.int v])) = H8 at y hbo8 ⊢
            have x8 := x7.trans y
            have ha8 := (x6.hide bo0 x8).tup _ _ ha
            have ekb : (bs ++ [v])[k]? = some v := by
              rw [List.getElem?_append_right (by omega), bl, Nat.sub_self]
              rfl
            have esl : ((home : Int) - (f.boxes : Int)) = ((home - f.boxes : Nat) : Int) := by omega
            refine ⟨_, rfl, _, rfl, _, _, rfl, rfl, _, rfl, ite2 (fun e2 => ?_) (fun e2 => ?_)⟩
            · refine ⟨_, rfl, _, rfl, _, rfl, bo, _, k, _, rfl, rfl, SqL.of hbo8, atI_nat (nV_at ekb), _, rfl, _, rfl, a, _, 0, _, rfl, rfl, SqT.of ha8, atI_nat (j := 0) rfl, _, _, rfl, rfl, by show 3 ≤ sizeLine; decide, fun m1 nm1 => ⟨by show 1 ≤ sizeLine; decide, fun o1 no1 => ?_⟩⟩
              obtain ⟨ah', vs, eA, hA, allA⟩ := hah7.tupE
              obtain rfl : ah = ah' := V.ref.inj eA
              have lenA := allA.len
              rw [List.length_map] at lenA
              have y2 : Ext (fun x => x = bo) H8 (upd (upd H8 m1 (.tup [.str "load", .int v, .int ((home : Int) - (f.boxes : Int))])) o1 (.tup [.ref m1])) := (Ext.new nm1).trans (Ext.new no1)
              have hm1 : (upd (upd H8 m1 (.tup [.str "load", .int v, .int ((home : Int) - (f.boxes : Int))])) o1 (.tup [.ref m1])) m1 = some (.tup [.str "load", .int v, .int ((home - f.boxes : Nat) : Int)]) := by rw [← esl]; exact (Ext.new (m := no) no1).tup _ _ upd_same
              have ho1 : (upd (upd H8 m1 (.tup [.str "load", .int v, .int ((home : Int) - (f.boxes : Int))])) o1 (.tup [.ref m1])) o1 = some (.tup [.ref m1]) := upd_same
              have hbo9 : (upd (upd H8 m1 (.tup [.str "load", .int v, .int ((home : Int) - (f.boxes : Int))])) o1 (.tup [.ref m1])) bo = some (.lst (nV (bs ++ [v]))) := ((Ext.new (m := no) nm1).trans (Ext.new no1)).lst (fun z => z) hbo8
              generalize upd (upd H8 m1 (.tup [.str "load", .int v, .int ((home : Int) - (f.boxes : Int))])) o1 (.tup [.ref m1]) = H9 at y2 hm1 ho1 hbo9 ⊢
              have y9 := y.trans y2
              have mvOk : Mv.Ok f (.load v (home - f.boxes)) := ⟨vlt, by omega⟩
              have mvTp : Tp H9 (.ref m1) (Mv.load v (home - f.boxes)).d := tp3 hm1
              refine ⟨ah, o1, vs, [.ref m1], rfl, rfl, SqT.of (y9.tup _ _ hA), SqT.of ho1, Nat.le_of_lt (small_lt (k := 4) (by show vs.length + 1 ≤ 4; omega) (by decide)), fun e3 => ?_, fun _ e3 => (nomatch e3), fun _ _ p np => ?_⟩
              · have am0 : am = [] := List.eq_nil_of_length_eq_zero (by rw [← lenA, e3]; rfl)
                subst am0
                exact ⟨o1, bh, [.load v (home - f.boxes)], hv, bs ++ [v], _, _, rfl, hbo9, by rw [List.length_append, bl]; rfl, memSnoc bb vlt, .tup ho1 (.cons mvTp .nil), by show 1 ≤ k + 1; omega, fun m h => by rw [List.mem_singleton.mp h]; exact mvOk, hbh7.ext y9, hl, hok, hfirst, x8.trans y2⟩
              · have y3 : Ext no H9 (upd H9 p (.tup (vs ++ [.ref m1]))) := Ext.new np
                exact ⟨p, bh, am ++ [.load v (home - f.boxes)], hv, bs ++ [v], _, _, rfl, y3.lst (fun z => z) hbo9, by rw [List.length_append, bl]; rfl, memSnoc bb vlt, .tup upd_same (snocTp ((allA.ext y9).ext y3) (mvTp.ext y3)), by rw [List.length_append]; exact Nat.succ_le_succ al, memSnoc aok mvOk, (hbh7.ext y9).ext y3, hl, hok, hfirst, (x8.trans y2).trans y3.of0⟩
            · refine ⟨_, rfl, _, rfl, a, _, 0, _, rfl, rfl, SqT.of ha8, atI_nat (j := 0) rfl, _, _, rfl, rfl, _, rfl, _, rfl, bo, _, k, _, rfl, rfl, SqL.of hbo8, atI_nat (nV_at ekb), by show 3 ≤ sizeLine; decide, fun m1 nm1 => ⟨by show 1 ≤ sizeLine; decide, fun o1 no1 => ?_⟩⟩
              have y2 : Ext (fun x => x = bo) H8 (upd (upd H8 m1 (.tup [.str "store", .int ((home : Int) - (f.boxes : Int)), .int v])) o1 (.tup [.ref m1])) := (Ext.new nm1).trans (Ext.new no1)
              have hm1 : (upd (upd H8 m1 (.tup [.str "store", .int ((home : Int) - (f.boxes : Int)), .int v])) o1 (.tup [.ref m1])) m1 = some (.tup [.str "store", .int ((home - f.boxes : Nat) : Int), .int v]) := by rw [← esl]; exact (Ext.new (m := no) no1).tup _ _ upd_same
              have ho1 : (upd (upd H8 m1 (.tup [.str "store", .int ((home : Int) - (f.boxes : Int)), .int v])) o1 (.tup [.ref m1])) o1 = some (.tup [.ref m1]) := upd_same
              have hbo9 : (upd (upd H8 m1 (.tup [.str "store", .int ((home : Int) - (f.boxes : Int)), .int v])) o1 (.tup [.ref m1])) bo = some (.lst (nV (bs ++ [v]))) := ((Ext.new (m := no) nm1).trans (Ext.new no1)).lst (fun z => z) hbo8
              generalize upd (upd H8 m1 (.tup [.str "store", .int ((home : Int) - (f.boxes : Int)), .int v])) o1 (.tup [.ref m1]) = H9 at y2 hm1 ho1 hbo9 ⊢
              have y9 := y.trans y2
              have mvOk : Mv.Ok f (.store (home - f.boxes) v) := ⟨by omega, vlt⟩
              have mvTp : Tp H9 (.ref m1) (Mv.store (home - f.boxes) v).d := tp3 hm1
              have f1 : fi = 1 := by
                have lt : ¬ fi ≤ (k : Int) := fun z => e2 (decide_eq_true z)
                rw [hfi] at lt ⊢
                split
                · rename_i h
                  rw [if_pos h] at lt
                  omega
                · rfl
              exact ⟨ah, o1, am, [.store (home - f.boxes) v], bs ++ [v], _, _, rfl, hbo9, by rw [List.length_append, bl]; rfl, memSnoc bb vlt, hah7.ext y9, Nat.le_succ_of_le al, aok, .tup ho1 (.cons mvTp .nil), Nat.le_refl _, fun m h => by rw [List.mem_singleton.mp h]; exact mvOk, fun _ => ⟨f1, by omega⟩, x8.trans y2⟩
        · rintro σ H7 ⟨ah, bh, am, hv, bs, v10, v11, rfl, hbo7, bl, bb, hah7, al, aok, hbh7, hl, hok, hfirst, x7⟩
          refine ⟨_, rfl, _, rfl, bo, _, rfl, .inl ⟨SqL.of hbo7, fun t nt => ⟨_, rfl, by show 3 ≤ sizeLine; decide, fun g ng => ?_⟩⟩⟩
          have y : Ext no H7 (upd (upd H7 t (.tup (nV bs))) g (.tup [.ref ah, .ref t, .ref bh])) := (Ext.new nt).trans (Ext.new ng)
          rw [nV_len] at bl al
          refine q _ g ⟨am, bs, hv⟩ ⟨Nat.le_trans al (by omega), Nat.le_trans hl (by decide), aok, hok, fun stop => ?_, bl, bb⟩ (.tup upd_same (.cons (hah7.ext y) (.cons (.tup ((Ext.new (m := no) ng).tup _ _ upd_same) (TpAll.nats bs)) (.cons (hbh7.ext y) .nil)))) ((x6.hide bo0 x7).trans y)
          refine Classical.byContradiction fun ne => ?_
          obtain ⟨f1, pos⟩ := hfirst ne
          rcases stays stop with h | h
          · rw [bare_names h] at pos
            exact absurd pos (Nat.lt_irrefl 0)
          · rw [hfi, h] at f1
            cases f1
end
end Bw
namespace Bw
open PySem PySem.Spec PyProof.Rows L2 GxR
theorem inV_nat (x : Nat) (me : List Nat) : inV (.int x) (nV me) = decide (x ∈ me) := by
  induction me with
  | nil => rfl
  | cons y me ih =>
    show ((y : Int) == (x : Int) || inV (.int x) (nV me)) = _
    rw [ih]
    by_cases e : x = y
    · subst e
      simp
    · have e1 : ((y : Int) == (x : Int)) = false := beq_eq_false_iff_ne.mpr (fun z => e (by omega))
      rw [e1]
      simp [e]
/-- among the first numbers there is one that a shorter list doesn't hold -/
theorem covered : ∀ (n : Nat) (me : List Nat), (∀ x, x < n → x ∈ me) → n ≤ me.length
  | 0, _, _ => Nat.zero_le _
  | n + 1, me, h => by
    have hn := h n (Nat.lt_succ_self n)
    have ih := covered n (me.erase n) fun x hx => (List.mem_erase_of_ne (Nat.ne_of_lt hx)).mpr (h x (Nat.lt_succ_of_lt hx))
    rw [List.length_erase_of_mem hn] at ih
    have : 0 < me.length := List.length_pos_of_mem hn
    omega
theorem unmet {n : Nat} {me : List Nat} (h : me.length < n) : ∃ x, x < n ∧ x ∉ me := by
  refine Classical.byContradiction fun no => ?_
  have := covered n me fun x hx => Classical.byContradiction fun z => no ⟨x, hx, z⟩
  omega
def toPl (boxes n : Nat) : Pl := if n < boxes then ⟨true, n⟩ else ⟨false, n - boxes⟩
theorem toPl_ne {boxes a b : Nat} (h : a ≠ b) : toPl boxes a ≠ toPl boxes b := by
  unfold toPl
  intro e
  split at e
  · split at e
    · exact h (congrArg Pl.n e)
    · cases (show true = false from congrArg Pl.box e)
  · split at e
    · cases (show false = true from congrArg Pl.box e)
    · have := congrArg Pl.n e
      simp only at this
      omega
theorem toPl_ok {f : Fr} {n : Nat} (h : n < f.boxes + f.slots) : Pl.Ok f (toPl f.boxes n) := by
  unfold toPl Pl.Ok
  split
  · simpa
  · simp
    omega
section
variable {base : Heap} {K : PySem.W.Frag} {mg : Str → Option Value} {P : Program} {w : World}
def spChoice : Sp := fun vs H Q _ => ∃ (b l pa a : Addr) (p : Prog) (f : Fr), vs = [.ref b, .ref pa, .ref a] ∧ BoxAt H b l ∧ ProgAt H pa p ∧ p.Ok ∧ FrAt H a f ∧ f.Ok ∧ p.params ≤ f.boxes + f.slots ∧
  ∀ H' t (c : Ch), Ch.Ok p f c → Tp H' (.ref t) c.d → BoxAt H' b l → Ext (bx b l) H H' → Q (.ref t) H'
abbrev nChoice : List Str := ["_law_box", "_law_program_here", "_law_frame_here", "_law_homes_here", "_law_places", "_law_met", "_law_name", "_law_some", "_law_place", "_law_row_here"]
theorem scChoice : FnScope nChoice ["_law_box", "_law_program_here", "_law_frame_here"] (defScope s_law_choice) := ⟨rfl, rfl, rfl, by decide +kernel, rfl, by decide +kernel, by decide +kernel⟩
theorem ok_choice {f fT fH fG : Addr} {fd fdT fdH fdG : FuncData} (D : Df K mg "_law_choice" s_law_choice ["_law_box", "_law_program_here", "_law_frame_here"] f fd) (DT : Df K mg "_law_take" s_take ["_law_box", "_law_many"] fT fdT)
    (DH : Df K mg "_law_homes" s_law_homes ["_law_box", "_law_names", "_law_frame_here"] fH fdH) (DG : Df K mg "_law_group" s_law_group ["_law_box", "_law_row_here", "_law_homes_here", "_law_frame_here"] fG fdG) (B : Bt mg) : FnOk P w K mg base CX0 3 f fd ["_law_box", "_law_program_here", "_law_frame_here"] spChoice := by
  have GH : FnOk P w K mg base CX0 2 fH fdH ["_law_box", "_law_names", "_law_frame_here"] spHomes := ok_homes DH DT B
  have GG : FnOk P w K mg base CX0 1 fG fdG ["_law_box", "_law_row_here", "_law_homes_here", "_law_frame_here"] spGroup := ok_group DG B
  refine D.F.ok scChoice (fun vs H Q E h => ?_) (fun cdv A outer s H vs Q E hr h => ?_)
  · obtain ⟨b, l, pa, a, p, f, rfl, _⟩ := h
    rfl
  · obtain ⟨b, l, pa, a, p, f, rfl, bo, hp, pok, hf, ok, fits, q⟩ := h
    have hr1 := hr.mono (show 1 ≤ 2 by decide)
    have hu := hr.units
    refine ⟨_, pss_cons (ps_set (i := 3) scChoice.nd rfl (.inr rfl) (pcall DH GH hr (pa_cons (pv 0) (pa_cons (pe_ix ix_tup (pv 1) pe_int (fun _ _ => rfl)) (pa_cons (pv 2) pa_nil)))))
      (pss_cons (ps_asg (pe_tup (pa_cons (pe_lst pa_nil) (pa_cons (pe_lst pa_nil) pa_nil))) (pg_tup rfl (pgs_cons (pg_name (i := 4) scChoice.nd rfl (.inl rfl)) (pgs_cons (pg_name (i := 5) scChoice.nd rfl (.inr rfl)) pgs_nil))))
      (pss_cons (ps_for PassesOwn.never rfl (pi_range1 (by rfl) B.range (pa_cons (pe_ix ix_tup (pv 1) pe_int (fun _ _ => rfl)) pa_nil)) (pg_name (i := 6) scChoice.nd rfl (.inl rfl))
        (pss_cons (ps_set (i := 7) scChoice.nd rfl (.inl rfl) (pe_op op_cat (pe_lst (pa_cons (pe_ix ix_list (pv 3) (pv 6) (fun _ _ => rfl)) pa_nil)) (pe_listRg rfl (by rfl) B.list (prg_1 (by rfl) B.range (pe_op op_add (pe_ix ix_tup (pv 2) pe_int (fun _ _ => rfl)) (pe_ix ix_tup (pv 2) pe_int (fun _ _ => rfl)))))))
        (pss_cons (ps_setLc (i := 7) (own := [("_law_place", 8)]) (g := gName 8) rfl scChoice.nd rfl rfl (sw_true rfl rfl rfl (by decide +kernel)) (pi_list (pv 7)) (blkOk_by (N := nChoice) (sc := defScope s_law_choice) (by decide +kernel))
          (fun _ _ _ _ _ => pg_name (i := 8) scChoice.nd rfl (Or.inl rfl)) (fun _ _ _ _ _ => pts_one (pt_cmpR (r := rIn K true) op_notIn_seq (pv 8) (pv 5) (by rfl))) (fun _ _ _ _ _ => pv 8))
        (pss_cons (ps_expr (pe_bm PySem.F.plainAttrs_list PySem.F.slot_list_append PySem.F.type_list_append mt_append (pv 5) (pa_cons (pe_ifExp (pt_cmpR (op_neD hu) (pv 7) (pe_lst pa_nil) (nomark _)) (pe_ix ix_list (pv 7) pe_int (fun _ _ => rfl)) pe_int) pa_nil)))
        (pss_one (ps_expr (pe_bm PySem.F.plainAttrs_list PySem.F.slot_list_append PySem.F.type_list_append mt_append (pv 4) (pa_cons (pe_ifExp (pt_cmpR op_lt (pe_ix ix_list (pv 5) (pe_un un_neg pe_int) (fun _ _ => rfl)) (pe_ix ix_tup (pv 2) pe_int (fun _ _ => rfl)) (nomark _))
            (pe_tup (pa_cons pe_str (pa_cons (pe_ix ix_list (pv 5) (pe_un un_neg pe_int) (fun _ _ => rfl)) pa_nil))) (pe_tup (pa_cons pe_str (pa_cons (pe_op op_sub (pe_ix ix_list (pv 5) (pe_un un_neg pe_int) (fun _ _ => rfl)) (pe_ix ix_tup (pv 2) pe_int (fun _ _ => rfl))) pa_nil)))) pa_nil))))))))
      (pss_one (ps_ret (pe_tup (pa_cons (pe_callTy call_tuple_of (by rfl) B.tuple (by decide +kernel) (pa_cons (pv 4) pa_nil)) (pa_cons (pe_callTy call_tuple_of (by rfl) B.tuple (by decide +kernel) (pa_cons
        (pe_lc (own := [("_law_row_here", 9)]) (g := gName 9) (tt := tYes) rfl scChoice.nd (pi_tup (pe_ix ix_tup (pv 1) pe_int (fun _ _ => rfl))) (blkOk_by (N := nChoice) (sc := defScope s_law_choice) (by decide +kernel))
          (fun _ _ _ _ _ => pg_name (i := 9) scChoice.nd rfl (Or.inl rfl)) (fun _ _ _ _ _ => pts_nil) (fun _ _ _ _ _ => pcall DG GG hr1 (pa_cons (pv 0) (pa_cons (pv 9) (pa_cons (pv 3) (pa_cons (pv 2) pa_nil)))))) pa_nil)) pa_nil))))))), ?_⟩
    obtain ⟨rs, as, hpa, hrs, hrows⟩ := hp.ex
    have n8 := pok.n1
    have pn := pok.pn
    have b6 := ok.b6
    have b1 := ok.b1
    have s8 := ok.s8
    have r24 := pok.r1
    -- homes
    refine ⟨_, rfl, _, rfl, pa, _, 1, _, rfl, rfl, SqT.of hpa, atI_nat (j := 1) rfl, _, rfl, b, l, a, p.names, f, rfl, bo, hf, ok, n8, fun H1 hm hs nhm hhm hsl htot bo1 x1 => ?_⟩
    -- places, met = [], []
    refine ⟨Nat.zero_le _, fun pl npl => ⟨Nat.zero_le _, fun mt nmt => ⟨by show 2 ≤ sizeLine; decide, fun tp ntp => ?_⟩⟩⟩
    have y1 : Ext no H1 (upd (upd (upd H1 pl (.lst [])) mt (.lst [])) tp (.tup [.ref pl, .ref mt])) := ((Ext.new npl).trans (Ext.new nmt)).trans (Ext.new ntp)
    have hpl2 : (upd (upd (upd H1 pl (.lst [])) mt (.lst [])) tp (.tup [.ref pl, .ref mt])) pl = some (.lst []) := ((Ext.new (m := no) nmt).trans (Ext.new ntp)).lst (fun z => z) upd_same
    have hmt2 : (upd (upd (upd H1 pl (.lst [])) mt (.lst [])) tp (.tup [.ref pl, .ref mt])) mt = some (.lst (nV [])) := (Ext.new (m := no) ntp).lst (fun z => z) upd_same
    have htp2 : (upd (upd (upd H1 pl (.lst [])) mt (.lst [])) tp (.tup [.ref pl, .ref mt])) tp = some (.tup [.ref pl, .ref mt]) := upd_same
    have plmt : pl ≠ mt := fun z => by rw [z, upd_same] at nmt; cases nmt
    have mt1 : H1 mt = none := (Ext.new (m := no) npl).dom mt nmt
    generalize upd (upd (upd H1 pl (.lst [])) mt (.lst [])) tp (.tup [.ref pl, .ref mt]) = H2 at y1 hpl2 hmt2 htp2 ⊢
    refine ⟨tp, _, rfl, SqT.of htp2, rfl, _, _, rfl, _, _, rfl, rfl, ?_⟩
    have x2 : Ext (bx b l) H H2 := x1.trans y1.of0
    have bo2 := bo1.ext y1 (fun z => z) (fun z => z)
    have hhm2 := y1.lst (fun z => z) hhm
    have hpa2 := x2.tup _ _ hpa
    have ha2 : FrAt H2 a f := hf.ext x2
    obtain ⟨e, hfa, hfe⟩ := ha2.ex
    let m2 : Addr → Prop := fun x => x = mt ∨ x = pl
    have hm_m2 : ¬ m2 hm := by
      rintro (z | z)
      · rw [z, mt1] at hhm; cases hhm
      · rw [z, npl] at hhm; cases hhm
    have b_m2 : ¬ m2 b ∧ ¬ m2 l := by
      have q1 := bo1.nb mt1
      have q2 := bo1.nb npl
      exact ⟨fun z => z.elim (fun z => q1 (.inl z.symm)) (fun z => q2 (.inl z.symm)), fun z => z.elim (fun z => q1 (.inr z.symm)) (fun z => q2 (.inr z.symm))⟩
    refine ⟨_, rfl, pa, _, 0, _, rfl, rfl, SqT.of hpa2, atI_nat (j := 0) rfl, p.params, rfl, by omega, by omega, for_range (lo := 0) (n := p.params) (fun i σ H3 => ∃ (me : List Nat) (vs : List V) (v6 v7 : Option V), σ = [some (.ref b), some (.ref pa), some (.ref a), some (.ref hm), some (.ref pl), some (.ref mt), v6, v7, none, none] ∧
        H3 mt = some (.lst (nV me)) ∧ me.length = i ∧ me.Nodup ∧ (∀ y ∈ me, y < f.boxes + f.slots) ∧ H3 pl = some (.lst vs) ∧ TpAll H3 vs ((me.map (toPl f.boxes)).map Pl.d) ∧ Ext m2 H2 H3)
      ⟨[], [], _, _, rfl, hmt2, rfl, List.nodup_nil, fun y h => by simp at h, hpl2, .nil, Ext.refl _ _⟩ ?_ ?_⟩
    · rintro i σ H3 hi ⟨me, vs, v6, v7, rfl, hmt3, ml, nd, mtot, hpl3, tps, x3⟩
      rw [show ((0 : Int) + (i : Int)) = (i : Int) from Int.zero_add _]
      have hhm3 := x3.lst hm_m2 hhm2
      have hfa3 := x3.tup _ _ hfa
      have ilt : i < hs.length := by omega
      have eih : hs[i]? = some hs[i] := List.getElem?_eq_getElem ilt
      have hlt := htot _ (List.getElem_mem ilt)
      generalize hs[i] = home at eih hlt
      -- some = [homes[name]] + list(range(..))
      refine ⟨_, rfl, _, rfl, hm, _, i, _, rfl, rfl, SqL.of hhm3, atI_nat (nV_at eih), by show 1 ≤ sizeLine; decide, fun l1 nl1 => ?_⟩
      have w1 : Ext no H3 (upd H3 l1 (.lst [.int home])) := Ext.new nl1
      have hl1 : (upd H3 l1 (.lst [.int home])) l1 = some (.lst (nV [home])) := upd_same
      generalize upd H3 l1 (.lst [.int home]) = H4 at w1 hl1 ⊢
      have hfa4 := w1.tup _ _ hfa3
      refine ⟨_, rfl, a, _, 0, _, rfl, rfl, SqT.of hfa4, atI_nat (j := 0) rfl, _, rfl, a, _, 1, _, rfl, rfl, SqT.of hfa4, atI_nat (j := 1) rfl, _, _, rfl, rfl, (f.boxes : Int) + f.slots, rfl, RgOk.of_le (by decide) (by omega) (by decide) (by omega), fun l2 nl2 => ?_⟩
      have w2 : Ext no H4 (upd H4 l2 (.lst (rgV 0 ((f.boxes : Int) + f.slots)))) := Ext.new nl2
      have hl2 : (upd H4 l2 (.lst (rgV 0 ((f.boxes : Int) + f.slots)))) l2 = some (.lst (nV (List.range (f.boxes + f.slots)))) := by rw [upd_same]; exact congrArg (fun z => some (HO.lst z)) (rgV_nat (f.boxes + f.slots))
      generalize upd H4 l2 (.lst (rgV 0 ((f.boxes : Int) + f.slots))) = H5 at w2 hl2 ⊢
      refine ⟨l1, l2, _, _, rfl, rfl, w2.lst (fun z => z) hl1, hl2, by rw [nV_len, nV_len, List.length_range]; exact Nat.le_of_lt (small_lt (k := 15) (by show 1 + _ ≤ 15; omega) (by decide)), fun so nso => ?_⟩
      have w3 : Ext no H5 (upd H5 so (.lst (nV [home] ++ nV (List.range (f.boxes + f.slots))))) := Ext.new nso
      have hso : (upd H5 so (.lst (nV [home] ++ nV (List.range (f.boxes + f.slots))))) so = some (.lst (nV (home :: List.range (f.boxes + f.slots)))) := upd_same
      generalize upd H5 so (.lst (nV [home] ++ nV (List.range (f.boxes + f.slots)))) = H6 at w3 hso ⊢
      have w36 := (w1.trans w2).trans w3
      have hmt6 := w36.lst (fun z => z) hmt3
      have hpl6 := w36.lst (fun z => z) hpl3
      -- some = [place for place in some if place not in met]
      refine ⟨_, rfl, so, rfl, ⟨_, SqL.of hso⟩, fun D nD => ?_⟩
      have flen : (home :: List.range (f.boxes + f.slots)).length ≤ 15 := by rw [List.length_cons, List.length_range]; omega
      refine lc_list (K := K) (a := so) (xs := nV (home :: List.range (f.boxes + f.slots))) (fun j H7 => ∃ gs : List Nat, gs.length ≤ j ∧ H7 D = some (.lst (nV gs)) ∧ (∀ y ∈ gs, y ∉ me ∧ y < f.boxes + f.slots) ∧ (∀ y, y ∈ (home :: List.range (f.boxes + f.slots)).take j → y ∉ me → gs ≠ []) ∧ Ext no H6 H7)
        ⟨[], Nat.le_refl _, upd_same, fun y h => by simp at h, fun y h => by simp at h, Ext.new nD⟩ (fun j H7 _ z => z.elim fun gs z => SqL.of (z.2.2.2.2.lst (fun z => z) hso)) ?_ ?_
      · rintro j x H7 hx ⟨gs, gl, hD, gin, gne, x7⟩
        obtain ⟨u, hu0, rfl⟩ := nV_get hx
        have jlt := (List.getElem?_eq_some_iff.mp hu0).1
        have ut : u < f.boxes + f.slots := by
          rcases List.mem_cons.mp (List.mem_of_getElem? hu0) with z | z
          · rw [z]; exact hlt
          · exact List.mem_range.mp z
        refine ⟨rfl, ⟨_, rfl, _, rfl, mt, _, rfl, .inl (SqL.of (x7.lst (fun z => z) hmt6)), rfl, nV_flat _, _, rfl, ?_⟩⟩
        show if (!inV (.int u) (nV me)) = true then _ else _
        rw [inV_nat]
        by_cases um : u ∈ me
        · rw [decide_eq_true um]
          refine iteF ⟨gs, Nat.le_succ_of_le gl, hD, gin, fun y hy ny => ?_, x7⟩
          rw [List.take_add_one, hu0] at hy
          rcases List.mem_append.mp hy with z | z
          · exact gne y z ny
          · rw [List.mem_singleton.mp z] at ny
            exact absurd um ny
        · rw [decide_eq_false um]
          refine iteT ⟨_, rfl, _, hD, by rw [nV_len]; exact small_lt (k := 15) (by omega) (by decide), gs ++ [u], by rw [List.length_append]; exact Nat.succ_le_succ gl, by rw [upd_same, nV_snoc], memSnoc gin ⟨um, ut⟩, fun _ _ _ z => ?_, x7.own nD⟩
          have := congrArg List.length z
          rw [List.length_append] at this
          simp at this
      rintro H7 ⟨gs, gl, hD7, gin, gne, x7⟩
      obtain ⟨new, newlt, newno⟩ := unmet (n := f.boxes + f.slots) (me := me) (by omega)
      have gs0 := gne new (by rw [nV_len, List.take_of_length_le (Nat.le_refl _)]; exact List.mem_cons_of_mem _ (List.mem_range.mpr newlt)) newno
      obtain ⟨g0, rest, rfl⟩ : ∃ g0 rest, gs = g0 :: rest := by
        cases gs with
        | nil => exact absurd rfl gs0
        | cons g0 rest => exact ⟨g0, rest, rfl⟩
      have g0in := gin g0 (List.mem_cons_self ..)
      have g0no := g0in.1
      have g0lt := g0in.2
      -- met.append(..)
      have hmt7 := x7.lst (fun z => z) hmt6
      refine ⟨_, rfl, .inl ⟨rfl, _, SqL.of hmt7⟩, _, rfl, Nat.zero_le _, fun z0 nz0 => ?_⟩
      have w8 : Ext no H7 (upd H7 z0 (.lst [])) := Ext.new nz0
      have hD8 := w8.lst (fun z => z) hD7
      refine ⟨.list (Bw.nD (g0 :: rest)), .list [], .lst (SqL.of hD8) (dpNats _), .lst (SqL.of upd_same) .nil, shNats _, rfl, _, rfl, ?_⟩
      rw [eqNil]
      generalize upd H7 z0 (.lst []) = H8 at w8 hD8 ⊢
      have hmt8 := w8.lst (fun z => z) hmt7
      refine iteT ⟨_, rfl, D, _, 0, _, rfl, rfl, SqL.of hD8, atI_nat (j := 0) rfl, mt, _, _, rfl, rfl, hmt8, by rw [nV_len]; exact small_lt (k := 8) (by omega) (by decide), ?_⟩
      have w9 : Ext m2 H8 (upd H8 mt (.lst (nV me ++ [.int g0]))) := Ext.put hmt8 (.inl rfl) (fun _ z => by cases z) (fun _ z => by cases z)
      have hmt9 : (upd H8 mt (.lst (nV me ++ [.int g0]))) mt = some (.lst (nV (me ++ [g0]))) := by rw [upd_same, nV_snoc]
      have hpl9 : (upd H8 mt (.lst (nV me ++ [.int g0]))) pl = some (.lst vs) := by rw [upd_ne plmt]; exact w8.lst (fun z => z) (x7.lst (fun z => z) hpl6)
      generalize upd H8 mt (.lst (nV me ++ [.int g0])) = H9 at w9 hmt9 hpl9 ⊢
      have x39 : Ext m2 H3 H9 := (w36.of0.trans x7.of0).trans (w8.of0.trans w9)
      have hfa9 := x39.tup _ _ hfa3
      have hlast : atI (nV (me ++ [g0])) (-1) = some (.int g0) := by rw [← nV_snoc]; exact atI_last _ _
      have vlen : vs.length < sizeLine := by
        rw [tps.len, List.length_map, List.length_map]
        exact small_lt (k := 8) (by omega) (by decide)
      have nd' : (me ++ [g0]).Nodup := List.nodup_append.mpr ⟨nd, by simp, fun y hy z hz => by rw [List.mem_singleton.mp hz]; exact fun e => g0no (e ▸ hy)⟩
      have ml' : (me ++ [g0]).length = i + 1 := by rw [List.length_append, ml]; rfl
      have grow : ∀ (H10 : Hp) (t : Addr) (d : PyData), H9 t = none → d = (toPl f.boxes g0).d → Tp H10 (.ref t) d → Ext no H9 H10 → H10 pl = some (.lst vs) ∧ Ext m2 H2 (upd H10 pl (.lst (vs ++ [.ref t]))) ∧ (upd H10 pl (.lst (vs ++ [.ref t]))) mt = some (.lst (nV (me ++ [g0]))) ∧ TpAll (upd H10 pl (.lst (vs ++ [.ref t]))) (vs ++ [.ref t]) (((me ++ [g0]).map (toPl f.boxes)).map Pl.d) := by
        intro H10 t d _ ed htp x10
        have hpl10 := x10.lst (fun z => z) hpl9
        have u : Ext m2 H10 (upd H10 pl (.lst (vs ++ [.ref t]))) := Ext.put hpl10 (.inr rfl) (fun _ z => by cases z) (fun _ z => by cases z)
        refine ⟨hpl10, ((x3.trans x39).trans x10.of0).trans u, by rw [upd_ne plmt.symm]; exact x10.lst (fun z => z) hmt9, ?_⟩
        rw [List.map_append, List.map_append]
        exact (((tps.ext x39).ext x10).ext u).app (.cons (by rw [← ed]; exact htp.ext u) .nil)
      -- places.append(..)
      refine ⟨_, rfl, .inl ⟨rfl, _, SqL.of hpl9⟩, _, rfl, _, rfl, mt, _, -1, _, rfl, rfl, SqL.of hmt9, hlast, _, rfl, a, _, 0, _, rfl, rfl, SqT.of hfa9, atI_nat (j := 0) rfl, _, _, rfl, rfl, _, rfl, ite2 (fun e1 => ?_) (fun e1 => ?_)⟩
      · have lt : g0 < f.boxes := by have := of_decide_eq_true e1; omega
        refine ⟨_, rfl, _, rfl, mt, _, -1, _, rfl, rfl, SqL.of hmt9, hlast, by show 2 ≤ sizeLine; decide, fun t nt => ?_⟩
        obtain ⟨g1, g2, g3, g4⟩ := grow _ t (.tuple [.str "box", .int g0]) nt (by unfold toPl; rw [if_pos lt]; rfl) (.tup upd_same (.cons (.str _) (.cons (.int _) .nil))) (Ext.new nt)
        exact ⟨pl, _, _, rfl, rfl, g1, vlen, me ++ [g0], vs ++ [.ref t], _, _, rfl, g3, ml', nd', memSnoc mtot g0lt, upd_same, g4, g2⟩
      · have ge : ¬ g0 < f.boxes := fun z => e1 (decide_eq_true (by omega))
        refine ⟨_, rfl, _, rfl, mt, _, -1, _, rfl, rfl, SqL.of hmt9, hlast, _, rfl, a, _, 0, _, rfl, rfl, SqT.of hfa9, atI_nat (j := 0) rfl, _, _, rfl, rfl, by show 2 ≤ sizeLine; decide, fun t nt => ?_⟩
        have esl : ((g0 : Int) - (f.boxes : Int)) = ((g0 - f.boxes : Nat) : Int) := by omega
        obtain ⟨g1, g2, g3, g4⟩ := grow (upd H9 t (.tup [.str "slot", .int ((g0 : Int) - (f.boxes : Int))])) t (.tuple [.str "slot", .int ((g0 : Int) - (f.boxes : Int))]) nt (by unfold toPl; rw [if_neg ge, esl]; rfl) (.tup upd_same (.cons (.str _) (.cons (.int _) .nil))) (Ext.new nt)
        exact ⟨pl, _, _, rfl, rfl, g1, vlen, me ++ [g0], vs ++ [.ref t], _, _, rfl, g3, ml', nd', memSnoc mtot g0lt, upd_same, g4, g2⟩
    · rintro σ H3 ⟨me, vs, v6, v7, rfl, hmt3, ml, nd, mtot, hpl3, tps, x3⟩
      have x03 : Ext (bx b l) H1 H3 := ⟨fun x xs h => x3.tup _ _ (y1.tup _ _ h), fun x o m t h => x3.oth x o (fun z => z.elim (fun z : x = mt => by rw [z, mt1] at h; cases h) (fun z : x = pl => by rw [z, npl] at h; cases h)) t (y1.oth x o (fun z => z) t h), fun T h => x3.tab T (y1.tab T h), fun x h => y1.dom x (x3.dom x h)⟩
      have bo3 := bo2.ext x3 b_m2.1 b_m2.2
      have hrs3 := x3.tup _ _ (x2.tup _ _ hrs)
      have hrows3 := (hrows.ext x2).ext x3
      have hpa3 := x3.tup _ _ hpa2
      have ha3 : FrAt H3 a f := (hf.ext x2).ext x3
      have hhm3 := x3.lst hm_m2 hhm2
      refine ⟨_, rfl, pl, _, rfl, .inl ⟨SqL.of hpl3, fun t1 nt1 => ?_⟩⟩
      have w1 : Ext no H3 (upd H3 t1 (.tup vs)) := Ext.new nt1
      have ht1 : Tp (upd H3 t1 (.tup vs)) (.ref t1) (.tuple ((me.map (toPl f.boxes)).map Pl.d)) := .tup upd_same (tps.ext w1)
      generalize upd H3 t1 (.tup vs) = H4 at w1 ht1 ⊢
      refine ⟨_, rfl, pa, _, 2, _, rfl, rfl, SqT.of (w1.tup _ _ hpa3), atI_nat (j := 2) rfl, rs, rfl, ⟨_, SqT.of (w1.tup _ _ hrs3)⟩, fun G nG => ?_⟩
      refine lc_tup (K := K) (a := rs) (xs := as.map V.ref) (fun j H5 => ∃ (gs : List Grp) (us : List V), gs.length = j ∧ H5 G = some (.lst us) ∧ TpAll H5 us (gs.map Grp.d) ∧ (∀ (i : Nat) (g : Grp) (row : Row), gs[i]? = some g → p.rows[i]? = some row → Grp.Ok f row g) ∧ Ext no H4 H5)
        ⟨[], [], rfl, upd_same, .nil, fun i g row h => by simp at h, Ext.new nG⟩ (fun j H5 _ z => z.elim fun gs z => z.elim fun us z => SqT.of (z.2.2.2.2.tup _ _ (w1.tup _ _ hrs3))) ?_ ?_
      · rintro j x H5 hx ⟨gs, us, gl, hG, gtp, gok, x5⟩
        rw [List.getElem?_map] at hx
        obtain ⟨r, hr0, rfl⟩ : ∃ r, as[j]? = some r ∧ x = V.ref r := by
          cases e : as[j]? with
          | none => rw [e] at hx; cases hx
          | some r => rw [e] at hx; exact ⟨r, rfl, (Option.some.inj hx).symm⟩
        have jlt : j < p.rows.length := by
          rw [← hrows.len]
          exact (List.getElem?_eq_some_iff.mp hr0).1
        have hj : p.rows[j]? = some p.rows[j] := List.getElem?_eq_getElem jlt
        have x35 := w1.trans x5
        refine ⟨rfl, ⟨_, rfl, _, rfl, _, rfl, _, rfl, _, r, hm, a, p.rows[j], hs, f, p.names, p.rows.length, rfl, x35.tup _ _ (hrows3.at_ j r _ hr0 hj), pok.ok _ (List.getElem_mem jlt), x35.lst (fun z => z) hhm3, hsl, n8, htot, ha3.ext x35, ok, fun H6 t g gOk gTp x6 => ?_⟩⟩
        have hG6 := x6.lst (fun z => z) hG
        have u : Ext (fun x => x = G) H6 (upd H6 G (.lst (us ++ [.ref t]))) := Ext.put hG6 rfl (fun _ z => by cases z) (fun _ z => by cases z)
        refine ⟨_, hG6, by rw [gtp.len, List.length_map, gl]; exact small_lt (k := 24) (by omega) (by decide), gs ++ [g], us ++ [.ref t], by rw [List.length_append, gl]; rfl, upd_same, ?_, fun i g' row' h1 h2 => ?_, (x5.trans x6).own nG⟩
        · rw [List.map_append]
          exact ((gtp.ext x6).ext u).app (.cons (gTp.ext u) .nil)
        · by_cases lt : i < gs.length
          · rw [List.getElem?_append_left lt] at h1
            exact gok i g' row' h1 h2
          · have ei : i = j := by
              have last := (List.getElem?_eq_some_iff.mp h1).1
              rw [List.length_append] at last
              simp at last
              omega
            subst ei
            rw [List.getElem?_append_right (by omega), gl, Nat.sub_self] at h1
            rw [hj] at h2
            cases h1
            cases h2
            exact gOk
      rintro H5 ⟨gs, us, gl, hG, gtp, gok, x5⟩
      refine ⟨G, _, rfl, .inl ⟨SqL.of hG, fun t2 nt2 => ⟨by show 2 ≤ sizeLine; decide, fun t nt => ?_⟩⟩⟩
      have u : Ext no H5 (upd (upd H5 t2 (.tup us)) t (.tup [.ref t1, .ref t2])) := (Ext.new nt2).trans (Ext.new nt)
      have ht2 : (upd (upd H5 t2 (.tup us)) t (.tup [.ref t1, .ref t2])) t2 = some (.tup us) := (Ext.new (m := no) nt).tup _ _ upd_same
      have w35 := (w1.trans x5).trans u
      rw [List.length_map, hrows.len] at gl
      refine q _ t ⟨me.map (toPl f.boxes), gs⟩ ⟨by rw [List.length_map]; exact ml, fun y hy => ?_, ?_, gl, gok⟩ (.tup upd_same (.cons ((ht1.ext x5).ext u) (.cons (.tup ht2 (gtp.ext u)) .nil))) (bo3.ext w35 (fun z => z) (fun z => z)) (x1.trans (x03.trans w35.of0))
      · obtain ⟨n, hn, rfl⟩ := List.mem_map.mp hy
        exact toPl_ok (mtot n hn)
      · exact List.Pairwise.map _ (fun a b h => toPl_ne h) nd
end
end Bw
namespace Bw
open PySem PySem.Spec PyProof.Rows L2 GxR
theorem mv_lay (m : Mv) : m.d.canLay0 = true := by cases m <;> simp [Mv.d, PyData.canLay0, PyData.canLayAll0] <;> decide +kernel
theorem mv_depth (m : Mv) : m.d.depth = 1 := by cases m <;> simp [Mv.d, PyData.depth, PyData.depthAll]
theorem mvs_lay : ∀ ms : List Mv, PyData.canLayAll0 (ms.map Mv.d) = true
  | [] => rfl
  | m :: ms => by simp [PyData.canLayAll0, mv_lay m, mvs_lay ms]
theorem mvs_depth : ∀ ms : List Mv, PyData.depthAll (ms.map Mv.d) ≤ 1
  | [] => Nat.zero_le _
  | m :: ms => by
    have ih := mvs_depth ms
    simp [PyData.depthAll, mv_depth m]
    omega
theorem shMoves (ms : List Mv) : SeqAt.shaped (.tuple (ms.map Mv.d)) = true := by
  have d := mvs_depth ms
  simp [SeqAt.shaped, PyData.canLay0, PyData.depth, mvs_lay ms]
  omega
theorem nats_lay : ∀ l : List Nat, PyData.canLayAll0 (nD l) = true
  | [] => rfl
  | n :: l => by
    have ih := nats_lay l
    simp [PyData.canLayAll0, PyData.canLay0] at ih ⊢
    exact ih
theorem nats_depth : ∀ l : List Nat, PyData.depthAll (nD l) = 0
  | [] => rfl
  | n :: l => by
    have ih := nats_depth l
    simp [PyData.depthAll, PyData.depth] at ih ⊢
    exact ih
theorem shBoxes (l : List Nat) : SeqAt.shaped (.tuple (nD l)) = true := by
  have d := nats_depth l
  have c := nats_lay l
  simp [SeqAt.shaped, PyData.canLay0, PyData.depth] at d c ⊢
  rw [d]
  exact ⟨c, by decide⟩
theorem neEmpty (ds : List PyData) : (!PyData.eqv (.tuple ds) (.tuple [])) = !ds.isEmpty := by
  cases ds <;> rfl
theorem cutTo (xs : List V) (k : Nat) : cutV xs none (some (k : Int)) = xs.take k := by
  unfold cutV
  rw [HT.sIx_nat, HT.sIx_none, List.drop_zero, Nat.sub_zero]
  by_cases h : k ≤ xs.length
  · rw [Nat.min_eq_left h]
  · rw [Nat.min_eq_right (show xs.length ≤ k by omega), List.take_length, List.take_of_length_le (show xs.length ≤ k by omega)]
section
variable {K : PySem.W.Frag} {H : Hp} {Q : VK}
/-- x[:k] of a tuple, as its data go -/
theorem sl_to {a : Addr} {ds : List PyData} {k : Nat} (h : Tp H (.ref a) (.tuple ds)) (q : ∀ H' a', Tp H' (.ref a') (.tuple (ds.take k)) → Ext no H H' → Q (.ref a') H') : rSlA K (.ref a) none (some (k : Int)) H Q := by
  obtain ⟨a', vs, e, hA, all⟩ := h.tupE
  obtain rfl : a = a' := V.ref.inj e
  refine ⟨a, vs, rfl, SqT.of hA, fun w => ?_, fun _ p np => q _ p ?_ (Ext.new np)⟩
  · have hl : vs.length ≤ k := by
      have := w.2
      rw [HT.sIx_nat] at this
      omega
    refine q H a ?_ (Ext.refl _ _)
    rw [List.take_of_length_le (by rw [← all.len]; exact hl)]
    exact h
  · rw [cutTo]
    exact .tup upd_same ((all.take k).ext (Ext.new (m := no) np))
theorem sl_from {a : Addr} {ds : List PyData} {k : Nat} (h : Tp H (.ref a) (.tuple ds)) (q : ∀ H' a', Tp H' (.ref a') (.tuple (ds.drop k)) → Ext no H H' → Q (.ref a') H') : rSlA K (.ref a) (some (k : Int)) none H Q := by
  obtain ⟨a', vs, e, hA, all⟩ := h.tupE
  obtain rfl : a = a' := V.ref.inj e
  refine ⟨a, vs, rfl, SqT.of hA, fun w => ?_, fun _ p np => q _ p ?_ (Ext.new np)⟩
  · have hl : k = 0 ∨ vs.length = 0 := by
      have := w.1
      rw [HT.sIx_nat] at this
      omega
    refine q H a ?_ (Ext.refl _ _)
    rcases hl with z | z
    · rw [z]
      exact h
    · rw [List.drop_of_length_le (by rw [← all.len]; omega), ← List.eq_nil_of_length_eq_zero (l := ds) (by rw [← all.len]; exact z)]
      exact h
  · rw [cutFrom]
    exact .tup upd_same ((all.drop k).ext (Ext.new (m := no) np))
theorem cat_tp {a b : Addr} {ds es : List PyData} (ha : Tp H (.ref a) (.tuple ds)) (hb : Tp H (.ref b) (.tuple es)) (few : ds.length + es.length ≤ 100) (q : ∀ H' c, Tp H' (.ref c) (.tuple (ds ++ es)) → Ext no H H' → Q (.ref c) H') : rCatA K (.ref a) (.ref b) H Q := by
  obtain ⟨a', vs, e1, hA, all⟩ := ha.tupE
  obtain ⟨b', us, e2, hB, bll⟩ := hb.tupE
  obtain rfl : a = a' := V.ref.inj e1
  obtain rfl : b = b' := V.ref.inj e2
  have l1 := all.len
  have l2 := bll.len
  refine ⟨a, b, vs, us, rfl, rfl, SqT.of hA, SqT.of hB, Nat.le_of_lt (small_lt (k := 100) (by omega) (by decide)), fun z => ?_, fun _ z => ?_, fun _ _ p np => q _ p (.tup upd_same ((all.ext (Ext.new (m := no) np)).app (bll.ext (Ext.new (m := no) np)))) (Ext.new np)⟩
  · have : ds = [] := List.eq_nil_of_length_eq_zero (by rw [← l1, z]; rfl)
    subst this
    exact q H b hb (Ext.refl _ _)
  · have : es = [] := List.eq_nil_of_length_eq_zero (by rw [← l2, z]; rfl)
    subst this
    exact q H a (by rw [List.append_nil]; exact ha) (Ext.refl _ _)
end
section
variable {base : Heap} {K : PySem.W.Frag} {mg : Str → Option Value} {P : Program} {w : World}
def spFits : Sp := fun vs H Q _ => ∃ (pa a : Addr) (p : Prog) (f : Fr), vs = [.ref pa, .ref a] ∧ ProgAt H pa p ∧ FrAt H a f ∧ Q (.bl (decide (p.params ≤ f.boxes + f.slots))) H
theorem scFits : FnScope ["_law_program_here", "_law_frame_here"] ["_law_program_here", "_law_frame_here"] (defScope s_law_fits) := ⟨rfl, rfl, rfl, by decide +kernel, rfl, by decide +kernel, by decide +kernel⟩
theorem ok_fits {f : Addr} {fd : FuncData} (D : Df K mg "_law_fits" s_law_fits ["_law_program_here", "_law_frame_here"] f fd) : FnOk P w K mg base CX0 1 f fd ["_law_program_here", "_law_frame_here"] spFits := by
  refine D.F.ok scFits (fun vs H Q E h => ?_) (fun cdv A outer s H vs Q E hr h => ?_)
  · obtain ⟨pa, a, p, f, rfl, _⟩ := h
    rfl
  · obtain ⟨pa, a, p, f, rfl, hp, hf, q⟩ := h
    obtain ⟨rs, as, hpa, _, _⟩ := hp.ex
    obtain ⟨e, ha, _⟩ := hf.ex
    refine ⟨_, pss_one (ps_ret (pe_cmpR op_le (pe_ix ix_tup (pv 0) pe_int (fun _ _ => rfl)) (pe_op op_add (pe_ix ix_tup (pv 1) pe_int (fun _ _ => rfl)) (pe_ix ix_tup (pv 1) pe_int (fun _ _ => rfl))) (nomark _))), ?_⟩
    refine ⟨_, rfl, pa, _, 0, _, rfl, rfl, SqT.of hpa, atI_nat (j := 0) rfl, _, rfl, a, _, 0, _, rfl, rfl, SqT.of ha, atI_nat (j := 0) rfl, _, rfl, a, _, 1, _, rfl, rfl, SqT.of ha, atI_nat (j := 1) rfl, _, _, rfl, rfl, _, _, rfl, rfl, ?_⟩
    have same : decide ((p.params : Int) ≤ (f.boxes : Int) + (f.slots : Int)) = decide (p.params ≤ f.boxes + f.slots) := by
      by_cases z : p.params ≤ f.boxes + f.slots
      · rw [decide_eq_true z, decide_eq_true (by omega)]
      · rw [decide_eq_false z, decide_eq_false (by omega)]
    show Q (.bl (decide ((p.params : Int) ≤ (f.boxes : Int) + (f.slots : Int)))) H
    rw [same]
    exact q
end
end Bw
namespace Bw
open PySem PySem.Spec PyProof.Rows L2 GxR
theorem Ch.Ok.set {p : Prog} {f : Fr} {c : Ch} {n : Nat} {row : Row} {g : Grp} (h : Ch.Ok p f c) (lt : n < c.groups.length) (er : p.rows[n]? = some row) (ok : Grp.Ok f row g) : Ch.Ok p f ⟨c.places, c.groups.set n g⟩ := by
  refine ⟨h.pl, h.pm, h.own, (List.length_set ..).trans h.gl, fun i g' row' h1 h2 => ?_⟩
  by_cases e : n = i
  · subst e
    have h1' : (c.groups.set n g)[n]? = some g' := h1
    rw [List.getElem?_set_self lt] at h1'
    rw [er] at h2
    cases h1'
    cases h2
    exact ok
  · have h1' : (c.groups.set n g)[i]? = some g' := h1
    rw [List.getElem?_set_ne e] at h1'
    exact h.gm i g' row' h1' h2
theorem goesOn (row : Row) : inV (.str (wordOf row)) [.str "go", .str "if", .str "end"] = !rowGoesOn row := by
  cases row with
  | put => exact (by decide +kernel : inV (.str "put") [.str "go", .str "if", .str "end"] = false)
  | copy => exact (by decide +kernel : inV (.str "copy") [.str "go", .str "if", .str "end"] = false)
  | add => exact (by decide +kernel : inV (.str "add") [.str "go", .str "if", .str "end"] = false)
  | take => exact (by decide +kernel : inV (.str "take") [.str "go", .str "if", .str "end"] = false)
  | less => exact (by decide +kernel : inV (.str "less") [.str "go", .str "if", .str "end"] = false)
  | call => exact (by decide +kernel : inV (.str "call") [.str "go", .str "if", .str "end"] = false)
  | say => exact (by decide +kernel : inV (.str "say") [.str "go", .str "if", .str "end"] = false)
  | iff => exact (by decide +kernel : inV (.str "if") [.str "go", .str "if", .str "end"] = true)
  | go => exact (by decide +kernel : inV (.str "go") [.str "go", .str "if", .str "end"] = true)
  | fin => exact (by decide +kernel : inV (.str "end") [.str "go", .str "if", .str "end"] = true)
/-! shut copies of three of the library's sayings, so that a proof that goes on does not look into them -/
@[irreducible] def tBoth (t u : TT) : TT := tAnd t u
@[irreducible] def rCut (K : PySem.W.Frag) : V → Option Int → Option Int → Hp → VK → Prop := rSlA K
@[irreducible] def rJoin (K : PySem.W.Frag) : R2 := rCatA K
theorem pw_both {X : Cx} {a b : Expr} {rest : List Expr} {pos : Pos} {tA tB : TT} (ha : PT X a tA) (hb : PW X (.BoolOp .And (b :: rest) pos) tB) : PW X (.BoolOp .And (a :: b :: rest) pos) (tBoth tA tB) := by
  unfold tBoth
  exact pw_and ha hb
theorem op_join {X : Cx} : OpR X (binaryOp .Add) (rJoin X.K) := by
  unfold rJoin
  exact op_catA
theorem sl_cut {X : Cx} : SlR X (rCut X.K) := by
  unfold rCut
  exact sl_tupA
theorem cut_to {K : PySem.W.Frag} {H : Hp} {Q : VK} {a : Addr} {ds : List PyData} {k : Nat} (h : Tp H (.ref a) (.tuple ds)) (q : ∀ H' a', Tp H' (.ref a') (.tuple (ds.take k)) → Ext no H H' → Q (.ref a') H') : rCut K (.ref a) none (some (k : Int)) H Q := by
  unfold rCut
  exact sl_to h q
theorem cut_from {K : PySem.W.Frag} {H : Hp} {Q : VK} {a : Addr} {ds : List PyData} {k : Nat} (h : Tp H (.ref a) (.tuple ds)) (q : ∀ H' a', Tp H' (.ref a') (.tuple (ds.drop k)) → Ext no H H' → Q (.ref a') H') : rCut K (.ref a) (some (k : Int)) none H Q := by
  unfold rCut
  exact sl_from h q
theorem join_tp {K : PySem.W.Frag} {H : Hp} {Q : VK} {a b : Addr} {ds es : List PyData} (ha : Tp H (.ref a) (.tuple ds)) (hb : Tp H (.ref b) (.tuple es)) (few : ds.length + es.length ≤ 100) (q : ∀ H' c, Tp H' (.ref c) (.tuple (ds ++ es)) → Ext no H H' → Q (.ref c) H') : rJoin K (.ref a) (.ref b) H Q := by
  unfold rJoin
  exact cat_tp ha hb few q
/-- a test that changes nothing that stood -/
def TV (t : TT) (σ : L2.St) (H : Hp) (c : Bool) : Prop := ∀ R : Bool → Hp → Prop, (∀ H', Ext no H H' → R c H') → t σ H R
theorem TV.and {tA tB : TT} {σ : L2.St} {H : Hp} {c1 c2 : Bool} (hA : TV tA σ H c1) (hB : ∀ H', Ext no H H' → TV tB σ H' c2) : TV (tBoth tA tB) σ H (c1 && c2) := fun R k => by
  unfold tBoth
  refine hA _ fun H1 x1 => ?_
  cases c1 with
  | false => exact iteF (k H1 x1)
  | true => exact iteT (hB H1 x1 _ fun H2 x2 => k H2 (x1.trans x2))
theorem and_go {tA tB : TT} {σ : L2.St} {H : Hp} {c1 c2 : Bool} {Q : Bool → Hp → Prop} (hA : TV tA σ H c1) (hB : ∀ H', Ext no H H' → TV tB σ H' c2) (k : ∀ H', Ext no H H' → Q (c1 && c2) H') : tBoth tA tB σ H Q := (TV.and hA hB) Q k
theorem split2 {c : Bool} {A B : Prop} (h1 : c = true → A) (h2 : c = false → B) : if c = true then A else B := by
  cases c with
  | true => exact iteT (h1 rfl)
  | false => exact iteF (h2 rfl)
theorem takeDrop {α β : Type} (g : α → β) (xs : List α) (n : Nat) (x : α) : (xs.map g).take n ++ [g x] ++ (xs.map g).drop n = (xs.take n ++ [x] ++ xs.drop n).map g := by
  rw [List.map_append, List.map_append, List.map_take, List.map_drop]
  rfl
theorem cutOut {α β : Type} (g : α → β) (xs : List α) (n : Nat) : (xs.map g).take n ++ (xs.map g).drop (n + 1) = (xs.take n ++ xs.drop (n + 1)).map g := by
  rw [List.map_append, List.map_take, List.map_drop]
theorem setAt {α β : Type} (g : α → β) (xs : List α) (n : Nat) (x : α) (h : n < xs.length) : (xs.map g).take n ++ [g x] ++ (xs.map g).drop (n + 1) = (xs.set n x).map g := by
  rw [List.set_eq_take_append_cons_drop, if_pos h, List.map_append, List.map_cons, List.map_take, List.map_drop, List.append_assoc]
  rfl
section
variable {base : Heap} {K : PySem.W.Frag} {mg : Str → Option Value} {P : Program} {w : World}
def spBent : Sp := fun vs H Q _ => ∃ (b l pa a ca : Addr) (p : Prog) (f : Fr) (c : Ch), vs = [.ref b, .ref pa, .ref a, .ref ca] ∧ BoxAt H b l ∧ ProgAt H pa p ∧ p.Ok ∧ FrAt H a f ∧ f.Ok ∧ Tp H (.ref ca) c.d ∧ Ch.Ok p f c ∧
  ∀ H' t (c : Ch), Ch.Ok p f c → Tp H' (.ref t) c.d → BoxAt H' b l → Ext (bx b l) H H' → Q (.ref t) H'
abbrev nBent : List Str := ["_law_box", "_law_program_here", "_law_frame_here", "_law_choice_here", "_law_way", "_law_number", "_law_ahead", "_law_boxes", "_law_behind", "_law_at"]
theorem scBent : FnScope nBent ["_law_box", "_law_program_here", "_law_frame_here", "_law_choice_here"] (defScope s_law_bent) := ⟨rfl, rfl, rfl, by decide +kernel, rfl, by decide +kernel, by decide +kernel⟩
set_option maxHeartbeats 3700000 in
theorem ok_bent {f fT fM : Addr} {fd fdT fdM : FuncData} (D : Df K mg "_law_bent" s_law_bent ["_law_box", "_law_program_here", "_law_frame_here", "_law_choice_here"] f fd) (DT : Df K mg "_law_take" s_take ["_law_box", "_law_many"] fT fdT)
    (DM : Df K mg "_law_move" s_law_move ["_law_box", "_law_frame_here"] fM fdM) (B : Bt mg) : FnOk P w K mg base CX0 3 f fd ["_law_box", "_law_program_here", "_law_frame_here", "_law_choice_here"] spBent := by
  have GT : FnOk P w K mg base CX0 1 fT fdT ["_law_box", "_law_many"] spTake := ok_take DT
  have GM : FnOk P w K mg base CX0 2 fM fdM ["_law_box", "_law_frame_here"] spMv := ok_mv DM DT
  refine D.F.ok scBent (fun vs H Q E h => ?_) (fun cdv A outer s H vs Q E hr h => ?_)
  · obtain ⟨b, l, pa, a, ca, p, f, c, rfl, _⟩ := h
    rfl
  · obtain ⟨b, l, pa, a, ca, p, f, c, rfl, bo, hp, pok, hf, ok, hc, cok, q⟩ := h
    have hr1 := hr.mono (show 1 ≤ 2 by decide)
    have hu := hr.units
    refine ⟨_, pss_cons (ps_par (i := 4) (j := 5) rfl scBent.nd rfl rfl (by decide) rfl rfl (pa_cons (pcall DT GT hr1 (pa_cons (pv 0) (pa_cons pe_int pa_nil))) (pa_cons (pcall DT GT hr1 (pa_cons (pv 0) (pa_cons (pe_callB call_len_seq (by rfl) B.len PySem.boot_len (pa_cons (pe_ix ix_tup (pv 3) pe_int (fun _ _ => rfl)) pa_nil)) pa_nil))) pa_nil)) (by rfl))
      (pss_cons (ps_asg (pe_ix ix_tup (pe_ix ix_tup (pv 3) pe_int (fun _ _ => rfl)) (pv 5) (fun _ _ => rfl)) (pg_tup rfl (pgs_cons (pg_name (i := 6) scBent.nd rfl (.inl rfl)) (pgs_cons (pg_name (i := 7) scBent.nd rfl (.inl rfl)) (pgs_cons (pg_name (i := 8) scBent.nd rfl (.inl rfl)) pgs_nil)))))
      (pss_cons (ps_if (PW.pt (pw_both (pt_cmpR op_lt (pv 4) pe_int (nomark _)) (pw_and1 (pt_cmpR (op_neD hu) (pv 7) (pe_tup pa_nil) (nomark _)))))
          (pss_cons (ps_set (i := 9) scBent.nd rfl (.inl rfl) (pcall DT GT hr1 (pa_cons (pv 0) (pa_cons (pe_callB call_len_seq (by rfl) B.len PySem.boot_len (pa_cons (pv 7) pa_nil)) pa_nil))))
          (pss_one (ps_set (i := 7) scBent.nd rfl (.inl rfl) (pe_op op_join (pe_op op_join (pe_slice sl_cut (pv 7) po_none (po_some (pv 9))) (pe_tup (pa_cons (pcall DT GT hr1 (pa_cons (pv 0) (pa_cons (pe_ix ix_tup (pv 2) pe_int (fun _ _ => rfl)) pa_nil))) pa_nil))) (pe_slice sl_cut (pv 7) (po_some (pe_op op_add (pv 9) pe_int)) po_none)))))
        (pss_one (ps_if (PW.pt (pw_both (pt_cmpR op_lt (pv 4) pe_int (nomark _)) (pw_and1 (pt_cmpR (op_neD hu) (pv 6) (pe_tup pa_nil) (nomark _)))))
          (pss_cons (ps_set (i := 9) scBent.nd rfl (.inl rfl) (pcall DT GT hr1 (pa_cons (pv 0) (pa_cons (pe_callB call_len_seq (by rfl) B.len PySem.boot_len (pa_cons (pv 6) pa_nil)) pa_nil))))
          (pss_one (ps_set (i := 6) scBent.nd rfl (.inl rfl) (pe_op op_join (pe_slice sl_cut (pv 6) po_none (po_some (pv 9))) (pe_slice sl_cut (pv 6) (po_some (pe_op op_add (pv 9) pe_int)) po_none)))))
        (pss_one (ps_if (PW.pt (pw_both (pt_cmpR op_eq (pv 4) pe_int (nomark _)) (pw_and1 (pt_cmpR (op_neD hu) (pv 8) (pe_tup pa_nil) (nomark _)))))
          (pss_one (ps_set (i := 8) scBent.nd rfl (.inl rfl) (pe_slice sl_cut (pv 8) (po_some pe_int) po_none)))
        (pss_one (ps_if (PW.pt (pw_both (pt_cmpR op_eq (pv 4) pe_int (nomark _)) (pw_both (pt_cmpR op_lt (pe_callB call_len_seq (by rfl) B.len PySem.boot_len (pa_cons (pv 8) pa_nil)) pe_int (nomark _))
              (pw_and1 (pt_cmpR op_notIn_seq (pe_ix ix_tup (pe_ix ix_tup (pe_ix ix_tup (pv 1) pe_int (fun _ _ => rfl)) (pv 5) (fun _ _ => rfl)) pe_int (fun _ _ => rfl)) (pe_tup (pa_cons pe_str (pa_cons pe_str (pa_cons pe_str pa_nil)))) (by rfl))))))
          (pss_one (ps_set (i := 8) scBent.nd rfl (.inl rfl) (pe_op op_join (pv 8) (pe_tup (pa_cons (pcall DM GM hr (pa_cons (pv 0) (pa_cons (pv 2) pa_nil))) pa_nil)))))
        (pss_one (ps_if (pt_cmpR op_lt (pe_callB call_len_seq (by rfl) B.len PySem.boot_len (pa_cons (pv 6) pa_nil)) pe_int (nomark _))
          (pss_cons (ps_set (i := 9) scBent.nd rfl (.inl rfl) (pcall DT GT hr1 (pa_cons (pv 0) (pa_cons (pe_op op_add (pe_callB call_len_seq (by rfl) B.len PySem.boot_len (pa_cons (pv 6) pa_nil)) pe_int) pa_nil))))
          (pss_one (ps_set (i := 6) scBent.nd rfl (.inl rfl) (pe_op op_join (pe_op op_join (pe_slice sl_cut (pv 6) po_none (po_some (pv 9))) (pe_tup (pa_cons (pcall DM GM hr (pa_cons (pv 0) (pa_cons (pv 2) pa_nil))) pa_nil))) (pe_slice sl_cut (pv 6) (po_some (pv 9)) po_none))))) pss_nil)))))))))
      (pss_one (ps_ret (pe_tup (pa_cons (pe_ix ix_tup (pv 3) pe_int (fun _ _ => rfl)) (pa_cons (pe_op op_join (pe_op op_join (pe_slice sl_cut (pe_ix ix_tup (pv 3) pe_int (fun _ _ => rfl)) po_none (po_some (pv 5))) (pe_tup (pa_cons (pe_tup (pa_cons (pv 6) (pa_cons (pv 7) (pa_cons (pv 8) pa_nil)))) pa_nil)))
          (pe_slice sl_cut (pe_ix ix_tup (pv 3) pe_int (fun _ _ => rfl)) (po_some (pe_op op_add (pv 5) pe_int)) po_none)) pa_nil))))))), ?_⟩
    obtain ⟨rs, as, hpa, hrs, hrows⟩ := hp.ex
    obtain ⟨e, ha, he⟩ := hf.ex
    have b1 := ok.b1
    have b6 := ok.b6
    have r24 := pok.r1
    have r0 := pok.r0
    have gl := cok.gl
    obtain ⟨ca', cvs, ec, hca, call⟩ := hc.tupE
    obtain rfl : ca = ca' := V.ref.inj ec
    obtain ⟨p0, gt, rfl, tpl, tgr⟩ : ∃ p0 gt, cvs = [.ref p0, .ref gt] ∧ Tp H (.ref p0) (.tuple (c.places.map Pl.d)) ∧ Tp H (.ref gt) (.tuple (c.groups.map Grp.d)) := by
      cases call with
      | cons h1 t1 =>
        cases t1 with
        | cons h2 t2 =>
          cases t2
          obtain ⟨x1, _, e1, _⟩ := h1.tupE
          obtain ⟨x2, _, e2, _⟩ := h2.tupE
          subst e1 e2
          exact ⟨x1, x2, rfl, h1, h2⟩
    obtain ⟨gt', gvs, eg, hgt, gall⟩ := tgr.tupE
    obtain rfl : gt = gt' := V.ref.inj eg
    have gvl : gvs.length = p.rows.length := by rw [gall.len, List.length_map, gl]
    -- way, number
    refine ⟨_, rfl, b, l, 8, rfl, bo, by decide, by decide, fun H1 way w0 w1 bo1 x1 => ?_⟩
    refine ⟨_, rfl, _, rfl, ca, _, 1, _, rfl, rfl, SqT.of (x1.tup _ _ hca), atI_nat (j := 1) rfl, gt, _, rfl, .inr (SqT.of (x1.tup _ _ hgt)), b, l, gvs.length, rfl, bo1, by omega, by omega, fun H2 nr n0 n1 bo2 x2 => ⟨_, _, rfl, ?_⟩⟩
    obtain ⟨number, rfl, nlt'⟩ := nat_of n0 n1
    have nlt : number < c.groups.length := by omega
    have nrow : number < p.rows.length := by omega
    have X2 := x1.trans x2
    have erow : p.rows[number]? = some p.rows[number] := List.getElem?_eq_getElem nrow
    have egrp : c.groups[number]? = some c.groups[number] := List.getElem?_eq_getElem nlt
    have gok := cok.gm number _ _ egrp erow
    generalize hrowe : p.rows[number] = row at erow gok
    generalize hgrpe : c.groups[number] = grp at egrp gok
    obtain ⟨gv, egv, tgv⟩ := gall.get (i := number) (d := grp.d) (by rw [List.getElem?_map, egrp]; rfl)
    obtain ⟨ga, gparts, rfl, hga, gpall⟩ := tgv.tupE
    obtain ⟨ah, bxs, bh, rfl, tah, tbx, tbh⟩ : ∃ ah bxs bh, gparts = [.ref ah, .ref bxs, .ref bh] ∧ Tp H (.ref ah) (.tuple (grp.ahead.map Mv.d)) ∧ Tp H (.ref bxs) (.tuple (nD grp.boxes)) ∧ Tp H (.ref bh) (.tuple (grp.behind.map Mv.d)) := by
      cases gpall with
      | cons h1 t1 =>
        cases t1 with
        | cons h2 t2 =>
          cases t2 with
          | cons h3 t3 =>
            cases t3
            obtain ⟨z1, _, e1, _⟩ := h1.tupE
            obtain ⟨z2, _, e2, _⟩ := h2.tupE
            obtain ⟨z3, _, e3, _⟩ := h3.tupE
            subst e1 e2 e3
            exact ⟨z1, z2, z3, rfl, h1, h2, h3⟩
    -- ahead, boxes, behind = choice[1][number]
    refine ⟨_, rfl, ca, _, 1, _, rfl, rfl, SqT.of (X2.tup _ _ hca), atI_nat (j := 1) rfl, _, rfl, gt, _, number, _, rfl, rfl, SqT.of (X2.tup _ _ hgt), atI_nat egv, ga, _, rfl, SqT.of (X2.tup _ _ hga), rfl, _, _, rfl, _, _, rfl, _, _, rfl, rfl, ?_⟩
    have tah2 := tah.ext X2
    have tbx2 := tbx.ext X2
    have tbh2 := tbh.ext X2
    obtain ⟨_, avs, ea, hah, aall⟩ := tah2.tupE
    obtain ⟨_, bvs, eb, hbx, ball⟩ := tbx2.tupE
    obtain ⟨_, hvs, eh, hbh, hall⟩ := tbh2.tupE
    cases ea
    cases eb
    cases eh
    have alen : avs.length = grp.ahead.length := by rw [aall.len, List.length_map]
    have blen : bvs.length = grp.boxes.length := by rw [ball.len, List.length_map]
    have hlen : hvs.length = grp.behind.length := by rw [hall.len, List.length_map]
    -- way < 3 and boxes != ()
    change tBoth _ _ _ _ _
    refine and_go (c1 := decide (way < 3)) (c2 := !(nD grp.boxes).isEmpty) (fun R k => ⟨_, rfl, _, _, rfl, rfl, _, rfl, k _ (Ext.refl _ _)⟩) (fun H' x' R k => ⟨_, rfl, Nat.zero_le _, fun z0 nz0 => ⟨.tuple (nD grp.boxes), .tuple [], (Tp.ext (x'.trans (Ext.new nz0)) tbx2).dp, .tup (SqT.of upd_same) .nil, shBoxes _, rfl, _, rfl, (by rw [neEmpty]; exact k _ (Ext.new nz0))⟩⟩) fun H3 x3 => split2 (fun t1 => ?_) (fun t1 => ?_)
    · simp only [Bool.and_eq_true, Bool.not_eq_true', List.isEmpty_eq_false_iff] at t1
      have bpos : 0 < grp.boxes.length := by
        have := List.length_pos_iff.mpr t1.2
        rw [List.length_map] at this
        exact this
      have blim : grp.boxes.length ≤ 3 := by rw [gok.len]; exact names_few row
      have bo3 := bo2.ext x3 (fun z => z) (fun z => z)
      have X3 : Ext (bx b l) H H3 := X2.trans x3.of0
      have tA3 := tah2.ext x3
      have tB3 := tbx2.ext x3
      have tC3 := tbh2.ext x3
      refine ⟨_, rfl, _, rfl, bxs, _, rfl, .inr (SqT.of (x3.tup _ _ hbx)), b, l, bvs.length, rfl, bo3, by omega, by omega, fun H4 r r0 r1 bo4 x4 => ?_⟩
      rw [blen] at r1
      obtain ⟨k, rfl, klt⟩ := nat_of r0 r1
      refine ⟨_, rfl, _, rfl, (k : Int), rfl, ?_⟩
      refine cut_to (tB3.ext x4) fun H5 s1 ts1 x5 => ?_
      have bo5 := bo4.ext x5 (fun z => z) (fun z => z)
      have X5 : Ext (bx b l) H H5 := (X3.trans x4).trans x5.of0
      refine ⟨_, rfl, _, rfl, a, _, 0, _, rfl, rfl, SqT.of (X5.tup _ _ ha), atI_nat (j := 0) rfl, b, l, f.boxes, rfl, bo5, by omega, by omega, fun H6 r6 r60 r61 bo6 x6 => ⟨by show 1 ≤ sizeLine; decide, fun o no' => ?_⟩⟩
      obtain ⟨v, rfl, vlt⟩ := nat_of r60 r61
      have x7 : Ext no H6 (upd H6 o (.tup [.int v])) := Ext.new no'
      have to : Tp (upd H6 o (.tup [.int v])) (.ref o) (.tuple [.int v]) := .tup upd_same (.cons (.int _) .nil)
      generalize upd H6 o (.tup [.int v]) = H7 at x7 to ⊢
      have x57 : Ext (bx b l) H5 H7 := x6.trans x7.of0
      refine join_tp (ts1.ext x57) to (by rw [List.length_take, List.length_map]; show min k grp.boxes.length + 1 ≤ 100; omega) fun H8 c1 tc1 x8 => ?_
      have X8 : Ext (bx b l) H3 H8 := (x4.trans x5.of0).trans (x57.trans x8.of0)
      refine ⟨_, rfl, _, rfl, _, _, rfl, rfl, ((k + 1 : Nat) : Int), rfl, ?_⟩
      refine cut_from (tB3.ext X8) fun H9 s2 ts2 x9 => ?_
      refine join_tp (tc1.ext x9) ts2 (by rw [List.length_append, List.length_take, List.length_drop, List.length_map]; show min k grp.boxes.length + 1 + (grp.boxes.length - (k + 1)) ≤ 100; omega) fun HA nb tB x10 => ?_
      rw [setAt (fun (n : Nat) => PyData.int (n : Int)) grp.boxes k v klt] at tB
      have XA : Ext (bx b l) H3 HA := X8.trans (x9.trans x10).of0
      have tA := tA3.ext XA
      have tC := tC3.ext XA
      have X10 : Ext (bx b l) H HA := X3.trans XA
      have BO10 := (bo6.ext ((x7.trans x8).trans (x9.trans x10)) (fun z => z) (fun z => z))
      have GOK : Grp.Ok f row (Grp.mk grp.ahead (grp.boxes.set k v) grp.behind) := ⟨gok.a6, gok.h6, gok.am, gok.hm, gok.on, by show (grp.boxes.set k v).length = _; rw [List.length_set]; exact gok.len, fun y hy => by
        rcases List.mem_or_eq_of_mem_set hy with z | z
        · exact gok.bm y z
        · rw [z]; exact vlt⟩
      -- the choice told anew
      have hca0 := X10.tup _ _ hca
      have tgr0 := tgr.ext X10
      have tpl0 := tpl.ext X10
      refine ⟨_, rfl, ca, _, 0, _, rfl, rfl, SqT.of hca0, atI_nat (j := 0) rfl, _, rfl, ca, _, 1, _, rfl, rfl, SqT.of hca0, atI_nat (j := 1) rfl, _, rfl, (number : Int), rfl, ?_⟩
      refine cut_to tgr0 fun T1 s1 ts1 y1 => ?_
      refine ⟨_, rfl, _, rfl, _, rfl, by show 3 ≤ sizeLine; decide, fun g1 ng1 => ⟨by show 1 ≤ sizeLine; decide, fun o1 no1 => ?_⟩⟩
      have y2 : Ext no T1 (upd (upd T1 g1 (.tup [.ref ah, .ref nb, .ref bh])) o1 (.tup [.ref g1])) := (Ext.new ng1).trans (Ext.new no1)
      have hg1 : (upd (upd T1 g1 (.tup [.ref ah, .ref nb, .ref bh])) o1 (.tup [.ref g1])) g1 = some (.tup [.ref ah, .ref nb, .ref bh]) := (Ext.new (m := no) no1).tup _ _ upd_same
      have ho1 : (upd (upd T1 g1 (.tup [.ref ah, .ref nb, .ref bh])) o1 (.tup [.ref g1])) o1 = some (.tup [.ref g1]) := upd_same
      generalize upd (upd T1 g1 (.tup [.ref ah, .ref nb, .ref bh])) o1 (.tup [.ref g1]) = T2 at y2 hg1 ho1 ⊢
      have y12 := y1.trans y2
      have tg1 : Tp T2 (.ref g1) (Grp.d (Grp.mk grp.ahead (grp.boxes.set k v) grp.behind)) := .tup hg1 (.cons (tA.ext y12) (.cons (tB.ext y12) (.cons (tC.ext y12) .nil)))
      have to1 : Tp T2 (.ref o1) (.tuple [Grp.d (Grp.mk grp.ahead (grp.boxes.set k v) grp.behind)]) := .tup ho1 (.cons tg1 .nil)
      refine join_tp (ts1.ext y2) to1 (by rw [List.length_take, List.length_map]; show min number c.groups.length + 1 ≤ 100; omega) fun T3 c1 tc1 y3 => ?_
      have y13 := y12.trans y3
      refine ⟨_, rfl, ca, _, 1, _, rfl, rfl, SqT.of (y13.tup _ _ hca0), atI_nat (j := 1) rfl, _, rfl, _, _, rfl, rfl, ((number + 1 : Nat) : Int), rfl, ?_⟩
      refine cut_from (tgr0.ext y13) fun T4 s2 ts2 y4 => ?_
      refine join_tp (tc1.ext y4) ts2 (by rw [List.length_append, List.length_take, List.length_drop, List.length_map]; show min number c.groups.length + 1 + (c.groups.length - (number + 1)) ≤ 100; omega) fun T5 c2 tc2 y5 => ⟨by show 2 ≤ sizeLine; decide, fun t nt => ?_⟩
      have y15 := (y13.trans y4).trans y5
      have y6 : Ext no T5 (upd T5 t (.tup [.ref p0, .ref c2])) := Ext.new nt
      have egr := setAt Grp.d c.groups number (Grp.mk grp.ahead (grp.boxes.set k v) grp.behind) nlt
      rw [egr] at tc2
      have X6 : Ext no HA (upd T5 t (.tup [.ref p0, .ref c2])) := y15.trans y6
      exact q _ t ⟨c.places, c.groups.set number (Grp.mk grp.ahead (grp.boxes.set k v) grp.behind)⟩ (cok.set nlt erow GOK) (.tup upd_same (.cons ((tpl0.ext y15).ext y6) (.cons (tc2.ext y6) .nil))) (BO10.ext X6 (fun z => z) (fun z => z)) (X10.trans X6.of0)
    -- way < 5 and ahead != ()
    have bo3 := bo2.ext x3 (fun z => z) (fun z => z)
    have X3 : Ext (bx b l) H H3 := X2.trans x3.of0
    have tA3 := tah2.ext x3
    have tB3 := tbx2.ext x3
    have tC3 := tbh2.ext x3
    have hah3 := x3.tup _ _ hah
    have hbh3 := x3.tup _ _ hbh
    change tBoth _ _ _ _ _
    refine and_go (c1 := decide (way < 5)) (c2 := !(grp.ahead.map Mv.d).isEmpty) (fun R k => ⟨_, rfl, _, _, rfl, rfl, _, rfl, k _ (Ext.refl _ _)⟩) (fun H' x' R k => ⟨_, rfl, Nat.zero_le _, fun z0 nz0 => ⟨.tuple (grp.ahead.map Mv.d), .tuple [], (Tp.ext (x'.trans (Ext.new nz0)) tA3).dp, .tup (SqT.of upd_same) .nil, shMoves _, rfl, _, rfl, (by rw [neEmpty]; exact k _ (Ext.new nz0))⟩⟩) fun H4 x4 => split2 (fun t2 => ?_) (fun t2 => ?_)
    · simp only [Bool.and_eq_true, Bool.not_eq_true', List.isEmpty_eq_false_iff] at t2
      have apos : 0 < grp.ahead.length := by
        have := List.length_pos_iff.mpr t2.2
        rw [List.length_map] at this
        exact this
      have a6 := gok.a6
      have bo4 := bo3.ext x4 (fun z => z) (fun z => z)
      have X4 : Ext (bx b l) H H4 := X3.trans x4.of0
      refine ⟨_, rfl, _, rfl, ah, _, rfl, .inr (SqT.of (x4.tup _ _ hah3)), b, l, avs.length, rfl, bo4, by omega, by omega, fun H5 r r0 r1 bo5 x5 => ?_⟩
      rw [alen] at r1
      obtain ⟨k, rfl, klt⟩ := nat_of r0 r1
      have tA5 := (tA3.ext x4).ext x5
      refine ⟨_, rfl, _, rfl, (k : Int), rfl, ?_⟩
      refine cut_to tA5 fun H6 s1 ts1 x6 => ?_
      refine ⟨_, rfl, _, rfl, _, _, rfl, rfl, ((k + 1 : Nat) : Int), rfl, ?_⟩
      refine cut_from (tA5.ext x6) fun H7 s2 ts2 x7 => ?_
      refine join_tp (ts1.ext x7) ts2 (by rw [List.length_take, List.length_drop, List.length_map]; omega) fun HA na tA x8 => ?_
      rw [cutOut Mv.d grp.ahead k] at tA
      have XA : Ext (bx b l) H4 HA := x5.trans ((x6.trans x7).trans x8).of0
      have tB := (tB3.ext x4).ext XA
      have tC := (tC3.ext x4).ext XA
      have X10 : Ext (bx b l) H HA := X4.trans XA
      have BO10 := bo5.ext ((x6.trans x7).trans x8) (fun z => z) (fun z => z)
      have GOK : Grp.Ok f row (Grp.mk (grp.ahead.take k ++ grp.ahead.drop (k + 1)) grp.boxes grp.behind) := ⟨by show (grp.ahead.take k ++ grp.ahead.drop (k + 1)).length ≤ 6; rw [List.length_append, List.length_take, List.length_drop]; omega, gok.h6, fun m hm => by
        rcases List.mem_append.mp hm with z | z
        · exact gok.am m (List.mem_of_mem_take z)
        · exact gok.am m (List.mem_of_mem_drop z), gok.hm, gok.on, gok.len, gok.bm⟩
      -- the choice told anew
      have hca0 := X10.tup _ _ hca
      have tgr0 := tgr.ext X10
      have tpl0 := tpl.ext X10
      refine ⟨_, rfl, ca, _, 0, _, rfl, rfl, SqT.of hca0, atI_nat (j := 0) rfl, _, rfl, ca, _, 1, _, rfl, rfl, SqT.of hca0, atI_nat (j := 1) rfl, _, rfl, (number : Int), rfl, ?_⟩
      refine cut_to tgr0 fun T1 s1 ts1 y1 => ?_
      refine ⟨_, rfl, _, rfl, _, rfl, by show 3 ≤ sizeLine; decide, fun g1 ng1 => ⟨by show 1 ≤ sizeLine; decide, fun o1 no1 => ?_⟩⟩
      have y2 : Ext no T1 (upd (upd T1 g1 (.tup [.ref na, .ref bxs, .ref bh])) o1 (.tup [.ref g1])) := (Ext.new ng1).trans (Ext.new no1)
      have hg1 : (upd (upd T1 g1 (.tup [.ref na, .ref bxs, .ref bh])) o1 (.tup [.ref g1])) g1 = some (.tup [.ref na, .ref bxs, .ref bh]) := (Ext.new (m := no) no1).tup _ _ upd_same
      have ho1 : (upd (upd T1 g1 (.tup [.ref na, .ref bxs, .ref bh])) o1 (.tup [.ref g1])) o1 = some (.tup [.ref g1]) := upd_same
      generalize upd (upd T1 g1 (.tup [.ref na, .ref bxs, .ref bh])) o1 (.tup [.ref g1]) = T2 at y2 hg1 ho1 ⊢
      have y12 := y1.trans y2
      have tg1 : Tp T2 (.ref g1) (Grp.d (Grp.mk (grp.ahead.take k ++ grp.ahead.drop (k + 1)) grp.boxes grp.behind)) := .tup hg1 (.cons (tA.ext y12) (.cons (tB.ext y12) (.cons (tC.ext y12) .nil)))
      have to1 : Tp T2 (.ref o1) (.tuple [Grp.d (Grp.mk (grp.ahead.take k ++ grp.ahead.drop (k + 1)) grp.boxes grp.behind)]) := .tup ho1 (.cons tg1 .nil)
      refine join_tp (ts1.ext y2) to1 (by rw [List.length_take, List.length_map]; show min number c.groups.length + 1 ≤ 100; omega) fun T3 c1 tc1 y3 => ?_
      have y13 := y12.trans y3
      refine ⟨_, rfl, ca, _, 1, _, rfl, rfl, SqT.of (y13.tup _ _ hca0), atI_nat (j := 1) rfl, _, rfl, _, _, rfl, rfl, ((number + 1 : Nat) : Int), rfl, ?_⟩
      refine cut_from (tgr0.ext y13) fun T4 s2 ts2 y4 => ?_
      refine join_tp (tc1.ext y4) ts2 (by rw [List.length_append, List.length_take, List.length_drop, List.length_map]; show min number c.groups.length + 1 + (c.groups.length - (number + 1)) ≤ 100; omega) fun T5 c2 tc2 y5 => ⟨by show 2 ≤ sizeLine; decide, fun t nt => ?_⟩
      have y15 := (y13.trans y4).trans y5
      have y6 : Ext no T5 (upd T5 t (.tup [.ref p0, .ref c2])) := Ext.new nt
      have egr := setAt Grp.d c.groups number (Grp.mk (grp.ahead.take k ++ grp.ahead.drop (k + 1)) grp.boxes grp.behind) nlt
      rw [egr] at tc2
      have X6 : Ext no HA (upd T5 t (.tup [.ref p0, .ref c2])) := y15.trans y6
      exact q _ t ⟨c.places, c.groups.set number (Grp.mk (grp.ahead.take k ++ grp.ahead.drop (k + 1)) grp.boxes grp.behind)⟩ (cok.set nlt erow GOK) (.tup upd_same (.cons ((tpl0.ext y15).ext y6) (.cons (tc2.ext y6) .nil))) (BO10.ext X6 (fun z => z) (fun z => z)) (X10.trans X6.of0)
    -- way == 5 and behind != ()
    have bo4 := bo3.ext x4 (fun z => z) (fun z => z)
    have X4 : Ext (bx b l) H H4 := X3.trans x4.of0
    have tA4 := tA3.ext x4
    have tB4 := tB3.ext x4
    have tC4 := tC3.ext x4
    have hah4 := x4.tup _ _ hah3
    have hbh4 := x4.tup _ _ hbh3
    change tBoth _ _ _ _ _
    refine and_go (c1 := decide (V.int way = V.int 5)) (c2 := !(grp.behind.map Mv.d).isEmpty) (fun R k => ⟨_, rfl, rfl, _, rfl, k _ (Ext.refl _ _)⟩) (fun H' x' R k => ⟨_, rfl, Nat.zero_le _, fun z0 nz0 => ⟨.tuple (grp.behind.map Mv.d), .tuple [], (Tp.ext (x'.trans (Ext.new nz0)) tC4).dp, .tup (SqT.of upd_same) .nil, shMoves _, rfl, _, rfl, (by rw [neEmpty]; exact k _ (Ext.new nz0))⟩⟩) fun H5 x5 => split2 (fun t3 => ?_) (fun t3 => ?_)
    · have bo5 := bo4.ext x5 (fun z => z) (fun z => z)
      have X5 : Ext (bx b l) H H5 := X4.trans x5.of0
      refine ⟨_, rfl, ((1 : Nat) : Int), rfl, ?_⟩
      refine cut_from (tC4.ext x5) fun HA nh tC x6 => ?_
      rw [← List.map_drop] at tC
      have tA := (tA4.ext x5).ext x6
      have tB := (tB4.ext x5).ext x6
      have X10 : Ext (bx b l) H HA := X5.trans x6.of0
      have BO10 := bo5.ext x6 (fun z => z) (fun z => z)
      have h6 := gok.h6
      have GOK : Grp.Ok f row (Grp.mk grp.ahead grp.boxes (grp.behind.drop 1)) := ⟨gok.a6, by show (grp.behind.drop 1).length ≤ 6; rw [List.length_drop]; omega, gok.am, fun m hm => gok.hm m (List.mem_of_mem_drop hm), fun z => by show grp.behind.drop 1 = []; rw [gok.on z]; rfl, gok.len, gok.bm⟩
      -- the choice told anew
      have hca0 := X10.tup _ _ hca
      have tgr0 := tgr.ext X10
      have tpl0 := tpl.ext X10
      refine ⟨_, rfl, ca, _, 0, _, rfl, rfl, SqT.of hca0, atI_nat (j := 0) rfl, _, rfl, ca, _, 1, _, rfl, rfl, SqT.of hca0, atI_nat (j := 1) rfl, _, rfl, (number : Int), rfl, ?_⟩
      refine cut_to tgr0 fun T1 s1 ts1 y1 => ?_
      refine ⟨_, rfl, _, rfl, _, rfl, by show 3 ≤ sizeLine; decide, fun g1 ng1 => ⟨by show 1 ≤ sizeLine; decide, fun o1 no1 => ?_⟩⟩
      have y2 : Ext no T1 (upd (upd T1 g1 (.tup [.ref ah, .ref bxs, .ref nh])) o1 (.tup [.ref g1])) := (Ext.new ng1).trans (Ext.new no1)
      have hg1 : (upd (upd T1 g1 (.tup [.ref ah, .ref bxs, .ref nh])) o1 (.tup [.ref g1])) g1 = some (.tup [.ref ah, .ref bxs, .ref nh]) := (Ext.new (m := no) no1).tup _ _ upd_same
      have ho1 : (upd (upd T1 g1 (.tup [.ref ah, .ref bxs, .ref nh])) o1 (.tup [.ref g1])) o1 = some (.tup [.ref g1]) := upd_same
      generalize upd (upd T1 g1 (.tup [.ref ah, .ref bxs, .ref nh])) o1 (.tup [.ref g1]) = T2 at y2 hg1 ho1 ⊢
      have y12 := y1.trans y2
      have tg1 : Tp T2 (.ref g1) (Grp.d (Grp.mk grp.ahead grp.boxes (grp.behind.drop 1))) := .tup hg1 (.cons (tA.ext y12) (.cons (tB.ext y12) (.cons (tC.ext y12) .nil)))
      have to1 : Tp T2 (.ref o1) (.tuple [Grp.d (Grp.mk grp.ahead grp.boxes (grp.behind.drop 1))]) := .tup ho1 (.cons tg1 .nil)
      refine join_tp (ts1.ext y2) to1 (by rw [List.length_take, List.length_map]; show min number c.groups.length + 1 ≤ 100; omega) fun T3 c1 tc1 y3 => ?_
      have y13 := y12.trans y3
      refine ⟨_, rfl, ca, _, 1, _, rfl, rfl, SqT.of (y13.tup _ _ hca0), atI_nat (j := 1) rfl, _, rfl, _, _, rfl, rfl, ((number + 1 : Nat) : Int), rfl, ?_⟩
      refine cut_from (tgr0.ext y13) fun T4 s2 ts2 y4 => ?_
      refine join_tp (tc1.ext y4) ts2 (by rw [List.length_append, List.length_take, List.length_drop, List.length_map]; show min number c.groups.length + 1 + (c.groups.length - (number + 1)) ≤ 100; omega) fun T5 c2 tc2 y5 => ⟨by show 2 ≤ sizeLine; decide, fun t nt => ?_⟩
      have y15 := (y13.trans y4).trans y5
      have y6 : Ext no T5 (upd T5 t (.tup [.ref p0, .ref c2])) := Ext.new nt
      have egr := setAt Grp.d c.groups number (Grp.mk grp.ahead grp.boxes (grp.behind.drop 1)) nlt
      rw [egr] at tc2
      have X6 : Ext no HA (upd T5 t (.tup [.ref p0, .ref c2])) := y15.trans y6
      exact q _ t ⟨c.places, c.groups.set number (Grp.mk grp.ahead grp.boxes (grp.behind.drop 1))⟩ (cok.set nlt erow GOK) (.tup upd_same (.cons ((tpl0.ext y15).ext y6) (.cons (tc2.ext y6) .nil))) (BO10.ext X6 (fun z => z) (fun z => z)) (X10.trans X6.of0)
    -- way == 6 and len(behind) < 6 and ..
    have bo5 := bo4.ext x5 (fun z => z) (fun z => z)
    have X5 : Ext (bx b l) H H5 := X4.trans x5.of0
    have tA5 := tA4.ext x5
    have tB5 := tB4.ext x5
    have tC5 := tC4.ext x5
    have hah5 := x5.tup _ _ hah4
    have hbh5 := x5.tup _ _ hbh4
    obtain ⟨ra, ear⟩ : ∃ ra, as[number]? = some ra := ⟨_, List.getElem?_eq_getElem (show number < as.length by rw [hrows.len]; exact nrow)⟩
    have hrowAt := hrows.at_ number ra row ear erow
    change tBoth _ _ _ _ _
    refine and_go (c1 := decide (V.int way = V.int 6)) (c2 := decide ((grp.behind.length : Int) < 6) && rowGoesOn row) (fun R k => ⟨_, rfl, rfl, _, rfl, k _ (Ext.refl _ _)⟩)
      (fun H' x' => TV.and (fun R k => ⟨_, rfl, bh, _, rfl, .inr (SqT.of (x'.tup _ _ hbh5)), _, _, rfl, rfl, _, rfl, (by rw [hlen]; exact k _ (Ext.refl _ _))⟩) fun H'' x'' R k => ⟨_, rfl, pa, _, 2, _, rfl, rfl, SqT.of (x''.tup _ _ (x'.tup _ _ (X5.tup _ _ hpa))), atI_nat (j := 2) rfl, _, rfl, rs, _, number, _, rfl, rfl, SqT.of (x''.tup _ _ (x'.tup _ _ (X5.tup _ _ hrs))), atI_nat (by rw [List.getElem?_map, ear]; rfl), ra, _, 0, _, rfl, rfl, SqT.of (x''.tup _ _ (x'.tup _ _ (X5.tup _ _ hrowAt))), first_word' row, by show 3 ≤ sizeLine; decide, fun t nt => ⟨t, _, rfl, .inr (SqT.of upd_same), rfl, rfl, _, rfl, (by
          have z := k _ (Ext.new (o := .tup [.str "go", .str "if", .str "end"]) nt)
          rw [show rowGoesOn row = !inV (.str (wordOf row)) [.str "go", .str "if", .str "end"] by rw [goesOn, Bool.not_not]] at z
          exact z)⟩⟩) fun H6 x6 => split2 (fun t4 => ?_) (fun t4 => ?_)
    · simp only [Bool.and_eq_true, decide_eq_true_eq] at t4
      have bo6 := bo5.ext x6 (fun z => z) (fun z => z)
      have X6' : Ext (bx b l) H H6 := X5.trans x6.of0
      refine ⟨_, rfl, _, rfl, _, rfl, b, l, a, f, rfl, bo6, hf.ext X6', ok, fun H7 mr mv mok tmv bo7 x7 => ⟨by show 1 ≤ sizeLine; decide, fun o no' => ?_⟩⟩
      have x8 : Ext no H7 (upd H7 o (.tup [.ref mr])) := Ext.new no'
      have to : Tp (upd H7 o (.tup [.ref mr])) (.ref o) (.tuple [Mv.d mv]) := .tup upd_same (.cons (tmv.ext x8) .nil)
      generalize upd H7 o (.tup [.ref mr]) = H8 at x8 to ⊢
      refine join_tp (((tC5.ext x6).ext x7).ext x8) to (by rw [List.length_map]; show grp.behind.length + 1 ≤ 100; omega) fun HA nh tC x9 => ?_
      rw [show grp.behind.map Mv.d ++ [Mv.d mv] = (grp.behind ++ [mv]).map Mv.d by rw [List.map_append]; rfl] at tC
      have XA : Ext (bx b l) H6 HA := x7.trans (x8.trans x9).of0
      have tA := (tA5.ext x6).ext XA
      have tB := (tB5.ext x6).ext XA
      have X10 : Ext (bx b l) H HA := X6'.trans XA
      have BO10 := bo7.ext (x8.trans x9) (fun z => z) (fun z => z)
      have GOK : Grp.Ok f row (Grp.mk grp.ahead grp.boxes (grp.behind ++ [mv])) := ⟨gok.a6, by show (grp.behind ++ [mv]).length ≤ 6; rw [List.length_append]; show grp.behind.length + 1 ≤ 6; omega, gok.am, memSnoc gok.hm mok, fun z => by rw [z] at t4; exact absurd t4.2.2 Bool.false_ne_true, gok.len, gok.bm⟩
      -- the choice told anew
      have hca0 := X10.tup _ _ hca
      have tgr0 := tgr.ext X10
      have tpl0 := tpl.ext X10
      refine ⟨_, rfl, ca, _, 0, _, rfl, rfl, SqT.of hca0, atI_nat (j := 0) rfl, _, rfl, ca, _, 1, _, rfl, rfl, SqT.of hca0, atI_nat (j := 1) rfl, _, rfl, (number : Int), rfl, ?_⟩
      refine cut_to tgr0 fun T1 s1 ts1 y1 => ?_
      refine ⟨_, rfl, _, rfl, _, rfl, by show 3 ≤ sizeLine; decide, fun g1 ng1 => ⟨by show 1 ≤ sizeLine; decide, fun o1 no1 => ?_⟩⟩
      have y2 : Ext no T1 (upd (upd T1 g1 (.tup [.ref ah, .ref bxs, .ref nh])) o1 (.tup [.ref g1])) := (Ext.new ng1).trans (Ext.new no1)
      have hg1 : (upd (upd T1 g1 (.tup [.ref ah, .ref bxs, .ref nh])) o1 (.tup [.ref g1])) g1 = some (.tup [.ref ah, .ref bxs, .ref nh]) := (Ext.new (m := no) no1).tup _ _ upd_same
      have ho1 : (upd (upd T1 g1 (.tup [.ref ah, .ref bxs, .ref nh])) o1 (.tup [.ref g1])) o1 = some (.tup [.ref g1]) := upd_same
      generalize upd (upd T1 g1 (.tup [.ref ah, .ref bxs, .ref nh])) o1 (.tup [.ref g1]) = T2 at y2 hg1 ho1 ⊢
      have y12 := y1.trans y2
      have tg1 : Tp T2 (.ref g1) (Grp.d (Grp.mk grp.ahead grp.boxes (grp.behind ++ [mv]))) := .tup hg1 (.cons (tA.ext y12) (.cons (tB.ext y12) (.cons (tC.ext y12) .nil)))
      have to1 : Tp T2 (.ref o1) (.tuple [Grp.d (Grp.mk grp.ahead grp.boxes (grp.behind ++ [mv]))]) := .tup ho1 (.cons tg1 .nil)
      refine join_tp (ts1.ext y2) to1 (by rw [List.length_take, List.length_map]; show min number c.groups.length + 1 ≤ 100; omega) fun T3 c1 tc1 y3 => ?_
      have y13 := y12.trans y3
      refine ⟨_, rfl, ca, _, 1, _, rfl, rfl, SqT.of (y13.tup _ _ hca0), atI_nat (j := 1) rfl, _, rfl, _, _, rfl, rfl, ((number + 1 : Nat) : Int), rfl, ?_⟩
      refine cut_from (tgr0.ext y13) fun T4 s2 ts2 y4 => ?_
      refine join_tp (tc1.ext y4) ts2 (by rw [List.length_append, List.length_take, List.length_drop, List.length_map]; show min number c.groups.length + 1 + (c.groups.length - (number + 1)) ≤ 100; omega) fun T5 c2 tc2 y5 => ⟨by show 2 ≤ sizeLine; decide, fun t nt => ?_⟩
      have y15 := (y13.trans y4).trans y5
      have y6 : Ext no T5 (upd T5 t (.tup [.ref p0, .ref c2])) := Ext.new nt
      have egr := setAt Grp.d c.groups number (Grp.mk grp.ahead grp.boxes (grp.behind ++ [mv])) nlt
      rw [egr] at tc2
      have X6 : Ext no HA (upd T5 t (.tup [.ref p0, .ref c2])) := y15.trans y6
      exact q _ t ⟨c.places, c.groups.set number (Grp.mk grp.ahead grp.boxes (grp.behind ++ [mv]))⟩ (cok.set nlt erow GOK) (.tup upd_same (.cons ((tpl0.ext y15).ext y6) (.cons (tc2.ext y6) .nil))) (BO10.ext X6 (fun z => z) (fun z => z)) (X10.trans X6.of0)
    -- len(ahead) < 6
    have bo6 := bo5.ext x6 (fun z => z) (fun z => z)
    have X6' : Ext (bx b l) H H6 := X5.trans x6.of0
    have tA6 := tA5.ext x6
    have tB6 := tB5.ext x6
    have tC6 := tC5.ext x6
    have hah6 := x6.tup _ _ hah5
    refine ⟨_, rfl, ah, _, rfl, .inr (SqT.of hah6), _, _, rfl, rfl, _, rfl, ite2 (fun t5 => ?_) (fun t5 => ?_)⟩
    · have a5 : grp.ahead.length < 6 := by
        have := of_decide_eq_true t5
        rw [alen] at this
        omega
      refine ⟨_, rfl, _, rfl, ah, _, rfl, .inr (SqT.of hah6), _, _, rfl, rfl, b, l, (avs.length : Int) + 1, rfl, bo6, by omega, by omega, fun H7 r r0 r1 bo7 x7 => ?_⟩
      obtain ⟨k, rfl, klt⟩ := nat_of (n := avs.length + 1) r0 (by omega)
      refine ⟨_, rfl, _, rfl, (k : Int), rfl, ?_⟩
      refine cut_to (tA6.ext x7) fun H8 s1 ts1 x8 => ?_
      have bo8 := bo7.ext x8 (fun z => z) (fun z => z)
      have X8 : Ext (bx b l) H H8 := (X6'.trans x7).trans x8.of0
      refine ⟨_, rfl, _, rfl, b, l, a, f, rfl, bo8, hf.ext X8, ok, fun H9 mr mv mok tmv bo9 x9 => ⟨by show 1 ≤ sizeLine; decide, fun o no' => ?_⟩⟩
      have xA : Ext no H9 (upd H9 o (.tup [.ref mr])) := Ext.new no'
      have to : Tp (upd H9 o (.tup [.ref mr])) (.ref o) (.tuple [Mv.d mv]) := .tup upd_same (.cons (tmv.ext xA) .nil)
      generalize upd H9 o (.tup [.ref mr]) = HB at xA to ⊢
      refine join_tp ((ts1.ext x9).ext xA) to (by rw [List.length_take, List.length_map]; show min k grp.ahead.length + 1 ≤ 100; omega) fun HC c1 tc1 xC => ?_
      have X6C : Ext (bx b l) H6 HC := (x7.trans x8.of0).trans (x9.trans (xA.trans xC).of0)
      refine ⟨_, rfl, _, rfl, (k : Int), rfl, ?_⟩
      refine cut_from (tA6.ext X6C) fun HD s2 ts2 xD => ?_
      refine join_tp (tc1.ext xD) ts2 (by rw [List.length_append, List.length_take, List.length_drop, List.length_map]; show min k grp.ahead.length + 1 + (grp.ahead.length - k) ≤ 100; omega) fun HA na tA xE => ?_
      rw [takeDrop Mv.d grp.ahead k mv] at tA
      have XA : Ext (bx b l) H6 HA := X6C.trans (xD.trans xE).of0
      have tB := tB6.ext XA
      have tC := tC6.ext XA
      have X10 : Ext (bx b l) H HA := X6'.trans XA
      have BO10 := bo9.ext ((xA.trans xC).trans (xD.trans xE)) (fun z => z) (fun z => z)
      have GOK : Grp.Ok f row (Grp.mk (grp.ahead.take k ++ [mv] ++ grp.ahead.drop k) grp.boxes grp.behind) := ⟨by show (grp.ahead.take k ++ [mv] ++ grp.ahead.drop k).length ≤ 6; rw [List.length_append, List.length_append, List.length_take, List.length_drop]; show min k grp.ahead.length + 1 + (grp.ahead.length - k) ≤ 6; omega, gok.h6, fun m hm => by
        rcases List.mem_append.mp hm with z | z
        · exact memSnoc (fun m hm => gok.am m (List.mem_of_mem_take hm)) mok m z
        · exact gok.am m (List.mem_of_mem_drop z), gok.hm, gok.on, gok.len, gok.bm⟩
      -- the choice told anew
      have hca0 := X10.tup _ _ hca
      have tgr0 := tgr.ext X10
      have tpl0 := tpl.ext X10
      refine ⟨_, rfl, ca, _, 0, _, rfl, rfl, SqT.of hca0, atI_nat (j := 0) rfl, _, rfl, ca, _, 1, _, rfl, rfl, SqT.of hca0, atI_nat (j := 1) rfl, _, rfl, (number : Int), rfl, ?_⟩
      refine cut_to tgr0 fun T1 s1 ts1 y1 => ?_
      refine ⟨_, rfl, _, rfl, _, rfl, by show 3 ≤ sizeLine; decide, fun g1 ng1 => ⟨by show 1 ≤ sizeLine; decide, fun o1 no1 => ?_⟩⟩
      have y2 : Ext no T1 (upd (upd T1 g1 (.tup [.ref na, .ref bxs, .ref bh])) o1 (.tup [.ref g1])) := (Ext.new ng1).trans (Ext.new no1)
      have hg1 : (upd (upd T1 g1 (.tup [.ref na, .ref bxs, .ref bh])) o1 (.tup [.ref g1])) g1 = some (.tup [.ref na, .ref bxs, .ref bh]) := (Ext.new (m := no) no1).tup _ _ upd_same
      have ho1 : (upd (upd T1 g1 (.tup [.ref na, .ref bxs, .ref bh])) o1 (.tup [.ref g1])) o1 = some (.tup [.ref g1]) := upd_same
      generalize upd (upd T1 g1 (.tup [.ref na, .ref bxs, .ref bh])) o1 (.tup [.ref g1]) = T2 at y2 hg1 ho1 ⊢
      have y12 := y1.trans y2
      have tg1 : Tp T2 (.ref g1) (Grp.d (Grp.mk (grp.ahead.take k ++ [mv] ++ grp.ahead.drop k) grp.boxes grp.behind)) := .tup hg1 (.cons (tA.ext y12) (.cons (tB.ext y12) (.cons (tC.ext y12) .nil)))
      have to1 : Tp T2 (.ref o1) (.tuple [Grp.d (Grp.mk (grp.ahead.take k ++ [mv] ++ grp.ahead.drop k) grp.boxes grp.behind)]) := .tup ho1 (.cons tg1 .nil)
      refine join_tp (ts1.ext y2) to1 (by rw [List.length_take, List.length_map]; show min number c.groups.length + 1 ≤ 100; omega) fun T3 c1 tc1 y3 => ?_
      have y13 := y12.trans y3
      refine ⟨_, rfl, ca, _, 1, _, rfl, rfl, SqT.of (y13.tup _ _ hca0), atI_nat (j := 1) rfl, _, rfl, _, _, rfl, rfl, ((number + 1 : Nat) : Int), rfl, ?_⟩
      refine cut_from (tgr0.ext y13) fun T4 s2 ts2 y4 => ?_
      refine join_tp (tc1.ext y4) ts2 (by rw [List.length_append, List.length_take, List.length_drop, List.length_map]; show min number c.groups.length + 1 + (c.groups.length - (number + 1)) ≤ 100; omega) fun T5 c2 tc2 y5 => ⟨by show 2 ≤ sizeLine; decide, fun t nt => ?_⟩
      have y15 := (y13.trans y4).trans y5
      have y6 : Ext no T5 (upd T5 t (.tup [.ref p0, .ref c2])) := Ext.new nt
      have egr := setAt Grp.d c.groups number (Grp.mk (grp.ahead.take k ++ [mv] ++ grp.ahead.drop k) grp.boxes grp.behind) nlt
      rw [egr] at tc2
      have X6 : Ext no HA (upd T5 t (.tup [.ref p0, .ref c2])) := y15.trans y6
      exact q _ t ⟨c.places, c.groups.set number (Grp.mk (grp.ahead.take k ++ [mv] ++ grp.ahead.drop k) grp.boxes grp.behind)⟩ (cok.set nlt erow GOK) (.tup upd_same (.cons ((tpl0.ext y15).ext y6) (.cons (tc2.ext y6) .nil))) (BO10.ext X6 (fun z => z) (fun z => z)) (X10.trans X6.of0)
    · have tA := tA6
      have tB := tB6
      have tC := tC6
      -- the choice told anew
      have hca0 := X6'.tup _ _ hca
      have tgr0 := tgr.ext X6'
      have tpl0 := tpl.ext X6'
      refine ⟨_, rfl, ca, _, 0, _, rfl, rfl, SqT.of hca0, atI_nat (j := 0) rfl, _, rfl, ca, _, 1, _, rfl, rfl, SqT.of hca0, atI_nat (j := 1) rfl, _, rfl, (number : Int), rfl, ?_⟩
      refine cut_to tgr0 fun T1 s1 ts1 y1 => ?_
      refine ⟨_, rfl, _, rfl, _, rfl, by show 3 ≤ sizeLine; decide, fun g1 ng1 => ⟨by show 1 ≤ sizeLine; decide, fun o1 no1 => ?_⟩⟩
      have y2 : Ext no T1 (upd (upd T1 g1 (.tup [.ref ah, .ref bxs, .ref bh])) o1 (.tup [.ref g1])) := (Ext.new ng1).trans (Ext.new no1)
      have hg1 : (upd (upd T1 g1 (.tup [.ref ah, .ref bxs, .ref bh])) o1 (.tup [.ref g1])) g1 = some (.tup [.ref ah, .ref bxs, .ref bh]) := (Ext.new (m := no) no1).tup _ _ upd_same
      have ho1 : (upd (upd T1 g1 (.tup [.ref ah, .ref bxs, .ref bh])) o1 (.tup [.ref g1])) o1 = some (.tup [.ref g1]) := upd_same
      generalize upd (upd T1 g1 (.tup [.ref ah, .ref bxs, .ref bh])) o1 (.tup [.ref g1]) = T2 at y2 hg1 ho1 ⊢
      have y12 := y1.trans y2
      have tg1 : Tp T2 (.ref g1) (Grp.d grp) := .tup hg1 (.cons (tA.ext y12) (.cons (tB.ext y12) (.cons (tC.ext y12) .nil)))
      have to1 : Tp T2 (.ref o1) (.tuple [Grp.d grp]) := .tup ho1 (.cons tg1 .nil)
      refine join_tp (ts1.ext y2) to1 (by rw [List.length_take, List.length_map]; show min number c.groups.length + 1 ≤ 100; omega) fun T3 c1 tc1 y3 => ?_
      have y13 := y12.trans y3
      refine ⟨_, rfl, ca, _, 1, _, rfl, rfl, SqT.of (y13.tup _ _ hca0), atI_nat (j := 1) rfl, _, rfl, _, _, rfl, rfl, ((number + 1 : Nat) : Int), rfl, ?_⟩
      refine cut_from (tgr0.ext y13) fun T4 s2 ts2 y4 => ?_
      refine join_tp (tc1.ext y4) ts2 (by rw [List.length_append, List.length_take, List.length_drop, List.length_map]; show min number c.groups.length + 1 + (c.groups.length - (number + 1)) ≤ 100; omega) fun T5 c2 tc2 y5 => ⟨by show 2 ≤ sizeLine; decide, fun t nt => ?_⟩
      have y15 := (y13.trans y4).trans y5
      have y6 : Ext no T5 (upd T5 t (.tup [.ref p0, .ref c2])) := Ext.new nt
      have egr := setAt Grp.d c.groups number grp nlt
      rw [egr] at tc2
      have X6 : Ext no H6 (upd T5 t (.tup [.ref p0, .ref c2])) := y15.trans y6
      exact q _ t ⟨c.places, c.groups.set number grp⟩ (cok.set nlt erow gok) (.tup upd_same (.cons ((tpl0.ext y15).ext y6) (.cons (tc2.ext y6) .nil))) (bo6.ext X6 (fun z => z) (fun z => z)) (X6'.trans X6.of0)
end
end Bw
namespace Bw
open PySem PySem.Spec PyProof.Rows L2 GxR
section
variable {base : Heap} {K : PySem.W.Frag} {mg : Str → Option Value} {P : Program} {w : World}
/-- a case: (program, frame, choice) -/
def spCase : Sp := fun vs H Q _ => ∃ (b l : Addr) (most : Nat), vs = [.ref b, .int most] ∧ BoxAt H b l ∧ 0 < most ∧ most ≤ 24 ∧
  ∀ H' t pa a ca (p : Prog) (f : Fr) (c : Ch), H' t = some (.tup [.ref pa, .ref a, .ref ca]) → p.Ok → p.rows.length ≤ most → ProgAt H' pa p → f.Ok → FrAt H' a f → Ch.Ok p f c → Tp H' (.ref ca) c.d → BoxAt H' b l → Ext (bx b l) H H' → Q (.ref t) H'
abbrev nCase : List Str := ["_law_box", "_law_most", "_law_program_here", "_law_frame_here", "_law_choice_here", "_law_change"]
theorem scCase : FnScope nCase ["_law_box", "_law_most"] (defScope s_law_case) := ⟨rfl, rfl, rfl, by decide +kernel, rfl, by decide +kernel, by decide +kernel⟩
theorem ok_case {f fT fR fP fF fI fH fG fC fM fB : Addr} {fd fdT fdR fdP fdF fdI fdH fdG fdC fdM fdB : FuncData} (D : Df K mg "_law_case" s_law_case ["_law_box", "_law_most"] f fd) (DT : Df K mg "_law_take" s_take ["_law_box", "_law_many"] fT fdT)
    (DR : Df K mg "_law_row" s_row ["_law_box", "_law_names", "_law_many", "_law_at"] fR fdR) (DP : Df K mg "_law_program" s_program ["_law_box", "_law_most"] fP fdP) (DF : Df K mg "_law_frame" s_law_frame ["_law_box"] fF fdF) (DI : Df K mg "_law_fits" s_law_fits ["_law_program_here", "_law_frame_here"] fI fdI)
    (DH : Df K mg "_law_homes" s_law_homes ["_law_box", "_law_names", "_law_frame_here"] fH fdH) (DG : Df K mg "_law_group" s_law_group ["_law_box", "_law_row_here", "_law_homes_here", "_law_frame_here"] fG fdG) (DC : Df K mg "_law_choice" s_law_choice ["_law_box", "_law_program_here", "_law_frame_here"] fC fdC)
    (DM : Df K mg "_law_move" s_law_move ["_law_box", "_law_frame_here"] fM fdM) (DB : Df K mg "_law_bent" s_law_bent ["_law_box", "_law_program_here", "_law_frame_here", "_law_choice_here"] fB fdB) (B : Bt mg) : FnOk P w K mg base CX0 4 f fd ["_law_box", "_law_most"] spCase := by
  have GT : FnOk P w K mg base CX0 1 fT fdT ["_law_box", "_law_many"] spTake := ok_take DT
  have GP : FnOk P w K mg base CX0 3 fP fdP ["_law_box", "_law_most"] spProgram := ok_program DP DT DR B
  have GF : FnOk P w K mg base CX0 2 fF fdF ["_law_box"] spLframe := ok_lframe DF DT B
  have GI : FnOk P w K mg base CX0 1 fI fdI ["_law_program_here", "_law_frame_here"] spFits := ok_fits DI
  have GC : FnOk P w K mg base CX0 3 fC fdC ["_law_box", "_law_program_here", "_law_frame_here"] spChoice := ok_choice DC DT DH DG B
  have GB : FnOk P w K mg base CX0 3 fB fdB ["_law_box", "_law_program_here", "_law_frame_here", "_law_choice_here"] spBent := ok_bent DB DT DM B
  refine D.F.ok scCase (fun vs H Q E h => ?_) (fun cdv A outer s H vs Q E hr h => ?_)
  · obtain ⟨b, l, most, rfl, _⟩ := h
    rfl
  · obtain ⟨b, l, most, rfl, bo, m0, m24, q⟩ := h
    have hr1 := hr.mono (show 1 ≤ 3 by decide)
    have hr2 := hr.mono (show 2 ≤ 3 by decide)
    refine ⟨_, pss_cons (ps_par (i := 2) (j := 3) rfl scCase.nd rfl rfl (by decide) rfl rfl (pa_cons (pcall DP GP hr (pa_cons (pv 0) (pa_cons (pv 1) pa_nil))) (pa_cons (pcall DF GF hr2 (pa_cons (pv 0) pa_nil)) pa_nil)) (by rfl))
      (pss_cons (ps_while PassesOwn.never (pt_not (pt_val (pcall DI GI hr1 (pa_cons (pv 2) (pa_cons (pv 3) pa_nil)))))
        (pss_one (ps_set (i := 3) scCase.nd rfl (.inl rfl) (pe_tup (pa_cons (pe_ix ix_tup (pv 3) pe_int (fun _ _ => rfl)) (pa_cons (pe_op op_add (pe_ix ix_tup (pv 3) pe_int (fun _ _ => rfl)) pe_int) (pa_cons (pe_ix ix_tup (pv 3) pe_int (fun _ _ => rfl)) pa_nil)))))))
      (pss_cons (ps_set (i := 4) scCase.nd rfl (.inl rfl) (pcall DC GC hr (pa_cons (pv 0) (pa_cons (pv 2) (pa_cons (pv 3) pa_nil)))))
      (pss_cons (ps_for PassesOwn.never rfl (pi_range1 (by rfl) B.range (pa_cons (pe_ix ix_list (pe_lst (pa_cons pe_int (pa_cons pe_int (pa_cons pe_int (pa_cons (pe_op op_add pe_int (pcall DT GT hr1 (pa_cons (pv 0) (pa_cons pe_int pa_nil)))) pa_nil))))) (pcall DT GT hr1 (pa_cons (pv 0) (pa_cons pe_int pa_nil))) (fun _ _ => rfl)) pa_nil)) (pg_name (i := 5) scCase.nd rfl (.inl rfl))
        (pss_one (ps_set (i := 4) scCase.nd rfl (.inl rfl) (pcall DB GB hr (pa_cons (pv 0) (pa_cons (pv 2) (pa_cons (pv 3) (pa_cons (pv 4) pa_nil))))))))
      (pss_one (ps_ret (pe_tup (pa_cons (pv 2) (pa_cons (pv 3) (pa_cons (pv 4) pa_nil))))))))), ?_⟩
    -- a program, a frame
    refine ⟨_, rfl, _, rfl, b, l, most, rfl, bo, m0, m24, fun H1 pa p pok pmost hp1 bo1 x1 => ?_⟩
    refine ⟨_, rfl, b, l, rfl, bo1, fun H2 a0 f0 ok0 hf0 bo2 x2 => ⟨_, _, rfl, ?_⟩⟩
    have X2 : Ext (bx b l) H H2 := x1.trans x2
    have hp2 := hp1.ext x2
    have pn := pok.pn
    have n8 := pok.n1
    -- until it fits
    let Wn : Nat → L2.St → Hp → Prop := fun k σ H3 => ∃ (a : Addr) (f : Fr), σ = [some (.ref b), some (.int most), some (.ref pa), some (.ref a), none, none] ∧ f.Ok ∧ FrAt H3 a f ∧ k = p.params - (f.boxes + f.slots) ∧ Ext no H2 H3
    refine ⟨Wn, ⟨_, a0, f0, rfl, ok0, hf0, rfl, Ext.refl _ _⟩, ?_⟩
    rintro k σ H3 ⟨a, f, rfl, ok, hf, rfl, x3⟩
    refine ⟨_, rfl, _, rfl, pa, a, p, f, rfl, hp2.ext x3, hf, _, rfl, ?_⟩
    obtain ⟨e, ha, he⟩ := hf.ex
    by_cases fits : p.params ≤ f.boxes + f.slots
    · rw [decide_eq_true fits]
      refine iteF ?_
      have bo3 := bo2.ext x3 (fun z => z) (fun z => z)
      have X3 : Ext (bx b l) H H3 := X2.trans x3.of0
      refine ⟨_, rfl, _, rfl, _, rfl, b, l, pa, a, p, f, rfl, bo3, hp2.ext x3, pok, hf, ok, fits, fun H4 ca0 c0 cok0 tc0 bo4 x4 => ?_⟩
      refine ⟨_, rfl, b, l, 4, rfl, bo4, by decide, by decide, fun H5 r5 r50 r51 bo5 x5 => ⟨_, _, rfl, rfl, by show 4 ≤ sizeLine; decide, fun L nL => ?_⟩⟩
      refine ⟨_, rfl, b, l, 4, rfl, bo5.new nL, by decide, by decide, fun H6 k6 k60 k61 bo6 x6 => ?_⟩
      obtain ⟨v, ev, hv⟩ := pick4 (x := .int 0) (y := .int 0) (z := .int 1) (u := .int (1 + r5)) k60 k61
      refine ⟨L, _, k6, v, rfl, rfl, SqL.of (x6.lst (bo5.nb nL) upd_same), ev, ?_⟩
      obtain ⟨times, rfl, few⟩ : ∃ n : Nat, v = .int n ∧ n ≤ 4 := by
        rcases hv with ⟨rfl, _⟩ | ⟨rfl, _⟩ | ⟨rfl, _⟩ | ⟨rfl, _⟩
        · exact ⟨0, rfl, by decide⟩
        · exact ⟨0, rfl, by decide⟩
        · exact ⟨1, rfl, by decide⟩
        · exact ⟨(1 + r5).toNat, by rw [Int.toNat_of_nonneg (by omega)], by omega⟩
      have x46 : Ext (bx b l) H4 H6 := x5.trans ((Ext.new nL).trans x6)
      have X4 : Ext (bx b l) H H4 := X3.trans x4
      refine ⟨times, rfl, by omega, by omega, for_range (lo := 0) (n := times) (fun i σ H7 => ∃ (ca : Addr) (c : Ch) (v5 : Option V), σ = [some (.ref b), some (.int most), some (.ref pa), some (.ref a), some (.ref ca), v5] ∧ Ch.Ok p f c ∧ Tp H7 (.ref ca) c.d ∧ BoxAt H7 b l ∧ Ext (bx b l) H4 H7)
        ⟨ca0, c0, _, rfl, cok0, tc0.ext x46, bo6, x46⟩ ?_ ?_⟩
      · rintro i σ H7 hi ⟨ca, c, v5, rfl, cok, tc, bo7, x7⟩
        refine ⟨_, rfl, _, rfl, _, rfl, _, rfl, b, l, pa, a, ca, p, f, c, rfl, bo7, ((hp2.ext x3).ext x4).ext x7, pok, (hf.ext x4).ext x7, ok, tc, cok, fun H8 ca' c' cok' tc' bo8 x8 => ?_⟩
        exact ⟨ca', c', _, rfl, cok', tc', bo8, x7.trans x8⟩
      · rintro σ H7 ⟨ca, c, v5, rfl, cok, tc, bo7, x7⟩
        refine ⟨_, rfl, _, rfl, _, rfl, by show 3 ≤ sizeLine; decide, fun t nt => ?_⟩
        have x8 : Ext (bx b l) H7 (upd H7 t (.tup [.ref pa, .ref a, .ref ca])) := Ext.new nt
        exact q _ t pa a ca p f c upd_same pok pmost ((((hp2.ext x3).ext x4).ext x7).ext x8) ok (((hf.ext x4).ext x7).ext x8) cok (tc.ext x8) (bo7.new nt) (X4.trans (x7.trans x8))
    · rw [decide_eq_false fits]
      have b1 := ok.b1
      have b6 := ok.b6
      refine iteT ⟨fun σ' H' => Wn (p.params - (f.boxes + (f.slots + 1))) σ' H', fun σ' H' z => ⟨_, by omega, z⟩, ?_⟩
      refine ⟨_, rfl, a, _, 0, _, rfl, rfl, SqT.of ha, atI_nat (j := 0) rfl, _, rfl, a, _, 1, _, rfl, rfl, SqT.of ha, atI_nat (j := 1) rfl, _, _, rfl, rfl, _, rfl, a, _, 2, _, rfl, rfl, SqT.of ha, atI_nat (j := 2) rfl, by show 3 ≤ sizeLine; decide, fun a1 na1 => ?_⟩
      have x4 : Ext no H3 (upd H3 a1 (.tup [.int f.boxes, .int ((f.slots : Int) + 1), .ref e])) := Ext.new na1
      exact ⟨a1, ⟨f.boxes, f.slots + 1, f.eaten⟩, rfl, ⟨ok.b1, ok.b6, by show f.slots + 1 ≤ 8; omega, ok.eat, ok.rise⟩, ⟨e, upd_same, x4.tup _ _ he⟩, rfl, x3.trans x4⟩
end
end Bw
namespace Bw
open PySem PySem.Spec PyProof.Rows L2 GxR
/-! ### moves -/
def mvDo (f : Fr) : Mv → List Int → List Int
  | .copy a b, c => c.set a (at0 c b)
  | .swap a b, c => (c.set a (at0 c b)).set b (at0 c a)
  | .store s b, c => c.set (f.boxes + s) (at0 c b)
  | .load b s, c => c.set b (at0 c (f.boxes + s))
def mvsDo (f : Fr) (ms : List Mv) (c : List Int) : List Int := ms.foldl (fun c m => mvDo f m c) c
theorem mvDo_len (f : Fr) (m : Mv) (c : List Int) : (mvDo f m c).length = c.length := by cases m <;> simp [mvDo]
theorem mvsDo_len (f : Fr) : ∀ (ms : List Mv) (c : List Int), (mvsDo f ms c).length = c.length
  | [], _ => rfl
  | m :: ms, c => (mvsDo_len f ms (mvDo f m c)).trans (mvDo_len f m c)
theorem mvsDo_snoc (f : Fr) (ms : List Mv) (m : Mv) (c : List Int) : mvsDo f (ms ++ [m]) c = mvDo f m (mvsDo f ms c) := by
  unfold mvsDo
  rw [List.foldl_append]
  rfl
theorem mvDo_nums {f : Fr} {m : Mv} {c : List Int} (h : Nums c) : Nums (mvDo f m c) := by
  cases m with
  | copy a b => exact h.set (h.at0 b)
  | swap a b => exact (h.set (h.at0 b)).set (h.at0 a)
  | store s b => exact h.set (h.at0 b)
  | load b s => exact h.set (h.at0 _)
theorem mvsDo_nums {f : Fr} : ∀ (ms : List Mv) {c : List Int}, Nums c → Nums (mvsDo f ms c)
  | [], _, h => h
  | _ :: ms, _, h => mvsDo_nums ms (mvDo_nums h)
theorem set_ints (c : List Int) (n : Nat) (v : Int) : (c.map V.int).set n (.int v) = (c.set n v).map V.int := by rw [List.map_set]
theorem ixN_int {c : List Int} {n : Nat} (h : n < c.length) : ixN (c.map V.int).length (n : Int) = some n := ixN_nat (by rw [List.length_map]; exact h)
theorem tp3E {H : Hp} {x : V} {s : Str} {m n : Nat} (h : Tp H x (.tuple [.str s, .int m, .int n])) : ∃ t, x = .ref t ∧ H t = some (.tup [.str s, .int m, .int n]) := by
  obtain ⟨t, vs, e, ht, all⟩ := h.tupE
  cases all with
  | cons h1 t1 =>
    cases t1 with
    | cons h2 t2 =>
      cases t2 with
      | cons h3 t3 =>
        cases t3
        cases h1
        cases h2
        cases h3
        exact ⟨t, e, ht⟩
section
variable {base : Heap} {K : PySem.W.Frag} {mg : Str → Option Value} {P : Program} {w : World}
def spHeld : Sp := fun vs H Q _ => ∃ (h mv a : Addr) (c : List Int) (ms : List Mv) (f : Fr), vs = [.ref h, .ref mv, .ref a] ∧ H h = some (.lst (c.map V.int)) ∧ c.length = f.boxes + f.slots ∧ Tp H (.ref mv) (.tuple (ms.map Mv.d)) ∧ (∀ m ∈ ms, Mv.Ok f m) ∧ FrAt H a f ∧ f.Ok ∧
  ∀ H' r, H r = none → H' r = some (.lst ((mvsDo f ms c).map V.int)) → Ext no H H' → Q (.ref r) H'
abbrev nHeld : List Str := ["_law_held_here", "_law_moves", "_law_frame_here", "_law_found", "_law_word", "_law_one", "_law_other", "_law_keep"]
theorem scHeld : FnScope nHeld ["_law_held_here", "_law_moves", "_law_frame_here"] (defScope s_law_held) := ⟨rfl, rfl, rfl, by decide +kernel, rfl, by decide +kernel, by decide +kernel⟩
theorem ok_held {f : Addr} {fd : FuncData} (D : Df K mg "_law_held" s_law_held ["_law_held_here", "_law_moves", "_law_frame_here"] f fd) (B : Bt mg) : FnOk P w K mg base CX0 1 f fd ["_law_held_here", "_law_moves", "_law_frame_here"] spHeld := by
  refine D.F.ok scHeld (fun vs H Q E h => ?_) (fun cdv A outer s H vs Q E hr h => ?_)
  · obtain ⟨h, mv, a, c, ms, f, rfl, _⟩ := h
    rfl
  · obtain ⟨h, mv, a, c, ms, f, rfl, hh, cl, tms, mok, hf, ok, q⟩ := h
    have b6 := ok.b6
    refine ⟨_, pss_cons (ps_set (i := 3) scHeld.nd rfl (.inl rfl) (pe_callTy call_list_of (by rfl) B.list (by decide +kernel) (pa_cons (pv 0) pa_nil)))
      (pss_cons (ps_for PassesOwn.never rfl (pi_tup (pv 1)) (pg_tup rfl (pgs_cons (pg_name (i := 4) scHeld.nd rfl (.inl rfl)) (pgs_cons (pg_name (i := 5) scHeld.nd rfl (.inl rfl)) (pgs_cons (pg_name (i := 6) scHeld.nd rfl (.inl rfl)) pgs_nil))))
        (pss_one (ps_if (pt_cmpR op_eq (pv 4) pe_str (nomark _))
          (pss_cons (ps_set (i := 7) scHeld.nd rfl (.inl rfl) (pe_ix ix_list (pv 3) (pv 5) (fun _ _ => rfl)))
          (pss_cons (ps_asg (pe_ix ix_list (pv 3) (pv 6) (fun _ _ => rfl)) (pg_sub (pv 3) (pv 5) set_list))
          (pss_one (ps_asg (pv 7) (pg_sub (pv 3) (pv 6) set_list)))))
          (pss_one (ps_if (pt_cmpR op_eq (pv 4) pe_str (nomark _))
            (pss_one (ps_asg (pe_ix ix_list (pv 3) (pv 6) (fun _ _ => rfl)) (pg_sub (pv 3) (pe_op op_add (pe_ix ix_tup (pv 2) pe_int (fun _ _ => rfl)) (pv 5)) set_list)))
            (pss_one (ps_asg (pe_ix ix_list (pv 3) (pe_op op_add (pv 6) (pe_op op_mul (pe_ix ix_tup (pv 2) pe_int (fun _ _ => rfl)) (pe_callTy call_int1 (by rfl) B.int (by decide +kernel) (pa_cons (pe_cmpR op_eq (pv 4) pe_str (nomark _)) pa_nil)))) (fun _ _ => rfl)) (pg_sub (pv 3) (pv 5) set_list))))))))
      (pss_one (ps_ret (pv 3)))), ?_⟩
    obtain ⟨e, ha, he⟩ := hf.ex
    obtain ⟨mv', mvs, em, hmv, mall⟩ := tms.tupE
    obtain rfl : mv = mv' := V.ref.inj em
    refine ⟨_, rfl, h, _, rfl, .inl (SqL.of hh), fun fo nfo => ?_⟩
    have x1 : Ext no H (upd H fo (.lst (c.map V.int))) := Ext.new nfo
    have hfo1 : (upd H fo (.lst (c.map V.int))) fo = some (.lst (c.map V.int)) := upd_same
    generalize upd H fo (.lst (c.map V.int)) = H1 at x1 hfo1 ⊢
    refine ⟨_, rfl, mv, rfl, ⟨_, SqT.of (x1.tup _ _ hmv)⟩, for_tup (xs := mvs) (fun i σ H2 => (∃ v4 v5 v6 v7, σ = [some (.ref h), some (.ref mv), some (.ref a), some (.ref fo), v4, v5, v6, v7]) ∧ H2 fo = some (.lst ((mvsDo f (ms.take i) c).map V.int)) ∧ Ext (fun x => x = fo) H1 H2)
      ⟨⟨_, _, _, _, rfl⟩, hfo1, Ext.refl _ _⟩ (fun i σ H2 _ z => SqT.of (z.2.2.tup _ _ (x1.tup _ _ hmv))) ?_ ?_⟩
    · rintro i x σ H2 hx ⟨⟨v4, v5, v6, v7, rfl⟩, hfo2, x2⟩
      have ilt : i < ms.length := by
        have := (List.getElem?_eq_some_iff.mp hx).1
        rw [mall.len, List.length_map] at this
        exact this
      have eim : ms[i]? = some ms[i] := List.getElem?_eq_getElem ilt
      have mk := mok _ (List.getElem_mem ilt)
      generalize ms[i] = m at eim mk
      obtain ⟨x', ex, tx⟩ := mall.get (i := i) (d := m.d) (by rw [List.getElem?_map, eim]; rfl)
      obtain rfl : x = x' := Option.some.inj (hx.symm.trans ex)
      have next : mvsDo f (ms.take (i + 1)) c = mvDo f m (mvsDo f (ms.take i) c) := by rw [List.take_add_one, eim]; exact mvsDo_snoc f _ m c
      have dlen : (mvsDo f (ms.take i) c).length = f.boxes + f.slots := by rw [mvsDo_len]; exact cl
      generalize mvsDo f (ms.take i) c = d at hfo2 next dlen
      have tx2 := (tx.ext x1).ext x2
      have ha2 := x2.tup _ _ (x1.tup _ _ ha)
      have put : ∀ (H3 : Hp) (d' : List Int), Ext (fun x => x = fo) H1 H3 → H3 fo = some (.lst (d'.map V.int)) → d' = mvDo f m d → H3 fo = some (.lst ((mvsDo f (ms.take (i + 1)) c).map V.int)) ∧ Ext (fun x => x = fo) H1 H3 := fun H3 d' z1 z2 z3 => ⟨by rw [next, ← z3]; exact z2, z1⟩
      have stp : ∀ {H3 : Hp} {xs : List V} {o : HO}, H3 fo = some (.lst xs) → Ext (fun x => x = fo) H3 (upd H3 fo o) := fun {H3 xs o} z => Ext.put z rfl (fun _ z => by cases z) (fun _ z => by cases z)
      have atv : ∀ (n : Nat) (i : Int), i = (n : Int) → n < d.length → atI (d.map V.int) i = some (.int (at0 d n)) := fun n i e h => by rw [e]; exact atI_nat (at_get h)
      cases m with
      | copy p r =>
        obtain ⟨p1, r1⟩ := mk
        obtain ⟨t, rfl, ht⟩ := tp3E tx2
        refine ⟨t, _, rfl, SqT.of ht, rfl, _, _, rfl, _, _, rfl, _, _, rfl, rfl, ?_⟩
        refine ⟨_, rfl, rfl, ⟨_, rfl, nS (by decide +kernel) ⟨_, rfl, rfl, ⟨_, rfl, nS (by decide +kernel) ?_⟩⟩⟩⟩
        refine ⟨_, rfl, _, rfl, _, rfl, a, _, 0, _, rfl, rfl, SqT.of ha2, atI_nat (j := 0) rfl, _, rfl, rfl, .inr ⟨_, rfl, _, _, rfl, rfl, .inl ⟨by omega, by omega⟩, _, _, rfl, rfl, fo, _, _, _, rfl, rfl, SqL.of hfo2, atv r _ ?_ (by omega), _, rfl, _, rfl, fo, _, p, p, rfl, rfl, hfo2, ixN_int (by omega), ?_⟩⟩
        · rw [show decide (V.str "copy" = V.str "load") = false by decide +kernel]
          simp
        · exact ⟨⟨_, _, _, _, rfl⟩, put _ (d.set p (at0 d r)) (x2.trans (stp hfo2)) (by rw [upd_same, set_ints]) rfl⟩
      | swap p r =>
        obtain ⟨p1, r1⟩ := mk
        obtain ⟨t, rfl, ht⟩ := tp3E tx2
        refine ⟨t, _, rfl, SqT.of ht, rfl, _, _, rfl, _, _, rfl, _, _, rfl, rfl, ?_⟩
        refine ⟨_, rfl, rfl, ⟨_, rfl, yS ?_⟩⟩
        refine ⟨_, rfl, _, rfl, fo, _, p, _, rfl, rfl, SqL.of hfo2, atv p _ rfl (by omega), ?_⟩
        refine ⟨_, rfl, _, rfl, fo, _, r, _, rfl, rfl, SqL.of hfo2, atv r _ rfl (by omega), _, rfl, _, rfl, fo, _, p, p, rfl, rfl, hfo2, ixN_int (by omega), ?_⟩
        have hfo3 : (upd H2 fo (.lst ((d.map V.int).set p (.int (at0 d r))))) fo = some (.lst ((d.set p (at0 d r)).map V.int)) := by rw [upd_same, set_ints]
        have x3 := x2.trans (stp (o := .lst ((d.map V.int).set p (.int (at0 d r)))) hfo2)
        generalize upd H2 fo (.lst ((d.map V.int).set p (.int (at0 d r)))) = H3 at hfo3 x3 ⊢
        refine ⟨_, rfl, _, rfl, _, rfl, fo, _, r, r, rfl, rfl, hfo3, ixN_int (by rw [List.length_set]; omega), ?_⟩
        exact ⟨⟨_, _, _, _, rfl⟩, put _ ((d.set p (at0 d r)).set r (at0 d p)) (x3.trans (stp hfo3)) (by rw [upd_same, set_ints]) rfl⟩
      | store p r =>
        obtain ⟨p1, r1⟩ := mk
        obtain ⟨t, rfl, ht⟩ := tp3E tx2
        refine ⟨t, _, rfl, SqT.of ht, rfl, _, _, rfl, _, _, rfl, _, _, rfl, rfl, ?_⟩
        refine ⟨_, rfl, rfl, ⟨_, rfl, nS (by decide +kernel) ⟨_, rfl, rfl, ⟨_, rfl, yS ?_⟩⟩⟩⟩
        refine ⟨_, rfl, _, rfl, fo, _, r, _, rfl, rfl, SqL.of hfo2, atv r _ rfl (by omega), _, rfl, _, rfl, a, _, 0, _, rfl, rfl, SqT.of ha2, atI_nat (j := 0) rfl, _, rfl, _, _, rfl, rfl, fo, _, ((f.boxes + p : Nat) : Int), f.boxes + p, rfl, rfl, hfo2, ixN_int (by omega), ?_⟩
        exact ⟨⟨_, _, _, _, rfl⟩, put _ (d.set (f.boxes + p) (at0 d r)) (x2.trans (stp hfo2)) (by rw [upd_same, set_ints]) rfl⟩
      | load p r =>
        obtain ⟨p1, r1⟩ := mk
        obtain ⟨t, rfl, ht⟩ := tp3E tx2
        refine ⟨t, _, rfl, SqT.of ht, rfl, _, _, rfl, _, _, rfl, _, _, rfl, rfl, ?_⟩
        refine ⟨_, rfl, rfl, ⟨_, rfl, nS (by decide +kernel) ⟨_, rfl, rfl, ⟨_, rfl, nS (by decide +kernel) ?_⟩⟩⟩⟩
        refine ⟨_, rfl, _, rfl, _, rfl, a, _, 0, _, rfl, rfl, SqT.of ha2, atI_nat (j := 0) rfl, _, rfl, rfl, .inr ⟨_, rfl, _, _, rfl, rfl, .inl ⟨by omega, by omega⟩, _, _, rfl, rfl, fo, _, _, _, rfl, rfl, SqL.of hfo2, atv (f.boxes + r) _ ?_ (by omega), _, rfl, _, rfl, fo, _, p, p, rfl, rfl, hfo2, ixN_int (by omega), ?_⟩⟩
        · rw [show decide (V.str "load" = V.str "load") = true by decide +kernel]
          simp
          omega
        · exact ⟨⟨_, _, _, _, rfl⟩, put _ (d.set p (at0 d (f.boxes + r))) (x2.trans (stp hfo2)) (by rw [upd_same, set_ints]) rfl⟩
    · rintro σ H2 ⟨⟨v4, v5, v6, v7, rfl⟩, hfo2, x2⟩
      rw [mall.len, List.length_map, List.take_length] at hfo2
      exact ⟨_, rfl, q _ fo nfo hfo2 (x1.hide nfo x2)⟩
end
end Bw
namespace Bw
open PySem PySem.Spec PyProof.Rows L2 GxR
/-! ### what a program does by boxes -/
/-- what nobody knows: the numbers over and over, 0 if there are none -/
def oddOf (junk : List Int) : List Int := if junk.isEmpty = true then [0] else junk
def un (odd : List Int) (k : Nat) : Int := at0 odd (k % odd.length)
theorem oddOf_pos (junk : List Int) : 0 < (oddOf junk).length := by
  unfold oddOf
  split
  · exact Nat.zero_lt_one
  · rename_i h
    cases junk with
    | nil => exact absurd rfl h
    | cons _ _ => exact Nat.zero_lt_succ _
theorem oddOf_nums {junk : List Int} (h : Nums junk) : Nums (oddOf junk) := by
  unfold oddOf
  split
  · intro v hv
    rw [List.mem_singleton.mp hv]
    exact ⟨by decide, by decide⟩
  · exact h
theorem un_nums {odd : List Int} (h : Nums odd) (k : Nat) : 0 ≤ un odd k ∧ un odd k < 1000 := h.at0 _
theorem un_empty (k : Nat) : un (oddOf []) k = 0 := by
  show at0 [0] (k % 1) = 0
  rw [Nat.mod_one]
  rfl
/-- the eaten boxes, each with the next number -/
def eatDo (odd : List Int) : List Nat → List Int → Nat → List Int
  | [], c, _ => c
  | b :: bs, c, k => eatDo odd bs (c.set b (un odd k)) (k + 1)
theorem eatDo_len (odd : List Int) : ∀ (bs : List Nat) (c : List Int) (k : Nat), (eatDo odd bs c k).length = c.length
  | [], _, _ => rfl
  | b :: bs, c, k => (eatDo_len odd bs _ (k + 1)).trans (List.length_set ..)
theorem eatDo_nums {odd : List Int} (h : Nums odd) : ∀ (bs : List Nat) (c : List Int) (k : Nat), Nums c → Nums (eatDo odd bs c k)
  | [], _, _, hc => hc
  | _ :: bs, _, k, hc => eatDo_nums h bs _ (k + 1) (hc.set (un_nums h k))
theorem eatDo_snoc (odd : List Int) (b : Nat) : ∀ (bs : List Nat) (c : List Int) (k : Nat), eatDo odd (bs ++ [b]) c k = (eatDo odd bs c k).set b (un odd (k + bs.length))
  | [], _, _ => rfl
  | b' :: bs, c, k => by
    show eatDo odd (bs ++ [b]) (c.set b' (un odd k)) (k + 1) = _
    rw [eatDo_snoc odd b bs _ (k + 1), show k + 1 + bs.length = k + (b' :: bs).length by rw [List.length_cons]; omega]
    rfl
/-- the n-th box of a group -/
def boxAt (bs : List Nat) (n : Nat) : Nat := (bs[n]?).getD 0
/-- what a row makes of the numbers in its boxes -/
def madeB : Row → List Nat → List Int → Int
  | .put _ v, _, _ => v
  | .copy .., bs, c => at0 c (boxAt bs 1)
  | .add .., bs, c => (at0 c (boxAt bs 1) + at0 c (boxAt bs 2)) % 1000
  | .take .., bs, c => (at0 c (boxAt bs 1) - at0 c (boxAt bs 2)) % 1000
  | .less .., bs, c => if at0 c (boxAt bs 1) < at0 c (boxAt bs 2) then 1 else 0
  | .call .., bs, c => (7 * at0 c (boxAt bs 1) * at0 c (boxAt bs 1) + at0 c (boxAt bs 1) + 3) % 1000
  | _, _, _ => 0
theorem madeB_nums {names many : Nat} {row : Row} (ok : RowOk names many row) {c : List Int} (h : Nums c) (bs : List Nat) : 0 ≤ madeB row bs c ∧ madeB row bs c < 1000 := by
  cases row with
  | put n v => exact ok.2
  | copy n o => exact h.at0 _
  | add n a b => exact mod1000 _
  | take n a b => exact mod1000 _
  | less n a b =>
    show 0 ≤ (if _ then (1 : Int) else 0) ∧ (if _ then (1 : Int) else 0) < 1000
    split <;> exact ⟨by decide, by decide⟩
  | call n o => exact mod1000 _
  | _ => exact (⟨by decide, by decide⟩ : (0 : Int) ≤ 0 ∧ (0 : Int) < 1000)
def calls : Row → Bool
  | .call .. => true
  | _ => false
def makes : Row → Bool
  | .say .. => false
  | .iff .. => false
  | .go .. => false
  | .fin => false
  | _ => true
/-- what lies in the cells behind a row's own doing, ahead of the moves behind -/
def coreB (f : Fr) (odd : List Int) (row : Row) (bs : List Nat) (c : List Int) (k : Nat) : List Int :=
  let c1 := if calls row = true then eatDo odd f.eaten c k else c
  if makes row = true then c1.set (boxAt bs 0) (madeB row bs c) else c1
def doRowB (f : Fr) (odd : List Int) (row : Row) (g : Grp) (c : List Int) (k : Nat) : List Int := mvsDo f g.behind (coreB f odd row g.boxes (mvsDo f g.ahead c) k)
def countB (f : Fr) (row : Row) (k : Nat) : Nat := if calls row = true then k + f.eaten.length else k
def saidB : Row → List Nat → List Int → List Int → List Int
  | .say _, bs, c, s => s ++ [at0 c (boxAt bs 0)]
  | _, _, _, s => s
def nextB : Row → List Nat → List Int → Nat → Nat
  | .iff _ r, bs, c, i => if at0 c (boxAt bs 0) = 0 then i + 1 else r
  | .go r, _, _, _ => r
  | _, _, _, i => i + 1
theorem coreB_len (f : Fr) (odd : List Int) (row : Row) (bs : List Nat) (c : List Int) (k : Nat) : (coreB f odd row bs c k).length = c.length := by
  have e : (if calls row = true then eatDo odd f.eaten c k else c).length = c.length := by
    split
    · exact eatDo_len ..
    · rfl
  unfold coreB
  simp only
  split
  · rw [List.length_set]
    exact e
  · exact e
theorem doRowB_len (f : Fr) (odd : List Int) (row : Row) (g : Grp) (c : List Int) (k : Nat) : (doRowB f odd row g c k).length = c.length := by
  unfold doRowB
  rw [mvsDo_len, coreB_len, mvsDo_len]
theorem coreB_nums {names many : Nat} {f : Fr} {odd : List Int} {row : Row} (ok : RowOk names many row) (ho : Nums odd) {c : List Int} (h : Nums c) (bs : List Nat) (k : Nat) : Nums (coreB f odd row bs c k) := by
  have e : Nums (if calls row = true then eatDo odd f.eaten c k else c) := by
    split
    · exact eatDo_nums ho _ _ _ h
    · exact h
  unfold coreB
  simp only
  split
  · exact e.set (madeB_nums ok h bs)
  · exact e
theorem doRowB_nums {names many : Nat} {f : Fr} {odd : List Int} {row : Row} (ok : RowOk names many row) (ho : Nums odd) {c : List Int} (h : Nums c) (g : Grp) (k : Nat) : Nums (doRowB f odd row g c k) :=
  mvsDo_nums _ (coreB_nums ok ho (mvsDo_nums _ h) _ _)
theorem nextB_le {names : Nat} {rows : List Row} {row : Row} {bs : List Nat} {c : List Int} {i : Nat} (ok : RowOk names rows.length row) (h : rows[i]? = some row) : nextB row bs c i ≤ rows.length := by
  have hi := (List.getElem?_eq_some_iff.mp h).1
  cases row with
  | iff n r =>
    have h2 : r < rows.length := ok.2
    simp only [nextB]
    split <;> omega
  | go r =>
    have h2 : r < rows.length := ok
    simp only [nextB]
    omega
  | _ => simp only [nextB]; omega
/-- said, whether it came to its end, how many rows were done -/
def goB (f : Fr) (odd : List Int) (rows : List Row) (gs : List Grp) : Nat → List Int → Nat → Nat → List Int → Nat → List Int × Bool × Nat
  | 0, _, _, i, s, d => (s, atEnd rows i, d)
  | n + 1, c, k, i, s, d => match rows[i]?, gs[i]? with
    | some row, some g => if atEnd rows i = true then (s, true, d) else
        goB f odd rows gs n (doRowB f odd row g c k) (countB f row k) (nextB row g.boxes (mvsDo f g.ahead c) i) (saidB row g.boxes (mvsDo f g.ahead c) s) (d + 1)
    | _, _ => (s, true, d)
theorem goB_end {f : Fr} {odd : List Int} {rows : List Row} {gs : List Grp} {n k i d : Nat} {c s : List Int} (h : atEnd rows i = true) : goB f odd rows gs n c k i s d = (s, true, d) := by
  cases n with
  | zero => rw [goB, h]
  | succ n =>
    rw [goB]
    split
    · rw [if_pos h]
    · rfl
theorem goB_out {f : Fr} {odd : List Int} {rows : List Row} {gs : List Grp} {k i d : Nat} {c s : List Int} (h : atEnd rows i = false) : goB f odd rows gs 0 c k i s d = (s, false, d) := by rw [goB, h]
theorem goB_step {f : Fr} {odd : List Int} {rows : List Row} {gs : List Grp} {n k i d : Nat} {c s : List Int} {row : Row} {g : Grp} (er : rows[i]? = some row) (eg : gs[i]? = some g) (h : atEnd rows i = false) :
    goB f odd rows gs (n + 1) c k i s d = goB f odd rows gs n (doRowB f odd row g c k) (countB f row k) (nextB row g.boxes (mvsDo f g.ahead c) i) (saidB row g.boxes (mvsDo f g.ahead c) s) (d + 1) := by
  rw [goB, er, eg]
  simp only
  rw [h]
  exact if_neg Bool.false_ne_true
theorem goB_said (f : Fr) (odd : List Int) (rows : List Row) (gs : List Grp) : ∀ (n : Nat) (c : List Int) (k i : Nat) (s : List Int) (d : Nat), (goB f odd rows gs n c k i s d).1.length ≤ s.length + n
  | 0, c, k, i, s, d => by
    rw [goB]
    exact Nat.le_refl _
  | n + 1, c, k, i, s, d => by
    by_cases e : atEnd rows i = true
    · rw [goB_end e]
      exact Nat.le_add_right _ _
    · rw [goB]
      split
      · rename_i row g _ _
        rw [if_neg e]
        have ih := goB_said f odd rows gs n (doRowB f odd row g c k) (countB f row k) (nextB row g.boxes (mvsDo f g.ahead c) i) (saidB row g.boxes (mvsDo f g.ahead c) s) (d + 1)
        have one : (saidB row g.boxes (mvsDo f g.ahead c) s).length ≤ s.length + 1 := by
          cases row <;> simp [saidB]
        omega
      · exact Nat.le_add_right _ _
/-! the cells at first -/
def cellsB (f : Fr) (odd : List Int) : List Int := (List.range (f.boxes + f.slots)).map (un odd)
theorem cellsB_len (f : Fr) (odd : List Int) : (cellsB f odd).length = f.boxes + f.slots := (List.length_map ..).trans List.length_range
theorem cellsB_nums {f : Fr} {odd : List Int} (h : Nums odd) : Nums (cellsB f odd) := fun v hv => by
  obtain ⟨k, _, rfl⟩ := List.mem_map.mp hv
  exact un_nums h k
/-- where a place stands among the cells -/
def Pl.cell (f : Fr) (p : Pl) : Nat := if p.box = true then p.n else f.boxes + p.n
theorem Pl.cell_lt {f : Fr} {p : Pl} (h : Pl.Ok f p) : p.cell f < f.boxes + f.slots := by
  unfold Pl.Ok at h
  unfold Pl.cell
  split at h
  · rename_i z
    rw [if_pos z]
    omega
  · rename_i z
    rw [if_neg z]
    omega
/-- the numbers that are handed in, put to their places -/
def handIn (f : Fr) : List Pl → List Int → List Int → List Int
  | p :: ps, v :: vs, c => handIn f ps vs (c.set (p.cell f) v)
  | _, _, c => c
theorem handIn_len (f : Fr) : ∀ (ps : List Pl) (vs c : List Int), (handIn f ps vs c).length = c.length
  | [], _, _ => by rw [handIn.eq_def]
  | _ :: _, [], _ => by rw [handIn.eq_def]
  | p :: ps, v :: vs, c => (handIn_len f ps vs _).trans (List.length_set ..)
theorem handIn_nums {f : Fr} : ∀ (ps : List Pl) (vs c : List Int), Nums vs → Nums c → Nums (handIn f ps vs c)
  | [], _, _, _, hc => by rw [handIn.eq_def]; exact hc
  | _ :: _, [], _, _, hc => by rw [handIn.eq_def]; exact hc
  | p :: ps, v :: vs, c, hv, hc => handIn_nums ps vs _ (fun u hu => hv u (List.mem_cons_of_mem _ hu)) (hc.set (hv v (List.mem_cons_self ..)))
end Bw
namespace Bw
open PySem PySem.Spec PyProof.Rows L2 GxR
/-! ### the program: kinds -/
/-- a def whose code object is known -/
structure Dc (K : PySem.W.Frag) (mg : Str → Option Value) (x : Str) (st : Stmt) (ps : List Str) (f : Addr) (fd : FuncData) (c : Addr) : Prop where
  D : Df K mg x st ps f fd
  ex : ∃ (oc : Value) (od : Option Addr) (kV doc pm : Value) (an : Option Addr) (ct : Value) (osl : Array (Option Value)),
    fd = PySem.W.fnOf x x (defArgs st) (defBody st) (defScope st) .none kV doc pm an (.ref c) ct ∧ K.lookup f = some ⟨oc, od, .func fd, osl⟩ ∧ PySem.W.codeIn K (.ref c) x = true
section
variable {base : Heap} {K : PySem.W.Frag} {mg : Str → Option Value} {P : Program} {w : World}
theorem Dc.ok {x : Str} {st : Stmt} {f c : Addr} {fd : FuncData} {N ps : List Str} {k : Nat} {sp : Sp} (F : Dc K mg x st ps f fd c) (S : FnScope N ps (defScope st)) (len : ∀ vs H Q E, sp vs H Q E → vs.length = ps.length)
    (body : ∀ (A : Around) (outer : List Env) (s : Shared) (H : Hp) (vs : List V) (Q : VK) (E : XK), Room k (A.deeper (envOfC x (defScope st) s.heap.objs.size f (.ref c))) → sp vs H Q E →
      ∃ t, PSs (cxOf CX0 P w K mg base N x (defScope st) f (.ref c) A outer s H E).nox (defBody st) t ∧ t { nx := fun _ H' => Q .non H', rt := Q } (start N vs) H) : FnOk P w K mg base CX0 (k + 1) f fd ps sp := by
  obtain ⟨oc, od, kV, doc, pm, an, ct, osl, same, lk, hcd⟩ := F.ex
  subst same
  refine fn_of lk hcd S len fun A outer s H vs Q E room here => ?_
  exact (body A outer s H vs Q E room here).elim fun t z => ⟨t, z.1.nox, z.2⟩
/-- the program's numbers -/
structure Gk (mg : Str → Option Value) : Prop where
  value : ∃ t, mg "VALUE_MOST" = some (.int 999 t)
  names : ∃ t, mg "NAMES_MOST" = some (.int 8 t)
  rows : ∃ t, mg "ROWS_MOST" = some (.int 24 t)
theorem pe_num {X : Cx} {x : Str} {i : Int} {pos : Pos} (h : ∃ t, X.mg x = some (.int i t)) (hg : Gl X x := by rfl) (hd : (x == ("__debug__" : Str)) = false := by decide) : PE X (.Name x pos) (tC (.int i)) :=
  h.elim fun t e => pe_glob hg e ⟨t, rfl⟩ hd
/-! is_number, of an int -/
def spNum : Sp := fun vs H Q _ => ∃ v lo hi : Int, vs = [.int v, .int lo, .int hi] ∧ Q (.bl (decide (lo ≤ v) && decide (v ≤ hi))) H
theorem scNum : FnScope ["value", "low", "high"] ["value", "low", "high"] (defScope s_is_number) := ⟨rfl, rfl, rfl, by decide +kernel, rfl, by decide +kernel, by decide +kernel⟩
theorem ok_num {f : Addr} {fd : FuncData} (D : Df K mg "is_number" s_is_number ["value", "low", "high"] f fd) (B : Bt mg) : FnOk P w K mg base CX0 1 f fd ["value", "low", "high"] spNum := by
  refine D.F.ok scNum (fun vs H Q E h => ?_) (fun cdv A outer s H vs Q E hr h => ?_)
  · obtain ⟨v, lo, hi, rfl, _⟩ := h
    rfl
  · obtain ⟨v, lo, hi, rfl, q⟩ := h
    refine ⟨_, pss_one (ps_ret (pe_and (pe_callB call_isi (by rfl) B.isinstance (by decide +kernel) (pa_cons (pv 0) (pa_cons (pe_bltn (v := .ty "int") (by rfl) B.int (by decide +kernel) rfl) pa_nil)))
      (pe_and (pe_not (pe_callB call_isi (by rfl) B.isinstance (by decide +kernel) (pa_cons (pv 0) (pa_cons (pe_bltn (v := .ty "bool") (by rfl) B.bool (by decide +kernel) rfl) pa_nil))))
      (pe_one (pe_chain op_le op_le (pv 1) (pv 0) (pv 2)))))), ?_⟩
    refine ⟨_, rfl, _, _, _, _, true, rfl, .ty "int", .base (.int v), kit_ty (by decide +kernel), _, rfl, iteT ?_⟩
    refine ⟨_, rfl, _, _, _, _, false, rfl, .ty "bool", .base (.int v), kit_ty (by decide +kernel), _, rfl, _, rfl, iteT ?_⟩
    refine ⟨_, rfl, _, rfl, _, _, rfl, rfl, ⟨decide (lo ≤ v), rfl, ?_⟩⟩
    by_cases e : lo ≤ v
    · rw [decide_eq_true e] at q ⊢
      refine iteT ⟨_, rfl, _, _, rfl, rfl, ?_⟩
      rw [Bool.true_and] at q
      exact q
    · rw [decide_eq_false e] at q ⊢
      exact iteF q
/-! is_tuple_of, of a tuple -/
def spTupOf (K : PySem.W.Frag) : Sp := fun vs H Q _ => ∃ (a : Addr) (xs : List V) (n : Int), vs = [.ref a, .int n] ∧ SqT K H a xs ∧ Q (.bl (decide ((xs.length : Int) = n))) H
theorem scTupOf : FnScope ["value", "many"] ["value", "many"] (defScope s_is_tuple_of) := ⟨rfl, rfl, rfl, by decide +kernel, rfl, by decide +kernel, by decide +kernel⟩
theorem ok_tupOf {f : Addr} {fd : FuncData} (D : Df K mg "is_tuple_of" s_is_tuple_of ["value", "many"] f fd) (B : Bt mg) : FnOk P w K mg base CX0 1 f fd ["value", "many"] (spTupOf K) := by
  refine D.F.ok scTupOf (fun vs H Q E h => ?_) (fun cdv A outer s H vs Q E hr h => ?_)
  · obtain ⟨a, xs, n, rfl, _⟩ := h
    rfl
  · obtain ⟨a, xs, n, rfl, hT, q⟩ := h
    refine ⟨_, pss_one (ps_ret (pe_and (pe_callB call_isi (by rfl) B.isinstance (by decide +kernel) (pa_cons (pv 0) (pa_cons (pe_bltn (v := .ty "tuple") (by rfl) B.tuple (by decide +kernel) rfl) pa_nil)))
      (pe_one (pe_cmpR op_eq (pe_callB call_len_seq (by rfl) B.len PySem.boot_len (pa_cons (pv 0) pa_nil)) (pv 1) (nomark _))))), ?_⟩
    refine ⟨_, rfl, _, _, _, _, true, rfl, .ty "tuple", tyT hT, kit_ty (by decide +kernel), _, rfl, iteT ?_⟩
    refine ⟨_, rfl, a, _, rfl, .inr hT, _, rfl, rfl, ?_⟩
    by_cases e : (xs.length : Int) = n
    · subst e
      rw [decide_eq_true rfl] at q ⊢
      exact q
    · rw [decide_eq_false e] at q
      rw [decide_eq_false (fun z => e (V.int.inj z))]
      exact q
end
end Bw
namespace Bw
open PySem PySem.Spec PyProof.Rows L2 GxR Gx RZ
/-! ### generator expressions over tuples, turn by turn -/
theorem gx_tup {K : PySem.W.Frag} {a : Addr} {xs : List V} {g : TG} {tt : TT} {te : TE} {vs : List Nat} {σ : L2.St} {G : GP} {H : Hp} (Pv : Nat → List V → Hp → Prop) (h0 : Pv 0 [] H) (hl : ∀ i acc H, Pv i acc H → SqT K H a xs)
    (hs : ∀ i x acc H, xs[i]? = some x → Pv i acc H → g x (wipe σ vs) H fun σ2 H2 => wipe σ2 vs = wipe σ vs ∧ tt σ2 H2 fun b H3 => if b = true then te σ2 H3 fun y H4 => G.Yq acc y H4 ∧ (G.Rq y → Pv (i + 1) (acc ++ [y]) H4) else Pv (i + 1) acc H3)
    (hd : ∀ acc H, Pv xs.length acc H → G.En acc H) : ∃ W : Nat → Nat → List V → Hp → Prop, (∃ m, W 0 m [] H) ∧ GxW (Itt K a) g tt te vs σ G W := by
  refine ⟨fun i m acc H => m = xs.length - i ∧ i ≤ xs.length ∧ Pv i acc H, ⟨_, rfl, Nat.zero_le _, h0⟩, ?_⟩
  rintro i m acc H ⟨rfl, le, here⟩
  have isT := hl i acc H here
  by_cases last : i = xs.length
  · subst last
    exact .inl ⟨⟨xs, isT, Nat.le_refl _⟩, hd acc H here⟩
  · have lt : i < xs.length := by omega
    refine .inr ⟨⟨xs, xs[i], isT, List.getElem?_eq_getElem lt⟩, Pv (i + 1), fun acc' H' n => ⟨xs.length - (i + 1), by omega, rfl, by omega, n⟩, ?_⟩
    rintro x H' ⟨rfl, isX⟩
    exact hs i x acc _ (isX xs isT) here
theorem gx_zipT {K : PySem.W.Frag} {a b : Addr} {xs ys : List V} {g : TG} {tt : TT} {te : TE} {vs : List Nat} {σ : L2.St} {G : GP} {H : Hp} (same : xs.length = ys.length) (Pv : Nat → List V → Hp → Prop) (h0 : Pv 0 [] H) (hl : ∀ i acc H, Pv i acc H → SqT K H a xs ∧ SqT K H b ys)
    (hs : ∀ i x y t acc H, xs[i]? = some x → ys[i]? = some y → Pv i acc H → H t = none → g (.ref t) (wipe σ vs) (upd H t (.tup [x, y])) fun σ2 H2 => wipe σ2 vs = wipe σ vs ∧ tt σ2 H2 fun c H3 => if c = true then te σ2 H3 fun y H4 => G.Yq acc y H4 ∧ (G.Rq y → Pv (i + 1) (acc ++ [y]) H4) else Pv (i + 1) acc H3)
    (hd : ∀ acc H, Pv xs.length acc H → G.En acc H) : ∃ W : Nat → Nat → List V → Hp → Prop, (∃ m, W 0 m [] H) ∧ GxW (ItzT K a b) g tt te vs σ G W := by
  refine ⟨fun i m acc H => m = xs.length - i ∧ i ≤ xs.length ∧ Pv i acc H, ⟨_, rfl, Nat.zero_le _, h0⟩, ?_⟩
  rintro i m acc H ⟨rfl, le, here⟩
  obtain ⟨isT, isU⟩ := hl i acc H here
  by_cases last : i = xs.length
  · subst last
    exact .inl ⟨⟨xs, ys, isT, isU, .inl (Nat.le_refl _)⟩, hd acc H here⟩
  · have lt : i < xs.length := by omega
    have lt2 : i < ys.length := by omega
    refine .inr ⟨⟨xs, ys, xs[i], ys[i], isT, isU, List.getElem?_eq_getElem lt, List.getElem?_eq_getElem lt2⟩, Pv (i + 1), fun acc' H' n => ⟨xs.length - (i + 1), by omega, rfl, by omega, n⟩, ?_⟩
    rintro v H' ⟨t, x, y, rfl, nt, rfl, isX, isY⟩
    exact hs i x y t acc H (isX xs isT) (isY ys isU) here nt
section
variable {base : Heap} {K : PySem.W.Frag} {mg : Str → Option Value} {P : Program} {w : World}
theorem Ext.sqT {m : Addr → Prop} {H H' : Hp} (e : Ext m H H') {a : Addr} {xs : List V} (n : ¬ m a) (h : SqT K H a xs) : SqT K H' a xs := by
  rcases h with (h | ⟨locked, h⟩) | h
  · exact .inl (.inl (e.tup _ _ h))
  · exact .inl (.inr ⟨locked, e.oth a _ n (fun _ z => by cases z) h⟩)
  · exact .inr h
/-! are_values -/
end
end Bw
/-! a set of tuples of numbers and texts, few of them: only how many there are is wanted -/
namespace Sx
open L2 PyProof.Rows PySem PySem.Spec
abbrev En := Addr × List Key
abbrev Lies (P : Program) (w : World) (g : Heap) (e : En) : Prop := IsTupleKey (mixKind P w) g e.2 e.1
abbrev hk (P : Program) (w : World) (k : List Key) : Int := tupleKeyHash (mixKind P w) k
def cell (P : Program) (w : World) (e : En) : Int × Value := (hk P w e.2, .ref e.1)
section
variable {P : Program} {w : World} {s : Shared} {A : Around} {E : Value → Shared → Prop}
theorem no_class (n : Nat) {v : Value} (by_ : carriedByValue v = true) : ofAClassStatement n v = pure false := by
  cases v with
  | ref b => cases by_
  | _ => cases n <;> rfl
theorem asks_class {e : En} {Q : Bool → Shared → Prop} (lies : Lies P w s.heap e) (q : Q false s) : wpAny (model P w) A (ofAClassStatement 8 (.ref e.1)) Q E s := by
  have kind := lies.typeIs
  obtain ⟨ob, its, cap, isOb, _, dat, are⟩ := lies
  have each := are.byValue
  unfold ofAClassStatement
  refine wpAny_bind (wpAny_typeOf kind ?_)
  dsimp only
  simp only [show (("tuple" : String) == "tuple") = true by decide, if_true]
  refine wpAny_bind <| wpAny_pure ?_
  simp only [if_false, Bool.false_eq_true, Bool.not_true]
  refine wpAny_bind (m := seqItems? (.ref e.1)) (wpAny_seqItems isOb dat ?_)
  dsimp only
  refine wpAny_bind (m := forIn its _ _) ?_
  rw [← Array.forIn_toList]
  refine wpAny_forIn_list _ (fun left acc s2 => acc.1 = none ∧ s2 = s ∧ ∀ u ∈ left, carriedByValue u = true) _ (fun u left acc s2 here => ?_) (fun acc s2 here => ?_) _ _ ⟨rfl, rfl, each⟩
  · rw [no_class _ (here.2.2 u (List.mem_cons_self ..))]
    refine wpAny_bind <| wpAny_pure ?_
    simp only [if_false, Bool.false_eq_true]
    exact wpAny_pure ⟨rfl, here.2.1, fun z hz => here.2.2 z (List.mem_cons_of_mem _ hz)⟩
  · obtain ⟨acc1, acc2⟩ := acc
    obtain ⟨rfl, rfl, _⟩ := here
    exact wpAny_pure q
theorem flat_kind {ks : List Key} {vs : List Value} (are : ItemsAre (mixKind P w) ks vs) : ∀ v ∈ vs, (∃ i t, v = Value.int i t) ∨ ∃ x t, v = Value.str x t := by
  induction are with
  | nil => exact fun v hv => nomatch hv
  | cons one _ more =>
    intro v hv
    rcases List.mem_cons.mp hv with same | hv
    · subst same
      rcases keyIs_shape one with ⟨i, t, _, e⟩ | ⟨x, t, _, e⟩
      · exact .inl ⟨i, t, e⟩
      · exact .inr ⟨x, t, e⟩
    · exact more v hv
theorem asks_value {e : En} {Q : Bool → Shared → Prop} (lies : Lies P w s.heap e) (q : ∀ b, Q b s) : wpAny (model P w) A (hashByValue 8 (.ref e.1)) Q E s := by
  have kind := lies.typeIs
  obtain ⟨ob, its, cap, isOb, _, dat, are⟩ := lies
  unfold hashByValue
  refine wpAny_bind (wpAny_specialOf kind F.slot_tuple_hash.lookup ?_)
  dsimp only
  refine wpAny_bind (m := seqItems? (.ref e.1)) (wpAny_seqItems isOb dat ?_)
  refine wpAny_bind (m := forIn its _ _) ?_
  rw [← Array.forIn_toList]
  refine wpAny_forIn_list _ (fun left acc s2 => acc.1 = none ∧ s2 = s ∧ ∀ u ∈ left, (∃ i t, u = Value.int i t) ∨ ∃ x t, u = Value.str x t) _ (fun u left acc s2 here => ?_) (fun acc s2 here => ?_) _ _ ⟨rfl, rfl, flat_kind are⟩
  · have later : ∀ z ∈ left, (∃ i t, z = Value.int i t) ∨ ∃ x t, z = Value.str x t := fun z hz => here.2.2 z (List.mem_cons_of_mem _ hz)
    rcases here.2.2 u (List.mem_cons_self ..) with ⟨i, t, rfl⟩ | ⟨x, t, rfl⟩
    · refine wpAny_bind (m := hashByValue 7 (.int i t)) (wpAny_pure ?_)
      simp only [if_false, Bool.false_eq_true, Bool.not_true]
      exact wpAny_pure ⟨rfl, here.2.1, later⟩
    · refine wpAny_bind (m := hashByValue 7 (.str x t)) (wpAny_pure ?_)
      simp only [if_true, Bool.not_false]
      obtain ⟨_, rfl, _⟩ := here
      exact wpAny_pure (wpAny_pure (q false))
  · obtain ⟨acc1, acc2⟩ := acc
    obtain ⟨rfl, rfl, _⟩ := here
    exact wpAny_pure (q true)
theorem unseen {e : En} {Q : Bool → Shared → Prop} (lies : Lies P w s.heap e) {ys : List Value} (all : ∀ y ∈ ys, ∃ f : En, y = .ref f.1 ∧ Lies P w s.heap f) (q : Q false s) : wpAny (model P w) A (searchCouldBeSeen (.ref e.1) ys) Q E s := by
  unfold searchCouldBeSeen
  refine wpAny_bind (m := forIn ys _ _) ?_
  refine wpAny_forIn_list _ (fun left acc s2 => acc.1 = none ∧ s2 = s ∧ ∀ y ∈ left, ∃ f : En, y = .ref f.1 ∧ Lies P w s.heap f) _ (fun u left acc s2 here => ?_) (fun acc s2 here => ?_) _ _ ⟨rfl, rfl, all⟩
  · obtain ⟨_, rfl, more⟩ := here
    obtain ⟨f, rfl, lf⟩ := more u (List.mem_cons_self ..)
    have later : ∀ y ∈ left, ∃ f : En, y = .ref f.1 ∧ Lies P w s2.heap f := fun z hz => more z (List.mem_cons_of_mem _ hz)
    dsimp only
    by_cases very : (e.1 == f.1 || (carriedByValue (.ref e.1) && carriedByValue (.ref f.1))) = true
    · exact wp_if_pos very (wpAny_pure ⟨rfl, rfl, later⟩)
    · refine wp_if_neg very (wpAny_bind (wpAny_eqIsQuiet_tuple lies ?_))
      simp only [if_false, Bool.false_eq_true, Bool.not_true]
      refine wpAny_bind (wpAny_eqIsQuiet_tuple lf ?_)
      simp only [if_false, Bool.false_eq_true, Bool.not_true]
      refine wpAny_bind (asks_class lies ?_)
      simp only [if_false, Bool.false_eq_true]
      refine wpAny_bind (asks_class lf ?_)
      simp only [if_false, Bool.false_eq_true]
      exact wpAny_pure ⟨rfl, rfl, later⟩
  · obtain ⟨acc1, acc2⟩ := acc
    obtain ⟨rfl, rfl, _⟩ := here
    exact wpAny_pure q
/-! ### the table and what it holds -/
structure Tbl (P : Program) (w : World) (g : Heap) (a : Addr) (L : List En) (es : Array (Int × Value)) (ep : Nat) (t : SetTable) : Prop where
  obj : ∃ o, g.get? a = some o ∧ o.ExactSet ∧ o.data = .set es ep t
  ents : es.toList = L.map (cell P w)
  tab : TabOk t (L.map fun e => hk P w e.2)
  diff : (L.map Prod.snd).Nodup
  lie : ∀ e ∈ L, Lies P w g e
  space : L.length * 5 < t.mask * 3
  few : L.length ≤ 12
variable {a : Addr} {L : List En} {es : Array (Int × Value)} {ep : Nat} {t : SetTable}
theorem ents_size (h : es.toList = L.map (cell P w)) : es.size = L.length := by
  rw [← Array.length_toList, h, List.length_map]
theorem fits_of (h : es.size = L.length) (tb : t.place.size = L.length) (dm : t.dummies = #[]) (le : L.length ≤ t.mask) : t.fits es.size = true := by
  unfold SetTable.fits
  unfold SetTable.fill
  rw [dm]
  simp only [Bool.and_eq_true, beq_iff_eq, decide_eq_true_eq]
  exact ⟨by rw [h, tb], by show t.place.size + 0 ≤ t.mask; omega⟩
theorem Tbl.many {g : Heap} (R : Tbl P w g a L es ep t) : t.place.size = L.length := R.tab.sz.trans (List.length_map _)
theorem Tbl.fits {g : Heap} (R : Tbl P w g a L es ep t) : t.fits es.size = true := fits_of (ents_size R.ents) R.many R.tab.dm (by have := R.space; omega)
theorem Tbl.at_ {g : Heap} (R : Tbl P w g a L es ep t) {i : Nat} {e : En} (h : L[i]? = some e) : es[i]? = some (cell P w e) := by
  rw [← Array.getElem?_toList, R.ents, List.getElem?_map, h]
  rfl
/-- the probe's states, one behind the other -/
def pth (t : SetTable) (h : Int) (c : Nat) : SetTable.Probe := nth t.mask (runAt t.mask (SetTable.bits h % (t.mask + 1)) (SetTable.bits h)) c
theorem pth_more (t : SetTable) (h : Int) (c q : Nat) : nth t.mask (pth t h c) q = pth t h (c + q) := (nth_add t.mask c _ q).symm
theorem pth_clean (t : SetTable) (h : Int) : ∀ c, (pth t h c).dummy = none
  | 0 => rfl
  | c + 1 => by
    have ih := pth_clean t h c
    unfold pth at ih ⊢
    rw [nth_succ]
    unfold adv
    split <;> exact ih
/-- what a search for the key k comes to -/
structure Goal (P : Program) (w : World) (L : List En) (t : SetTable) (k : List Key) (K : Nat) (s : Shared) (Q : SetFound → Shared → Prop) : Prop where
  far : K < 10 * SetTable.turns t.mask
  free : way t.mask (hk P w k) K ∉ t.place.toList
  full : ∀ c, c < K → way t.mask (hk P w k) c ∈ t.place.toList
  there : k ∈ L.map Prod.snd → Q (.there none) s
  new : k ∉ L.map Prod.snd → Q (.free (way t.mask (hk P w k) K) false) s
theorem seek (R : Tbl P w s.heap a L es ep t) {x : En} (lx : Lies P w s.heap x) (hu : A.units < cLine) {K : Nat} {Q : SetFound → Shared → Prop} (G : Goal P w L t x.2 K s Q) :
    ∀ (f c : Nat) (stand : Option SetTable.Probe), stand.getD (t.probeStart (hk P w x.2)) = pth t (hk P w x.2) c → c ≤ K → K - c < f →
      (∀ (i : Nat) (e : En), L[i]? = some e → e.2 = x.2 → ∃ d, c ≤ d ∧ d < K ∧ t.place.toList[i]? = some (way t.mask (hk P w x.2) d)) → wpAny (model P w) A (setSearchFrom a (.ref x.1) (hk P w x.2) true f stand) Q E s
  | 0, _, _, _, _, lt, _ => absurd lt (Nat.not_lt_zero _)
  | f + 1, c, stand, isStand, le, lt, ahead => by
    obtain ⟨ob, isOb, _, dat⟩ := R.obj
    generalize hh : hk P w x.2 = H at *
    have slot : ∀ q, (nth t.mask (pth t H c) q).j = way t.mask H (c + q) := fun q => congrArg SetTable.Probe.j (pth_more t H c q)
    let at0 : Nat → Int := fun i => (es[i]?.map (·.1)).getD 0
    have hashes : ∀ (i : Nat) (e : En), L[i]? = some e → at0 i = hk P w e.2 := fun i e h => by
      show Option.getD (es[i]?.map (·.1)) 0 = _
      rw [R.at_ h]
      rfl
    have walked := go_spec t R.tab.ris R.tab.dm at0 H (10 * SetTable.turns t.mask) (K - c) (pth t H c) (pth_clean t H c) (by have := G.far; omega)
      (fun q hq => by rw [slot, ← hh]; exact G.full (c + q) (by omega)) (by rw [slot, show c + (K - c) = K by omega, ← hh]; exact G.free)
    -- who has the key x.2 is met ahead of the empty slot
    have met : ∀ (i : Nat) (e : En), L[i]? = some e → e.2 = x.2 → ∃ d, c ≤ d ∧ d < K ∧ t.place.toList[i]? = some (nth t.mask (pth t H c) (d - c)).j := fun i e h1 h2 => by
      obtain ⟨d, d1, d2, d3⟩ := ahead i e h1 h2
      exact ⟨d, d1, d2, by rw [slot, show c + (d - c) = d by omega]; exact d3⟩
    have same : ∀ (i : Nat) (e : En), L[i]? = some e → e.2 = x.2 → at0 i = H := fun i e h1 h2 => by rw [hashes i e h1, h2, hh]
    rw [setSearchFrom_succ]
    refine wpAny_bind (wpAny_setState_of isOb dat R.fits ?_)
    dsimp only
    refine wp_if_neg (by unfold SetTable.gaveWay; rw [mask_odd R.tab.mok]; decide) ?_
    refine wpAny_bind <| wpAny_pure ?_
    rw [isStand]
    rcases walked with ⟨q, i, hq, hi, isH, before, pr⟩ | ⟨none_, pr⟩
    · have pr2 : t.probe at0 H (pth t H c) = some (.candidate (nth t.mask (pth t H c) q).j i (nth t.mask (pth t H c) (q + 1))) := pr
      rw [show t.probe (fun i => (es[i]?.map (·.1)).getD 0) H (pth t H c) = _ from pr2]
      dsimp only
      have il : i < L.length := by
        obtain ⟨this, _⟩ := List.getElem?_eq_some_iff.mp hi
        rw [Array.length_toList, R.many] at this
        exact this
      obtain ⟨e, isE⟩ : ∃ e, L[i]? = some e := ⟨_, List.getElem?_eq_getElem il⟩
      have le_ := R.lie e (List.mem_of_getElem? isE)
      have live : t.slot (nth t.mask (pth t H c) q).j = .live i := slot_live R.tab.ris hi
      have on : wpAny (model P w) A (searchRest a (.ref x.1) H true f es t (nth t.mask (pth t H c) q).j i (nth t.mask (pth t H c) (q + 1))) Q E s := by
        unfold searchRest
        rw [R.at_ isE]
        refine wpAny_bind (wpAny_holding (wpAny_eqBool_tuple hu le_ lx ?_))
        refine wpAny_bind (wpAny_setState_of isOb dat R.fits ?_)
        dsimp only
        by_cases eq : e.2 = x.2
        · exact wp_if_pos (by simp [eq]) (wpAny_pure (G.there (List.mem_map.mpr ⟨e, List.mem_of_getElem? isE, eq⟩)))
        · refine wp_if_neg (by simp [eq]) (wpAny_bind (wpAny_pure ?_))
          rw [sameMem]
          simp only [if_true, live, R.at_ isE]
          refine wpAny_bind (m := isSame (.ref e.1) (.ref e.1)) (wpAny_isSame_ref_self (wpAny_bind (wpAny_pure ?_)))
          simp only [if_true]
          refine wp_if_neg (by simp [eq]) ?_
          rw [pth_more]
          subst hh
          refine seek R lx hu G f (c + (q + 1)) _ rfl (by omega) (by omega) fun i2 e2 h1 h2 => ?_
          obtain ⟨d, d1, d2, d3⟩ := met i2 e2 h1 h2
          have past : ¬ d - c < q := fun z => before (d - c) i2 z d3 (same i2 e2 h1 h2)
          have here : d - c ≠ q := fun z => by
            rw [z] at d3
            have two := slot_live R.tab.ris d3
            rw [live] at two
            injection two with two
            rw [← two, isE] at h1
            exact eq (by rw [Option.some.inj h1]; exact h2)
          exact ⟨d, by omega, d2, by rw [d3, slot, show c + (d - c) = d by omega]⟩
      by_cases led : t.led = true
      · exact wp_if_neg (by simp [led]) (wpAny_bind (wpAny_pure on))
      · refine wp_if_pos (by simp [led]) (wpAny_bind (unseen lx (fun y hy => ?_) ?_))
        · obtain ⟨p, hp, ey⟩ := List.mem_map.mp hy
          have inE : p ∈ es.toList := by
            have : p ∈ es ∧ p.1 = H := by simpa using hp
            simpa using this.1
          rw [R.ents] at inE
          obtain ⟨e2, m2, z⟩ := List.mem_map.mp inE
          exact ⟨e2, by rw [← ey, ← z]; rfl, R.lie e2 m2⟩
        · exact wp_if_neg (by decide) (wpAny_bind (wpAny_pure on))
    · have pr2 : t.probe at0 H (pth t H c) = some (.empty (nth t.mask (pth t H c) (K - c)).j none) := pr
      rw [show t.probe (fun i => (es[i]?.map (·.1)).getD 0) H (pth t H c) = _ from pr2]
      dsimp only
      rw [slot, show c + (K - c) = K by omega, ← hh]
      refine wpAny_pure (G.new fun inL => ?_)
      obtain ⟨e, m, eq⟩ := List.mem_map.mp inL
      obtain ⟨i, hi⟩ := List.mem_iff_getElem?.mp m
      obtain ⟨d, d1, d2, d3⟩ := met i e hi eq
      exact none_ (d - c) i (by omega) d3 (same i e hi eq)
end
end Sx
namespace Sx
open L2 PyProof.Rows PySem PySem.Spec
theorem all_of {α : Type} : ∀ l : List α, ((List.range l.length).filterMap fun i => l[i]?) = l
  | [] => rfl
  | x :: l => by
    rw [List.length_cons, List.range_succ_eq_map, List.filterMap_cons, List.filterMap_map]
    show x :: List.filterMap (fun i => l[i]?) _ = _
    rw [all_of l]
theorem lies_same {P : Program} {w : World} {g g' : Heap} {e : En} {a : Addr} {o : Obj} {es : Array (Int × Value)} {ep : Nat} {t : SetTable} (lies : Lies P w g e) (isOb : g.get? a = some o) (dat : o.data = .set es ep t) (sb : Heap.SameBut a g g') : Lies P w g' e := by
  obtain ⟨ob, its, cap, at_, cl, seq, are⟩ := lies
  refine ⟨ob, its, cap, (sb.2 e.1 fun z => ?_).trans at_, cl, seq, are⟩
  rw [z, isOb] at at_
  rw [← Option.some.inj at_, dat] at seq
  cases seq
theorem lies_keep {P : Program} {w : World} {g g' : Heap} {e : En} (lies : Lies P w g e) (kp : ∀ b o, g.get? b = some o → g'.get? b = some o) : Lies P w g' e := by
  obtain ⟨ob, its, cap, at_, more⟩ := lies
  exact ⟨ob, its, cap, kp _ _ at_, more⟩
section
variable {P : Program} {w : World} {A : Around} {E : Value → Shared → Prop} {s : Shared} {a : Addr} {L : List En} {es : Array (Int × Value)} {ep : Nat} {t : SetTable}
theorem seekAll (R : Tbl P w s.heap a L es ep t) {x : En} (lx : Lies P w s.heap x) (hu : A.units < cLine) {Q : SetFound → Shared → Prop} (there : x.2 ∈ L.map Prod.snd → Q (.there none) s)
    (new : ∀ K, x.2 ∉ L.map Prod.snd → way t.mask (hk P w x.2) K ∉ t.place.toList → (∀ c, c < K → way t.mask (hk P w x.2) c ∈ t.place.toList) → Q (.free (way t.mask (hk P w x.2) K) false) s) : wpAny (model P w) A (setSearch a (.ref x.1) (hk P w x.2) true) Q E s := by
  have room := R.space
  obtain ⟨K, far, free, full⟩ := R.tab.first (by rw [List.length_map]; omega) (hk P w x.2)
  have small : 10 * SetTable.turns t.mask < 100000 := by
    unfold SetTable.turns
    rcases R.tab.mok with z | z | z <;> rw [z] <;> decide
  unfold setSearch
  refine seek R lx hu ⟨far, free, full, there, fun z => new K z free full⟩ 100000 0 none rfl (Nat.zero_le _) (by omega) fun i e h1 h2 => ?_
  have il : i < t.place.toList.length := by rw [Array.length_toList, R.many]; exact (List.getElem?_eq_some_iff.mp h1).1
  have isJ := List.getElem?_eq_getElem il
  obtain ⟨d, d1, d2⟩ := R.tab.before (h := hk P w x.2) free (by rw [List.getElem?_map, h1, ← h2]; rfl) isJ
  exact ⟨d, Nat.zero_le _, d1, by rw [isJ, d2]⟩
/-- what the entries are when they are laid anew -/
theorem laid {order : Array Nat} (ents : es.toList = L.map (cell P w)) (perm : order.toList.Perm (List.range L.length)) : ∃ L2 : List En, (order.filterMap (es[·]?)).toList = L2.map (cell P w) ∧ L2.Perm L ∧ (L2.map fun e => hk P w e.2) = order.toList.map fun i => (es.map (·.1)).getD i 0 := by
  have isE : ∀ i : Nat, es[i]? = (L[i]?).map (cell P w) := fun i => by rw [← Array.getElem?_toList, ents, List.getElem?_map]
  refine ⟨order.toList.filterMap fun i => L[i]?, ?_, ?_, ?_⟩
  · rw [Array.toList_filterMap, List.map_filterMap]
    exact congrArg (fun f => List.filterMap f order.toList) (funext isE)
  · have h := perm.filterMap fun i => L[i]?
    rwa [all_of] at h
  · have inR : ∀ i ∈ order.toList, i < L.length := fun i hi => List.mem_range.mp (perm.mem_iff.mp hi)
    generalize order.toList = l at inR
    induction l with
    | nil => rfl
    | cons i l ih =>
      have il := inR i (List.mem_cons_self ..)
      have one : (es.map (·.1)).getD i 0 = hk P w (L[i]).2 := by
        rw [Array.getD_eq_getD_getElem?, Array.getElem?_map, isE, List.getElem?_eq_getElem il]
        rfl
      rw [List.filterMap_cons_some (List.getElem?_eq_getElem il), List.map_cons, List.map_cons, one, ih fun j hj => inR j (List.mem_cons_of_mem _ hj)]
/-- a table of seven and one that has got its fifth entry is laid anew -/
theorem relay {o : Obj} (isOb : s.heap.get? a = some o) (ex : o.ExactSet) (dat : o.data = .set es ep t) (ents : es.toList = L.map (cell P w)) (tb : TabOk t (L.map fun e => hk P w e.2)) (diff : (L.map Prod.snd).Nodup) (lie : ∀ e ∈ L, Lies P w s.heap e) (five : L.length = 5) (seven : t.mask = 7) {Q : Unit → Shared → Prop}
    (q : ∀ g' L' es' ep' t', Heap.SameBut a s.heap g' → Tbl P w g' a L' es' ep' t' → L'.Perm L → Q () { s with heap := g' }) : wpAny (model P w) A (setRelay a (SetTable.grown 5)) Q E s := by
  have sz : es.size = L.length := ents_size ents
  have szM : (es.map (·.1)).size = L.length := by rw [Array.size_map, sz]
  have fit : t.fits es.size = true := fits_of sz (tb.sz.trans (List.length_map _)) tb.dm (by omega)
  obtain ⟨t2, order, isNew, perm, tab2, mask2, _, _, _⟩ := relaid_ok t (hs := es.map (·.1)) (wanted := SetTable.grown 5) (M := 31) (by rw [size_20]) (.inr (.inl rfl)) (by omega)
  rw [szM] at perm
  obtain ⟨L2, ents2, perm2, hs2⟩ := laid ents perm
  rw [← hs2] at tab2
  have sz2 : (order.filterMap (es[·]?)).size = L2.length := ents_size ents2
  have len2 : L2.length = 5 := perm2.length_eq.trans five
  rw [setRelay_eq]
  refine wpAny_bind (wpAny_setState_of isOb dat fit ?_)
  dsimp only
  refine wp_if_neg (by rw [size_20]; decide) ?_
  rw [isNew]
  dsimp only
  refine wpAny_bind (wp_if_neg (by rw [sz2, sz, len2, five]; decide) (wpAny_pure ?_))
  dsimp only
  refine wpAny_storeSet_of isOb dat ?_ (by rw [sz2, len2]; decide)
  have sb : Heap.SameBut a s.heap (s.heap.update a (Obj.putSet (order.filterMap (es[·]?)) t2)) := Heap.SameBut.update ..
  exact q _ L2 _ _ t2 sb ⟨⟨_, store_at isOb dat, ⟨ex.1, ex.2.1, ex.2.2⟩, rfl⟩, ents2, tab2, (perm2.map Prod.snd).nodup_iff.mpr diff, fun e m => lies_same (lie e (perm2.mem_iff.mp m)) isOb dat sb, by rw [len2, mask2]; decide, by rw [len2]; decide⟩ perm2
theorem add (R : Tbl P w s.heap a L es ep t) {x : En} (lx : Lies P w s.heap x) (hu : A.units < cLine) (few : L.length < 12) {Q : Bool → Shared → Prop}
    (q : ∀ b g' L' es' ep' t', Heap.SameBut a s.heap g' → Tbl P w g' a L' es' ep' t' → (x.2 ∈ L.map Prod.snd → L' = L) → (x.2 ∉ L.map Prod.snd → L'.Perm (x :: L)) → Q b { s with heap := g' }) : wpAny (model P w) A (setAddHashed a (.ref x.1) (hk P w x.2)) Q E s := by
  obtain ⟨ob, isOb, ex, dat⟩ := R.obj
  have sz : es.size = L.length := ents_size R.ents
  have room := R.space
  unfold setAddHashed
  refine wpAny_holding ?_
  rw [show 100000 = 99999 + 1 from rfl, setAddHashedIn_succ]
  refine wpAny_bind (wpAny_setState_of isOb dat R.fits ?_)
  dsimp only
  refine wp_if_neg (by simp [Value.scannable, byScan]) ?_
  refine wpAny_bind (seekAll R lx hu (fun old => ?_) fun K new free full => ?_)
  · exact wpAny_pure (q false s.heap L es ep t (Heap.SameBut.refl a s.heap) R (fun _ => rfl) fun z => absurd old z)
  · dsimp only
    refine wpAny_bind (wpAny_setState_of isOb dat R.fits ?_)
    dsimp only
    obtain ⟨at_, _, tab1, mask1, _, _, _, _, fill1⟩ := R.tab.put free full
    rw [List.length_map] at fill1
    generalize t.put (way t.mask (hk P w x.2) K) = put at at_ tab1 mask1 fill1 ⊢
    obtain ⟨t1, p⟩ := put
    dsimp only at at_ tab1 mask1 fill1 ⊢
    rw [← at_] at tab1
    have ents1 : (SetTable.insertAt es p (hk P w x.2, Value.ref x.1)).toList = (L.take p ++ x :: L.drop p).map (cell P w) := by
      rw [SetTable.toList_insertAt, R.ents, List.map_append, List.map_cons, List.map_take, List.map_drop]
      rfl
    have perm := put_perm L p x
    have hs1 : (L.map fun e => hk P w e.2).take p ++ hk P w x.2 :: (L.map fun e => hk P w e.2).drop p = (L.take p ++ x :: L.drop p).map fun e => hk P w e.2 := by
      rw [List.map_append, List.map_cons, List.map_drop, List.map_take]
    rw [hs1] at tab1
    generalize L.take p ++ x :: L.drop p = L1 at ents1 perm tab1
    have len1 : L1.length = L.length + 1 := perm.length_eq
    have diff1 : (L1.map Prod.snd).Nodup := (perm.map Prod.snd).nodup_iff.mpr (List.nodup_cons.mpr ⟨new, R.diff⟩)
    generalize SetTable.insertAt es p (hk P w x.2, Value.ref x.1) = es1 at ents1 ⊢
    have sz1 : es1.size = L.length + 1 := (ents_size ents1).trans len1
    -- whether hashes are by value only marks the table
    have on : ∀ t2 : SetTable, TabOk t2 (L1.map fun e => hk P w e.2) → t2.mask = t.mask → t2.fill = L.length + 1 →
        wpAny (model P w) A (do storeSet a es1 t2; if (!false && t2.tooFull) = true then (do setRelay a (SetTable.grown (es.size + 1)); pure true) else pure true) Q E s := fun t2 tab2 mask2 fill2 => by
      refine wpAny_bind (wpAny_storeSet_of isOb dat ?_ (by rw [sz1]; exact Nat.le_trans (show L.length + 1 ≤ 12 by omega) (by decide)))
      have sb : Heap.SameBut a s.heap (s.heap.update a (Obj.putSet es1 t2)) := Heap.SameBut.update ..
      have isOb1 := store_at (es' := es1) (t' := t2) isOb dat
      generalize s.heap.update a (Obj.putSet es1 t2) = g1 at sb isOb1 ⊢
      have lie1 : ∀ e ∈ L1, Lies P w g1 e := fun e m => by
        rcases List.mem_cons.mp (perm.mem_iff.mp m) with rfl | m
        · exact lies_same lx isOb dat sb
        · exact lies_same (R.lie e m) isOb dat sb
      have isFull : t2.tooFull = decide ((L.length + 1) * 5 ≥ t.mask * 3) := by
        unfold SetTable.tooFull
        rw [fill2, mask2]
      by_cases full : (L.length + 1) * 5 ≥ t.mask * 3
      · have sm : t.mask = 7 ∧ L.length = 4 := by
          rcases R.tab.mok with z | z | z <;> rw [z] at full room <;> first | exact ⟨z, by omega⟩ | omega
        refine wp_if_pos (by rw [isFull, decide_eq_true full]; rfl) (wpAny_bind ?_)
        rw [sz, sm.2]
        refine relay (s := { s with heap := g1 }) isOb1 ⟨ex.1, ex.2.1, ex.2.2⟩ rfl ents1 tab2 diff1 lie1 (by rw [len1, sm.2]) (by rw [mask2, sm.1]) fun g2 L2 es2 ep2 t3 sb2 R2 perm2 => ?_
        exact wpAny_pure (q true g2 L2 es2 ep2 t3 (sb.trans sb2) R2 (fun z => absurd z new) fun _ => perm2.trans perm)
      · refine wp_if_neg (by rw [isFull, decide_eq_false full]; exact Bool.false_ne_true) (wpAny_pure ?_)
        exact q true g1 L1 es1 _ t2 sb ⟨⟨_, isOb1, ⟨ex.1, ex.2.1, ex.2.2⟩, rfl⟩, ents1, tab2, diff1, lie1, by rw [len1, mask2]; omega, by omega⟩ (fun z => absurd z new) fun _ => perm
    have mark : TabOk { t1 with plain := false } (L1.map fun e => hk P w e.2) := ⟨tab1.ris, tab1.dm, tab1.sz, tab1.mok, tab1.bd, tab1.reach⟩
    have fin : ∀ b : Bool, wpAny (model P w) A (do
        storeSet a es1 (if b = true then t1 else { t1 with plain := false })
        if (!false && (if b = true then t1 else { t1 with plain := false }).tooFull) = true then (do setRelay a (SetTable.grown (es.size + 1)); pure true) else pure true) Q E s := fun b => by
      cases b with
      | true => exact on t1 tab1 mask1 fill1
      | false => exact on _ mark mask1 fill1
    by_cases pl : t1.plain = true
    · exact wp_if_pos pl (wpAny_bind (asks_value lx fun b => fin b))
    · exact wp_if_neg pl (wpAny_bind (wpAny_pure (fin true)))
end
end Sx
namespace Sx
open L2 PyProof.Rows PySem PySem.Spec
/-! ### how many there are -/
theorem pigeon {α : Type} [DecidableEq α] : ∀ {l D : List α}, l.Nodup → (∀ x ∈ l, x ∈ D) → l.length ≤ D.length
  | [], _, _, _ => by exact Nat.zero_le _
  | x :: l, D, nd, sub => by
    have inD := sub x (List.mem_cons_self ..)
    have more : ∀ y ∈ l, y ∈ D.erase x := fun y hy => by
      have ne : y ≠ x := fun z => (List.nodup_cons.mp nd).1 (by rw [← z]; exact hy)
      exact (List.mem_erase_of_ne ne).mpr (sub y (List.mem_cons_of_mem _ hy))
    have ih := pigeon (List.nodup_cons.mp nd).2 more
    rw [List.length_erase_of_mem inD] at ih
    have pos : 0 < D.length := List.length_pos_of_mem inD
    rw [List.length_cons]
    omega
theorem all_apart {α : Type} [DecidableEq α] : ∀ {D l : List α}, l.Nodup → (∀ x ∈ l, x ∈ D) → D.length ≤ l.length → D.Nodup
  | [], _, _, _, _ => List.nodup_nil
  | x :: D, l, nd, sub, le => by
    have notIn : x ∉ D := fun inD => by
      have := pigeon nd (D := D) fun y hy => (List.mem_cons.mp (sub y hy)).elim (fun z => by rw [z]; exact inD) fun z => z
      rw [List.length_cons] at le
      omega
    refine List.nodup_cons.mpr ⟨notIn, all_apart (l := l.erase x) (nd.erase x) (fun y hy => ?_) ?_⟩
    · have hy2 := (nd.mem_erase_iff).mp hy
      exact (List.mem_cons.mp (sub y hy2.2)).resolve_left hy2.1
    · rw [List.length_cons] at le
      by_cases m : x ∈ l
      · rw [List.length_erase_of_mem m]
        omega
      · rw [List.erase_of_not_mem m]
        omega
theorem same_many {α : Type} [DecidableEq α] {l D : List α} (nd : l.Nodup) (same : ∀ x, x ∈ l ↔ x ∈ D) : l.length = D.length ↔ D.Nodup := by
  refine ⟨fun e => all_apart nd (fun x h => (same x).mp h) (by omega), fun d => ?_⟩
  have a := pigeon nd (D := D) fun x h => (same x).mp h
  have b := pigeon d (D := l) fun x h => (same x).mpr h
  omega
/-- what the set has behind the first i -/
structure Has (ks : List En) (i : Nat) (L : List En) : Prop where
  from_ : ∀ e ∈ L, e ∈ ks
  keys : ∀ k, k ∈ L.map Prod.snd ↔ k ∈ (ks.take i).map Prod.snd
  few : L.length ≤ i
theorem take1 {α : Type} {l : List α} {i : Nat} {x : α} (h : l[i]? = some x) : l.take (i + 1) = l.take i ++ [x] := by rw [List.take_add_one, h]; rfl
abbrev emp (w : World) : Obj := { cls := .type "set", dict := none, data := .set #[] 0 (.fresh 0 0 (!w.params.followText "set-order")) }
theorem tbl_new {P : Program} {w : World} {g : Heap} {a : Addr} (isOb : g.get? a = some (emp w)) : Tbl P w g a [] #[] 0 (.fresh 0 0 (!w.params.followText "set-order")) :=
  ⟨⟨_, isOb, ⟨rfl, rfl, rfl⟩, rfl⟩, rfl, ⟨List.Pairwise.nil, rfl, rfl, .inl rfl, (fun x h => (nomatch h)), fun i h j z => by simp at z⟩, List.nodup_nil, (fun e h => (nomatch h)), by show 0 * 5 < 7 * 3; decide, Nat.zero_le _⟩
section
variable {P : Program} {w : World} {s : Shared} {A : Around} {E : Value → Shared → Prop}
theorem Tbl.keep {g g' : Heap} {a : Addr} {L : List En} {es : Array (Int × Value)} {ep : Nat} {t : SetTable} (R : Tbl P w g a L es ep t) (at_ : ∀ o, g.get? a = some o → g'.get? a = some o) (lie : ∀ e ∈ L, Lies P w g' e) : Tbl P w g' a L es ep t := by
  obtain ⟨o, isOb, more⟩ := R.obj
  exact ⟨⟨o, at_ o isOb, more⟩, R.ents, R.tab, R.diff, lie, R.space, R.few⟩
theorem Has.step {ks L L' : List En} {i : Nat} {x : En} (h : Has ks i L) (isX : ks[i]? = some x) (old : x.2 ∈ L.map Prod.snd → L' = L) (new : x.2 ∉ L.map Prod.snd → L'.Perm (x :: L)) : Has ks (i + 1) L' := by
  have inK : ∀ k, k ∈ (ks.take (i + 1)).map Prod.snd ↔ k ∈ L.map Prod.snd ∨ k = x.2 := fun k => by
    rw [take1 isX, List.map_append, List.mem_append, ← h.keys]
    simp
  by_cases m : x.2 ∈ L.map Prod.snd
  · rw [old m]
    exact ⟨h.from_, fun k => by rw [inK]; exact ⟨.inl, fun z => z.elim id fun e => by rw [e]; exact m⟩, Nat.le_succ_of_le h.few⟩
  · have pm := new m
    refine ⟨fun e he => (List.mem_cons.mp (pm.mem_iff.mp he)).elim (fun z => by rw [z]; exact List.mem_of_getElem? isX) (h.from_ e), fun k => ?_, by rw [pm.length_eq]; exact Nat.succ_le_succ h.few⟩
    rw [inK, (pm.map Prod.snd).mem_iff, List.map_cons, List.mem_cons]
    exact Or.comm
/-- the loop of set.update -/
theorem filled {I : Addr} {fp wr : List Addr} {G : Array GenState → Array GenState → Prop} {n : Nat} {Pv : Nat → Value → Prop} {St : Nat → Shared → Prop} {R : Result → Shared → Prop} (W : WalksS P w A.in1 I fp wr G n Pv St) {S : Addr} (apart : S ∉ fp) {ks : List En} (many : n = ks.length) (few : ks.length ≤ 12)
    (isV : ∀ i v, Pv i v → ∃ e, ks[i]? = some e ∧ v = .ref e.1) {g0 : Heap} (lie : ∀ e ∈ ks, Lies P w g0 e) (nS : g0.get? S = none) (nW : ∀ b ∈ wr, g0.get? b = none) (hu : A.in1.units < cLine)
    (fin : ∀ s' L es ep t, G s.gens s'.gens → s'.drawn = s.drawn → s'.os = s.os → Tbl P w s'.heap S L es ep t → Has ks n L → (∀ b o, g0.get? b = some o → s'.heap.get? b = some o) → R (.ok (.ret .none)) s') :
    ∀ (k i : Nat) (s1 : Shared), n - i = k → i ≤ n → St i s1 → G s.gens s1.gens → s1.drawn = s.drawn → s1.os = s.os → (∀ b o, g0.get? b = some o → s1.heap.get? b = some o) → (∃ L es ep t, Tbl P w s1.heap S L es ep t ∧ Has ks i L) → codeAny (model P w) A (.builtin "set.update.loop" ⟨[.ref S, .ref I], []⟩) R s1 := by
  have onW : S ∉ wr := fun z => apart (W.sub S z)
  have still : ∀ {u v : Shared}, Moved wr G u v → (∀ b o, g0.get? b = some o → u.heap.get? b = some o) → ∀ b o, g0.get? b = some o → v.heap.get? b = some o := fun mv kp b o e => mv.heap b o (fun z => by rw [nW b z] at e; cases e) (kp b o e)
  intro k
  induction k with
  | zero =>
    rintro i s1 left le st gs dr os kp ⟨L, es, ep, t, T, has⟩
    obtain rfl : i = n := by omega
    apply codeAny_builtin F.entry_set_update_loop
    rw [Around.under_plainId (F.plain_set_update_loop) _]
    refine wpAny_bind (m := pyNext (.ref I)) (W.done s1 _ _ st fun s2 mv => ?_)
    have kp2 := still mv kp
    exact wpAny_pure (fin s2 L es ep t (W.gtrans _ _ _ gs mv.gens) (mv.drawn.trans dr) (mv.os.trans os) (T.keep (fun o e => mv.heap S o onW e) fun e he => lies_keep (lie e (has.from_ e he)) kp2) has kp2)
  | succ k ih =>
    rintro i s1 left le st gs dr os kp ⟨L, es, ep, t, T, has⟩
    have lt : i < n := by omega
    apply codeAny_builtin F.entry_set_update_loop
    rw [Around.under_plainId (F.plain_set_update_loop) _]
    refine wpAny_bind (m := pyNext (.ref I)) (W.item i s1 _ _ lt st fun v s2 pv st2 mv => ?_)
    obtain ⟨x, isX, rfl⟩ := isV i v pv
    have kp2 := still mv kp
    have T2 : Tbl P w s2.heap S L es ep t := T.keep (fun o e => mv.heap S o onW e) fun e he => lies_keep (lie e (has.from_ e he)) kp2
    have lx : Lies P w s2.heap x := lies_keep (lie x (List.mem_of_getElem? isX)) kp2
    refine wpAny_bind (m := holding [Value.ref x.1] (setAdd S (.ref x.1))) (wpAny_holding ?_)
    unfold setAdd
    refine wpAny_holding (wpAny_bind (wpAny_pyHash_tuple hu lx ?_))
    refine add (s := { s2 with toks := s2.toks + (x.2.length + 1) }) T2 lx hu (by have := has.few; omega) fun b g3 L3 es3 ep3 t3 sb T3 old new => ?_
    refine wpAny_pure ⟨plainId_quiet F.plain_set_update_loop _, ih (i + 1) _ (by omega) lt (W.frame _ s2 _ _ st2 (Nat.le_add_right _ _) fun c hc o e => ?_) (W.gtrans _ _ _ gs mv.gens) (mv.drawn.trans dr) (mv.os.trans os) (fun c o e => ?_) ⟨L3, es3, ep3, t3, T3, has.step isX old new⟩⟩
    · rw [sb.2 c fun z => apart (by rw [← z]; exact hc)]
      exact e
    · exact (sb.2 c fun z => by rw [z, nS] at e; cases e).trans (kp2 c o e)
set_option maxHeartbeats 3000000 in
/-- set(x): a new set, then its __init__ -/
theorem set_made {x : Value} {Q : Value → Shared → Prop} (init : wpAny (model P w) A.in1.in1 (Builtin.«set.__init__» ⟨[.ref s.heap.objs.size, x], []⟩)
      (fun fin s' => match fin with | .done f => wants (fun r s₂ => r = .none ∧ Q (.ref s.heap.objs.size) s₂) E (.ok f) s' | .again c' => c'.quiet = true ∧ codeAny (model P w) A.in1 c' (wants (fun r s₂ => r = .none ∧ Q (.ref s.heap.objs.size) s₂) E) s')
      (fun e s' => wants (fun r s₂ => r = .none ∧ Q (.ref s.heap.objs.size) s₂) E (.error e) s') { s with heap := s.heap.push (emp w) }) : wpAny (model P w) A (call (.type "set") [x]) Q E s := by
  have t1 := F.called_set.notType
  have t2 := F.called_set.canCreate
  have t3 := F.typeCall_set_1 x
  have t4 := F.called_set.made
  have t5 := F.called_set.sub
  obtain ⟨top, under, t6⟩ := F.called_set.mro
  refine wpAny_call <| codeAny_of_tree ?_
  show wpAny (model P w) A.in1 (callAny (.type "set") ⟨[x], []⟩) _ _ s
  refine wpAny_pure ⟨Code.quiet_builtin _ (by decide +kernel), ?_⟩
  refine codeAny_builtin F.entry_type_call ?_
  rw [Around.under_plain (weight_type_call_type "set" [x] []) rfl]
  repeat any_goals first | wp_step | assumption
  refine codeAny_mono (code_set_led1 x (E := E) (Q₁ := fun obj s1 => obj = .ref s.heap.objs.size ∧ s1 = { s with heap := s.heap.push (emp w) }) ⟨rfl, rfl⟩) fun r s1 done => ?_
  match r, done with
  | .error e, done => exact done
  | .ok (.ret obj), ⟨e1, e2⟩ =>
    subst e1
    subst e2
    have isS : (s.heap.push (emp w)).get? s.heap.objs.size = some (emp w) := Heap.get?_push_size _ rfl
    have tyS : Shared.TypeIs { s with heap := s.heap.push (emp w) } (.ref s.heap.objs.size) "set" := ⟨_, isS, rfl⟩
    have i1 := F.called_set.init.lookup
    have i2 := F.called_set.init.bind (.ref s.heap.objs.size)
    repeat any_goals first | wp_step | assumption
    refine codeAny_mono (codeAny_call_builtin F.called_set.init.plain F.entry_set_init (check_set_init_1 tyS init)) fun r2 s2 done2 => ?_
    match r2, done2 with
    | .error e, done2 => exact done2
    | .ok (.ret v), ⟨e3, q2⟩ =>
      subst e3
      repeat any_goals first | wp_step | assumption
    | .ok .next, done2 => exact done2.elim
    | .ok .brk, done2 => exact done2.elim
    | .ok .cont, done2 => exact done2.elim
  | .ok .next, done => exact done.elim
  | .ok .brk, done => exact done.elim
  | .ok .cont, done => exact done.elim
set_option maxHeartbeats 3000000 in
theorem set_of {l : Addr} {items : Array Value} {ks : List En} {Q : Value → Shared → Prop} (hh : A.handled = none) (isT : s.heap.IsTuple l items) (are : items.toList = ks.map fun e => Value.ref e.1) (lie : ∀ e ∈ ks, Lies P w s.heap e) (few : ks.length ≤ 12) (hu : A.units + 3 < cLine)
    (q : ∀ (g' : Heap) (tk : Nat) L es ep t, Tbl P w g' s.heap.objs.size L es ep t → Has ks ks.length L → (∀ b o, s.heap.get? b = some o → g'.get? b = some o) → Q (.ref s.heap.objs.size) { s with heap := g', toks := tk }) : wpAny (model P w) A (call (.type "set") [.ref l]) Q E s := by
  have many : items.size = ks.length := by rw [← Array.length_toList, are, List.length_map]
  refine set_made ?_
  have isS : (s.heap.push (emp w)).get? s.heap.objs.size = some (emp w) := Heap.get?_push_size _ rfl
  have tyS : Shared.TypeIs { s with heap := s.heap.push (emp w) } (.ref s.heap.objs.size) "set" := ⟨_, isS, rfl⟩
  obtain ⟨ob, isOb, cl, cap, dat⟩ := isT
  have low : l < s.heap.objs.size := Heap.lt_size isOb
  have isOb1 : (s.heap.push (emp w)).get? l = some ob := Heap.get?_push_of_some _ isOb
  have isT1 : (s.heap.push (emp w)).IsTuple l items := ⟨ob, isOb1, cl, cap, dat⟩
  obtain ⟨ocl, odict, odata, oslots⟩ := ob
  simp only at cl dat
  subst cl
  subst dat
  have n1 := F.sub_tuple_set
  have n2 := F.sub_tuple_frozenset
  have n3 : (Value.type "tuple" == Value.type "dict") = false := by decide
  unfold Builtin.«set.__init__» Builtin.Frozenset.updateFrom noKeywords
  generalize isIt : pyIter = it
  wp_walk
  subst isIt
  refine wpAny_pyIter_tuple isT1 (wpAny_bind (wpAny_runValue ?_))
  have size1 : (s.heap.push (emp w)).objs.size = s.heap.objs.size + 1 := Heap.size_push ..
  have above : ∀ b, s.heap.objs.size ≤ b → s.heap.get? b = none := fun b le => by
    cases e : s.heap.get? b with
    | none => rfl
    | some o => exact absurd (Heap.lt_size e) (Nat.not_lt.mpr le)
  have ne : l ≠ (s.heap.push (emp w)).objs.size := by rw [size1]; exact Nat.ne_of_lt (Nat.lt_succ_of_lt low)
  have isV : ∀ (i : Nat) (v : Value), items[i]? = some v → ∃ e, ks[i]? = some e ∧ v = .ref e.1 := fun i v h => by
    rw [← Array.getElem?_toList, are, List.getElem?_map] at h
    cases e : ks[i]? with
    | none =>
      rw [e] at h
      cases h
    | some x => rw [e] at h; exact ⟨x, rfl, (Option.some.inj h).symm⟩
  refine filled (s := { s with heap := (s.heap.push (emp w)).push { cls := .type "tuple_iterator", data := .fields #[.ref l, .int 0 0] } }) ((Walks.tuple (by simp [hh]) _ l ne items).toS) (by rw [size1]; simp only [List.mem_cons, List.not_mem_nil, or_false, not_or]; exact ⟨Nat.ne_of_lt (Nat.lt_succ_self _), Nat.ne_of_gt low⟩) many few isV (g0 := s.heap) lie (above _ (Nat.le_refl _)) (fun b hb => above b (by rw [List.mem_singleton.mp hb, size1]; exact Nat.le_succ _)) (show A.units + 1 + 1 + 1 < cLine by omega)
    (fun s2 L es ep t gs dr os T has kp => ?_) items.size 0 _ rfl (Nat.zero_le _) ⟨⟨_, Heap.get?_push_size _ rfl, rfl, rfl⟩, isT1.push _⟩ rfl rfl rfl (fun b o e => Heap.get?_push_of_some _ (Heap.get?_push_of_some _ e)) ⟨[], #[], 0, _, tbl_new (Heap.get?_push_of_some _ isS), ⟨(fun e h => (nomatch h)), fun k => by simp, Nat.le_refl _⟩⟩
  obtain ⟨g2, gens2, drawn2, tk2, os2⟩ := s2
  have gs' : gens2 = s.gens := gs
  have dr' : drawn2 = s.drawn := dr
  have os' : os2 = s.os := os
  subst gs'
  subst dr'
  subst os'
  rw [many] at has
  exact wpAny_pure (wpAny_pure ⟨rfl, q g2 tk2 L es ep t T has kp⟩)
end
end Sx
namespace Bw
open PySem PySem.Spec PyProof.Rows L2 GxR Gx RZ
/-! ### the program: rows that can be -/
def partsOf : Row → List V
  | .put .. => [.str "name", .str "number"]
  | .copy .. => [.str "name", .str "name"]
  | .add .. => [.str "name", .str "name", .str "name"]
  | .take .. => [.str "name", .str "name", .str "name"]
  | .less .. => [.str "name", .str "name", .str "name"]
  | .call .. => [.str "name", .str "name"]
  | .say .. => [.str "name"]
  | .iff .. => [.str "name", .str "row"]
  | .go .. => [.str "row"]
  | .fin => []
/-- the dict of the parts -/
structure Parts (K : PySem.W.Frag) (w : World) (mg : Str → Option Value) (d : Addr) (es : Array DictEntry) (n : Nat) : Prop where
  g : mg "PARTS" = some (.ref d)
  kd : KDict K w d es n
  ex : ∀ row : Row, ∃ a, PySem.W.nsIn K d (wordOf row) = some (some (.ref a)) ∧ ∀ H, SqT K H a (partsOf row)
def highs (names many : Nat) : List (Key × V) := [(Sum.inr "name", .int ((names : Int) - 1)), (Sum.inr "number", .int 999), (Sum.inr "row", .int ((many : Int) - 1))]
theorem parts_len (row : Row) : (partsOf row).length = ((rowV row).drop 1).length := by cases row <;> rfl
theorem high_name (names many : Nat) : valV (mergeK [] (highs names many)) (Sum.inr "name") = some (.int ((names : Int) - 1)) := by
  simp only [mergeK, highs, List.foldl_cons, List.foldl_nil, valV_put]
  rw [if_neg (by decide), if_neg (by decide)]
  exact if_pos trivial
theorem high_number (names many : Nat) : valV (mergeK [] (highs names many)) (Sum.inr "number") = some (.int 999) := by
  simp only [mergeK, highs, List.foldl_cons, List.foldl_nil, valV_put]
  rw [if_neg (by decide)]
  exact if_pos trivial
theorem high_row (names many : Nat) : valV (mergeK [] (highs names many)) (Sum.inr "row") = some (.int ((many : Int) - 1)) := by
  simp only [mergeK, highs, List.foldl_cons, List.foldl_nil, valV_put]
  exact if_pos trivial
/-- a part, what is told for it, and what it may be at most -/
def FitAt (names many : Nat) (x y : V) : Prop := ∃ (s : Str) (z hi : Int), x = .str s ∧ y = .int z ∧ valV (mergeK [] (highs names many)) (Sum.inr s) = some (.int hi) ∧ 0 ≤ z ∧ z ≤ hi
theorem fit_name {names many n : Nat} (h : n < names) : FitAt names many (.str "name") (.int n) := ⟨_, _, _, rfl, rfl, high_name names many, by omega, by omega⟩
theorem fit_row {names many n : Nat} (h : n < many) : FitAt names many (.str "row") (.int n) := ⟨_, _, _, rfl, rfl, high_row names many, by omega, by omega⟩
theorem fit_number {names many : Nat} {v : Int} (h : 0 ≤ v ∧ v < 1000) : FitAt names many (.str "number") (.int v) := ⟨_, _, _, rfl, rfl, high_number names many, h.1, by omega⟩
theorem two {R : V → V → Prop} {a b c d x y : V} {i : Nat} (h1 : R a c) (h2 : R b d) (e1 : [a, b][i]? = some x) (e2 : [c, d][i]? = some y) : R x y := by
  match i, e1, e2 with
  | 0, e1, e2 => cases e1; cases e2; exact h1
  | 1, e1, e2 => cases e1; cases e2; exact h2
  | _ + 2, e1, _ => simp at e1
theorem one {R : V → V → Prop} {a c x y : V} {i : Nat} (h1 : R a c) (e1 : [a][i]? = some x) (e2 : [c][i]? = some y) : R x y := by
  match i, e1, e2 with
  | 0, e1, e2 => cases e1; cases e2; exact h1
  | _ + 1, e1, _ => simp at e1
theorem three {R : V → V → Prop} {a b c d e f x y : V} {i : Nat} (h1 : R a d) (h2 : R b e) (h3 : R c f) (e1 : [a, b, c][i]? = some x) (e2 : [d, e, f][i]? = some y) : R x y := by
  match i, e1, e2 with
  | 0, e1, e2 => cases e1; cases e2; exact h1
  | 1, e1, e2 => cases e1; cases e2; exact h2
  | 2, e1, e2 => cases e1; cases e2; exact h3
  | _ + 3, e1, _ => simp at e1
theorem fit {names many : Nat} {row : Row} (ok : RowOk names many row) {i : Nat} {x y : V} (e1 : (partsOf row)[i]? = some x) (e2 : ((rowV row).drop 1)[i]? = some y) : FitAt names many x y := by
  cases row with
  | put n v => exact two (fit_name ok.1) (fit_number ok.2) e1 e2
  | copy n o => exact two (fit_name ok.1) (fit_name ok.2) e1 e2
  | add n a b => exact three (fit_name ok.1) (fit_name ok.2.1) (fit_name ok.2.2) e1 e2
  | take n a b => exact three (fit_name ok.1) (fit_name ok.2.1) (fit_name ok.2.2) e1 e2
  | less n a b => exact three (fit_name ok.1) (fit_name ok.2.1) (fit_name ok.2.2) e1 e2
  | call n o => exact two (fit_name ok.1) (fit_name ok.2) e1 e2
  | say n => exact one (fit_name ok) e1 e2
  | iff n r => exact two (fit_name ok.1) (fit_row ok.2) e1 e2
  | go r => exact one (fit_row ok) e1 e2
  | fin => simp [partsOf] at e1
theorem decT {p : Prop} [Decidable p] {A B : Prop} (h : p) (a : A) : if decide p = true then A else B := by
  rw [decide_eq_true h]; exact iteT a
section
variable {base : Heap} {K : PySem.W.Frag} {mg : Str → Option Value} {P : Program} {w : World}
def spRowCan (T : Addr) : Sp := fun vs H Q _ => ∃ (r : Addr) (row : Row) (names many : Nat), vs = [.ref r, .int names, .int many] ∧ H r = some (.tup (rowV row)) ∧ RowOk names many row ∧ TabG H T ∧ ∀ H', Ext no H H' → Q (.bl true) H'
abbrev nRowCan : List Str := ["row", "names", "many", "parts", "highest", "part", "told"]
theorem scRowCan : FnScope nRowCan ["row", "names", "many"] (defScope s_row_can_be) := ⟨rfl, rfl, rfl, by decide +kernel, rfl, by decide +kernel, by decide +kernel⟩
theorem ok_rowCan {f c T fN d : Addr} {fd fdN : FuncData} {es : Array DictEntry} {n0 : Nat} (D : Dc K mg "row_can_be" s_row_can_be ["row", "names", "many"] f fd c) (TB : TabB base mg c T) (DN : Df K mg "is_number" s_is_number ["value", "low", "high"] fN fdN)
    (PT0 : Parts K w mg d es n0) (B : Bt mg) (G : Gk mg) : FnOk P w K mg base CX0 4 f fd ["row", "names", "many"] (spRowCan T) := by
  have GN : FnOk P w K mg base CX0 1 fN fdN ["value", "low", "high"] spNum := ok_num DN B
  refine D.ok scRowCan (fun vs H Q E h => ?_) (fun A outer s H vs Q E hr h => ?_)
  · obtain ⟨r, row, names, many, rfl, _⟩ := h
    rfl
  · obtain ⟨r, row, names, many, rfl, hrow, ok, tab, q⟩ := h
    have hu := hu_of hr
    refine ⟨_, pss_cons (ps_if (PW.pt (pw_or (pt_not (pt_val (pe_callB call_isi (by rfl) B.isinstance (by decide +kernel) (pa_cons (pv 0) (pa_cons (pe_bltn (v := .ty "tuple") (by rfl) B.tuple (by decide +kernel) rfl) pa_nil)))))
        (pw_or (pt_not (pt_truth (pv 0) (fun _ => rfl))) (pw_or1 (pt_not (pt_val (pe_callB call_isi (by rfl) B.isinstance (by decide +kernel) (pa_cons (pe_ix ix_tup (pv 0) pe_int (fun _ _ => rfl)) (pa_cons (pe_bltn (v := .ty "str") (by rfl) B.str (by decide +kernel) rfl) pa_nil)))))))))
        (pss_one (ps_ret pe_bl)) pss_nil)
      (pss_cons (ps_if (pt_cmpR (op_notIn_kd PT0.kd) (pe_ix ix_tup (pv 0) pe_int (fun _ _ => rfl)) (pe_glob (v := .ref d) (by rfl) PT0.g rfl) (by rfl)) (pss_one (ps_ret pe_bl)) pss_nil)
      (pss_cons (ps_set (i := 3) scRowCan.nd rfl (.inl rfl) (pe_ix ix_kdict (pe_glob (v := .ref d) (by rfl) PT0.g rfl) (pe_ix ix_tup (pv 0) pe_int (fun _ _ => rfl)) (fun _ _ => rfl)))
      (pss_cons (ps_set (i := 4) scRowCan.nd rfl (.inr rfl) (pe_disp (pps_cons pe_str (pe_op op_sub (pv 1) pe_int) (pps_cons pe_str (pe_num G.value) (pps_cons pe_str (pe_op op_sub (pv 2) pe_int) pps_nil))) rfl rfl (by simp) (by decide)))
      (pss_cons (ps_if (pt_cmpR op_ne (pe_callB call_len_seq (by rfl) B.len PySem.boot_len (pa_cons (pv 0) pa_nil)) (pe_op op_add (pe_callB call_len_seq (by rfl) B.len PySem.boot_len (pa_cons (pv 3) pa_nil)) pe_int) (nomark _)) (pss_one (ps_ret pe_bl)) pss_nil)
      (pss_one (ps_ret (pe_allG (P := T) (own := [("part", 5), ("told", 6)]) (k := 1) (g := gTup K 2 (gCons (gName 5) (gCons (gName 6) gNil))) (tt := tYes) hr (by rfl) B.all TB rfl scRowCan.nd (pi_zipA (by rfl) B.zip (pa_cons (pv 3) (pa_cons (pe_slice sl_tup (pv 0) (po_some pe_int) po_none) pa_nil)))
        (blkOk_by (N := nRowCan) (sc := defScope s_row_can_be) (by decide +kernel))
        (fun _ _ _ _ _ _ _ _ _ => pg_tup rfl (pgs_cons (pg_name (i := 5) scRowCan.nd rfl (Or.inl rfl)) (pgs_cons (pg_name (i := 6) scRowCan.nd rfl (Or.inl rfl)) pgs_nil))) (fun _ _ _ _ _ _ _ _ _ => pts_nil)
        (fun _ _ _ _ _ _ _ _ hA => pcall DN GN hA (pa_cons (pv 6) (pa_cons pe_int (pa_cons (pe_dget (hu_of hA) (pv 4) (pv 5) (fun _ _ => rfl)) pa_nil))))))))))), ?_⟩
    have hT := SqT.of (K := K) hrow
    obtain ⟨rest, word⟩ := rowV_word row
    have first : atI (rowV row) 0 = some (.str (wordOf row)) := by rw [word]; exact atI_nat (j := 0) rfl
    obtain ⟨pa, isP, tupP⟩ := PT0.ex row
    refine ⟨_, rfl, _, _, _, _, true, rfl, .ty "tuple", tyT hT, kit_ty (by decide +kernel), _, rfl, iteF ?_⟩
    refine ⟨_, rfl, true, .inr (.inl ⟨_, hT, by rw [word]; rfl⟩), iteF ?_⟩
    refine ⟨_, rfl, r, _, 0, _, rfl, rfl, hT, first, _, _, _, _, true, rfl, .ty "str", .base (.str _), kit_ty (by decide +kernel), _, rfl, iteF ?_⟩
    -- row[0] not in PARTS
    refine ⟨_, rfl, r, _, 0, _, rfl, rfl, hT, first, _, _, rfl, rfl, isP, _, rfl, iteF ?_⟩
    -- parts = PARTS[row[0]]
    refine ⟨_, rfl, r, _, 0, _, rfl, rfl, hT, first, d, _, .ref pa, rfl, rfl, ⟨_, _, _, PT0.kd.at_, PT0.kd.lit, isP, rfl⟩, ?_⟩
    -- highest
    refine fun p np => ⟨_, rfl, _, _, rfl, rfl, _, rfl, _, _, rfl, rfl, ?_⟩
    refine ⟨upd_same, highs names many, rfl, by show 3 ≤ 15; decide, ?_⟩
    generalize hH1 : upd (upd H p (.dK [])) p (.dK (mergeK [] (highs names many))) = H1
    have hp1 : H1 p = some (.dK (mergeK [] (highs names many))) := by rw [← hH1]; exact upd_same
    have x1 : Ext no H H1 := by rw [← hH1]; exact (Ext.new np).own np
    -- len(row) != len(parts) + 1
    refine ⟨_, rfl, r, _, rfl, .inr (x1.sqT (fun z => z) hT), _, rfl, pa, _, rfl, .inr (tupP H1), _, _, rfl, rfl, rfl, _, rfl, iteNS ?_ ?_⟩
    · rw [word, parts_len, word]
      rfl
    -- all(..)
    refine ⟨_, rfl, _, rfl, 1, rfl, r, _, rfl, x1.sqT (fun z => z) hT, notAll (k := 1) (by decide) (by rw [word]; exact Nat.zero_lt_succ _), fun sl nsl => ?_⟩
    have cut1 : cutV (rowV row) (some 1) none = (rowV row).drop 1 := cutFrom (rowV row) 1
    generalize hH2 : upd H1 sl (.tup (cutV (rowV row) (some 1) none)) = H2
    have hs2 : H2 sl = some (.tup ((rowV row).drop 1)) := by rw [← hH2, upd_same, cut1]
    have x2 : Ext no H1 H2 := by rw [← hH2]; exact Ext.new nsl
    refine ⟨pa, sl, _, _, rfl, .inr ⟨tupP H2, SqT.of hs2, (x1.trans x2).tab T tab, fun H3 t3 => ?_⟩⟩
    have x3 : Ext no H2 H3 := Ext.tbd ((x1.trans x2).tab T tab) t3
    refine gx_zipT (xs := partsOf row) (ys := (rowV row).drop 1) (parts_len row) (fun i acc H4 => Ext no H3 H4) (Ext.refl _ _) (fun i acc H4 x4 => ⟨tupP H4, SqT.of (x4.tup _ _ (x3.tup _ _ hs2))⟩) ?_ ?_
    · intro i x y t acc H4 isX isY x4 nt
      obtain ⟨sx, z, hi, rfl, rfl, hv, z0, z1⟩ := fit ok isX isY
      have x5 : Ext no H1 (upd H4 t (.tup [.str sx, .int z])) := ((x2.trans x3).trans x4).trans (Ext.new nt)
      have hp5 := x5.oth p _ (fun z => z) (fun _ z => by cases z) hp1
      refine ⟨t, _, rfl, SqT.of upd_same, rfl, _, _, rfl, _, _, rfl, rfl, ?_⟩
      refine ⟨rfl, ?_⟩
      refine ⟨_, rfl, _, rfl, _, rfl, p, _, rfl, .inl ⟨_, Sum.inr sx, .inl hp5, rfl, hv.symm⟩, z, 0, hi, rfl, ?_⟩
      rw [decide_eq_true z0, decide_eq_true z1]
      exact ⟨⟨true, rfl, fun z => by cases z⟩, fun _ => x4.trans (Ext.new nt)⟩
    · intro acc H4 x4
      exact q _ (((x1.trans x2).trans x3).trans x4)
end
end Bw
namespace Bw
open PySem PySem.Spec PyProof.Rows L2 GxR Gx RZ
/-! ### the program: a row's names -/
def namesOf : Row → List Nat
  | .put n _ => [n]
  | .copy n o => [n, o]
  | .add n a b => [n, a, b]
  | .take n a b => [n, a, b]
  | .less n a b => [n, a, b]
  | .call n o => [n, o]
  | .say n => [n]
  | .iff n _ => [n]
  | _ => []
abbrev natsV (l : List Nat) : List V := l.map fun (n : Nat) => V.int (n : Int)
def pick (p : V × V) : Option V := if decide (p.1 = V.str "name") = true then some p.2 else none
abbrev told (row : Row) : List (V × V) := (partsOf row).zip ((rowV row).drop 1)
theorem pickY {y : V} : pick (.str "name", y) = some y := rfl
theorem pickN {y : V} : pick (.str "number", y) = none := if_neg (show ¬ decide (V.str "number" = V.str "name") = true by decide +kernel)
theorem pickR {y : V} : pick (.str "row", y) = none := if_neg (show ¬ decide (V.str "row" = V.str "name") = true by decide +kernel)
theorem named (row : Row) : (told row).filterMap pick = natsV (namesOf row) := by
  cases row <;> simp [told, partsOf, rowV, namesOf, natsV, pickY, pickN, pickR]
theorem parts_str {row : Row} {i : Nat} {x : V} (h : (partsOf row)[i]? = some x) : ∃ s, x = .str s := by
  have : ∀ y ∈ partsOf row, ∃ s, y = V.str s := by cases row <;> simp [partsOf]
  exact this x (List.mem_of_getElem? h)
theorem told_few (row : Row) : (told row).length ≤ 3 := by cases row <;> simp [told, partsOf, rowV]
section
variable {base : Heap} {K : PySem.W.Frag} {mg : Str → Option Value} {P : Program} {w : World}
def spNames (T : Addr) : Sp := fun vs H Q _ => ∃ (r : Addr) (row : Row), vs = [.ref r] ∧ H r = some (.tup (rowV row)) ∧ TabG H T ∧ ∀ H' t, H' t = some (.tup (natsV (namesOf row))) → Ext no H H' → Q (.ref t) H'
abbrev nNames : List Str := ["row", "part", "told"]
theorem scNames : FnScope nNames ["row"] (defScope s_names_of) := ⟨rfl, rfl, rfl, by decide +kernel, rfl, by decide +kernel, by decide +kernel⟩
theorem ok_names {f c T d : Addr} {fd : FuncData} {es : Array DictEntry} {n0 : Nat} (D : Dc K mg "names_of" s_names_of ["row"] f fd c) (TB : TabB base mg c T) (PT0 : Parts K w mg d es n0) (B : Bt mg) : FnOk P w K mg base CX0 4 f fd ["row"] (spNames T) := by
  refine D.ok scNames (fun vs H Q E h => ?_) (fun A outer s H vs Q E hr h => ?_)
  · obtain ⟨r, row, rfl, _⟩ := h
    rfl
  · obtain ⟨r, row, rfl, hrow, tab, q⟩ := h
    refine ⟨_, pss_one (ps_ret (pe_tupG (P := T) (own := [("part", 1), ("told", 2)]) (k := 1) (g := gTup K 2 (gCons (gName 1) (gCons (gName 2) gNil))) hr (by rfl) B.tuple TB rfl scNames.nd
        (pi_zipA (by rfl) B.zip (pa_cons (pe_ix ix_kdict (pe_glob (v := .ref d) (by rfl) PT0.g rfl) (pe_ix ix_tup (pv 0) pe_int (fun _ _ => rfl)) (fun _ _ => rfl)) (pa_cons (pe_slice sl_tup (pv 0) (po_some pe_int) po_none) pa_nil)))
        (blkOk_by (N := nNames) (sc := defScope s_names_of) (by decide +kernel))
        (fun _ _ _ _ _ _ _ _ _ => pg_tup rfl (pgs_cons (pg_name (i := 1) scNames.nd rfl (Or.inl rfl)) (pgs_cons (pg_name (i := 2) scNames.nd rfl (Or.inl rfl)) pgs_nil)))
        (fun _ _ _ _ _ _ _ _ _ => pts_one (pt_cmpR op_eq (pv 1) pe_str (nomark _))) (fun _ _ _ _ _ _ _ _ _ => pv 2))), ?_⟩
    have hT := SqT.of (K := K) hrow
    obtain ⟨rest, word⟩ := rowV_word row
    have first : atI (rowV row) 0 = some (.str (wordOf row)) := by rw [word]; exact atI_nat (j := 0) rfl
    obtain ⟨pa, isP, tupP⟩ := PT0.ex row
    refine ⟨_, rfl, r, _, 0, _, rfl, rfl, hT, first, d, _, .ref pa, rfl, rfl, ⟨_, _, _, PT0.kd.at_, PT0.kd.lit, isP, rfl⟩, ?_⟩
    refine ⟨_, rfl, 1, rfl, r, _, rfl, hT, notAll (k := 1) (by decide) (by rw [word]; exact Nat.zero_lt_succ _), fun sl nsl => ?_⟩
    have cut1 : cutV (rowV row) (some 1) none = (rowV row).drop 1 := cutFrom (rowV row) 1
    generalize hH2 : upd H sl (.tup (cutV (rowV row) (some 1) none)) = H2
    have hs2 : H2 sl = some (.tup ((rowV row).drop 1)) := by rw [← hH2, upd_same, cut1]
    have x2 : Ext no H H2 := by rw [← hH2]; exact Ext.new nsl
    refine ⟨pa, sl, _, _, rfl, .inr ⟨tupP H2, SqT.of hs2, x2.tab T tab, fun H3 t3 => ?_⟩⟩
    have x3 : Ext no H2 H3 := Ext.tbd (x2.tab T tab) t3
    have few := told_few row
    refine gx_zipT (xs := partsOf row) (ys := (rowV row).drop 1) (parts_len row) (fun i acc H4 => acc = ((told row).take i).filterMap pick ∧ Ext no H3 H4) ⟨rfl, Ext.refl _ _⟩ (fun i acc H4 x4 => ⟨tupP H4, SqT.of (x4.2.tup _ _ (x3.tup _ _ hs2))⟩) ?_ ?_
    · rintro i x y t acc H4 isX isY ⟨rfl, x4⟩ nt
      obtain ⟨sx, rfl⟩ := parts_str isX
      have isXY : (told row)[i]? = some (.str sx, y) := by
        show ((partsOf row).zip ((rowV row).drop 1))[i]? = _
        rw [List.getElem?_zip_eq_some]
        exact ⟨isX, isY⟩
      have next : ((told row).take (i + 1)).filterMap pick = ((told row).take i).filterMap pick ++ (pick (.str sx, y)).toList := by
        rw [List.take_succ, isXY, List.filterMap_append]
        cases h : pick (.str sx, y) <;> simp [h]
      have len : (((told row).take i).filterMap pick).length < sizeLine := by
        refine small_lt (k := 3) ?_ (by decide)
        refine Nat.le_trans (List.length_filterMap_le _ _) (Nat.le_trans ?_ few)
        rw [List.length_take]
        exact Nat.min_le_right _ _
      refine ⟨t, _, rfl, SqT.of upd_same, rfl, _, _, rfl, _, _, rfl, rfl, rfl, ?_⟩
      refine ⟨_, rfl, rfl, ⟨_, rfl, ?_⟩⟩
      by_cases e : decide (V.str sx = V.str "name") = true
      · rw [e]
        refine iteT ⟨_, rfl, len, fun _ => ⟨?_, x4.trans (Ext.new nt)⟩⟩
        rw [next, show pick (.str sx, y) = some y from if_pos e]
        rfl
      · rw [Bool.not_eq_true] at e
        rw [e]
        refine iteF ⟨?_, x4.trans (Ext.new nt)⟩
        rw [next, show pick (.str sx, y) = none from if_neg (by rw [e]; exact Bool.false_ne_true)]
        simp
    · rintro acc H4 ⟨rfl, x4⟩
      have all : (told row).take (partsOf row).length = told row := List.take_of_length_le (by show ((partsOf row).zip ((rowV row).drop 1)).length ≤ _; rw [List.length_zip]; exact Nat.min_le_left _ _)
      rw [all, named]
      refine ⟨?_, fun p np => q _ p upd_same (((x2.trans x3).trans x4).trans (Ext.new np))⟩
      rw [← named]
      exact Nat.le_of_lt (small_lt (k := 3) (Nat.le_trans (List.length_filterMap_le _ _) few) (by decide))
/-! ### the program: programs that can be -/
def spHead : Sp := fun vs H Q _ => ∃ (a : Addr) (p : Prog), vs = [.ref a] ∧ ProgAt H a p ∧ p.Ok ∧ Q (.bl true) H
abbrev nHead : List Str := ["program", "params", "names", "rows"]
theorem scHead : FnScope nHead ["program"] (defScope s_head_can_be) := ⟨rfl, rfl, rfl, by decide +kernel, rfl, by decide +kernel, by decide +kernel⟩
theorem ok_head {f fN fT : Addr} {fd fdN fdT : FuncData} (D : Df K mg "head_can_be" s_head_can_be ["program"] f fd) (DN : Df K mg "is_number" s_is_number ["value", "low", "high"] fN fdN) (DT : Df K mg "is_tuple_of" s_is_tuple_of ["value", "many"] fT fdT)
    (B : Bt mg) (G : Gk mg) : FnOk P w K mg base CX0 2 f fd ["program"] spHead := by
  have GN : FnOk P w K mg base CX0 1 fN fdN ["value", "low", "high"] spNum := ok_num DN B
  have GT : FnOk P w K mg base CX0 1 fT fdT ["value", "many"] (spTupOf K) := ok_tupOf DT B
  refine D.F.ok scHead (fun vs H Q E h => ?_) (fun cdv A outer s H vs Q E hr h => ?_)
  · obtain ⟨a, p, rfl, _⟩ := h
    rfl
  · obtain ⟨a, p, rfl, hp, ok, q⟩ := h
    refine ⟨_, pss_cons (ps_if (pt_not (pt_val (pcall DT GT hr (pa_cons (pv 0) (pa_cons pe_int pa_nil))))) (pss_one (ps_ret pe_bl)) pss_nil)
      (pss_cons (ps_asg (pv 0) (pg_tup rfl (pgs_cons (pg_name (i := 1) scHead.nd rfl (Or.inl rfl)) (pgs_cons (pg_name (i := 2) scHead.nd rfl (Or.inl rfl)) (pgs_cons (pg_name (i := 3) scHead.nd rfl (Or.inl rfl)) pgs_nil)))))
      (pss_cons (ps_if (PW.pt (pw_or (pt_not (pt_val (pcall DN GN hr (pa_cons (pv 2) (pa_cons pe_int (pa_cons (pe_num G.names) pa_nil)))))) (pw_or1 (pt_not (pt_val (pcall DN GN hr (pa_cons (pv 1) (pa_cons pe_int (pa_cons (pv 2) pa_nil)))))))))
        (pss_one (ps_ret pe_bl)) pss_nil)
      (pss_one (ps_ret (pe_and (pe_callB call_isi (by rfl) B.isinstance (by decide +kernel) (pa_cons (pv 3) (pa_cons (pe_bltn (v := .ty "tuple") (by rfl) B.tuple (by decide +kernel) rfl) pa_nil)))
        (pe_one (pe_cmpR op_gt (pe_callB call_len_seq (by rfl) B.len PySem.boot_len (pa_cons (pv 3) pa_nil)) pe_int (nomark _)))))))), ?_⟩
    obtain ⟨rs, as, ha, hrs, hrows⟩ := hp.ex
    refine ⟨_, rfl, a, _, 3, rfl, SqT.of ha, _, rfl, iteF ?_⟩
    refine ⟨_, rfl, a, _, rfl, SqT.of ha, rfl, _, _, rfl, _, _, rfl, _, _, rfl, rfl, ?_⟩
    have n0 := ok.n0
    have n1 := ok.n1
    have pn := ok.pn
    refine ⟨_, rfl, p.names, 1, 8, rfl, _, rfl, ?_⟩
    rw [decide_eq_true (show (1 : Int) ≤ p.names by omega), decide_eq_true (show (p.names : Int) ≤ 8 by omega)]
    refine iteF ⟨_, rfl, _, rfl, p.params, 0, p.names, rfl, _, rfl, ?_⟩
    rw [decide_eq_true (show (0 : Int) ≤ p.params by omega), decide_eq_true (show (p.params : Int) ≤ p.names by omega)]
    refine iteF ?_
    have hT : SqT K H rs (as.map V.ref) := SqT.of hrs
    refine ⟨_, rfl, _, _, _, _, true, rfl, .ty "tuple", tyT hT, kit_ty (by decide +kernel), _, rfl, iteT ?_⟩
    refine ⟨_, rfl, rs, _, rfl, .inr hT, _, _, rfl, rfl, ?_⟩
    have r0 := ok.r0
    show Q (.bl (decide ((0 : Int) < ((as.map V.ref).length : Int)))) H
    rw [decide_eq_true (show (0 : Int) < ((as.map V.ref).length : Int) by rw [List.length_map, hrows.len]; omega)]
    exact q
end
end Bw
namespace Bw
open PySem PySem.Spec PyProof.Rows L2 GxR Gx RZ
section
variable {base : Heap} {K : PySem.W.Frag} {mg : Str → Option Value} {P : Program} {w : World}
def spCheck (T : Addr) : Sp := fun vs H Q _ => ∃ (a : Addr) (p : Prog), vs = [.ref a] ∧ ProgAt H a p ∧ p.Ok ∧ TabG H T ∧ ∀ H', Ext no H H' → Q .non H'
abbrev nCheck : List Str := ["program", "names", "rows", "many", "at", "row"]
theorem scCheck : FnScope nCheck ["program"] (defScope s_check_program) := ⟨rfl, rfl, rfl, by decide +kernel, rfl, by decide +kernel, by decide +kernel⟩
theorem ok_check {f fH fR c T fN fT d : Addr} {fd fdH fdR fdN fdT : FuncData} {es : Array DictEntry} {n0 : Nat} (D : Df K mg "check_program" s_check_program ["program"] f fd) (DH : Df K mg "head_can_be" s_head_can_be ["program"] fH fdH)
    (DR : Dc K mg "row_can_be" s_row_can_be ["row", "names", "many"] fR fdR c) (TB : TabB base mg c T) (DN : Df K mg "is_number" s_is_number ["value", "low", "high"] fN fdN) (DT : Df K mg "is_tuple_of" s_is_tuple_of ["value", "many"] fT fdT)
    (PT0 : Parts K w mg d es n0) (B : Bt mg) (G : Gk mg) : FnOk P w K mg base CX0 5 f fd ["program"] (spCheck T) := by
  have GH : FnOk P w K mg base CX0 2 fH fdH ["program"] spHead := ok_head DH DN DT B G
  have GR : FnOk P w K mg base CX0 4 fR fdR ["row", "names", "many"] (spRowCan T) := ok_rowCan DR TB DN PT0 B G
  refine D.F.ok scCheck (fun vs H Q E h => ?_) (fun cdv A outer s H vs Q E hr h => ?_)
  · obtain ⟨a, p, rfl, _⟩ := h
    rfl
  · obtain ⟨a, p, rfl, hp, ok, tab, q⟩ := h
    refine ⟨_, pss_cons (ps_if (pt_not (pt_val (pcall DH GH (hr.mono (show 2 ≤ 4 by decide)) (pa_cons (pv 0) pa_nil)))) (pss_one ps_never) pss_nil)
      (pss_cons (ps_set (i := 1) scCheck.nd rfl (.inl rfl) (pe_ix ix_tup (pv 0) pe_int (fun _ _ => rfl)))
      (pss_cons (ps_set (i := 2) scCheck.nd rfl (.inl rfl) (pe_ix ix_tup (pv 0) pe_int (fun _ _ => rfl)))
      (pss_cons (ps_set (i := 3) scCheck.nd rfl (.inl rfl) (pe_callB (call_min2 rfl) (by rfl) B.min (by decide +kernel) (pa_cons (pe_callB call_len_seq (by rfl) B.len PySem.boot_len (pa_cons (pv 2) pa_nil)) (pa_cons (pe_num G.rows) pa_nil))))
      (pss_one (ps_for PassesOwn.never rfl (pi_enumT (by rfl) B.enumerate (pa_cons (pv 2) pa_nil)) (pg_tup rfl (pgs_cons (pg_name (i := 4) scCheck.nd rfl (.inl rfl)) (pgs_cons (pg_name (i := 5) scCheck.nd rfl (.inl rfl)) pgs_nil)))
        (pss_one (ps_if (PW.pt (pw_or (pt_cmpR op_eq (pv 4) (pe_num G.rows) (nomark _)) (pw_or1 (pt_not (pt_val (pcall DR.D GR hr (pa_cons (pv 5) (pa_cons (pv 1) (pa_cons (pv 3) pa_nil)))))))))
          (pss_one ps_never) pss_nil))))))), ?_⟩
    obtain ⟨rs, as, ha, hrs, hrows⟩ := hp.ex
    refine ⟨_, rfl, a, p, rfl, hp, ok, _, rfl, iteF ?_⟩
    refine ⟨_, rfl, a, _, 1, _, rfl, rfl, SqT.of ha, atI_nat (j := 1) rfl, ?_⟩
    refine ⟨_, rfl, a, _, 2, _, rfl, rfl, SqT.of ha, atI_nat (j := 2) rfl, ?_⟩
    have hrl : (as.map V.ref).length = p.rows.length := by rw [List.length_map, hrows.len]
    have r24 := ok.r1
    refine ⟨_, rfl, rs, _, rfl, .inr (SqT.of hrs), _, _, rfl, ?_⟩
    rw [hrl, if_neg (show ¬ (24 : Int) < ((p.rows.length : Nat) : Int) by omega)]
    refine ⟨_, rfl, rs, _, rfl, SqT.of hrs, for_enumT (xs := as.map V.ref) (fun i σ H2 => (∃ v3 v4, σ = [some (.ref a), some (.int p.names), some (.ref rs), some (.int p.rows.length), v3, v4]) ∧ Ext no H H2) ⟨⟨none, none, rfl⟩, Ext.refl _ _⟩ (fun i σ H2 x2 => SqT.of (x2.2.tup _ _ hrs)) ?_ ?_⟩
    · rintro i x t σ H2 isX ⟨⟨v3, v4, rfl⟩, x2⟩ nt
      rw [List.getElem?_map] at isX
      obtain ⟨r, hr0, rfl⟩ : ∃ r, as[i]? = some r ∧ x = V.ref r := by
        cases e : as[i]? with
        | none => rw [e] at isX; cases isX
        | some r => rw [e] at isX; exact ⟨r, rfl, (Option.some.inj isX).symm⟩
      have hi : i < p.rows.length := by
        rw [← hrows.len]
        exact (List.getElem?_eq_some_iff.mp hr0).1
      have hrow := x2.tup _ _ (hrows.at_ i r _ hr0 (List.getElem?_eq_getElem hi))
      have x3 : Ext no H2 (upd H2 t (.tup [.int i, .ref r])) := Ext.new nt
      refine ⟨t, _, rfl, SqT.of upd_same, rfl, _, _, rfl, _, _, rfl, rfl, ?_⟩
      refine ⟨_, rfl, rfl, ⟨_, rfl, ?_⟩⟩
      rw [decide_eq_false (fun z : V.int i = V.int 24 => by have := V.int.inj z; omega)]
      refine iteF ⟨_, rfl, _, rfl, _, rfl, ?_⟩
      refine ⟨r, p.rows[i], p.names, p.rows.length, rfl, x3.tup _ _ hrow, ok.ok _ (List.getElem_mem hi), x3.tab T (x2.tab T tab), fun H4 x4 => ⟨_, rfl, iteF ⟨⟨_, _, rfl⟩, (x2.trans x3).trans x4⟩⟩⟩
    · rintro σ H2 ⟨_, x2⟩
      exact q _ x2
end
end Bw
namespace Bw
open PySem PySem.Spec PyProof.Rows L2 GxR Gx RZ
/-! ### the program: what a row does -/
def makersV : List V := [.str "put", .str "copy", .str "add", .str "take", .str "less", .str "call"]
structure Makers (K : PySem.W.Frag) (mg : Str → Option Value) (m : Addr) : Prop where
  g : mg "MAKERS" = some (.ref m)
  tup : ∀ H, SqT K H m makersV
def isMaker : Row → Bool
  | .put .. => true
  | .copy .. => true
  | .add .. => true
  | .take .. => true
  | .less .. => true
  | .call .. => true
  | _ => false
theorem in_makers (row : Row) : inV (.str (wordOf row)) makersV = isMaker row := by
  cases row with
  | put => exact (by decide +kernel : inV (.str "put") makersV = true)
  | copy => exact (by decide +kernel : inV (.str "copy") makersV = true)
  | add => exact (by decide +kernel : inV (.str "add") makersV = true)
  | take => exact (by decide +kernel : inV (.str "take") makersV = true)
  | less => exact (by decide +kernel : inV (.str "less") makersV = true)
  | call => exact (by decide +kernel : inV (.str "call") makersV = true)
  | say => exact (by decide +kernel : inV (.str "say") makersV = false)
  | iff => exact (by decide +kernel : inV (.str "if") makersV = false)
  | go => exact (by decide +kernel : inV (.str "go") makersV = false)
  | fin => exact (by decide +kernel : inV (.str "end") makersV = false)
/-- the names that a row is handed -/
def handedOf (row : Row) : List Nat := if isMaker row = true then (namesOf row).drop 1 else namesOf row
theorem maker_names {row : Row} (h : isMaker row = true) : 0 < (natsV (namesOf row)).length := by
  cases row <;> first | exact Nat.zero_lt_succ _ | cases h
/-- the number of the row behind a row -/
def behind (row : Row) (i : Nat) (j : Bool) : Nat := match row with
  | .go r => r
  | .iff _ r => if j = true then r else i + 1
  | _ => i + 1
theorem kinds (row : Row) : (∃ r, row = .go r) ∨ (∃ n r, row = .iff n r) ∨ (decide (V.str (wordOf row) = V.str "go") = false ∧ decide (V.str (wordOf row) = V.str "if") = false ∧ ∀ i j, behind row i j = i + 1) := by
  cases row with
  | go r => exact .inl ⟨r, rfl⟩
  | iff n r => exact .inr (.inl ⟨n, r, rfl⟩)
  | put => exact .inr (.inr ⟨(by decide +kernel : decide (V.str "put" = V.str "go") = false), (by decide +kernel : decide (V.str "put" = V.str "if") = false), fun _ _ => rfl⟩)
  | copy => exact .inr (.inr ⟨(by decide +kernel : decide (V.str "copy" = V.str "go") = false), (by decide +kernel : decide (V.str "copy" = V.str "if") = false), fun _ _ => rfl⟩)
  | add => exact .inr (.inr ⟨(by decide +kernel : decide (V.str "add" = V.str "go") = false), (by decide +kernel : decide (V.str "add" = V.str "if") = false), fun _ _ => rfl⟩)
  | take => exact .inr (.inr ⟨(by decide +kernel : decide (V.str "take" = V.str "go") = false), (by decide +kernel : decide (V.str "take" = V.str "if") = false), fun _ _ => rfl⟩)
  | less => exact .inr (.inr ⟨(by decide +kernel : decide (V.str "less" = V.str "go") = false), (by decide +kernel : decide (V.str "less" = V.str "if") = false), fun _ _ => rfl⟩)
  | call => exact .inr (.inr ⟨(by decide +kernel : decide (V.str "call" = V.str "go") = false), (by decide +kernel : decide (V.str "call" = V.str "if") = false), fun _ _ => rfl⟩)
  | say => exact .inr (.inr ⟨(by decide +kernel : decide (V.str "say" = V.str "go") = false), (by decide +kernel : decide (V.str "say" = V.str "if") = false), fun _ _ => rfl⟩)
  | fin => exact .inr (.inr ⟨(by decide +kernel : decide (V.str "end" = V.str "go") = false), (by decide +kernel : decide (V.str "end" = V.str "if") = false), fun _ _ => rfl⟩)
section
variable {base : Heap} {K : PySem.W.Frag} {mg : Str → Option Value} {P : Program} {w : World}
def spHanded : Sp := fun vs H Q _ => ∃ (r o : Addr) (row : Row), vs = [.ref r, .ref o] ∧ H r = some (.tup (rowV row)) ∧ H o = some (.tup (natsV (namesOf row))) ∧ ∀ H' t, H' t = some (.tup (natsV (handedOf row))) → Ext no H H' → Q (.ref t) H'
theorem scHanded : FnScope ["row", "ones"] ["row", "ones"] (defScope s_handed) := ⟨rfl, rfl, rfl, by decide +kernel, rfl, by decide +kernel, by decide +kernel⟩
theorem first_word {K : PySem.W.Frag} {row : Row} : atI (rowV row) 0 = some (.str (wordOf row)) := by
  obtain ⟨rest, word⟩ := rowV_word row
  rw [word]
  exact atI_nat (j := 0) rfl
theorem ok_handed {f m : Addr} {fd : FuncData} (D : Df K mg "handed" s_handed ["row", "ones"] f fd) (MK : Makers K mg m) : FnOk P w K mg base CX0 1 f fd ["row", "ones"] spHanded := by
  refine D.F.ok scHanded (fun vs H Q E h => ?_) (fun cdv A outer s H vs Q E hr h => ?_)
  · obtain ⟨r, o, row, rfl, _⟩ := h
    rfl
  · obtain ⟨r, o, row, rfl, hrow, ho, q⟩ := h
    refine ⟨_, pss_one (ps_ret (pe_ifExp (pt_cmpR op_in_seq (pe_ix ix_tup (pv 0) pe_int (fun _ _ => rfl)) (pe_glob (v := .ref m) (by rfl) MK.g rfl) (by rfl)) (pe_slice sl_tup (pv 1) (po_some pe_int) po_none) (pv 1))), ?_⟩
    refine ⟨_, rfl, r, _, 0, _, rfl, rfl, SqT.of hrow, first_word (K := K), m, _, rfl, .inr (MK.tup H), rfl, by decide +kernel, _, rfl, ?_⟩
    show if inV (.str (wordOf row)) makersV = true then _ else _
    rw [in_makers]
    by_cases e : isMaker row = true
    · rw [e]
      refine iteT ⟨_, rfl, 1, rfl, o, _, rfl, SqT.of ho, notAll (k := 1) (by decide) (maker_names e), fun p np => q _ p ?_ (Ext.new np)⟩
      rw [upd_same, show cutV (natsV (namesOf row)) (some 1) none = (natsV (namesOf row)).drop 1 from cutFrom _ 1, handedOf, if_pos e, ← List.map_drop]
    · rw [Bool.not_eq_true] at e
      rw [e]
      refine iteF ⟨_, rfl, q _ o ?_ (Ext.refl _ _)⟩
      rw [ho, handedOf, if_neg (by rw [e]; exact Bool.false_ne_true)]
def spAtEnd : Sp := fun vs H Q _ => ∃ (rs : Addr) (as : List Addr) (rows : List Row) (i : Nat), vs = [.ref rs, .int i] ∧ H rs = some (.tup (as.map V.ref)) ∧ RowsAt H as rows ∧ i ≤ rows.length ∧ Q (.bl (atEnd rows i)) H
theorem scAtEnd : FnScope ["rows", "at"] ["rows", "at"] (defScope s_at_end) := ⟨rfl, rfl, rfl, by decide +kernel, rfl, by decide +kernel, by decide +kernel⟩
theorem ok_atEnd {f : Addr} {fd : FuncData} (D : Df K mg "at_end" s_at_end ["rows", "at"] f fd) (B : Bt mg) : FnOk P w K mg base CX0 1 f fd ["rows", "at"] spAtEnd := by
  refine D.F.ok scAtEnd (fun vs H Q E h => ?_) (fun cdv A outer s H vs Q E hr h => ?_)
  · obtain ⟨rs, as, rows, i, rfl, _⟩ := h
    rfl
  · obtain ⟨rs, as, rows, i, rfl, hrs, hrows, hi, q⟩ := h
    refine ⟨_, pss_one (ps_ret (pe_or (pe_cmpR op_eq (pv 1) (pe_callB call_len_seq (by rfl) B.len PySem.boot_len (pa_cons (pv 0) pa_nil)) (nomark _)) (pe_one (pe_cmpR op_eq (pe_ix ix_tup (pe_ix ix_tup (pv 0) (pv 1) (fun _ _ => rfl)) pe_int (fun _ _ => rfl)) pe_str (nomark _))))), ?_⟩
    have hl : (as.map V.ref).length = rows.length := by rw [List.length_map, hrows.len]
    refine ⟨_, rfl, _, rfl, rs, _, rfl, .inr (SqT.of hrs), rfl, _, rfl, ?_⟩
    by_cases e : i = rows.length
    · subst e
      rw [decide_eq_true (show V.int rows.length = V.int ((as.map V.ref).length : Nat) by rw [hl])]
      refine iteT ?_
      have z : atEnd rows rows.length = true := by
        unfold atEnd
        rw [List.getElem?_eq_none_iff.mpr (Nat.le_refl _)]
      rw [z] at q
      exact q
    · rw [decide_eq_false (fun z : V.int i = V.int ((as.map V.ref).length : Nat) => e (by have := V.int.inj z; omega))]
      have lt : i < rows.length := by omega
      have la : i < as.length := by rw [hrows.len]; exact lt
      have ai : as[i]? = some as[i] := List.getElem?_eq_getElem la
      have ri : rows[i]? = some rows[i] := List.getElem?_eq_getElem lt
      refine iteF ⟨_, rfl, _, rfl, rs, _, i, _, rfl, rfl, SqT.of hrs, atI_nat (by rw [List.getElem?_map, ai]; rfl), as[i], _, 0, _, rfl, rfl, SqT.of (hrows.at_ i _ _ ai ri), first_word (K := K), rfl, ?_⟩
      have z : decide (V.str (wordOf rows[i]) = V.str "end") = atEnd rows i := by
        unfold atEnd
        rw [ri]
        by_cases fe : rows[i] = .fin
        · rw [fe]
          exact decide_eq_true rfl
        · rw [word_end fe]
          cases h : rows[i] <;> first | rfl | exact absurd h fe
      rw [z]
      exact q
def spNext : Sp := fun vs H Q _ => ∃ (r : Addr) (row : Row) (i : Nat) (j : Bool), vs = [.ref r, .int i, .bl j] ∧ H r = some (.tup (rowV row)) ∧ Q (.int (behind row i j)) H
theorem scNext : FnScope ["row", "at", "jumps"] ["row", "at", "jumps"] (defScope s_next_row) := ⟨rfl, rfl, rfl, by decide +kernel, rfl, by decide +kernel, by decide +kernel⟩
theorem ok_next {f : Addr} {fd : FuncData} (D : Df K mg "next_row" s_next_row ["row", "at", "jumps"] f fd) : FnOk P w K mg base CX0 1 f fd ["row", "at", "jumps"] spNext := by
  refine D.F.ok scNext (fun vs H Q E h => ?_) (fun cdv A outer s H vs Q E hr h => ?_)
  · obtain ⟨r, row, i, j, rfl, _⟩ := h
    rfl
  · obtain ⟨r, row, i, j, rfl, hrow, q⟩ := h
    refine ⟨_, pss_cons (ps_if (pt_cmpR op_eq (pe_ix ix_tup (pv 0) pe_int (fun _ _ => rfl)) pe_str (nomark _)) (pss_one (ps_ret (pe_ix ix_tup (pv 0) pe_int (fun _ _ => rfl)))) pss_nil)
      (pss_cons (ps_if (PW.pt (pw_and (pt_cmpR op_eq (pe_ix ix_tup (pv 0) pe_int (fun _ _ => rfl)) pe_str (nomark _)) (pw_and1 (pt_val (pv 2))))) (pss_one (ps_ret (pe_ix ix_tup (pv 0) pe_int (fun _ _ => rfl)))) pss_nil)
      (pss_one (ps_ret (pe_op op_add (pv 1) pe_int)))), ?_⟩
    have hT := SqT.of (K := K) hrow
    refine ⟨_, rfl, r, _, 0, _, rfl, rfl, hT, first_word (K := K), rfl, _, rfl, ?_⟩
    have plus : behind row i j = i + 1 → Q (.int ((i : Int) + 1)) H := fun e => by
      rw [e] at q
      exact q
    rcases kinds row with ⟨g, rfl⟩ | ⟨n, g, rfl⟩ | ⟨n1, n2, e⟩
    · refine yS ⟨_, rfl, r, _, 1, _, rfl, rfl, hT, atI_nat (j := 1) rfl, q⟩
    · refine nS (show decide (V.str "if" = V.str "go") = false by decide +kernel) ⟨_, rfl, r, _, 0, _, rfl, rfl, hT, first_word (K := K), rfl, _, rfl, yS ⟨_, rfl, j, rfl, ?_⟩⟩
      cases j with
      | true => exact iteT ⟨_, rfl, r, _, 2, _, rfl, rfl, hT, atI_nat (j := 2) rfl, q⟩
      | false => exact iteF ⟨_, rfl, _, _, rfl, rfl, plus rfl⟩
    · refine nS n1 ⟨_, rfl, r, _, 0, _, rfl, rfl, hT, first_word (K := K), rfl, _, rfl, nS n2 ?_⟩
      exact iteF ⟨_, rfl, _, _, rfl, rfl, plus (e i j)⟩
def spMoves (K : PySem.W.Frag) : Sp := fun vs H Q _ => ∃ (x y : V) (e : Addr), vs = [x, .ref e, y] ∧ SqT K H e [] ∧ Q .non H
abbrev nMoves : List Str := ["frame", "moves", "cells", "word", "one", "other", "parts", "left", "right"]
theorem scMoves : FnScope nMoves ["frame", "moves", "cells"] (defScope s_do_moves) := ⟨rfl, rfl, rfl, by decide +kernel, rfl, by decide +kernel, by decide +kernel⟩
theorem ok_moves {f : Addr} {fd : FuncData} (D : Df K mg "do_moves" s_do_moves ["frame", "moves", "cells"] f fd) : FnOk P w K mg base CX0 1 f fd ["frame", "moves", "cells"] (spMoves K) := by
  refine D.F.ok scMoves (fun vs H Q E h => ?_) (fun cdv A outer s H vs Q E hr h => ?_)
  · obtain ⟨x, y, e, rfl, _⟩ := h
    rfl
  · obtain ⟨x, y, e, rfl, hT, q⟩ := h
    refine ⟨_, pss_one (ps_for PassesOwn.never rfl (pi_tup (pv 1)) (pg_tup rfl (pgs_cons (pg_name (i := 3) scMoves.nd rfl (.inl rfl)) (pgs_cons (pg_name (i := 4) scMoves.nd rfl (.inl rfl)) (pgs_cons (pg_name (i := 5) scMoves.nd rfl (.inl rfl)) pgs_nil)))) pss_never), ?_⟩
    refine ⟨_, rfl, e, rfl, ⟨_, hT⟩, for_tup (xs := []) (fun i σ H2 => H2 = H) rfl (fun i σ H2 _ z => by rw [z]; exact hT) (fun i x σ H2 z => by simp at z) fun σ H2 z => ?_⟩
    rw [z]
    exact q
end
end Bw
namespace Bw
open PySem PySem.Spec PyProof.Rows L2 GxR Gx RZ
/-! ### the program: frames and moves -/
structure Gc (mg : Str → Option Value) : Prop where
  boxes : ∃ t, mg "BOXES_MOST" = some (.int 6 t)
  slots : ∃ t, mg "SLOTS_MOST" = some (.int 8 t)
  moves : ∃ t, mg "MOVES_MOST" = some (.int 6 t)
section
variable {base : Heap} {K : PySem.W.Frag} {mg : Str → Option Value} {P : Program} {w : World}
def spRising : Sp := fun vs H Q _ => ∃ (e : Addr) (es : List Nat) (many : Nat), vs = [.ref e, .int many] ∧ H e = some (.tup (nV es)) ∧ (∀ y ∈ es, y < many) ∧ es.Pairwise (· < ·) ∧ Q (.bl true) H
abbrev nRising : List Str := ["value", "many", "least", "number"]
theorem scRising : FnScope nRising ["value", "many"] (defScope s_is_rising) := ⟨rfl, rfl, rfl, by decide +kernel, rfl, by decide +kernel, by decide +kernel⟩
theorem ok_rising {f fN : Addr} {fd fdN : FuncData} (D : Df K mg "is_rising" s_is_rising ["value", "many"] f fd) (DN : Df K mg "is_number" s_is_number ["value", "low", "high"] fN fdN) (B : Bt mg) : FnOk P w K mg base CX0 2 f fd ["value", "many"] spRising := by
  have GN : FnOk P w K mg base CX0 1 fN fdN ["value", "low", "high"] spNum := ok_num DN B
  refine D.F.ok scRising (fun vs H Q E h => ?_) (fun cdv A outer s H vs Q E hr h => ?_)
  · obtain ⟨e, es, many, rfl, _⟩ := h
    rfl
  · obtain ⟨e, es, many, rfl, he, hlt, rise, q⟩ := h
    refine ⟨_, pss_cons (ps_if (pt_not (pt_val (pe_callB call_isi (by rfl) B.isinstance (by decide +kernel) (pa_cons (pv 0) (pa_cons (pe_bltn (v := .ty "tuple") (by rfl) B.tuple (by decide +kernel) rfl) pa_nil))))) (pss_one (ps_ret pe_bl)) pss_nil)
      (pss_cons (ps_set (i := 2) scRising.nd rfl (.inl rfl) pe_int)
      (pss_cons (ps_for PassesOwn.never rfl (pi_tup (pv 0)) (pg_name (i := 3) scRising.nd rfl (.inl rfl))
        (pss_cons (ps_if (pt_not (pt_val (pcall DN GN hr (pa_cons (pv 3) (pa_cons (pv 2) (pa_cons (pe_op op_sub (pv 1) pe_int) pa_nil)))))) (pss_one (ps_ret pe_bl)) pss_nil)
        (pss_one (ps_set (i := 2) scRising.nd rfl (.inl rfl) (pe_op op_add (pv 3) pe_int)))))
      (pss_one (ps_ret (pe_bl))))), ?_⟩
    have hT := SqT.of (K := K) he
    refine ⟨_, rfl, _, _, _, _, true, rfl, .ty "tuple", tyT hT, kit_ty (by decide +kernel), _, rfl, iteF ?_⟩
    refine ⟨_, rfl, e, rfl, ⟨_, hT⟩, for_tup (xs := nV es) (fun i σ H2 => ∃ (least : Nat) (v3 : Option V), σ = [some (.ref e), some (.int many), some (.int least), v3] ∧ H2 = H ∧ ∀ y ∈ es.drop i, least ≤ y) ⟨0, none, rfl, rfl, fun _ _ => Nat.zero_le _⟩ (fun i σ H2 _ z => by obtain ⟨_, _, _, z, _⟩ := z; rw [z]; exact hT) ?_ ?_⟩
    · rintro i x σ H2 hx ⟨least, v3, rfl, rfl, low⟩
      obtain ⟨n, hn, rfl⟩ := nV_get hx
      have split : es.drop i = n :: es.drop (i + 1) := by
        rw [List.drop_eq_getElem_cons (List.getElem?_eq_some_iff.mp hn).1, (List.getElem?_eq_some_iff.mp hn).2]
      have l1 := low n (by rw [split]; exact List.mem_cons_self ..)
      have l2 := hlt n (List.mem_of_getElem? hn)
      refine ⟨_, rfl, _, rfl, _, rfl, _, _, rfl, rfl, n, least, (many : Int) - 1, rfl, _, rfl, ?_⟩
      rw [decide_eq_true (show (least : Int) ≤ n by omega), decide_eq_true (show (n : Int) ≤ (many : Int) - 1 by omega)]
      refine iteF ⟨_, rfl, _, _, rfl, rfl, n + 1, _, rfl, rfl, fun y hy => ?_⟩
      have pw := rise.drop (i := i)
      rw [split] at pw
      exact (List.pairwise_cons.mp pw).1 y hy
    · rintro σ H2 ⟨least, v3, rfl, rfl, _⟩
      exact q
def spFrameCan : Sp := fun vs H Q _ => ∃ (a : Addr) (f : Fr), vs = [.ref a] ∧ FrAt H a f ∧ f.Ok ∧ Q (.bl true) H
abbrev nFrameCan : List Str := ["frame", "boxes", "slots", "eaten"]
theorem scFrameCan : FnScope nFrameCan ["frame"] (defScope s_frame_can_be) := ⟨rfl, rfl, rfl, by decide +kernel, rfl, by decide +kernel, by decide +kernel⟩
theorem ok_frameCan {f fN fT fR : Addr} {fd fdN fdT fdR : FuncData} (D : Df K mg "frame_can_be" s_frame_can_be ["frame"] f fd) (DN : Df K mg "is_number" s_is_number ["value", "low", "high"] fN fdN) (DT : Df K mg "is_tuple_of" s_is_tuple_of ["value", "many"] fT fdT)
    (DR : Df K mg "is_rising" s_is_rising ["value", "many"] fR fdR) (B : Bt mg) (G : Gc mg) : FnOk P w K mg base CX0 3 f fd ["frame"] spFrameCan := by
  have GN : FnOk P w K mg base CX0 1 fN fdN ["value", "low", "high"] spNum := ok_num DN B
  have GT : FnOk P w K mg base CX0 1 fT fdT ["value", "many"] (spTupOf K) := ok_tupOf DT B
  have GR : FnOk P w K mg base CX0 2 fR fdR ["value", "many"] spRising := ok_rising DR DN B
  refine D.F.ok scFrameCan (fun vs H Q E h => ?_) (fun cdv A outer s H vs Q E hr h => ?_)
  · obtain ⟨a, f, rfl, _⟩ := h
    rfl
  · obtain ⟨a, f, rfl, hf, ok, q⟩ := h
    have hr1 := hr.mono (show 1 ≤ 2 by decide)
    refine ⟨_, pss_cons (ps_if (pt_not (pt_val (pcall DT GT hr1 (pa_cons (pv 0) (pa_cons pe_int pa_nil))))) (pss_one (ps_ret pe_bl)) pss_nil)
      (pss_cons (ps_asg (pv 0) (pg_tup rfl (pgs_cons (pg_name (i := 1) scFrameCan.nd rfl (.inl rfl)) (pgs_cons (pg_name (i := 2) scFrameCan.nd rfl (.inl rfl)) (pgs_cons (pg_name (i := 3) scFrameCan.nd rfl (.inl rfl)) pgs_nil)))))
      (pss_cons (ps_if (PW.pt (pw_or (pt_not (pt_val (pcall DN GN hr1 (pa_cons (pv 1) (pa_cons pe_int (pa_cons (pe_num G.boxes) pa_nil)))))) (pw_or1 (pt_not (pt_val (pcall DN GN hr1 (pa_cons (pv 2) (pa_cons pe_int (pa_cons (pe_num G.slots) pa_nil))))))))) (pss_one (ps_ret pe_bl)) pss_nil)
      (pss_one (ps_ret (pcall DR GR hr (pa_cons (pv 3) (pa_cons (pv 1) pa_nil))))))), ?_⟩
    obtain ⟨e, ha, he⟩ := hf.ex
    have b1 := ok.b1
    have b6 := ok.b6
    have s8 := ok.s8
    refine ⟨_, rfl, a, _, 3, rfl, SqT.of ha, _, rfl, iteF ?_⟩
    refine ⟨_, rfl, a, _, rfl, SqT.of ha, rfl, _, _, rfl, _, _, rfl, _, _, rfl, rfl, ?_⟩
    refine ⟨_, rfl, f.boxes, 1, 6, rfl, _, rfl, ?_⟩
    rw [decide_eq_true (show (1 : Int) ≤ f.boxes by omega), decide_eq_true (show (f.boxes : Int) ≤ 6 by omega)]
    refine iteF ⟨_, rfl, f.slots, 0, 8, rfl, _, rfl, ?_⟩
    rw [decide_eq_true (show (0 : Int) ≤ f.slots by omega), decide_eq_true (show (f.slots : Int) ≤ 8 by omega)]
    exact iteF ⟨_, rfl, _, rfl, e, f.eaten, f.boxes, rfl, he, ok.eat, ok.rise, q⟩
/-! highest_of, cell_of -/
def spHighest : Sp := fun vs H Q _ => ∃ (a : Addr) (f : Fr) (box : Bool), vs = [.ref a, .str (if box = true then "box" else "slot")] ∧ FrAt H a f ∧ Q (.int (((if box = true then f.boxes else f.slots : Nat) : Int) - 1)) H
theorem scHighest : FnScope ["frame", "part"] ["frame", "part"] (defScope s_highest_of) := ⟨rfl, rfl, rfl, by decide +kernel, rfl, by decide +kernel, by decide +kernel⟩
theorem ok_highest {f : Addr} {fd : FuncData} (D : Df K mg "highest_of" s_highest_of ["frame", "part"] f fd) : FnOk P w K mg base CX0 1 f fd ["frame", "part"] spHighest := by
  refine D.F.ok scHighest (fun vs H Q E h => ?_) (fun cdv A outer s H vs Q E hr h => ?_)
  · obtain ⟨a, f, box, rfl, _⟩ := h
    rfl
  · obtain ⟨a, f, box, rfl, hf, q⟩ := h
    obtain ⟨e, ha, _⟩ := hf.ex
    refine ⟨_, pss_one (ps_ret (pe_ifExp (pt_cmpR op_eq (pv 1) pe_str (nomark _)) (pe_op op_sub (pe_ix ix_tup (pv 0) pe_int (fun _ _ => rfl)) pe_int) (pe_op op_sub (pe_ix ix_tup (pv 0) pe_int (fun _ _ => rfl)) pe_int))), ?_⟩
    cases box with
    | true => exact ⟨_, rfl, rfl, ⟨_, rfl, yS ⟨_, rfl, a, _, 0, _, rfl, rfl, SqT.of ha, atI_nat (j := 0) rfl, _, _, rfl, rfl, q⟩⟩⟩
    | false => exact ⟨_, rfl, rfl, ⟨_, rfl, nS (by decide +kernel) ⟨_, rfl, a, _, 1, _, rfl, rfl, SqT.of ha, atI_nat (j := 1) rfl, _, _, rfl, rfl, q⟩⟩⟩
def spCell : Sp := fun vs H Q _ => ∃ (a : Addr) (f : Fr) (pl : Pl), vs = [.ref a, .str (if pl.box = true then "box" else "slot"), .int pl.n] ∧ FrAt H a f ∧ Q (.int (pl.cell f)) H
theorem scCell : FnScope ["frame", "part", "number"] ["frame", "part", "number"] (defScope s_cell_of) := ⟨rfl, rfl, rfl, by decide +kernel, rfl, by decide +kernel, by decide +kernel⟩
theorem ok_cell {f : Addr} {fd : FuncData} (D : Df K mg "cell_of" s_cell_of ["frame", "part", "number"] f fd) : FnOk P w K mg base CX0 1 f fd ["frame", "part", "number"] spCell := by
  refine D.F.ok scCell (fun vs H Q E h => ?_) (fun cdv A outer s H vs Q E hr h => ?_)
  · obtain ⟨a, f, pl, rfl, _⟩ := h
    rfl
  · obtain ⟨a, f, pl, rfl, hf, q⟩ := h
    obtain ⟨e, ha, _⟩ := hf.ex
    refine ⟨_, pss_one (ps_ret (pe_ifExp (pt_cmpR op_eq (pv 1) pe_str (nomark _)) (pv 2) (pe_op op_add (pe_ix ix_tup (pv 0) pe_int (fun _ _ => rfl)) (pv 2)))), ?_⟩
    obtain ⟨box, n⟩ := pl
    cases box with
    | true => exact ⟨_, rfl, rfl, ⟨_, rfl, yS ⟨_, rfl, q⟩⟩⟩
    | false => exact ⟨_, rfl, rfl, ⟨_, rfl, nS (show decide (V.str "slot" = V.str "box") = false by decide +kernel) ⟨_, rfl, a, _, 0, _, rfl, rfl, SqT.of ha, atI_nat (j := 0) rfl, _, rfl, _, _, rfl, rfl, q⟩⟩⟩
end
end Bw
namespace Bw
open PySem PySem.Spec PyProof.Rows L2 GxR Gx RZ
/-! ### the program: moves done -/
def Mv.word : Mv → Str
  | .copy .. => "copy" | .swap .. => "swap" | .store .. => "store" | .load .. => "load"
/-- the two places of a move, left then right -/
def Mv.left : Mv → Pl
  | .copy a _ => ⟨true, a⟩ | .swap a _ => ⟨true, a⟩ | .store s _ => ⟨false, s⟩ | .load b _ => ⟨true, b⟩
def Mv.right : Mv → Pl
  | .copy _ b => ⟨true, b⟩ | .swap _ b => ⟨true, b⟩ | .store _ b => ⟨true, b⟩ | .load _ s => ⟨false, s⟩
abbrev kindOf (p : Pl) : Str := if p.box = true then "box" else "slot"
theorem Mv.d_eq (m : Mv) : m.d = .tuple [.str m.word, .int m.left.n, .int m.right.n] := by cases m <;> rfl
theorem Mv.ok_left {f : Fr} {m : Mv} (h : m.Ok f) : m.left.Ok f := by
  cases m with
  | copy a b => exact h.1
  | swap a b => exact h.1
  | store a b => exact h.1
  | load a b => exact h.1
theorem Mv.ok_right {f : Fr} {m : Mv} (h : m.Ok f) : m.right.Ok f := by
  cases m with
  | copy a b => exact h.2
  | swap a b => exact h.2
  | store a b => exact h.2
  | load a b => exact h.2
structure Moves (K : PySem.W.Frag) (w : World) (mg : Str → Option Value) (d : Addr) (es : Array DictEntry) (n : Nat) : Prop where
  g : mg "MOVES" = some (.ref d)
  kd : KDict K w d es n
  ex : ∀ m : Mv, ∃ a, PySem.W.nsIn K d m.word = some (some (.ref a)) ∧ ∀ H, SqT K H a [.str (kindOf m.left), .str (kindOf m.right)]
def isSwap : Mv → Bool
  | .swap .. => true
  | _ => false
theorem word_swap (m : Mv) : decide (V.str m.word = V.str "swap") = isSwap m := by
  cases m with
  | copy => exact (by decide +kernel : decide (V.str "copy" = V.str "swap") = false)
  | swap => exact (by decide +kernel : decide (V.str "swap" = V.str "swap") = true)
  | store => exact (by decide +kernel : decide (V.str "store" = V.str "swap") = false)
  | load => exact (by decide +kernel : decide (V.str "load" = V.str "swap") = false)
theorem mvDo_swap {f : Fr} {m : Mv} (h : isSwap m = true) (c : List Int) : mvDo f m c = (c.set (m.left.cell f) (at0 c (m.right.cell f))).set (m.right.cell f) (at0 c (m.left.cell f)) := by
  cases m <;> first | rfl | cases h
theorem mvDo_other {f : Fr} {m : Mv} (h : isSwap m = false) (c : List Int) : mvDo f m c = c.set (m.left.cell f) (at0 c (m.right.cell f)) := by
  cases m <;> first | rfl | cases h
section
variable {base : Heap} {K : PySem.W.Frag} {mg : Str → Option Value} {P : Program} {w : World}
def spMovesG : Sp := fun vs H Q _ => ∃ (a mv cl : Addr) (f : Fr) (ms : List Mv) (c : List Int), vs = [.ref a, .ref mv, .ref cl] ∧ FrAt H a f ∧ Tp H (.ref mv) (.tuple (ms.map Mv.d)) ∧ (∀ m ∈ ms, m.Ok f) ∧ H cl = some (.lst (c.map V.int)) ∧ c.length = f.boxes + f.slots ∧
  ∀ H', H' cl = some (.lst ((mvsDo f ms c).map V.int)) → Ext (fun x => x = cl) H H' → Q .non H'
theorem ok_movesG {f fC d : Addr} {fd fdC : FuncData} {es : Array DictEntry} {n0 : Nat} (D : Df K mg "do_moves" s_do_moves ["frame", "moves", "cells"] f fd) (DC : Df K mg "cell_of" s_cell_of ["frame", "part", "number"] fC fdC) (MV : Moves K w mg d es n0) : FnOk P w K mg base CX0 2 f fd ["frame", "moves", "cells"] spMovesG := by
  have GC : FnOk P w K mg base CX0 1 fC fdC ["frame", "part", "number"] spCell := ok_cell DC
  refine D.F.ok scMoves (fun vs H Q E h => ?_) (fun cdv A outer s H vs Q E hr h => ?_)
  · obtain ⟨a, mv, cl, f, ms, c, rfl, _⟩ := h
    rfl
  · obtain ⟨a, mv, cl, f, ms, c, rfl, hf, tms, mok, hcl, clen, q⟩ := h
    refine ⟨_, pss_one (ps_for PassesOwn.never rfl (pi_tup (pv 1)) (pg_tup rfl (pgs_cons (pg_name (i := 3) scMoves.nd rfl (.inl rfl)) (pgs_cons (pg_name (i := 4) scMoves.nd rfl (.inl rfl)) (pgs_cons (pg_name (i := 5) scMoves.nd rfl (.inl rfl)) pgs_nil))))
      (pss_cons (ps_set (i := 6) scMoves.nd rfl (.inl rfl) (pe_ix ix_kdict (pe_glob (v := .ref d) (by rfl) MV.g rfl) (pv 3) (fun _ _ => rfl)))
      (pss_cons (ps_set (i := 7) scMoves.nd rfl (.inl rfl) (pcall DC GC hr (pa_cons (pv 0) (pa_cons (pe_ix ix_tup (pv 6) pe_int (fun _ _ => rfl)) (pa_cons (pv 4) pa_nil)))))
      (pss_cons (ps_set (i := 8) scMoves.nd rfl (.inl rfl) (pcall DC GC hr (pa_cons (pv 0) (pa_cons (pe_ix ix_tup (pv 6) pe_int (fun _ _ => rfl)) (pa_cons (pv 5) pa_nil)))))
      (pss_one (ps_if (pt_cmpR op_eq (pv 3) pe_str (nomark _))
        (pss_one (ps_asg (pe_tup (pa_cons (pe_ix ix_list (pv 2) (pv 8) (fun _ _ => rfl)) (pa_cons (pe_ix ix_list (pv 2) (pv 7) (fun _ _ => rfl)) pa_nil))) (pg_tup rfl (pgs_cons (pg_sub (pv 2) (pv 7) set_list) (pgs_cons (pg_sub (pv 2) (pv 8) set_list) pgs_nil)))))
        (pss_one (ps_asg (pe_ix ix_list (pv 2) (pv 8) (fun _ _ => rfl)) (pg_sub (pv 2) (pv 7) set_list))))))))), ?_⟩
    obtain ⟨mv', mvs, em, hmv, mall⟩ := tms.tupE
    obtain rfl : mv = mv' := V.ref.inj em
    refine ⟨_, rfl, mv, rfl, ⟨_, SqT.of hmv⟩, for_tup (xs := mvs) (fun i σ H2 => (∃ v3 v4 v5 v6 v7 v8, σ = [some (.ref a), some (.ref mv), some (.ref cl), v3, v4, v5, v6, v7, v8]) ∧ H2 cl = some (.lst ((mvsDo f (ms.take i) c).map V.int)) ∧ Ext (fun x => x = cl) H H2)
      ⟨⟨_, _, _, _, _, _, rfl⟩, hcl, Ext.refl _ _⟩ (fun i σ H2 _ z => SqT.of (z.2.2.tup _ _ hmv)) ?_ ?_⟩
    · rintro i x σ H2 hx ⟨⟨v3, v4, v5, v6, v7, v8, rfl⟩, hcl2, x2⟩
      have ilt : i < ms.length := by
        have := (List.getElem?_eq_some_iff.mp hx).1
        rw [mall.len, List.length_map] at this
        exact this
      have eim : ms[i]? = some ms[i] := List.getElem?_eq_getElem ilt
      have mk := mok _ (List.getElem_mem ilt)
      generalize ms[i] = m at eim mk
      obtain ⟨x', ex, tx⟩ := mall.get (i := i) (d := m.d) (by rw [List.getElem?_map, eim]; rfl)
      obtain rfl : x = x' := Option.some.inj (hx.symm.trans ex)
      have next : mvsDo f (ms.take (i + 1)) c = mvDo f m (mvsDo f (ms.take i) c) := by rw [List.take_add_one, eim]; exact mvsDo_snoc f _ m c
      have dlen : (mvsDo f (ms.take i) c).length = f.boxes + f.slots := by rw [mvsDo_len]; exact clen
      generalize mvsDo f (ms.take i) c = dd at hcl2 next dlen
      rw [m.d_eq] at tx
      obtain ⟨t, rfl, ht⟩ := tp3E (tx.ext x2)
      have lt1 := Pl.cell_lt (Mv.ok_left mk)
      have lt2 := Pl.cell_lt (Mv.ok_right mk)
      obtain ⟨pa, isP, tupP⟩ := MV.ex m
      have hf2 := hf.ext x2
      refine ⟨t, _, rfl, SqT.of ht, rfl, _, _, rfl, _, _, rfl, _, _, rfl, rfl, ?_⟩
      refine ⟨_, rfl, d, _, .ref pa, rfl, rfl, ⟨_, _, _, MV.kd.at_, MV.kd.lit, isP, rfl⟩, ?_⟩
      refine ⟨_, rfl, _, rfl, pa, _, 0, _, rfl, rfl, tupP H2, atI_nat (j := 0) rfl, _, rfl, a, f, m.left, rfl, hf2, ?_⟩
      refine ⟨_, rfl, _, rfl, pa, _, 1, _, rfl, rfl, tupP H2, atI_nat (j := 1) rfl, _, rfl, a, f, m.right, rfl, hf2, ?_⟩
      generalize hL : m.left.cell f = L at lt1
      generalize hR : m.right.cell f = R at lt2
      have e1 : atI (dd.map V.int) (R : Int) = some (.int (at0 dd R)) := atI_nat (at_get (by omega))
      have e2 : atI (dd.map V.int) (L : Int) = some (.int (at0 dd L)) := atI_nat (at_get (by omega))
      refine ⟨_, rfl, rfl, ⟨_, rfl, ?_⟩⟩
      rw [word_swap]
      by_cases sw : isSwap m = true
      · rw [sw]
        refine iteT ⟨_, rfl, _, rfl, cl, _, R, _, rfl, rfl, SqL.of hcl2, e1, _, rfl, _, rfl, cl, _, L, _, rfl, rfl, SqL.of hcl2, e2, by show 2 ≤ sizeLine; decide, fun tp ntp => ?_⟩
        have y1 : Ext (fun x => x = cl) H2 (upd H2 tp (.tup [.int (at0 dd R), .int (at0 dd L)])) := Ext.new ntp
        have htp : (upd H2 tp (.tup [.int (at0 dd R), .int (at0 dd L)])) tp = some (.tup [.int (at0 dd R), .int (at0 dd L)]) := upd_same
        have hcl3 : (upd H2 tp (.tup [.int (at0 dd R), .int (at0 dd L)])) cl = some (.lst (dd.map V.int)) := by rw [upd_ne (ne_of_none hcl2 ntp)]; exact hcl2
        generalize upd H2 tp (.tup [.int (at0 dd R), .int (at0 dd L)]) = H3 at y1 htp hcl3 ⊢
        refine ⟨tp, _, rfl, SqT.of htp, rfl, _, _, rfl, _, rfl, _, rfl, cl, _, L, L, rfl, rfl, hcl3, ixN_int (by omega), ?_⟩
        have y2 : Ext (fun x => x = cl) H3 (upd H3 cl (.lst ((dd.map V.int).set L (.int (at0 dd R))))) := Ext.put hcl3 rfl (fun _ z => by cases z) (fun _ z => by cases z)
        have hcl4 : (upd H3 cl (.lst ((dd.map V.int).set L (.int (at0 dd R))))) cl = some (.lst ((dd.set L (at0 dd R)).map V.int)) := by rw [upd_same, set_ints]
        generalize upd H3 cl (.lst ((dd.map V.int).set L (.int (at0 dd R)))) = H4 at y2 hcl4 ⊢
        refine ⟨_, _, rfl, _, rfl, _, rfl, cl, _, R, R, rfl, rfl, hcl4, ixN_int (by rw [List.length_set]; omega), rfl, ⟨_, _, _, _, _, _, rfl⟩, ?_, ((x2.trans y1).trans y2).trans (Ext.put hcl4 rfl (fun _ z => by cases z) (fun _ z => by cases z))⟩
        rw [upd_same, set_ints, next, mvDo_swap sw, hL, hR]
      · rw [Bool.not_eq_true] at sw
        rw [sw]
        refine iteF ⟨_, rfl, _, rfl, cl, _, R, _, rfl, rfl, SqL.of hcl2, e1, _, rfl, _, rfl, cl, _, L, L, rfl, rfl, hcl2, ixN_int (by omega), ⟨_, _, _, _, _, _, rfl⟩, ?_, x2.trans (Ext.put hcl2 rfl (fun _ z => by cases z) (fun _ z => by cases z))⟩
        rw [upd_same, set_ints, next, mvDo_other sw, hL, hR]
    · rintro σ H2 ⟨_, hcl2, x2⟩
      rw [mall.len, List.length_map, List.take_length] at hcl2
      exact q _ hcl2 x2
end
end Bw
namespace Bw
open PySem PySem.Spec PyProof.Rows L2 GxR Gx RZ
/-! ### the program: moves that can be -/
section
variable {base : Heap} {K : PySem.W.Frag} {mg : Str → Option Value} {P : Program} {w : World}
def spMoveCan (T : Addr) : Sp := fun vs H Q _ => ∃ (a : Addr) (x : V) (f : Fr) (m : Mv), vs = [.ref a, x] ∧ FrAt H a f ∧ Tp H x m.d ∧ m.Ok f ∧ TabG H T ∧ ∀ H', Ext no H H' → Q (.bl true) H'
abbrev nMoveCan : List Str := ["frame", "move", "parts", "part", "told"]
theorem scMoveCan : FnScope nMoveCan ["frame", "move"] (defScope s_move_can_be) := ⟨rfl, rfl, rfl, by decide +kernel, rfl, by decide +kernel, by decide +kernel⟩
theorem ok_moveCan {f c T fN fT fH d : Addr} {fd fdN fdT fdH : FuncData} {es : Array DictEntry} {n0 : Nat} (D : Dc K mg "move_can_be" s_move_can_be ["frame", "move"] f fd c) (TB : TabB base mg c T) (DN : Df K mg "is_number" s_is_number ["value", "low", "high"] fN fdN)
    (DT : Df K mg "is_tuple_of" s_is_tuple_of ["value", "many"] fT fdT) (DH : Df K mg "highest_of" s_highest_of ["frame", "part"] fH fdH) (MV : Moves K w mg d es n0) (B : Bt mg) : FnOk P w K mg base CX0 4 f fd ["frame", "move"] (spMoveCan T) := by
  have GN : FnOk P w K mg base CX0 1 fN fdN ["value", "low", "high"] spNum := ok_num DN B
  have GT : FnOk P w K mg base CX0 1 fT fdT ["value", "many"] (spTupOf K) := ok_tupOf DT B
  have GH : FnOk P w K mg base CX0 1 fH fdH ["frame", "part"] spHighest := ok_highest DH
  refine D.ok scMoveCan (fun vs H Q E h => ?_) (fun A outer s H vs Q E hr h => ?_)
  · obtain ⟨a, x, f, m, rfl, _⟩ := h
    rfl
  · obtain ⟨a, x, f, m, rfl, hf, tm, mok, tab, q⟩ := h
    have hr1 := hr.mono (show 1 ≤ 3 by decide)
    rw [m.d_eq] at tm
    obtain ⟨t, rfl, ht⟩ := tp3E tm
    refine ⟨_, pss_cons (ps_if (PW.pt (pw_or (pt_not (pt_val (pcall DT GT hr1 (pa_cons (pv 1) (pa_cons pe_int pa_nil))))) (pw_or (pt_not (pt_val (pe_callB call_isi (by rfl) B.isinstance (by decide +kernel) (pa_cons (pe_ix ix_tup (pv 1) pe_int (fun _ _ => rfl)) (pa_cons (pe_bltn (v := .ty "str") (by rfl) B.str (by decide +kernel) rfl) pa_nil)))))
          (pw_or1 (pt_cmpR (op_notIn_kd MV.kd) (pe_ix ix_tup (pv 1) pe_int (fun _ _ => rfl)) (pe_glob (v := .ref d) (by rfl) MV.g rfl) (by rfl)))))) (pss_one (ps_ret pe_bl)) pss_nil)
      (pss_cons (ps_set (i := 2) scMoveCan.nd rfl (.inl rfl) (pe_ix ix_kdict (pe_glob (v := .ref d) (by rfl) MV.g rfl) (pe_ix ix_tup (pv 1) pe_int (fun _ _ => rfl)) (fun _ _ => rfl)))
      (pss_one (ps_ret (pe_allG (P := T) (own := [("part", 3), ("told", 4)]) (k := 1) (g := gTup K 2 (gCons (gName 3) (gCons (gName 4) gNil))) (tt := tYes) hr (by rfl) B.all TB rfl scMoveCan.nd (pi_zipA (by rfl) B.zip (pa_cons (pv 2) (pa_cons (pe_slice sl_tup (pv 1) (po_some pe_int) po_none) pa_nil)))
        (blkOk_by (N := nMoveCan) (sc := defScope s_move_can_be) (by decide +kernel))
        (fun _ _ _ _ _ _ _ _ _ => pg_tup rfl (pgs_cons (pg_name (i := 3) scMoveCan.nd rfl (Or.inl rfl)) (pgs_cons (pg_name (i := 4) scMoveCan.nd rfl (Or.inl rfl)) pgs_nil))) (fun _ _ _ _ _ _ _ _ _ => pts_nil)
        (fun _ _ _ _ _ _ _ _ hA => pcall DN GN hA (pa_cons (pv 4) (pa_cons pe_int (pa_cons (pcall DH GH hA (pa_cons (pv 0) (pa_cons (pv 3) pa_nil))) pa_nil)))))))), ?_⟩
    have hT := SqT.of (K := K) ht
    obtain ⟨pa, isP, tupP⟩ := MV.ex m
    refine ⟨_, rfl, t, _, 3, rfl, hT, _, rfl, iteF ?_⟩
    refine ⟨_, rfl, t, _, 0, _, rfl, rfl, hT, atI_nat (j := 0) rfl, _, _, _, _, true, rfl, .ty "str", .base (.str _), kit_ty (by decide +kernel), _, rfl, iteF ?_⟩
    refine ⟨_, rfl, t, _, 0, _, rfl, rfl, hT, atI_nat (j := 0) rfl, _, _, rfl, rfl, isP, _, rfl, iteF ?_⟩
    refine ⟨_, rfl, t, _, 0, _, rfl, rfl, hT, atI_nat (j := 0) rfl, d, _, .ref pa, rfl, rfl, ⟨_, _, _, MV.kd.at_, MV.kd.lit, isP, rfl⟩, ?_⟩
    refine ⟨_, rfl, _, rfl, 1, rfl, t, _, rfl, hT, notAll (k := 1) (by decide) (by show 0 < 3; decide), fun sl nsl => ?_⟩
    have cut1 : cutV [V.str m.word, .int m.left.n, .int m.right.n] (some 1) none = [.int m.left.n, .int m.right.n] := cutFrom _ 1
    have x2 : Ext no H (upd H sl (.tup (cutV [V.str m.word, .int m.left.n, .int m.right.n] (some 1) none))) := Ext.new nsl
    have hs2 : (upd H sl (.tup (cutV [V.str m.word, .int m.left.n, .int m.right.n] (some 1) none))) sl = some (.tup [.int m.left.n, .int m.right.n]) := by rw [upd_same, cut1]
    generalize upd H sl (.tup (cutV [V.str m.word, .int m.left.n, .int m.right.n] (some 1) none)) = H2 at x2 hs2 ⊢
    refine ⟨pa, sl, _, _, rfl, .inr ⟨tupP H2, SqT.of hs2, x2.tab T tab, fun H3 t3 => ?_⟩⟩
    have x3 : Ext no H2 H3 := Ext.tbd (x2.tab T tab) t3
    refine gx_zipT (xs := [.str (kindOf m.left), .str (kindOf m.right)]) (ys := [.int m.left.n, .int m.right.n]) rfl (fun i acc H4 => Ext no H3 H4) (Ext.refl _ _) (fun i acc H4 x4 => ⟨tupP H4, SqT.of (x4.tup _ _ (x3.tup _ _ hs2))⟩) ?_ ?_
    · intro i x y tt acc H4 isX isY x4 ntt
      obtain ⟨pl, rfl, rfl, plok⟩ : ∃ pl : Pl, x = .str (kindOf pl) ∧ y = .int pl.n ∧ pl.Ok f := by
        match i, isX, isY with
        | 0, isX, isY => cases isX; cases isY; exact ⟨m.left, rfl, rfl, Mv.ok_left mok⟩
        | 1, isX, isY => cases isX; cases isY; exact ⟨m.right, rfl, rfl, Mv.ok_right mok⟩
        | _ + 2, isX, _ => simp at isX
      have x5 : Ext no H4 (upd H4 tt (.tup [.str (kindOf pl), .int pl.n])) := Ext.new ntt
      have hf5 := hf.ext (((x2.trans x3).trans x4).trans x5)
      refine ⟨tt, _, rfl, SqT.of upd_same, rfl, _, _, rfl, _, _, rfl, rfl, ?_⟩
      refine ⟨rfl, ?_⟩
      refine ⟨_, rfl, _, rfl, _, rfl, a, f, pl.box, rfl, hf5, pl.n, 0, _, rfl, ?_⟩
      unfold Pl.Ok at plok
      rw [decide_eq_true (show (0 : Int) ≤ pl.n by omega), decide_eq_true (by omega)]
      exact ⟨⟨true, rfl, fun z => by cases z⟩, fun _ => x4.trans x5⟩
    · intro acc H4 x4
      exact q _ ((x2.trans x3).trans x4)
def spMovesCan (T T2 : Addr) : Sp := fun vs H Q _ => ∃ (a mv : Addr) (f : Fr) (ms : List Mv), vs = [.ref a, .ref mv] ∧ FrAt H a f ∧ Tp H (.ref mv) (.tuple (ms.map Mv.d)) ∧ (∀ m ∈ ms, m.Ok f) ∧ ms.length ≤ 6 ∧ TabG H T ∧ TabG H T2 ∧ ∀ H', Ext no H H' → Q (.bl true) H'
abbrev nMovesCan : List Str := ["frame", "moves", "move"]
theorem scMovesCan : FnScope nMovesCan ["frame", "moves"] (defScope s_moves_can_be) := ⟨rfl, rfl, rfl, by decide +kernel, rfl, by decide +kernel, by decide +kernel⟩
theorem ok_movesCan {f c T fM cM T2 : Addr} {fd fdM : FuncData} (D : Dc K mg "moves_can_be" s_moves_can_be ["frame", "moves"] f fd c) (TB : TabB base mg c T) (DM : Dc K mg "move_can_be" s_move_can_be ["frame", "move"] fM fdM cM)
    (GM : FnOk P w K mg base CX0 4 fM fdM ["frame", "move"] (spMoveCan T2)) (B : Bt mg) (G : Gc mg) : FnOk P w K mg base CX0 7 f fd ["frame", "moves"] (spMovesCan T T2) := by
  refine D.ok scMovesCan (fun vs H Q E h => ?_) (fun A outer s H vs Q E hr h => ?_)
  · obtain ⟨a, mv, f, ms, rfl, _⟩ := h
    rfl
  · obtain ⟨a, mv, f, ms, rfl, hf, tms, mok, few, tab, tab2, q⟩ := h
    obtain ⟨mv', mvs, em, hmv, mall⟩ := tms.tupE
    obtain rfl : mv = mv' := V.ref.inj em
    have hT := SqT.of (K := K) hmv
    have ml : mvs.length = ms.length := by rw [mall.len, List.length_map]
    refine ⟨_, pss_cons (ps_if (PW.pt (pw_or (pt_not (pt_val (pe_callB call_isi (by rfl) B.isinstance (by decide +kernel) (pa_cons (pv 1) (pa_cons (pe_bltn (v := .ty "tuple") (by rfl) B.tuple (by decide +kernel) rfl) pa_nil))))) (pw_or1 (pt_cmpR op_gt (pe_callB call_len_seq (by rfl) B.len PySem.boot_len (pa_cons (pv 1) pa_nil)) (pe_num G.moves) (nomark _))))) (pss_one (ps_ret pe_bl)) pss_nil)
      (pss_one (ps_ret (pe_allG (P := T) (own := [("move", 2)]) (k := 4) (g := gName 2) (tt := tYes) hr (by rfl) B.all TB rfl scMovesCan.nd (pi_tup (pv 1)) (blkOk_by (N := nMovesCan) (sc := defScope s_moves_can_be) (by decide +kernel))
        (fun _ _ _ _ _ _ _ _ _ => pg_name (i := 2) scMovesCan.nd rfl (Or.inl rfl)) (fun _ _ _ _ _ _ _ _ _ => pts_nil) (fun _ _ _ _ _ _ _ _ hA => pcall DM.D GM hA (pa_cons (pv 0) (pa_cons (pv 2) pa_nil)))))), ?_⟩
    refine ⟨_, rfl, _, _, _, _, true, rfl, .ty "tuple", tyT hT, kit_ty (by decide +kernel), _, rfl, iteF ?_⟩
    refine ⟨_, rfl, mv, _, rfl, .inr hT, _, _, rfl, rfl, ⟨_, rfl, ifF (decide_eq_false (by omega)) ?_⟩⟩
    refine ⟨_, rfl, mv, rfl, ⟨_, hT⟩, tab, fun H1 t1 => ?_⟩
    have e1 : Ext no H H1 := Ext.tbd tab t1
    refine gx_tup (xs := mvs) (fun i acc H2 => Ext no H1 H2) (Ext.refl _ _) (fun i acc H2 x2 => SqT.of (x2.tup _ _ (e1.tup _ _ hmv))) ?_ ?_
    · intro i x acc H2 isX x2
      have ilt : i < ms.length := by rw [← ml]; exact (List.getElem?_eq_some_iff.mp isX).1
      have eim : ms[i]? = some ms[i] := List.getElem?_eq_getElem ilt
      have mk := mok _ (List.getElem_mem ilt)
      generalize ms[i] = m at eim mk
      obtain ⟨x', ex, tx⟩ := mall.get (i := i) (d := m.d) (by rw [List.getElem?_map, eim]; rfl)
      obtain rfl : x = x' := Option.some.inj (isX.symm.trans ex)
      have e2 := e1.trans x2
      refine ⟨rfl, ⟨_, rfl, _, rfl, a, x, f, m, rfl, hf.ext e2, tx.ext e2, mk, e2.tab _ tab2, fun H3 x3 => ?_⟩⟩
      exact ⟨⟨true, rfl, fun z => by cases z⟩, fun _ => x2.trans x3⟩
    · intro acc H2 x2
      exact q _ (e1.trans x2)
end
end Bw
namespace Bw
open PySem PySem.Spec PyProof.Rows L2 GxR Gx RZ
/-! ### the program: places and groups that can be -/
theorem same_names (row : Row) : rowNames row = namesOf row := by cases row <;> rfl
def withoutV : List V := [.str "go", .str "if", .str "end"]
structure Without (K : PySem.W.Frag) (mg : Str → Option Value) (m : Addr) : Prop where
  g : mg "WITHOUT_BEHIND" = some (.ref m)
  tup : ∀ H, SqT K H m withoutV
section
variable {base : Heap} {K : PySem.W.Frag} {mg : Str → Option Value} {P : Program} {w : World}
def spPlaceCan : Sp := fun vs H Q _ => ∃ (a : Addr) (x : V) (f : Fr) (pl : Pl), vs = [.ref a, x] ∧ FrAt H a f ∧ Tp H x pl.d ∧ pl.Ok f ∧ ∀ H', Ext no H H' → Q (.bl true) H'
theorem scPlaceCan : FnScope ["frame", "place"] ["frame", "place"] (defScope s_place_can_be) := ⟨rfl, rfl, rfl, by decide +kernel, rfl, by decide +kernel, by decide +kernel⟩
theorem in_kinds (pl : Pl) : inV (.str (kindOf pl)) [.str "box", .str "slot"] = true := by
  obtain ⟨box, n⟩ := pl
  cases box
  · exact (by decide +kernel : inV (.str "slot") [.str "box", .str "slot"] = true)
  · exact (by decide +kernel : inV (.str "box") [.str "box", .str "slot"] = true)
theorem ok_placeCan {f fN fT fH : Addr} {fd fdN fdT fdH : FuncData} (D : Df K mg "place_can_be" s_place_can_be ["frame", "place"] f fd) (DN : Df K mg "is_number" s_is_number ["value", "low", "high"] fN fdN)
    (DT : Df K mg "is_tuple_of" s_is_tuple_of ["value", "many"] fT fdT) (DH : Df K mg "highest_of" s_highest_of ["frame", "part"] fH fdH) (B : Bt mg) : FnOk P w K mg base CX0 2 f fd ["frame", "place"] spPlaceCan := by
  have GN : FnOk P w K mg base CX0 1 fN fdN ["value", "low", "high"] spNum := ok_num DN B
  have GT : FnOk P w K mg base CX0 1 fT fdT ["value", "many"] (spTupOf K) := ok_tupOf DT B
  have GH : FnOk P w K mg base CX0 1 fH fdH ["frame", "part"] spHighest := ok_highest DH
  refine D.F.ok scPlaceCan (fun vs H Q E h => ?_) (fun cdv A outer s H vs Q E hr h => ?_)
  · obtain ⟨a, x, f, pl, rfl, _⟩ := h
    rfl
  · obtain ⟨a, x, f, pl, rfl, hf, tp, plok, q⟩ := h
    obtain ⟨t, rfl, ht⟩ : ∃ t, x = .ref t ∧ H t = some (.tup [.str (kindOf pl), .int pl.n]) := by
      obtain ⟨t, vs, e, ht, all⟩ := tp.tupE
      cases all with
      | cons h1 t1 =>
        cases t1 with
        | cons h2 t2 =>
          cases t2
          cases h1
          cases h2
          exact ⟨t, e, ht⟩
    refine ⟨_, pss_cons (ps_if (PW.pt (pw_or (pt_not (pt_val (pcall DT GT hr (pa_cons (pv 1) (pa_cons pe_int pa_nil))))) (pw_or1 (pt_cmpR op_notIn_seq (pe_ix ix_tup (pv 1) pe_int (fun _ _ => rfl)) (pe_tup (pa_cons pe_str (pa_cons pe_str pa_nil))) (by rfl))))) (pss_one (ps_ret pe_bl)) pss_nil)
      (pss_one (ps_ret (pcall DN GN hr (pa_cons (pe_ix ix_tup (pv 1) pe_int (fun _ _ => rfl)) (pa_cons pe_int (pa_cons (pcall DH GH hr (pa_cons (pv 0) (pa_cons (pe_ix ix_tup (pv 1) pe_int (fun _ _ => rfl)) pa_nil))) pa_nil)))))), ?_⟩
    have hT := SqT.of (K := K) ht
    refine ⟨_, rfl, t, _, 2, rfl, hT, _, rfl, iteF ?_⟩
    refine ⟨_, rfl, t, _, 0, _, rfl, rfl, hT, atI_nat (j := 0) rfl, by show 2 ≤ sizeLine; decide, fun t1 nt1 => ⟨t1, _, rfl, .inr (SqT.of upd_same), rfl, rfl, _, rfl, ?_⟩⟩
    show if (!inV (.str (kindOf pl)) [.str "box", .str "slot"]) = true then _ else _
    rw [in_kinds]
    have x1 : Ext no H (upd H t1 (.tup [.str "box", .str "slot"])) := Ext.new nt1
    generalize upd H t1 (.tup [.str "box", .str "slot"]) = H1 at x1 ⊢
    have hT1 := SqT.of (K := K) (x1.tup _ _ ht)
    refine iteF ⟨_, rfl, t, _, 1, _, rfl, rfl, hT1, atI_nat (j := 1) rfl, _, rfl, _, rfl, t, _, 0, _, rfl, rfl, hT1, atI_nat (j := 0) rfl, a, f, pl.box, rfl, hf.ext x1, pl.n, 0, _, rfl, ?_⟩
    unfold Pl.Ok at plok
    rw [decide_eq_true (show (0 : Int) ≤ pl.n by omega), decide_eq_true (by omega)]
    exact q _ x1
def spGroupCan (T T1 T2 T3 : Addr) : Sp := fun vs H Q _ => ∃ (r a : Addr) (x : V) (row : Row) (f : Fr) (g : Grp), vs = [.ref r, .ref a, x] ∧ H r = some (.tup (rowV row)) ∧ FrAt H a f ∧ Tp H x g.d ∧ Grp.Ok f row g ∧ TabG H T ∧ TabG H T1 ∧ TabG H T2 ∧ TabG H T3 ∧ ∀ H', Ext no H H' → Q (.bl true) H'
abbrev nGroupCan : List Str := ["row", "frame", "group", "ahead", "boxes", "behind", "box"]
theorem scGroupCan : FnScope nGroupCan ["row", "frame", "group"] (defScope s_group_can_be) := ⟨rfl, rfl, rfl, by decide +kernel, rfl, by decide +kernel, by decide +kernel⟩
theorem ok_groupCan {f c T fM cM T1 T2 fO cO T3 fN fT fH wb : Addr} {fd fdM fdO fdN fdT fdH : FuncData} (D : Dc K mg "group_can_be" s_group_can_be ["row", "frame", "group"] f fd c) (TB : TabB base mg c T) (DM : Dc K mg "moves_can_be" s_moves_can_be ["frame", "moves"] fM fdM cM) (DO : Dc K mg "names_of" s_names_of ["row"] fO fdO cO)
    (DN : Df K mg "is_number" s_is_number ["value", "low", "high"] fN fdN) (DT : Df K mg "is_tuple_of" s_is_tuple_of ["value", "many"] fT fdT) (DH : Df K mg "highest_of" s_highest_of ["frame", "part"] fH fdH) (W : Without K mg wb)
    (GM : FnOk P w K mg base CX0 7 fM fdM ["frame", "moves"] (spMovesCan T1 T2)) (GO : FnOk P w K mg base CX0 4 fO fdO ["row"] (spNames T3)) (B : Bt mg) : FnOk P w K mg base CX0 8 f fd ["row", "frame", "group"] (spGroupCan T T1 T2 T3) := by
  have GN : FnOk P w K mg base CX0 1 fN fdN ["value", "low", "high"] spNum := ok_num DN B
  have GT : FnOk P w K mg base CX0 1 fT fdT ["value", "many"] (spTupOf K) := ok_tupOf DT B
  have GH : FnOk P w K mg base CX0 1 fH fdH ["frame", "part"] spHighest := ok_highest DH
  refine D.ok scGroupCan (fun vs H Q E h => ?_) (fun A outer s H vs Q E hr h => ?_)
  · obtain ⟨r, a, x, row, f, g, rfl, _⟩ := h
    rfl
  · obtain ⟨r, a, x, row, f, g, rfl, hrow, hf, tg, gok, tab, tab1, tab2, tab3, q⟩ := h
    have hr1 := hr.mono (show 1 ≤ 7 by decide)
    have hr3 := hr.mono (show 3 ≤ 7 by decide)
    have hr4 := hr.mono (show 4 ≤ 7 by decide)
    refine ⟨_, pss_cons (ps_if (pt_not (pt_val (pcall DT GT hr1 (pa_cons (pv 2) (pa_cons pe_int pa_nil))))) (pss_one (ps_ret pe_bl)) pss_nil)
      (pss_cons (ps_asg (pv 2) (pg_tup rfl (pgs_cons (pg_name (i := 3) scGroupCan.nd rfl (.inl rfl)) (pgs_cons (pg_name (i := 4) scGroupCan.nd rfl (.inl rfl)) (pgs_cons (pg_name (i := 5) scGroupCan.nd rfl (.inl rfl)) pgs_nil)))))
      (pss_cons (ps_if (PW.pt (pw_or (pt_not (pt_val (pcall DM.D GM hr (pa_cons (pv 1) (pa_cons (pv 3) pa_nil))))) (pw_or1 (pt_not (pt_val (pcall DM.D GM hr (pa_cons (pv 1) (pa_cons (pv 5) pa_nil)))))))) (pss_one (ps_ret pe_bl)) pss_nil)
      (pss_cons (ps_if (PW.pt (pw_and (pt_truth (pv 5) (fun _ => rfl)) (pw_and1 (pt_cmpR op_in_seq (pe_ix ix_tup (pv 0) pe_int (fun _ _ => rfl)) (pe_glob (v := .ref wb) (by rfl) W.g rfl) (by rfl))))) (pss_one (ps_ret pe_bl)) pss_nil)
      (pss_cons (ps_if (pt_not (pt_val (pcall DT GT hr1 (pa_cons (pv 4) (pa_cons (pe_callB call_len_seq (by rfl) B.len PySem.boot_len (pa_cons (pcall DO.D GO hr4 (pa_cons (pv 0) pa_nil)) pa_nil)) pa_nil))))) (pss_one (ps_ret pe_bl)) pss_nil)
      (pss_one (ps_ret (pe_allG (P := T) (own := [("box", 6)]) (k := 1) (g := gName 6) (tt := tYes) hr3 (by rfl) B.all TB rfl scGroupCan.nd (pi_tup (pv 4)) (blkOk_by (N := nGroupCan) (sc := defScope s_group_can_be) (by decide +kernel))
        (fun _ _ _ _ _ _ _ _ _ => pg_name (i := 6) scGroupCan.nd rfl (Or.inl rfl)) (fun _ _ _ _ _ _ _ _ _ => pts_nil) (fun _ _ _ _ _ _ _ _ hA => pcall DN GN hA (pa_cons (pv 6) (pa_cons pe_int (pa_cons (pcall DH GH hA (pa_cons (pv 1) (pa_cons pe_str pa_nil))) pa_nil))))))))))), ?_⟩
    obtain ⟨ga, gvs, rfl, hga, gall⟩ := tg.tupE
    obtain ⟨ah, bxs, bh, rfl, tah, tbx, tbh⟩ : ∃ ah bxs bh, gvs = [.ref ah, .ref bxs, .ref bh] ∧ Tp H (.ref ah) (.tuple (g.ahead.map Mv.d)) ∧ Tp H (.ref bxs) (.tuple (nD g.boxes)) ∧ Tp H (.ref bh) (.tuple (g.behind.map Mv.d)) := by
      cases gall with
      | cons h1 t1 =>
        cases t1 with
        | cons h2 t2 =>
          cases t2 with
          | cons h3 t3 =>
            cases t3
            obtain ⟨z1, _, e1, _⟩ := h1.tupE
            obtain ⟨z2, _, e2, _⟩ := h2.tupE
            obtain ⟨z3, _, e3, _⟩ := h3.tupE
            subst e1 e2 e3
            exact ⟨z1, z2, z3, rfl, h1, h2, h3⟩
    refine ⟨_, rfl, ga, _, 3, rfl, SqT.of hga, _, rfl, iteF ?_⟩
    refine ⟨_, rfl, ga, _, rfl, SqT.of hga, rfl, _, _, rfl, _, _, rfl, _, _, rfl, rfl, ?_⟩
    refine ⟨_, rfl, _, rfl, a, ah, f, g.ahead, rfl, hf, tah, gok.am, gok.a6, tab1, tab2, fun H1 x1 => ⟨_, rfl, iteF ?_⟩⟩
    refine ⟨_, rfl, _, rfl, a, bh, f, g.behind, rfl, hf.ext x1, tbh.ext x1, gok.hm, gok.h6, x1.tab _ tab1, x1.tab _ tab2, fun H2 x2 => ⟨_, rfl, iteF ?_⟩⟩
    have x02 := x1.trans x2
    obtain ⟨_, hvs, eh, hbh, hall⟩ := (tbh.ext x02).tupE
    obtain ⟨_, bvs, eb, hbx, ball⟩ := (tbx.ext x02).tupE
    cases eh
    cases eb
    have bvsE := ball.natsE
    subst bvsE
    have known : (!hvs.isEmpty) = false ∨ ((!hvs.isEmpty) = true ∧ inV (.str (wordOf row)) withoutV = false) := by
      by_cases go : rowGoesOn row = true
      · have e : inV (.str (wordOf row)) withoutV = false := by
          show inV (.str (wordOf row)) [.str "go", .str "if", .str "end"] = false
          rw [goesOn, go]
          rfl
        cases hvs with
        | nil => exact .inl rfl
        | cons _ _ => exact .inr ⟨rfl, e⟩
      · rw [Bool.not_eq_true] at go
        have e0 := gok.on go
        have l0 := hall.len
        rw [e0] at l0
        rw [List.eq_nil_of_length_eq_zero l0]
        exact .inl rfl
    refine ⟨_, rfl, !hvs.isEmpty, .inr (.inl ⟨_, SqT.of hbh, rfl⟩), ?_⟩
    rcases known with e | ⟨e, e2⟩
    case' inl =>
      rw [e]
      refine iteF (iteF ?_)
    case' inr =>
      rw [e]
      refine iteT ⟨_, rfl, r, _, 0, _, rfl, rfl, SqT.of (x02.tup _ _ hrow), first_word' row, wb, _, rfl, .inr (W.tup H2), rfl, rfl, _, rfl, ?_⟩
      show if inV (.str (wordOf row)) withoutV = true then _ else _
      rw [e2]
      refine iteF ?_
    all_goals
      refine ⟨_, rfl, _, rfl, r, row, rfl, x02.tup _ _ hrow, x02.tab _ tab3, fun H3 tn htn x3 => ?_⟩
      have x03 := x02.trans x3
      have blen : (nV g.boxes).length = (natsV (namesOf row)).length := by rw [List.length_map, List.length_map, gok.len, same_names]
      refine ⟨tn, _, rfl, .inr (SqT.of htn), bxs, _, _, rfl, SqT.of (x3.tup _ _ hbx), _, rfl, ?_⟩
      rw [decide_eq_true (show ((nV g.boxes).length : Int) = ((natsV (namesOf row)).length : Int) by rw [blen])]
      refine iteF ⟨_, rfl, bxs, rfl, ⟨_, SqT.of (x3.tup _ _ hbx)⟩, x03.tab _ tab, fun H4 t4 => ?_⟩
      have x4 : Ext no H3 H4 := Ext.tbd (x03.tab _ tab) t4
      refine gx_tup (xs := nV g.boxes) (fun i acc H5 => Ext no H4 H5) (Ext.refl _ _) (fun i acc H5 x5 => SqT.of (x5.tup _ _ (x4.tup _ _ (x3.tup _ _ hbx)))) ?_ ?_
      · intro i y acc H5 isY x5
        obtain ⟨n, hn, rfl⟩ := nV_get isY
        have nlt := gok.bm n (List.mem_of_getElem? hn)
        have x05 := (x03.trans x4).trans x5
        refine ⟨rfl, ⟨_, rfl, _, rfl, a, f, true, rfl, hf.ext x05, n, 0, _, rfl, ?_⟩⟩
        rw [decide_eq_true (show (0 : Int) ≤ n by omega), decide_eq_true (show (n : Int) ≤ ((if true = true then f.boxes else f.slots : Nat) : Int) - 1 by rw [if_pos rfl]; omega)]
        exact ⟨⟨true, rfl, fun z => by cases z⟩, fun _ => x5⟩
      · intro acc H5 x5
        exact q _ ((x03.trans x4).trans x5)
end
end Bw
namespace Bw
open PySem PySem.Spec PyProof.Rows L2 GxR Gx RZ
/-! ### the program: choices that can be (given places_can_be) -/
section
variable {base : Heap} {K : PySem.W.Frag} {mg : Str → Option Value} {P : Program} {w : World}
def spPlacesCan (TP : Addr) : Sp := fun vs H Q _ => ∃ (pa a pl : Addr) (p : Prog) (f : Fr) (c : Ch), vs = [.ref pa, .ref a, .ref pl] ∧ ProgAt H pa p ∧ p.Ok ∧ FrAt H a f ∧ Tp H (.ref pl) (.tuple (c.places.map Pl.d)) ∧ Ch.Ok p f c ∧ TabG H TP ∧ ∀ H', Ext no H H' → Q (.bl true) H'
/-- the tables of all defs that a check comes to -/
structure Tabs (H : Hp) (T T1 T2 T3 TP : Addr) : Prop where
  t : TabG H T
  t1 : TabG H T1
  t2 : TabG H T2
  t3 : TabG H T3
  tp : TabG H TP
theorem Tabs.ext {m : Addr → Prop} {H H' : Hp} {T T1 T2 T3 TP : Addr} (h : Tabs H T T1 T2 T3 TP) (x : Ext m H H') : Tabs H' T T1 T2 T3 TP := ⟨x.tab _ h.t, x.tab _ h.t1, x.tab _ h.t2, x.tab _ h.t3, x.tab _ h.tp⟩
def spCheckCh (T T1 T2 T3 TP : Addr) : Sp := fun vs H Q _ => ∃ (pa a ca : Addr) (p : Prog) (f : Fr) (c : Ch), vs = [.ref pa, .ref a, .ref ca] ∧ ProgAt H pa p ∧ p.Ok ∧ FrAt H a f ∧ Tp H (.ref ca) c.d ∧ Ch.Ok p f c ∧ Tabs H T T1 T2 T3 TP ∧ ∀ H', Ext no H H' → Q .non H'
abbrev nCheckCh : List Str := ["program", "frame", "choice", "places", "groups", "rows", "at", "group"]
theorem scCheckCh : FnScope nCheckCh ["program", "frame", "choice"] (defScope s_check_choice) := ⟨rfl, rfl, rfl, by decide +kernel, rfl, by decide +kernel, by decide +kernel⟩
theorem ok_checkCh {f fT fP fG cG T T1 T2 T3 TP : Addr} {fd fdT fdP fdG : FuncData} (D : Df K mg "check_choice" s_check_choice ["program", "frame", "choice"] f fd) (DT : Df K mg "is_tuple_of" s_is_tuple_of ["value", "many"] fT fdT) (DP : Df K mg "places_can_be" s_places_can_be ["program", "frame", "places"] fP fdP)
    (DG : Dc K mg "group_can_be" s_group_can_be ["row", "frame", "group"] fG fdG cG) (GP : FnOk P w K mg base CX0 5 fP fdP ["program", "frame", "places"] (spPlacesCan TP)) (GG : FnOk P w K mg base CX0 8 fG fdG ["row", "frame", "group"] (spGroupCan T T1 T2 T3)) (B : Bt mg) :
    FnOk P w K mg base CX0 9 f fd ["program", "frame", "choice"] (spCheckCh T T1 T2 T3 TP) := by
  have GT : FnOk P w K mg base CX0 1 fT fdT ["value", "many"] (spTupOf K) := ok_tupOf DT B
  refine D.F.ok scCheckCh (fun vs H Q E h => ?_) (fun cdv A outer s H vs Q E hr h => ?_)
  · obtain ⟨pa, a, ca, p, f, c, rfl, _⟩ := h
    rfl
  · obtain ⟨pa, a, ca, p, f, c, rfl, hp, pok, hf, hc, cok, tabs, q⟩ := h
    have hr1 := hr.mono (show 1 ≤ 8 by decide)
    have hr5 := hr.mono (show 5 ≤ 8 by decide)
    refine ⟨_, pss_cons (ps_if (pt_not (pt_val (pcall DT GT hr1 (pa_cons (pv 2) (pa_cons pe_int pa_nil))))) (pss_one ps_never) pss_nil)
      (pss_cons (ps_asg (pv 2) (pg_tup rfl (pgs_cons (pg_name (i := 3) scCheckCh.nd rfl (.inl rfl)) (pgs_cons (pg_name (i := 4) scCheckCh.nd rfl (.inl rfl)) pgs_nil))))
      (pss_cons (ps_if (PW.pt (pw_or (pt_not (pt_val (pcall DP GP hr5 (pa_cons (pv 0) (pa_cons (pv 1) (pa_cons (pv 3) pa_nil)))))) (pw_or1 (pt_not (pt_val (pe_callB call_isi (by rfl) B.isinstance (by decide +kernel) (pa_cons (pv 4) (pa_cons (pe_bltn (v := .ty "tuple") (by rfl) B.tuple (by decide +kernel) rfl) pa_nil)))))))) (pss_one ps_never) pss_nil)
      (pss_cons (ps_set (i := 5) scCheckCh.nd rfl (.inl rfl) (pe_ix ix_tup (pv 0) pe_int (fun _ _ => rfl)))
      (pss_cons (ps_for PassesOwn.never rfl (pi_enumT (by rfl) B.enumerate (pa_cons (pv 4) pa_nil)) (pg_tup rfl (pgs_cons (pg_name (i := 6) scCheckCh.nd rfl (.inl rfl)) (pgs_cons (pg_name (i := 7) scCheckCh.nd rfl (.inl rfl)) pgs_nil)))
        (pss_one (ps_if (PW.pt (pw_or (pt_cmpR op_eq (pv 6) (pe_callB call_len_seq (by rfl) B.len PySem.boot_len (pa_cons (pv 5) pa_nil)) (nomark _)) (pw_or1 (pt_not (pt_val (pcall DG.D GG hr (pa_cons (pe_ix ix_tup (pv 5) (pv 6) (fun _ _ => rfl)) (pa_cons (pv 1) (pa_cons (pv 7) pa_nil))))))))) (pss_one ps_never) pss_nil)))
      (pss_one (ps_if (pt_cmpR op_lt (pe_callB call_len_seq (by rfl) B.len PySem.boot_len (pa_cons (pv 4) pa_nil)) (pe_callB call_len_seq (by rfl) B.len PySem.boot_len (pa_cons (pv 5) pa_nil)) (nomark _)) (pss_one ps_never) pss_nil)))))), ?_⟩
    obtain ⟨ca', cvs, ec, hca, call⟩ := hc.tupE
    obtain rfl : ca = ca' := V.ref.inj ec
    obtain ⟨p0, gt, rfl, tpl, tgr⟩ : ∃ p0 gt, cvs = [.ref p0, .ref gt] ∧ Tp H (.ref p0) (.tuple (c.places.map Pl.d)) ∧ Tp H (.ref gt) (.tuple (c.groups.map Grp.d)) := by
      cases call with
      | cons h1 t1 =>
        cases t1 with
        | cons h2 t2 =>
          cases t2
          obtain ⟨z1, _, e1, _⟩ := h1.tupE
          obtain ⟨z2, _, e2, _⟩ := h2.tupE
          subst e1 e2
          exact ⟨z1, z2, rfl, h1, h2⟩
    obtain ⟨gt', gvs, eg, hgt, gall⟩ := tgr.tupE
    obtain rfl : gt = gt' := V.ref.inj eg
    have gvl : gvs.length = p.rows.length := by rw [gall.len, List.length_map, cok.gl]
    refine ⟨_, rfl, ca, _, 2, rfl, SqT.of hca, _, rfl, iteF ?_⟩
    refine ⟨_, rfl, ca, _, rfl, SqT.of hca, rfl, _, _, rfl, _, _, rfl, rfl, ?_⟩
    refine ⟨_, rfl, _, rfl, _, rfl, pa, a, p0, p, f, c, rfl, hp, pok, hf, tpl, cok, tabs.tp, fun H1 x1 => ⟨_, rfl, iteF ?_⟩⟩
    have hgt1 := x1.tup _ _ hgt
    refine ⟨_, rfl, _, _, _, _, true, rfl, .ty "tuple", tyT (SqT.of hgt1), kit_ty (by decide +kernel), _, rfl, iteF ?_⟩
    obtain ⟨rs, as, hpa, hrs, hrows⟩ := (hp.ext x1).ex
    refine ⟨_, rfl, pa, _, 2, _, rfl, rfl, SqT.of hpa, atI_nat (j := 2) rfl, ?_⟩
    have hrl : (as.map V.ref).length = p.rows.length := by rw [List.length_map, hrows.len]
    refine ⟨_, rfl, gt, _, rfl, SqT.of hgt1, for_enumT (xs := gvs) (fun i σ H2 => (∃ v6 v7, σ = [some (.ref pa), some (.ref a), some (.ref ca), some (.ref p0), some (.ref gt), some (.ref rs), v6, v7]) ∧ Ext no H1 H2) ⟨⟨none, none, rfl⟩, Ext.refl _ _⟩ (fun i σ H2 x2 => SqT.of (x2.2.tup _ _ hgt1)) ?_ ?_⟩
    · rintro i x t σ H2 isX ⟨⟨v6, v7, rfl⟩, x2⟩ nt
      have hi : i < p.rows.length := by rw [← gvl]; exact (List.getElem?_eq_some_iff.mp isX).1
      obtain ⟨r, hr0⟩ : ∃ r, as[i]? = some r := ⟨_, List.getElem?_eq_getElem (show i < as.length by rw [hrows.len]; exact hi)⟩
      have erow : p.rows[i]? = some p.rows[i] := List.getElem?_eq_getElem hi
      obtain ⟨g, eg⟩ : ∃ g, c.groups[i]? = some g := ⟨_, List.getElem?_eq_getElem (show i < c.groups.length by rw [cok.gl]; exact hi)⟩
      obtain ⟨x', ex, tx⟩ := gall.get (i := i) (d := g.d) (by rw [List.getElem?_map, eg]; rfl)
      obtain rfl : x = x' := Option.some.inj (isX.symm.trans ex)
      have x3 : Ext no H2 (upd H2 t (.tup [.int i, x])) := Ext.new nt
      have x13 := x2.trans x3
      have x03 := x1.trans x13
      have tabs3 := tabs.ext x03
      refine ⟨t, _, rfl, SqT.of upd_same, rfl, _, _, rfl, _, _, rfl, rfl, ?_⟩
      refine ⟨_, rfl, _, rfl, rs, _, rfl, .inr (SqT.of (x13.tup _ _ hrs)), rfl, ⟨_, rfl, ifF (decide_eq_false fun z => by have := V.int.inj z; omega) ?_⟩⟩
      refine ⟨_, rfl, _, rfl, rs, _, i, _, rfl, rfl, SqT.of (x13.tup _ _ hrs), atI_nat (by rw [List.getElem?_map, hr0]; rfl), _, rfl, _, rfl, r, a, x, p.rows[i], f, g, rfl, x13.tup _ _ (hrows.at_ i r _ hr0 erow), hf.ext x03, tx.ext x03, cok.gm i g _ eg erow, tabs3.t, tabs3.t1, tabs3.t2, tabs3.t3, fun H4 x4 => ⟨_, rfl, iteF ⟨⟨_, _, rfl⟩, x13.trans x4⟩⟩⟩
    · rintro σ H2 ⟨⟨v6, v7, rfl⟩, x2⟩
      refine ⟨_, rfl, gt, _, rfl, .inr (SqT.of (x2.tup _ _ hgt1)), _, rfl, rs, _, rfl, .inr (SqT.of (x2.tup _ _ hrs)), _, _, rfl, rfl, ⟨_, rfl, ifF (decide_eq_false (by omega)) ?_⟩⟩
      exact q _ (x1.trans x2)
end
end Bw
namespace Bw
open PySem PySem.Spec PyProof.Rows L2 GxR Gx RZ
section
variable {base : Heap} {K : PySem.W.Frag} {mg : Str → Option Value} {P : Program} {w : World}
def spCheckAll (TR T T1 T2 T3 TP : Addr) : Sp := fun vs H Q _ => ∃ (pa a ca : Addr) (p : Prog) (f : Fr) (c : Ch), vs = [.ref pa, .ref a, .ref ca] ∧ ProgAt H pa p ∧ p.Ok ∧ FrAt H a f ∧ f.Ok ∧ Tp H (.ref ca) c.d ∧ Ch.Ok p f c ∧ TabG H TR ∧ Tabs H T T1 T2 T3 TP ∧ ∀ H', Ext no H H' → Q .non H'
theorem scCheckAll : FnScope ["program", "frame", "choice"] ["program", "frame", "choice"] (defScope s_check_all) := ⟨rfl, rfl, rfl, by decide +kernel, rfl, by decide +kernel, by decide +kernel⟩
def spCheckFr : Sp := fun vs H Q _ => ∃ (a : Addr) (f : Fr), vs = [.ref a] ∧ FrAt H a f ∧ f.Ok ∧ Q .non H
theorem scCheckFr : FnScope ["frame"] ["frame"] (defScope s_check_frame) := ⟨rfl, rfl, rfl, by decide +kernel, rfl, by decide +kernel, by decide +kernel⟩
theorem ok_checkFr {f fF : Addr} {fd fdF : FuncData} (D : Df K mg "check_frame" s_check_frame ["frame"] f fd) (DF : Df K mg "frame_can_be" s_frame_can_be ["frame"] fF fdF) (GF : FnOk P w K mg base CX0 3 fF fdF ["frame"] spFrameCan) : FnOk P w K mg base CX0 4 f fd ["frame"] spCheckFr := by
  refine D.F.ok scCheckFr (fun vs H Q E h => ?_) (fun cdv A outer s H vs Q E hr h => ?_)
  · obtain ⟨a, f, rfl, _⟩ := h
    rfl
  · obtain ⟨a, f, rfl, hf, ok, q⟩ := h
    refine ⟨_, pss_one (ps_if (pt_not (pt_val (pcall DF GF hr (pa_cons (pv 0) pa_nil)))) (pss_one ps_never) pss_nil), ?_⟩
    exact ⟨_, rfl, a, f, rfl, hf, ok, _, rfl, iteF q⟩
theorem ok_checkAll {f fC fF fH TR T T1 T2 T3 TP : Addr} {fd fdC fdF fdH : FuncData} (D : Df K mg "check_all" s_check_all ["program", "frame", "choice"] f fd) (DC : Df K mg "check_program" s_check_program ["program"] fC fdC) (DF : Df K mg "check_frame" s_check_frame ["frame"] fF fdF)
    (DH : Df K mg "check_choice" s_check_choice ["program", "frame", "choice"] fH fdH) (GC : FnOk P w K mg base CX0 5 fC fdC ["program"] (spCheck TR)) (GF : FnOk P w K mg base CX0 4 fF fdF ["frame"] spCheckFr) (GH : FnOk P w K mg base CX0 9 fH fdH ["program", "frame", "choice"] (spCheckCh T T1 T2 T3 TP)) :
    FnOk P w K mg base CX0 10 f fd ["program", "frame", "choice"] (spCheckAll TR T T1 T2 T3 TP) := by
  refine D.F.ok scCheckAll (fun vs H Q E h => ?_) (fun cdv A outer s H vs Q E hr h => ?_)
  · obtain ⟨pa, a, ca, p, f, c, rfl, _⟩ := h
    rfl
  · obtain ⟨pa, a, ca, p, f, c, rfl, hp, pok, hf, ok, hc, cok, tabR, tabs, q⟩ := h
    refine ⟨_, pss_cons (ps_expr (pcall DC GC (hr.mono (show 5 ≤ 9 by decide)) (pa_cons (pv 0) pa_nil)))
      (pss_cons (ps_expr (pcall DF GF (hr.mono (show 4 ≤ 9 by decide)) (pa_cons (pv 1) pa_nil)))
      (pss_one (ps_expr (pcall DH GH hr (pa_cons (pv 0) (pa_cons (pv 1) (pa_cons (pv 2) pa_nil))))))), ?_⟩
    refine ⟨_, rfl, pa, p, rfl, hp, pok, tabR, fun H1 x1 => ?_⟩
    refine ⟨_, rfl, a, f, rfl, hf.ext x1, ok, ?_⟩
    exact ⟨_, rfl, _, rfl, _, rfl, pa, a, ca, p, f, c, rfl, hp.ext x1, pok, hf.ext x1, hc.ext x1, cok, tabs.ext x1, fun H2 x2 => q _ (x1.trans x2)⟩
end
end Bw
namespace Bw
open PySem PySem.Spec PyProof.Rows L2 GxR Gx RZ
/-! ### the program: where the params' places stand -/
theorem tp2E {H : Hp} {x : V} {pl : Pl} (h : Tp H x pl.d) : ∃ t, x = .ref t ∧ H t = some (.tup [.str (kindOf pl), .int pl.n]) := by
  obtain ⟨t, vs, e, ht, all⟩ := h.tupE
  cases all with
  | cons h1 t1 =>
    cases t1 with
    | cons h2 t2 =>
      cases t2
      cases h1
      cases h2
      exact ⟨t, e, ht⟩
section
variable {base : Heap} {K : PySem.W.Frag} {mg : Str → Option Value} {P : Program} {w : World}
def spPlCells : Sp := fun vs H Q _ => ∃ (a pl : Addr) (f : Fr) (ps : List Pl), vs = [.ref a, .ref pl] ∧ FrAt H a f ∧ Tp H (.ref pl) (.tuple (ps.map Pl.d)) ∧ ps.length ≤ 8 ∧ ∀ H' r, H r = none → H' r = some (.lst (nV (ps.map (Pl.cell f)))) → Ext no H H' → Q (.ref r) H'
abbrev nPlCells : List Str := ["frame", "places", "part", "number"]
theorem scPlCells : FnScope nPlCells ["frame", "places"] (defScope s_place_cells) := ⟨rfl, rfl, rfl, by decide +kernel, rfl, by decide +kernel, by decide +kernel⟩
theorem ok_plCells {f fC : Addr} {fd fdC : FuncData} (D : Df K mg "place_cells" s_place_cells ["frame", "places"] f fd) (DC : Df K mg "cell_of" s_cell_of ["frame", "part", "number"] fC fdC) : FnOk P w K mg base CX0 2 f fd ["frame", "places"] spPlCells := by
  have GC : FnOk P w K mg base CX0 1 fC fdC ["frame", "part", "number"] spCell := ok_cell DC
  refine D.F.ok scPlCells (fun vs H Q E h => ?_) (fun cdv A outer s H vs Q E hr h => ?_)
  · obtain ⟨a, pl, f, ps, rfl, _⟩ := h
    rfl
  · obtain ⟨a, pl, f, ps, rfl, hf, tps, few, q⟩ := h
    obtain ⟨pl', pvs, ep, hpl, pall⟩ := tps.tupE
    obtain rfl : pl = pl' := V.ref.inj ep
    have plen : pvs.length = ps.length := by rw [pall.len, List.length_map]
    refine ⟨_, pss_one (ps_ret (pe_lc (own := [("part", 2), ("number", 3)]) (g := gTup K 2 (gCons (gName 2) (gCons (gName 3) gNil))) (tt := tYes) rfl scPlCells.nd (pi_tup (pv 1)) (blkOk_by (N := nPlCells) (sc := defScope s_place_cells) (by decide +kernel))
      (fun _ _ _ _ _ => pg_tup rfl (pgs_cons (pg_name (i := 2) scPlCells.nd rfl (Or.inl rfl)) (pgs_cons (pg_name (i := 3) scPlCells.nd rfl (Or.inl rfl)) pgs_nil))) (fun _ _ _ _ _ => pts_nil) (fun _ _ _ _ _ => pcall DC GC hr (pa_cons (pv 0) (pa_cons (pv 2) (pa_cons (pv 3) pa_nil)))))), ?_⟩
    refine ⟨_, rfl, pl, rfl, ⟨_, SqT.of hpl⟩, fun D nD => ?_⟩
    refine lc_tup (K := K) (a := pl) (xs := pvs) (fun j H2 => H2 D = some (.lst (nV ((ps.take j).map (Pl.cell f)))) ∧ Ext no H H2) ⟨upd_same, Ext.new nD⟩ (fun j H2 _ z => SqT.of (z.2.tup _ _ hpl)) ?_ ?_
    · rintro j x H2 hx ⟨hD, x2⟩
      have jlt : j < ps.length := by rw [← plen]; exact (List.getElem?_eq_some_iff.mp hx).1
      have ej : ps[j]? = some ps[j] := List.getElem?_eq_getElem jlt
      generalize ps[j] = p at ej
      obtain ⟨x', ex, tx⟩ := pall.get (i := j) (d := p.d) (by rw [List.getElem?_map, ej]; rfl)
      obtain rfl : x = x' := Option.some.inj (hx.symm.trans ex)
      obtain ⟨t, rfl, ht⟩ := tp2E (tx.ext x2)
      refine ⟨t, _, rfl, SqT.of ht, rfl, _, _, rfl, _, _, rfl, rfl, rfl, ?_⟩
      refine ⟨_, rfl, _, rfl, _, rfl, a, f, p, rfl, hf.ext x2, _, hD, ?_, ?_, x2.own nD⟩
      · rw [nV_len, List.length_map, List.length_take]
        exact small_lt (k := 8) (by omega) (by decide)
      · rw [upd_same, nV_snoc, List.take_add_one, ej, List.map_append]
        rfl
    · rintro H2 ⟨hD, x2⟩
      rw [plen, List.take_length] at hD
      exact q _ D nD hD x2
end
end Bw
namespace Bw
open PySem PySem.Spec PyProof.Rows L2 GxR Gx RZ
theorem items_of {P : Program} {w : World} : ∀ {ks : List Key} {us : List Value}, Vals (ks.map kV) us → ItemsAre (mixKind P w) ks us
  | [], _, .nil => .nil
  | _ :: _, _, .cons r t => .cons (kV_is r) (items_of t)
theorem refs_are : ∀ {ks : List Sx.En} {us : List Value}, Vals (ks.map fun e => V.ref e.1) us → us = ks.map fun e => Value.ref e.1
  | [], _, .nil => rfl
  | _ :: _, _, .cons r t => by
    cases r
    rw [refs_are t]
    rfl
def tLenSetP (K : PySem.W.Frag) (ta : TE) : TE := fun σ H Q => ta σ H fun x H1 => ∃ (l : Addr) (ks : List Sx.En), x = .ref l ∧ SqT K H1 l (ks.map fun e => V.ref e.1) ∧ (∀ e ∈ ks, SqT K H1 e.1 (e.2.map kV)) ∧ ks.length ≤ 12 ∧ ∀ n : Nat, (n = ks.length ↔ (ks.map Prod.snd).Nodup) → Q (.int n) H1
/-- len(set(a)), a tuple of a few tuples of numbers and texts -/
theorem pe_lenSetP {X : Cx} {a : Expr} {ta : TE} {p p2 q pos : Pos} (hu : X.A.units + 64 < cLine) (hm : X.mg "len" = none) (hm2 : X.mg "set" = none) (ha : PE X a ta) (hg : Gl X "len" := by rfl) (hg2 : Gl X "set" := by rfl) (calm : X.calm = true := by rfl)
    (na : starEach [a] X.env = (false, eval a X.env) :: starEach [] X.env := by rfl) : PE X (.Call (.Name "len" p) [.Call (.Name "set" p2) [a] [] q] [] pos) (tLenSetP X.K ta) := by
  constructor
  intro pins s σ H Q I h
  refine Call_ (ld_blt I hg hm boot_len (PyProof.Rows.callWith_builtin1 (PyProof.Rows.args_cons (Call_ (ld_blt I hg2 hm2 boot_set (PyProof.Rows.callWith_type1 (PyProof.Rows.args_cons (thn (ha.run pins s σ H _ I h) fun v s1 ⟨x, H1, I1, r1, l, ks, ex, isT, each, few, qn⟩ => PyProof.Rows.args_nil ?_) na) na rfl))) rfl) rfl rfl))
  subst ex
  cases r1
  obtain ⟨its, rv, tup, _⟩ := I1.tuple isT
  refine Sx.set_of (ks := ks) (I1.ok.hd calm) tup (by simpa using refs_are rv) (fun e he => ?_) few (by omega) fun g' tk L es ep t T has kp => PyProof.Rows.args_nil ?_
  · obtain ⟨its2, rv2, ⟨ob, at_, cl, cap, dat⟩, _⟩ := I1.tuple (each e he)
    exact ⟨ob, _, cap, at_, cl, dat, by simpa using items_of rv2⟩
  · obtain ⟨ob, isOb, ex, dat⟩ := T.obj
    have I2 : Inv X pins σ H1 { s1 with heap := g', toks := tk } := I1.kept kp
    have sz : es.size = L.length := Sx.ents_size T.ents
    have few2 := T.few
    refine call_len_set isOb ex dat T.fits (by rw [sz]; omega) ⟨.int (es.size : Nat), H1, I2.tok _, ⟨_, rfl⟩, qn es.size ?_⟩
    have sm := Sx.same_many T.diff (D := ks.map Prod.snd) fun k => by rw [has.keys k, List.take_length]
    rw [List.length_map, List.length_map] at sm
    rw [sz]
    exact sm
def Pl.key (p : Pl) : List Key := [.inr (kindOf p), .inl p.n]
theorem Pl.key_inj {p q : Pl} (h : p.key = q.key) : p = q := by
  obtain ⟨pb, pn⟩ := p
  obtain ⟨qb, qn⟩ := q
  unfold Pl.key at h
  injection h with h1 h2
  injection h2 with h2 _
  have e1 : kindOf ⟨pb, pn⟩ = kindOf ⟨qb, qn⟩ := Sum.inr.inj h1
  have e2 : (pn : Int) = (qn : Int) := Sum.inl.inj h2
  have e3 : pb = qb := by
    have ne : ("box" : Str) ≠ "slot" := by decide +kernel
    cases pb <;> cases qb <;> first | rfl | exact absurd e1 ne | exact absurd e1.symm ne
  rw [e3, show pn = qn by omega]
theorem keys_nodup {ps : List Pl} : (ps.map Pl.key).Nodup ↔ ps.Nodup := by
  refine ⟨fun h => List.Pairwise.of_map Pl.key (fun _ _ ne e => ne (congrArg Pl.key e)) h, fun h => ?_⟩
  unfold List.Nodup
  rw [List.pairwise_map]
  exact h.imp fun ne e => ne (Pl.key_inj e)
theorem tp2K {H : Hp} {x : V} {p : Pl} (h : Tp H x p.d) : ∃ t, x = .ref t ∧ H t = some (.tup (p.key.map kV)) := by
  obtain ⟨t, vs, e, ht, all⟩ := h.tupE
  cases all with
  | cons h1 t1 =>
    cases t1 with
    | cons h2 t2 =>
      cases t2
      cases h1
      cases h2
      exact ⟨t, e, ht⟩
theorem places_at {H : Hp} : ∀ {ps : List Pl} {vs : List V}, TpAll H vs (ps.map Pl.d) → ∃ as : List Addr, as.length = ps.length ∧ vs = as.map V.ref ∧ ∀ (i : Nat) (a : Addr) (p : Pl), as[i]? = some a → ps[i]? = some p → H a = some (.tup (p.key.map kV))
  | [], _, .nil => ⟨[], rfl, rfl, fun i a p h => by simp at h⟩
  | p :: ps, _, .cons h t => by
    obtain ⟨as, l, e, all⟩ := places_at t
    obtain ⟨a, rfl, ha⟩ := tp2K h
    refine ⟨a :: as, congrArg Nat.succ l, by rw [e]; rfl, fun i b q h1 h2 => ?_⟩
    cases i with
    | zero =>
      cases h1
      cases h2
      exact ha
    | succ i => exact all i b q h1 h2
section
variable {base : Heap} {K : PySem.W.Frag} {mg : Str → Option Value} {P : Program} {w : World}
abbrev nPlacesCan : List Str := ["program", "frame", "places", "place"]
theorem scPlacesCan : FnScope nPlacesCan ["program", "frame", "places"] (defScope s_places_can_be) := ⟨rfl, rfl, rfl, by decide +kernel, rfl, by decide +kernel, by decide +kernel⟩
theorem ok_placesCan {f c T fT fP fN fH : Addr} {fd fdT fdP fdN fdH : FuncData} (D : Dc K mg "places_can_be" s_places_can_be ["program", "frame", "places"] f fd c) (TB : TabB base mg c T) (DT : Df K mg "is_tuple_of" s_is_tuple_of ["value", "many"] fT fdT) (DP : Df K mg "place_can_be" s_place_can_be ["frame", "place"] fP fdP)
    (DN : Df K mg "is_number" s_is_number ["value", "low", "high"] fN fdN) (DH : Df K mg "highest_of" s_highest_of ["frame", "part"] fH fdH) (B : Bt mg) (nS : mg "set" = none) : FnOk P w K mg base CX0 5 f fd ["program", "frame", "places"] (spPlacesCan T) := by
  have GT : FnOk P w K mg base CX0 1 fT fdT ["value", "many"] (spTupOf K) := ok_tupOf DT B
  have GP : FnOk P w K mg base CX0 2 fP fdP ["frame", "place"] spPlaceCan := ok_placeCan DP DN DT DH B
  refine D.ok scPlacesCan (fun vs H Q E h => ?_) (fun A outer s H vs Q E hr h => ?_)
  · obtain ⟨pa, a, pl, p, f, ch, rfl, _⟩ := h
    rfl
  · obtain ⟨pa, a, pl, p, f, ch, rfl, hp, pok, hf, tps, cok, tab, q⟩ := h
    obtain ⟨pl', pvs, ep, hpl, pall⟩ := tps.tupE
    obtain rfl : pl = pl' := V.ref.inj ep
    have plen : pvs.length = ch.places.length := by rw [pall.len, List.length_map]
    have hT := SqT.of (K := K) hpl
    have hr1 := hr.mono (show 1 ≤ 4 by decide)
    refine ⟨_, pss_cons (ps_if (pt_not (pt_val (pcall DT GT hr1 (pa_cons (pv 2) (pa_cons (pe_ix ix_tup (pv 0) pe_int (fun _ _ => rfl)) pa_nil))))) (pss_one (ps_ret pe_bl)) pss_nil)
      (pss_cons (ps_if (pt_not (pt_val (pe_allG (P := T) (own := [("place", 3)]) (k := 2) (g := gName 3) (tt := tYes) hr (by rfl) B.all TB rfl scPlacesCan.nd (pi_tup (pv 2)) (blkOk_by (N := nPlacesCan) (sc := defScope s_places_can_be) (by decide +kernel))
        (fun _ _ _ _ _ _ _ _ _ => pg_name (i := 3) scPlacesCan.nd rfl (Or.inl rfl)) (fun _ _ _ _ _ _ _ _ _ => pts_nil) (fun _ _ _ _ _ _ _ _ hA => pcall DP GP hA (pa_cons (pv 1) (pa_cons (pv 3) pa_nil)))))) (pss_one (ps_ret pe_bl)) pss_nil)
      (pss_one (ps_ret (pe_cmpR op_eq (pe_lenSetP hr.units B.len nS (pv 2)) (pe_callB call_len_seq (by rfl) B.len PySem.boot_len (pa_cons (pv 2) pa_nil)) (nomark _))))), ?_⟩
    obtain ⟨rs, as0, hpa, _, _⟩ := hp.ex
    refine ⟨_, rfl, _, rfl, pa, _, 0, _, rfl, rfl, SqT.of hpa, atI_nat (j := 0) rfl, ?_⟩
    refine ⟨pl, pvs, p.params, rfl, hT, _, rfl, ?_⟩
    rw [decide_eq_true (show ((pvs.length : Nat) : Int) = p.params by rw [plen, cok.pl])]
    refine iteF ⟨_, rfl, pl, rfl, ⟨_, hT⟩, tab, fun H1 t1 => ?_⟩
    have e1 : Ext no H H1 := Ext.tbd tab t1
    refine gx_tup (xs := pvs) (fun i acc H2 => Ext no H1 H2) (Ext.refl _ _) (fun i acc H2 x2 => SqT.of (x2.tup _ _ (e1.tup _ _ hpl))) ?_ ?_
    · intro i x acc H2 isX x2
      have ilt : i < ch.places.length := by rw [← plen]; exact (List.getElem?_eq_some_iff.mp isX).1
      have eim : ch.places[i]? = some ch.places[i] := List.getElem?_eq_getElem ilt
      have mk := cok.pm _ (List.getElem_mem ilt)
      generalize ch.places[i] = m at eim mk
      obtain ⟨x', ex, tx⟩ := pall.get (i := i) (d := m.d) (by rw [List.getElem?_map, eim]; rfl)
      obtain rfl : x = x' := Option.some.inj (isX.symm.trans ex)
      have e2 := e1.trans x2
      refine ⟨rfl, ⟨_, rfl, _, rfl, a, x, f, m, rfl, hf.ext e2, tx.ext e2, mk, fun H3 x3 => ?_⟩⟩
      exact ⟨⟨true, rfl, fun z => by cases z⟩, fun _ => x2.trans x3⟩
    · intro acc H2 x2
      have e2 := e1.trans x2
      refine ⟨true, rfl, iteF ?_⟩
      obtain ⟨as, al, ev, at_⟩ := places_at (pall.ext e2)
      have hpl2 := e2.tup _ _ hpl
      have pk : ((as.zip (ch.places.map Pl.key)).map fun e => V.ref e.1) = pvs := by
        rw [ev, show (fun e : Sx.En => V.ref e.1) = V.ref ∘ Prod.fst from rfl, ← List.map_map, List.map_fst_zip (by rw [al, List.length_map]; exact Nat.le_refl _)]
      have kk : (as.zip (ch.places.map Pl.key)).map Prod.snd = ch.places.map Pl.key := List.map_snd_zip (by rw [al, List.length_map]; exact Nat.le_refl _)
      have ll : (as.zip (ch.places.map Pl.key)).length = ch.places.length := by rw [List.length_zip, al, List.length_map, Nat.min_self]
      have p8 : ch.places.length ≤ 8 := by rw [cok.pl]; exact Nat.le_trans pok.pn pok.n1
      refine ⟨_, rfl, pl, as.zip (ch.places.map Pl.key), rfl, by rw [pk]; exact SqT.of hpl2, fun e he => ?_, by omega, fun n hn => ?_⟩
      · obtain ⟨i, hi⟩ := List.mem_iff_getElem?.mp he
        rw [List.getElem?_zip_eq_some] at hi
        obtain ⟨h1, h2⟩ := hi
        rw [List.getElem?_map] at h2
        cases e3 : ch.places[i]? with
        | none => rw [e3] at h2; cases h2
        | some pp =>
          rw [e3] at h2
          have h3 := at_ i e.1 pp h1 e3
          rw [← Option.some.inj h2]
          exact SqT.of h3
      · rw [kk, ll, keys_nodup] at hn
        refine ⟨_, rfl, pl, _, rfl, .inr (SqT.of hpl2), rfl, ?_⟩
        rw [decide_eq_true (show V.int (n : Nat) = V.int ((pvs.length : Nat) : Int) by rw [plen, hn.mpr cok.own])]
        exact q _ e2
end
end Bw
namespace Bw
open PySem PySem.Spec PyProof.Rows L2 GxR
/-! ### marks: the law's texts and the program's numbers, in pairs -/
def mkS (c : Str) (k : Nat) : Str := c ++ Str.ofString (toString (k : Int))
theorem mkS_cps (c : Str) (k : Nat) : (mkS c k).cps.toList = c.cps.toList ++ (Nat.toDigits 10 k).map Char.toNat := by
  have e : (Str.ofString (toString (k : Int))).cps.toList = (Nat.toDigits 10 k).map Char.toNat := PySem.W.KIN.signs_num k
  show (c.cps ++ (Str.ofString (toString (k : Int))).cps).toList = _
  rw [Array.toList_append, e]
theorem digits_apart {j k : Nat} (h : (Nat.toDigits 10 j).map Char.toNat = (Nat.toDigits 10 k).map Char.toNat) : j = k := by
  have a := PySem.W.KIN.val_back j
  rw [h, PySem.W.KIN.val_back k] at a
  exact a.symm
theorem mkS_num {c : Str} {j k : Nat} (h : mkS c j = mkS c k) : j = k := by
  have e : (mkS c j).cps.toList = (mkS c k).cps.toList := by rw [h]
  rw [mkS_cps, mkS_cps] at e
  exact digits_apart (List.append_cancel_left e)
theorem mkS_head {c d : Str} {j k x y : Nat} (hc : c.cps.toList = [x]) (hd : d.cps.toList = [y]) (h : mkS c j = mkS d k) : x = y := by
  have e : (mkS c j).cps.toList = (mkS d k).cps.toList := by rw [h]
  rw [mkS_cps, mkS_cps, hc, hd] at e
  exact (List.cons.inj e).1
/-- a mark: the program's number, the law's text -/
abbrev Mark := Int × Str
def newM (p : Int) (m : Nat) : Mark := (p, mkS "m" m)
/-- of any two the first parts are equal just where the second are -/
def Bij (S : List Mark) : Prop := ∀ x ∈ S, ∀ y ∈ S, (x.1 = y.1 ↔ x.2 = y.2)
/-- the texts that were given out -/
def Old (m : Nat) (s : Str) : Prop := (∃ k, s = mkS "n" k) ∨ (∃ k, s = mkS "h" k) ∨ ∃ k, k ≤ m ∧ s = mkS "m" k
def Below (S : List Mark) (p : Int) (m : Nat) : Prop := ∀ x ∈ S, x.1 ≤ p ∧ Old m x.2
theorem Old.mono {m n : Nat} {s : Str} (h : Old m s) (le : m ≤ n) : Old n s := by
  rcases h with z | z | ⟨k, kl, e⟩
  · exact .inl z
  · exact .inr (.inl z)
  · exact .inr (.inr ⟨k, by omega, e⟩)
theorem Old.not_new {m k : Nat} {s : Str} (h : Old m s) (lt : m < k) : s ≠ mkS "m" k := fun z => by
  rcases h with ⟨j, e⟩ | ⟨j, e⟩ | ⟨j, jl, e⟩
  · rw [e] at z
    exact absurd (mkS_head (x := 110) (y := 109) (by decide +kernel) (by decide +kernel) z) (by decide)
  · rw [e] at z
    exact absurd (mkS_head (x := 104) (y := 109) (by decide +kernel) (by decide +kernel) z) (by decide)
  · rw [e] at z
    have := mkS_num z
    omega
/-- the marks that a row gives out: e eaten boxes, the name's, and the box's own where not all is the same -/
def NewP (p : Int) (m e : Nat) (own : Bool) (x : Mark) : Prop := (∃ i, i < e ∧ x = newM (p + 1 + i) (m + 2 + i)) ∨ x = newM (p + e + 1) (m + 1) ∨ (own = true ∧ x = newM (p + e + 2) (m + 2 + e))
theorem newM_iff {a b : Int} {j k : Nat} (h : a = b ↔ j = k) : ((newM a j).1 = (newM b k).1 ↔ (newM a j).2 = (newM b k).2) := by
  constructor
  · intro z
    have e : j = k := h.mp z
    rw [e]
    rfl
  · intro z
    exact h.mpr (mkS_num z)
theorem newM_old {p a : Int} {m k : Nat} {x : Mark} (hx : x.1 ≤ p ∧ Old m x.2) (ha : p < a) (hk : m < k) : (x.1 = (newM a k).1 ↔ x.2 = (newM a k).2) := by
  constructor
  · intro z
    have : x.1 = a := z
    omega
  · intro z
    exact absurd z (hx.2.not_new hk)
theorem NewP.over {p : Int} {m e : Nat} {own : Bool} {x : Mark} (h : NewP p m e own x) : ∃ a k, x = newM a k ∧ p < a ∧ m < k ∧ a ≤ p + e + 1 + (if own = true then 1 else 0) ∧ k ≤ m + 1 + e + (if own = true then 1 else 0) := by
  rcases h with ⟨i, il, e'⟩ | e' | ⟨o, e'⟩
  · exact ⟨_, _, e', by omega, by omega, by split <;> omega, by split <;> omega⟩
  · exact ⟨_, _, e', by omega, by omega, by split <;> omega, by split <;> omega⟩
  · exact ⟨_, _, e', by omega, by omega, by rw [if_pos o]; omega, by rw [if_pos o]; omega⟩
theorem NewP.pair {p : Int} {m e : Nat} {own : Bool} {x y : Mark} (hx : NewP p m e own x) (hy : NewP p m e own y) : (x.1 = y.1 ↔ x.2 = y.2) := by
  rcases hx with ⟨i, il, ex⟩ | ex | ⟨_, ex⟩ <;> rcases hy with ⟨j, jl, ey⟩ | ey | ⟨_, ey⟩ <;> rw [ex, ey] <;> exact newM_iff (by omega)
theorem bij_new {S S' : List Mark} {p : Int} {m e : Nat} {own : Bool} (b : Bij S) (o : Below S p m) (h : ∀ x ∈ S', x ∈ S ∨ NewP p m e own x) : Bij S' ∧ Below S' (p + e + 1 + (if own = true then 1 else 0)) (m + 1 + e + (if own = true then 1 else 0)) := by
  constructor
  · intro x hx y hy
    rcases h x hx with ox | nx
    · rcases h y hy with oy | ny
      · exact b x ox y oy
      · obtain ⟨a, k, ey, pa, mk', _, _⟩ := ny.over
        rw [ey]
        exact newM_old (o x ox) pa mk'
    · rcases h y hy with oy | ny
      · obtain ⟨a, k, ex, pa, mk', _, _⟩ := nx.over
        rw [ex]
        have z := newM_old (o y oy) pa mk'
        exact ⟨fun w => (z.mp w.symm).symm, fun w => (z.mpr w.symm).symm⟩
      · exact nx.pair ny
  · intro x hx
    rcases h x hx with ox | nx
    · have := o x ox
      exact ⟨by split <;> omega, this.2.mono (by split <;> omega)⟩
    · obtain ⟨a, k, ex, _, _, pa, mk'⟩ := nx.over
      rw [ex]
      exact ⟨pa, .inr (.inr ⟨k, mk', rfl⟩)⟩
theorem bij_sub {S S' : List Mark} {p : Int} {m : Nat} (b : Bij S) (o : Below S p m) (h : ∀ x ∈ S', x ∈ S) : Bij S' ∧ Below S' p m :=
  ⟨fun x hx y hy => b x (h x hx) y (h y hy), fun x hx => o x (h x hx)⟩
/-! ### moves, of whatever lies in the cells -/
section
variable {α β : Type}
def atG (d : α) (c : List α) (n : Nat) : α := (c[n]?).getD d
def mvG (d : α) (f : Fr) : Mv → List α → List α
  | .copy a b, c => c.set a (atG d c b)
  | .swap a b, c => (c.set a (atG d c b)).set b (atG d c a)
  | .store s b, c => c.set (f.boxes + s) (atG d c b)
  | .load b s, c => c.set b (atG d c (f.boxes + s))
def mvsG (d : α) (f : Fr) (ms : List Mv) (c : List α) : List α := ms.foldl (fun c m => mvG d f m c) c
theorem mvG_len (d : α) (f : Fr) (m : Mv) (c : List α) : (mvG d f m c).length = c.length := by cases m <;> simp [mvG]
theorem mvsG_len (d : α) (f : Fr) : ∀ (ms : List Mv) (c : List α), (mvsG d f ms c).length = c.length
  | [], _ => rfl
  | m :: ms, c => (mvsG_len d f ms (mvG d f m c)).trans (mvG_len d f m c)
theorem mvsG_snoc (d : α) (f : Fr) (ms : List Mv) (m : Mv) (c : List α) : mvsG d f (ms ++ [m]) c = mvG d f m (mvsG d f ms c) := by
  unfold mvsG
  rw [List.foldl_append]
  rfl
theorem atG_map (g : α → β) (d : α) (c : List α) (n : Nat) : atG (g d) (c.map g) n = g (atG d c n) := by
  unfold atG
  rw [List.getElem?_map]
  cases c[n]? <;> rfl
theorem mvG_map (g : α → β) (d : α) (f : Fr) (m : Mv) (c : List α) : mvG (g d) f m (c.map g) = (mvG d f m c).map g := by
  cases m <;> simp [mvG, atG_map, List.map_set]
theorem mvsG_map (g : α → β) (d : α) (f : Fr) : ∀ (ms : List Mv) (c : List α), mvsG (g d) f ms (c.map g) = (mvsG d f ms c).map g
  | [], _ => rfl
  | m :: ms, c => by
    show mvsG (g d) f ms (mvG (g d) f m (c.map g)) = _
    rw [mvG_map, mvsG_map g d f ms]
    rfl
theorem atG_mem {d : α} {c : List α} {n : Nat} (h : n < c.length) : atG d c n ∈ c := by
  unfold atG
  rw [List.getElem?_eq_getElem h]
  exact List.getElem_mem h
theorem mvG_mem {d : α} {f : Fr} {m : Mv} {c : List α} (ok : m.Ok f) (len : c.length = f.boxes + f.slots) : ∀ x ∈ mvG d f m c, x ∈ c := by
  intro x hx
  cases m with
  | copy a b =>
    obtain ⟨h1, h2⟩ := ok
    rcases List.mem_or_eq_of_mem_set hx with z | z
    · exact z
    · rw [z]
      exact atG_mem (by omega)
  | swap a b =>
    obtain ⟨h1, h2⟩ := ok
    rcases List.mem_or_eq_of_mem_set hx with z | z
    · rcases List.mem_or_eq_of_mem_set z with y | y
      · exact y
      · rw [y]
        exact atG_mem (by omega)
    · rw [z]
      exact atG_mem (by omega)
  | store s b =>
    obtain ⟨h1, h2⟩ := ok
    rcases List.mem_or_eq_of_mem_set hx with z | z
    · exact z
    · rw [z]
      exact atG_mem (by omega)
  | load b s =>
    obtain ⟨h1, h2⟩ := ok
    rcases List.mem_or_eq_of_mem_set hx with z | z
    · exact z
    · rw [z]
      exact atG_mem (by omega)
theorem mvsG_mem {d : α} {f : Fr} : ∀ {ms : List Mv} {c : List α}, (∀ m ∈ ms, m.Ok f) → c.length = f.boxes + f.slots → ∀ x ∈ mvsG d f ms c, x ∈ c
  | [], _, _, _, _, hx => hx
  | m :: ms, c, ok, len, x, hx => mvG_mem (ok m (List.mem_cons_self ..)) len x (mvsG_mem (fun y hy => ok y (List.mem_cons_of_mem _ hy)) ((mvG_len d f m c).trans len) x hx)
theorem mvG_int (f : Fr) (m : Mv) (c : List Int) : mvG 0 f m c = mvDo f m c := by cases m <;> rfl
theorem mvsG_int (f : Fr) : ∀ (ms : List Mv) (c : List Int), mvsG 0 f ms c = mvsDo f ms c
  | [], _ => rfl
  | m :: ms, c => by
    show mvsG 0 f ms (mvG 0 f m c) = mvsDo f ms (mvDo f m c)
    rw [mvG_int, mvsG_int f ms]
end
end Bw
namespace Bw
open PySem PySem.Spec PyProof.Rows L2 GxR
/-! ### the mirror of a walk by marks -/
structure Wk where
  n : List Mark
  c : List Mark
  p : Int
  m : Nat
structure Wk.Ok (names : Nat) (f : Fr) (s : Wk) : Prop where
  nl : s.n.length = names
  cl : s.c.length = f.boxes + f.slots
  bij : Bij (s.n ++ s.c)
  old : Below (s.n ++ s.c) s.p s.m
def m0 : Mark := (0, "")
def eatW (p : Int) (m : Nat) : List Nat → Nat → List Mark → List Mark
  | [], _, c => c
  | b :: bs, i, c => eatW p m bs (i + 1) (c.set b (newM (p + 1 + i) (m + 2 + i)))
theorem eatW_len (p : Int) (m : Nat) : ∀ (bs : List Nat) (i : Nat) (c : List Mark), (eatW p m bs i c).length = c.length
  | [], _, _ => rfl
  | b :: bs, i, c => (eatW_len p m bs (i + 1) _).trans (List.length_set ..)
theorem eatW_snoc (p : Int) (m b : Nat) : ∀ (bs : List Nat) (i : Nat) (c : List Mark), eatW p m (bs ++ [b]) i c = (eatW p m bs i c).set b (newM (p + 1 + (i + bs.length : Nat)) (m + 2 + (i + bs.length)))
  | [], _, _ => rfl
  | b' :: bs, i, c => by
    show eatW p m (bs ++ [b]) (i + 1) _ = _
    rw [eatW_snoc p m b bs (i + 1), show i + 1 + bs.length = i + (b' :: bs).length by rw [List.length_cons]; omega]
    rfl
theorem eatW_mem {p : Int} {m e : Nat} : ∀ {bs : List Nat} {i : Nat} {c : List Mark}, i + bs.length ≤ e → ∀ x ∈ eatW p m bs i c, x ∈ c ∨ ∃ j, j < e ∧ x = newM (p + 1 + j) (m + 2 + j)
  | [], _, _, _, x, hx => .inl hx
  | b :: bs, i, c, le, x, hx => by
    rw [List.length_cons] at le
    rcases eatW_mem (bs := bs) (i := i + 1) (c := c.set b (newM (p + 1 + i) (m + 2 + i))) (e := e) (by omega) x hx with z | z
    · rcases List.mem_or_eq_of_mem_set z with y | y
      · exact .inl y
      · exact .inr ⟨i, by omega, y⟩
    · exact .inr z
def isCopy : Row → Bool
  | .copy .. => true
  | _ => false
def isIf : Row → Bool
  | .iff .. => true
  | _ => false
def tells : Row → Bool
  | .say .. => true
  | .iff .. => true
  | _ => false
def firstName : Row → Nat
  | .put n _ => n | .copy n _ => n | .add n _ _ => n | .take n _ _ => n | .less n _ _ => n | .call n _ => n | .say n => n | .iff n _ => n | .go _ => 0 | .fin => 0
def otherName : Row → Nat
  | .copy _ o => o
  | _ => 0
/-- the ones that a row is handed -/
def handM (row : Row) (xs : List Nat) : List Nat := if makes row = true then xs.drop 1 else xs
def sameW (row : Row) (bs : List Nat) (n c : List Mark) : Bool := ((handM row (namesOf row)).zip (handM row bs)).all fun q => decide ((atG m0 n q.1).1 = (atG m0 c q.2).1)
def eatenBy (f : Fr) (row : Row) : List Nat := if calls row = true then f.eaten else []
def ownBy (same : Bool) : Nat := if same = true then 0 else 1
def coreW (f : Fr) (row : Row) (bs : List Nat) (s : Wk) : Wk :=
  if isCopy row = true then { s with n := s.n.set (firstName row) (atG m0 s.n (otherName row)), c := s.c.set (boxAt bs 0) (atG m0 s.c (boxAt bs 1)) }
  else if makes row = true then
    { n := s.n.set (firstName row) (newM (s.p + (eatenBy f row).length + 1) (s.m + 1))
      c := (eatW s.p s.m (eatenBy f row) 0 s.c).set (boxAt bs 0) (if sameW row bs s.n s.c = true then newM (s.p + (eatenBy f row).length + 1) (s.m + 1) else newM (s.p + (eatenBy f row).length + 2) (s.m + 2 + (eatenBy f row).length))
      p := s.p + (eatenBy f row).length + 1 + ownBy (sameW row bs s.n s.c)
      m := s.m + 1 + (eatenBy f row).length + ownBy (sameW row bs s.n s.c) }
  else s
def aheadW (f : Fr) (g : Grp) (s : Wk) : Wk := { s with c := mvsG m0 f g.ahead s.c }
def doRowW (f : Fr) (row : Row) (g : Grp) (s : Wk) : Wk := { coreW f row g.boxes (aheadW f g s) with c := mvsG m0 f g.behind (coreW f row g.boxes (aheadW f g s)).c }
def sameOf (f : Fr) (row : Row) (g : Grp) (s : Wk) : Bool := sameW row g.boxes s.n (mvsG m0 f g.ahead s.c)
theorem Wk.Ok.moves {names : Nat} {f : Fr} {s : Wk} {ms : List Mv} (h : s.Ok names f) (ok : ∀ m ∈ ms, m.Ok f) : ({ s with c := mvsG m0 f ms s.c } : Wk).Ok names f := by
  have sub : ∀ x ∈ s.n ++ mvsG m0 f ms s.c, x ∈ s.n ++ s.c := fun x hx => by
    rcases List.mem_append.mp hx with z | z
    · exact List.mem_append.mpr (.inl z)
    · exact List.mem_append_right _ (mvsG_mem ok h.cl x z)
  exact ⟨h.nl, (mvsG_len ..).trans h.cl, (bij_sub h.bij h.old sub).1, (bij_sub h.bij h.old sub).2⟩
theorem other_lt {names many : Nat} {row : Row} (ok : RowOk names many row) (hc : isCopy row = true) : otherName row < names := by
  cases row with
  | copy n o => exact ok.2
  | _ => cases hc
theorem coreW_ok {names many : Nat} {f : Fr} {row : Row} {bs : List Nat} {s : Wk} (h : s.Ok names f) (ok : RowOk names many row) (len : bs.length = (rowNames row).length) (bm : ∀ b ∈ bs, b < f.boxes) : (coreW f row bs s).Ok names f := by
  unfold coreW
  by_cases hc : isCopy row = true
  · rw [if_pos hc]
    have b1 : boxAt bs 1 < f.boxes + f.slots := by
      have two : bs.length = 2 := by
        cases row with
        | copy n o => exact len
        | _ => cases hc
      have := bm (boxAt bs 1) (by
        match bs, two with
        | [x, y], _ => exact List.mem_cons_of_mem _ (List.mem_cons_self ..))
      omega
    have sub : ∀ x ∈ s.n.set (firstName row) (atG m0 s.n (otherName row)) ++ s.c.set (boxAt bs 0) (atG m0 s.c (boxAt bs 1)), x ∈ s.n ++ s.c := fun x hx => by
      rcases List.mem_append.mp hx with z | z
      · rcases List.mem_or_eq_of_mem_set z with y | y
        · exact List.mem_append_left _ y
        · rw [y]
          exact List.mem_append_left _ (atG_mem (by rw [h.nl]; exact other_lt ok hc))
      · rcases List.mem_or_eq_of_mem_set z with y | y
        · exact List.mem_append_right _ y
        · rw [y]
          exact List.mem_append_right _ (atG_mem (by rw [h.cl]; exact b1))
    exact ⟨(List.length_set ..).trans h.nl, (List.length_set ..).trans h.cl, (bij_sub h.bij h.old sub).1, (bij_sub h.bij h.old sub).2⟩
  · rw [if_neg hc]
    by_cases hm : makes row = true
    · rw [if_pos hm]
      generalize eatenBy f row = es
      generalize hs : sameW row bs s.n s.c = same
      have sub : ∀ x ∈ s.n.set (firstName row) (newM (s.p + es.length + 1) (s.m + 1)) ++ (eatW s.p s.m es 0 s.c).set (boxAt bs 0) (if same = true then newM (s.p + es.length + 1) (s.m + 1) else newM (s.p + es.length + 2) (s.m + 2 + es.length)), x ∈ s.n ++ s.c ∨ NewP s.p s.m es.length (!same) x := fun x hx => by
        rcases List.mem_append.mp hx with z | z
        · rcases List.mem_or_eq_of_mem_set z with y | y
          · exact .inl (List.mem_append_left _ y)
          · exact .inr (.inr (.inl y))
        · rcases List.mem_or_eq_of_mem_set z with y | y
          · rcases eatW_mem (e := es.length) (Nat.le_of_eq (Nat.zero_add _)) x y with u | ⟨j, jl, u⟩
            · exact .inl (List.mem_append_right _ u)
            · exact .inr (.inl ⟨j, jl, u⟩)
          · cases same with
            | true => exact .inr (.inr (.inl y))
            | false => exact .inr (.inr (.inr ⟨rfl, y⟩))
      have both := bij_new h.bij h.old sub
      refine ⟨(List.length_set ..).trans h.nl, ((List.length_set ..).trans (eatW_len ..)).trans h.cl, both.1, ?_⟩
      have b2 := both.2
      cases same with
      | true => exact b2
      | false => exact b2
    · rw [if_neg hm]
      exact h
theorem doRowW_ok {names many : Nat} {f : Fr} {row : Row} {g : Grp} {s : Wk} (h : s.Ok names f) (ok : RowOk names many row) (gok : Grp.Ok f row g) : (doRowW f row g s).Ok names f :=
  (coreW_ok (h.moves gok.am) ok gok.len gok.bm).moves gok.hm
end Bw
namespace Bw
open PySem PySem.Spec PyProof.Rows L2 GxR
/-! ### whether all that is handed is the same, as the law asks it -/
def firstOf (row : Row) : Nat := if makes row = true then 1 else 0
def lawSame (row : Row) (bs : List Nat) (n c : List Mark) : List Bool := (List.range (bs.length - firstOf row)).map fun j => decide ((atG m0 c (boxAt bs (firstOf row + j))).2 = (atG m0 n (boxAt (namesOf row) (firstOf row + j))).2)
theorem Wk.Ok.eqm {names : Nat} {f : Fr} {s : Wk} (h : s.Ok names f) {x y : Nat} (hx : x < names) (hy : y < f.boxes) : decide ((atG m0 s.c y).2 = (atG m0 s.n x).2) = decide ((atG m0 s.n x).1 = (atG m0 s.c y).1) := by
  have a : atG m0 s.n x ∈ s.n ++ s.c := List.mem_append_left _ (atG_mem (by rw [h.nl]; exact hx))
  have b : atG m0 s.c y ∈ s.n ++ s.c := List.mem_append_right _ (atG_mem (by rw [h.cl]; omega))
  have i := h.bij _ a _ b
  by_cases z : (atG m0 s.n x).1 = (atG m0 s.c y).1
  · rw [decide_eq_true z, decide_eq_true (i.mp z).symm]
  · rw [decide_eq_false z, decide_eq_false fun w => z (i.mpr w.symm)]
theorem tell1 {a b : Bool} (h : a = b) : (a && true) = (b && true) := by rw [h]
theorem tell2 {a b c d : Bool} (h : a = b) (k : c = d) : (a && (c && true)) = (b && (d && true)) := by rw [h, k]
theorem law_same {names many : Nat} {f : Fr} {row : Row} {bs : List Nat} {s : Wk} (h : s.Ok names f) (ok : RowOk names many row) (len : bs.length = (rowNames row).length) (bm : ∀ b ∈ bs, b < f.boxes) : (lawSame row bs s.n s.c).all id = sameW row bs s.n s.c := by
  cases row with
  | put n v =>
    match bs, len with
    | [x], _ => rfl
  | copy n o =>
    match bs, len, bm with
    | [x, y], _, bm =>
      show (decide _ && true) = (decide _ && true)
      exact tell1 (h.eqm ok.2 (bm y (by simp)))
  | add n a b =>
    match bs, len, bm with
    | [x, y, z], _, bm =>
      show (decide _ && (decide _ && true)) = (decide _ && (decide _ && true))
      exact tell2 (h.eqm ok.2.1 (bm y (by simp))) (h.eqm ok.2.2 (bm z (by simp)))
  | take n a b =>
    match bs, len, bm with
    | [x, y, z], _, bm =>
      show (decide _ && (decide _ && true)) = (decide _ && (decide _ && true))
      exact tell2 (h.eqm ok.2.1 (bm y (by simp))) (h.eqm ok.2.2 (bm z (by simp)))
  | less n a b =>
    match bs, len, bm with
    | [x, y, z], _, bm =>
      show (decide _ && (decide _ && true)) = (decide _ && (decide _ && true))
      exact tell2 (h.eqm ok.2.1 (bm y (by simp))) (h.eqm ok.2.2 (bm z (by simp)))
  | call n o =>
    match bs, len, bm with
    | [x, y], _, bm =>
      show (decide _ && true) = (decide _ && true)
      exact tell1 (h.eqm ok.2 (bm y (by simp)))
  | say n =>
    match bs, len, bm with
    | [x], _, bm =>
      show (decide _ && true) = (decide _ && true)
      exact tell1 (h.eqm ok (bm x (by simp)))
  | iff n r =>
    match bs, len, bm with
    | [x], _, bm =>
      show (decide _ && true) = (decide _ && true)
      exact tell1 (h.eqm ok.1 (bm x (by simp)))
  | go r =>
    match bs, len with
    | [], _ => rfl
  | fin =>
    match bs, len with
    | [], _ => rfl
/-! ### the walk -/
def nextW (row : Row) (left : List Bool) (i : Nat) : Nat := match row with
  | .iff _ r => if left.head? = some true then r else i + 1
  | .go r => r
  | _ => i + 1
def goW (f : Fr) (rows : List Row) (gs : List Grp) : Nat → Wk → Nat → List Bool → List (Nat × Bool) → List (Nat × Bool)
  | 0, _, _, _, told => told
  | n + 1, s, i, left, told => match rows[i]?, gs[i]? with
    | some row, some g => if atEnd rows i = true then told else if (isIf row && left.isEmpty) = true then told else
        goW f rows gs n (doRowW f row g s) (nextW row left i) (if isIf row = true then left.tail else left) (if tells row = true then told ++ [(i, sameOf f row g s)] else told)
    | _, _ => told
theorem goW_end {f : Fr} {rows : List Row} {gs : List Grp} {n i : Nat} {s : Wk} {left : List Bool} {told : List (Nat × Bool)} (h : atEnd rows i = true) : goW f rows gs n s i left told = told := by
  cases n with
  | zero => rfl
  | succ n =>
    rw [goW]
    split
    · rw [if_pos h]
    · rfl
theorem goW_stop {f : Fr} {rows : List Row} {gs : List Grp} {n i : Nat} {s : Wk} {left : List Bool} {told : List (Nat × Bool)} {row : Row} (er : rows[i]? = some row) (hi : isIf row = true) (hl : left = []) : goW f rows gs n s i left told = told := by
  cases n with
  | zero => rfl
  | succ n =>
    rw [goW, er]
    cases gs[i]? with
    | none => rfl
    | some g =>
      simp only
      split
      · rfl
      · rw [if_pos (by rw [hi, hl]; rfl)]
theorem goW_step {f : Fr} {rows : List Row} {gs : List Grp} {n i : Nat} {s : Wk} {left : List Bool} {told : List (Nat × Bool)} {row : Row} {g : Grp} (er : rows[i]? = some row) (eg : gs[i]? = some g) (h : atEnd rows i = false) (hl : isIf row = true → left ≠ []) :
    goW f rows gs (n + 1) s i left told = goW f rows gs n (doRowW f row g s) (nextW row left i) (if isIf row = true then left.tail else left) (if tells row = true then told ++ [(i, sameOf f row g s)] else told) := by
  rw [goW, er, eg]
  simp only
  rw [if_neg (by rw [h]; exact Bool.false_ne_true), if_neg]
  intro z
  rw [Bool.and_eq_true, List.isEmpty_iff] at z
  exact hl z.1 z.2
theorem goW_len (f : Fr) (rows : List Row) (gs : List Grp) : ∀ (n : Nat) (s : Wk) (i : Nat) (left : List Bool) (told : List (Nat × Bool)), (goW f rows gs n s i left told).length ≤ told.length + n
  | 0, _, _, _, _ => Nat.le_refl _
  | n + 1, s, i, left, told => by
    rw [goW]
    split
    · split
      · omega
      · split
        · omega
        · refine Nat.le_trans (goW_len f rows gs n ..) ?_
          split
          · rw [List.length_append, show [(i, sameOf f _ _ s)].length = 1 from rfl]
            omega
          · omega
    · omega
/-! ### the marks at first -/
def namesW (names : Nat) : List Mark := (List.range names).map fun k : Nat => ((k : Int), mkS "n" k)
def cellsW (names cells : Nat) : List Mark := (List.range cells).map fun k : Nat => (((names + k : Nat) : Int), mkS "h" k)
def layW (f : Fr) (n : List Mark) : List Pl → Nat → List Mark → List Mark
  | [], _, c => c
  | q :: qs, k, c => layW f n qs (k + 1) (c.set (q.cell f) (atG m0 n k))
theorem layW_len (f : Fr) (n : List Mark) : ∀ (qs : List Pl) (k : Nat) (c : List Mark), (layW f n qs k c).length = c.length
  | [], _, _ => rfl
  | q :: qs, k, c => (layW_len f n qs (k + 1) _).trans (List.length_set ..)
theorem layW_snoc (f : Fr) (n : List Mark) (q : Pl) : ∀ (qs : List Pl) (k : Nat) (c : List Mark), layW f n (qs ++ [q]) k c = (layW f n qs k c).set (q.cell f) (atG m0 n (k + qs.length))
  | [], _, _ => rfl
  | q' :: qs, k, c => by
    show layW f n (qs ++ [q]) (k + 1) _ = _
    rw [layW_snoc f n q qs (k + 1), show k + 1 + qs.length = k + (q' :: qs).length by rw [List.length_cons]; omega]
    rfl
theorem layW_mem {f : Fr} {n : List Mark} : ∀ {qs : List Pl} {k : Nat} {c : List Mark}, k + qs.length ≤ n.length → ∀ x ∈ layW f n qs k c, x ∈ n ++ c
  | [], _, _, _, x, hx => List.mem_append_right _ hx
  | q :: qs, k, c, le, x, hx => by
    rw [List.length_cons] at le
    rcases List.mem_append.mp (layW_mem (qs := qs) (k := k + 1) (c := c.set (q.cell f) (atG m0 n k)) (by omega) x hx) with z | z
    · exact List.mem_append.mpr (.inl z)
    · rcases List.mem_or_eq_of_mem_set z with y | y
      · exact List.mem_append_right _ y
      · rw [y]
        exact List.mem_append_left _ (atG_mem (by omega))
def startW (p : Prog) (f : Fr) (c : Ch) : Wk := ⟨namesW p.names, layW f (namesW p.names) c.places 0 (cellsW p.names (f.boxes + f.slots)), ((p.names + (f.boxes + f.slots) : Nat) : Int) - 1, 0⟩
theorem start_bij (names cells : Nat) : Bij (namesW names ++ cellsW names cells) := by
  intro x hx y hy
  have each : ∀ z ∈ namesW names ++ cellsW names cells, (∃ k, k < names ∧ z = ((k : Int), mkS "n" k)) ∨ ∃ k, k < cells ∧ z = (((names + k : Nat) : Int), mkS "h" k) := fun z hz => by
    rcases List.mem_append.mp hz with u | u
    · obtain ⟨k, hk, e⟩ := List.mem_map.mp u
      exact .inl ⟨k, List.mem_range.mp hk, e.symm⟩
    · obtain ⟨k, hk, e⟩ := List.mem_map.mp u
      exact .inr ⟨k, List.mem_range.mp hk, e.symm⟩
  have apart : ∀ {j k : Nat}, mkS "n" j ≠ mkS "h" k := fun z => absurd (mkS_head (x := 110) (y := 104) (by decide +kernel) (by decide +kernel) z) (by decide)
  rcases each x hx with ⟨j, jl, ex⟩ | ⟨j, jl, ex⟩ <;> rcases each y hy with ⟨k, kl, ey⟩ | ⟨k, kl, ey⟩ <;> rw [ex, ey]
  · exact ⟨fun z => by rw [show j = k from Int.ofNat.inj z], fun z => by rw [show j = k from mkS_num z]⟩
  · exact ⟨fun z => absurd (show (j : Int) = ((names + k : Nat) : Int) from z) (by omega), fun z => absurd z apart⟩
  · exact ⟨fun z => absurd (show ((names + j : Nat) : Int) = (k : Int) from z) (by omega), fun z => absurd z.symm apart⟩
  · refine ⟨fun z => ?_, fun z => by rw [show j = k from mkS_num z]⟩
    have : ((names + j : Nat) : Int) = ((names + k : Nat) : Int) := z
    rw [show j = k by omega]
theorem start_below (names cells : Nat) (pos : 0 < names) : Below (namesW names ++ cellsW names cells) (((names + cells : Nat) : Int) - 1) 0 := by
  intro x hx
  rcases List.mem_append.mp hx with u | u
  · obtain ⟨k, hk, e⟩ := List.mem_map.mp u
    have := List.mem_range.mp hk
    rw [← e]
    exact ⟨show (k : Int) ≤ _ by omega, .inl ⟨k, rfl⟩⟩
  · obtain ⟨k, hk, e⟩ := List.mem_map.mp u
    have := List.mem_range.mp hk
    rw [← e]
    exact ⟨show ((names + k : Nat) : Int) ≤ _ by omega, .inr (.inl ⟨k, rfl⟩)⟩
theorem startW_ok {p : Prog} {f : Fr} {c : Ch} (pok : p.Ok) (cok : Ch.Ok p f c) : (startW p f c).Ok p.names f := by
  have nl : (namesW p.names).length = p.names := by rw [namesW, List.length_map, List.length_range]
  have sub : ∀ x ∈ namesW p.names ++ layW f (namesW p.names) c.places 0 (cellsW p.names (f.boxes + f.slots)), x ∈ namesW p.names ++ cellsW p.names (f.boxes + f.slots) := fun x hx => by
    rcases List.mem_append.mp hx with z | z
    · exact List.mem_append.mpr (.inl z)
    · exact layW_mem (by rw [nl, cok.pl]; have := pok.pn; omega) x z
  have both := bij_sub (start_bij p.names (f.boxes + f.slots)) (start_below p.names (f.boxes + f.slots) pok.n0) sub
  exact ⟨nl, (layW_len ..).trans (by rw [cellsW, List.length_map, List.length_range]), both.1, both.2⟩
end Bw
namespace Bw
open PySem PySem.Spec PyProof.Rows L2 GxR
/-! ### moves over cells that hold whatever -/
theorem atG_get {α : Type} {d : α} {c : List α} {n : Nat} (h : n < c.length) : c[n]? = some (atG d c n) := by
  unfold atG
  rw [List.getElem?_eq_getElem h]
  rfl
section
variable {base : Heap} {K : PySem.W.Frag} {mg : Str → Option Value} {P : Program} {w : World}
def spHeldG : Sp := fun vs H Q _ => ∃ (h mv a : Addr) (c : List V) (ms : List Mv) (f : Fr), vs = [.ref h, .ref mv, .ref a] ∧ H h = some (.lst c) ∧ c.length = f.boxes + f.slots ∧ Tp H (.ref mv) (.tuple (ms.map Mv.d)) ∧ (∀ m ∈ ms, Mv.Ok f m) ∧ FrAt H a f ∧ f.Ok ∧
  ∀ H' r, H r = none → H' r = some (.lst (mvsG .non f ms c)) → Ext no H H' → Q (.ref r) H'
theorem ok_heldG {f : Addr} {fd : FuncData} (D : Df K mg "_law_held" s_law_held ["_law_held_here", "_law_moves", "_law_frame_here"] f fd) (B : Bt mg) : FnOk P w K mg base CX0 1 f fd ["_law_held_here", "_law_moves", "_law_frame_here"] spHeldG := by
  refine D.F.ok scHeld (fun vs H Q E h => ?_) (fun cdv A outer s H vs Q E hr h => ?_)
  · obtain ⟨h, mv, a, c, ms, f, rfl, _⟩ := h
    rfl
  · obtain ⟨h, mv, a, c, ms, f, rfl, hh, cl, tms, mok, hf, ok, q⟩ := h
    have b6 := ok.b6
    refine ⟨_, pss_cons (ps_set (i := 3) scHeld.nd rfl (.inl rfl) (pe_callTy call_list_of (by rfl) B.list (by decide +kernel) (pa_cons (pv 0) pa_nil)))
      (pss_cons (ps_for PassesOwn.never rfl (pi_tup (pv 1)) (pg_tup rfl (pgs_cons (pg_name (i := 4) scHeld.nd rfl (.inl rfl)) (pgs_cons (pg_name (i := 5) scHeld.nd rfl (.inl rfl)) (pgs_cons (pg_name (i := 6) scHeld.nd rfl (.inl rfl)) pgs_nil))))
        (pss_one (ps_if (pt_cmpR op_eq (pv 4) pe_str (nomark _))
          (pss_cons (ps_set (i := 7) scHeld.nd rfl (.inl rfl) (pe_ix ix_list (pv 3) (pv 5) (fun _ _ => rfl)))
          (pss_cons (ps_asg (pe_ix ix_list (pv 3) (pv 6) (fun _ _ => rfl)) (pg_sub (pv 3) (pv 5) set_list))
          (pss_one (ps_asg (pv 7) (pg_sub (pv 3) (pv 6) set_list)))))
          (pss_one (ps_if (pt_cmpR op_eq (pv 4) pe_str (nomark _))
            (pss_one (ps_asg (pe_ix ix_list (pv 3) (pv 6) (fun _ _ => rfl)) (pg_sub (pv 3) (pe_op op_add (pe_ix ix_tup (pv 2) pe_int (fun _ _ => rfl)) (pv 5)) set_list)))
            (pss_one (ps_asg (pe_ix ix_list (pv 3) (pe_op op_add (pv 6) (pe_op op_mul (pe_ix ix_tup (pv 2) pe_int (fun _ _ => rfl)) (pe_callTy call_int1 (by rfl) B.int (by decide +kernel) (pa_cons (pe_cmpR op_eq (pv 4) pe_str (nomark _)) pa_nil)))) (fun _ _ => rfl)) (pg_sub (pv 3) (pv 5) set_list))))))))
      (pss_one (ps_ret (pv 3)))), ?_⟩
    obtain ⟨e, ha, he⟩ := hf.ex
    obtain ⟨mv', mvs, em, hmv, mall⟩ := tms.tupE
    obtain rfl : mv = mv' := V.ref.inj em
    refine ⟨_, rfl, h, _, rfl, .inl (SqL.of hh), fun fo nfo => ?_⟩
    have x1 : Ext no H (upd H fo (.lst c)) := Ext.new nfo
    have hfo1 : (upd H fo (.lst c)) fo = some (.lst c) := upd_same
    generalize upd H fo (.lst c) = H1 at x1 hfo1 ⊢
    refine ⟨_, rfl, mv, rfl, ⟨_, SqT.of (x1.tup _ _ hmv)⟩, for_tup (xs := mvs) (fun i σ H2 => (∃ v4 v5 v6 v7, σ = [some (.ref h), some (.ref mv), some (.ref a), some (.ref fo), v4, v5, v6, v7]) ∧ H2 fo = some (.lst (mvsG .non f (ms.take i) c)) ∧ Ext (fun x => x = fo) H1 H2)
      ⟨⟨_, _, _, _, rfl⟩, hfo1, Ext.refl _ _⟩ (fun i σ H2 _ z => SqT.of (z.2.2.tup _ _ (x1.tup _ _ hmv))) ?_ ?_⟩
    · rintro i x σ H2 hx ⟨⟨v4, v5, v6, v7, rfl⟩, hfo2, x2⟩
      have ilt : i < ms.length := by
        have := (List.getElem?_eq_some_iff.mp hx).1
        rw [mall.len, List.length_map] at this
        exact this
      have eim : ms[i]? = some ms[i] := List.getElem?_eq_getElem ilt
      have mk := mok _ (List.getElem_mem ilt)
      generalize ms[i] = m at eim mk
      obtain ⟨x', ex, tx⟩ := mall.get (i := i) (d := m.d) (by rw [List.getElem?_map, eim]; rfl)
      obtain rfl : x = x' := Option.some.inj (hx.symm.trans ex)
      have next : mvsG .non f (ms.take (i + 1)) c = mvG .non f m (mvsG .non f (ms.take i) c) := by rw [List.take_add_one, eim]; exact mvsG_snoc .non f _ m c
      have dlen : (mvsG .non f (ms.take i) c).length = f.boxes + f.slots := by rw [mvsG_len]; exact cl
      generalize mvsG .non f (ms.take i) c = d at hfo2 next dlen
      have tx2 := (tx.ext x1).ext x2
      have ha2 := x2.tup _ _ (x1.tup _ _ ha)
      have put : ∀ (H3 : Hp) (d' : List V), Ext (fun x => x = fo) H1 H3 → H3 fo = some (.lst d') → d' = mvG .non f m d → H3 fo = some (.lst (mvsG .non f (ms.take (i + 1)) c)) ∧ Ext (fun x => x = fo) H1 H3 := fun H3 d' z1 z2 z3 => ⟨by rw [next, ← z3]; exact z2, z1⟩
      have stp : ∀ {H3 : Hp} {xs : List V} {o : HO}, H3 fo = some (.lst xs) → Ext (fun x => x = fo) H3 (upd H3 fo o) := fun {H3 xs o} z => Ext.put z rfl (fun _ z => by cases z) (fun _ z => by cases z)
      have atv : ∀ (n : Nat) (i : Int), i = (n : Int) → n < d.length → atI d i = some (atG .non d n) := fun n i e h => by rw [e]; exact atI_nat (atG_get h)
      cases m with
      | copy p r =>
        obtain ⟨p1, r1⟩ := mk
        obtain ⟨t, rfl, ht⟩ := tp3E tx2
        refine ⟨t, _, rfl, SqT.of ht, rfl, _, _, rfl, _, _, rfl, _, _, rfl, rfl, ?_⟩
        refine ⟨_, rfl, rfl, ⟨_, rfl, nS (by decide +kernel) ⟨_, rfl, rfl, ⟨_, rfl, nS (by decide +kernel) ?_⟩⟩⟩⟩
        refine ⟨_, rfl, _, rfl, _, rfl, a, _, 0, _, rfl, rfl, SqT.of ha2, atI_nat (j := 0) rfl, _, rfl, rfl, .inr ⟨_, rfl, _, _, rfl, rfl, .inl ⟨by omega, by omega⟩, _, _, rfl, rfl, fo, _, _, _, rfl, rfl, SqL.of hfo2, atv r _ ?_ (by omega), _, rfl, _, rfl, fo, _, p, p, rfl, rfl, hfo2, ixN_nat (by omega), ?_⟩⟩
        · rw [show decide (V.str "copy" = V.str "load") = false by decide +kernel]
          simp
        · exact ⟨⟨_, _, _, _, rfl⟩, put _ (d.set p (atG .non d r)) (x2.trans (stp hfo2)) (by rw [upd_same]) rfl⟩
      | swap p r =>
        obtain ⟨p1, r1⟩ := mk
        obtain ⟨t, rfl, ht⟩ := tp3E tx2
        refine ⟨t, _, rfl, SqT.of ht, rfl, _, _, rfl, _, _, rfl, _, _, rfl, rfl, ?_⟩
        refine ⟨_, rfl, rfl, ⟨_, rfl, yS ?_⟩⟩
        refine ⟨_, rfl, _, rfl, fo, _, p, _, rfl, rfl, SqL.of hfo2, atv p _ rfl (by omega), ?_⟩
        refine ⟨_, rfl, _, rfl, fo, _, r, _, rfl, rfl, SqL.of hfo2, atv r _ rfl (by omega), _, rfl, _, rfl, fo, _, p, p, rfl, rfl, hfo2, ixN_nat (by omega), ?_⟩
        have hfo3 : (upd H2 fo (.lst (d.set p (atG .non d r)))) fo = some (.lst (d.set p (atG .non d r))) := by rw [upd_same]
        have x3 := x2.trans (stp (o := .lst (d.set p (atG .non d r))) hfo2)
        generalize upd H2 fo (.lst (d.set p (atG .non d r))) = H3 at hfo3 x3 ⊢
        refine ⟨_, rfl, _, rfl, _, rfl, fo, _, r, r, rfl, rfl, hfo3, ixN_nat (by rw [List.length_set]; omega), ?_⟩
        exact ⟨⟨_, _, _, _, rfl⟩, put _ ((d.set p (atG .non d r)).set r (atG .non d p)) (x3.trans (stp hfo3)) (by rw [upd_same]) rfl⟩
      | store p r =>
        obtain ⟨p1, r1⟩ := mk
        obtain ⟨t, rfl, ht⟩ := tp3E tx2
        refine ⟨t, _, rfl, SqT.of ht, rfl, _, _, rfl, _, _, rfl, _, _, rfl, rfl, ?_⟩
        refine ⟨_, rfl, rfl, ⟨_, rfl, nS (by decide +kernel) ⟨_, rfl, rfl, ⟨_, rfl, yS ?_⟩⟩⟩⟩
        refine ⟨_, rfl, _, rfl, fo, _, r, _, rfl, rfl, SqL.of hfo2, atv r _ rfl (by omega), _, rfl, _, rfl, a, _, 0, _, rfl, rfl, SqT.of ha2, atI_nat (j := 0) rfl, _, rfl, _, _, rfl, rfl, fo, _, ((f.boxes + p : Nat) : Int), f.boxes + p, rfl, rfl, hfo2, ixN_nat (by omega), ?_⟩
        exact ⟨⟨_, _, _, _, rfl⟩, put _ (d.set (f.boxes + p) (atG .non d r)) (x2.trans (stp hfo2)) (by rw [upd_same]) rfl⟩
      | load p r =>
        obtain ⟨p1, r1⟩ := mk
        obtain ⟨t, rfl, ht⟩ := tp3E tx2
        refine ⟨t, _, rfl, SqT.of ht, rfl, _, _, rfl, _, _, rfl, _, _, rfl, rfl, ?_⟩
        refine ⟨_, rfl, rfl, ⟨_, rfl, nS (by decide +kernel) ⟨_, rfl, rfl, ⟨_, rfl, nS (by decide +kernel) ?_⟩⟩⟩⟩
        refine ⟨_, rfl, _, rfl, _, rfl, a, _, 0, _, rfl, rfl, SqT.of ha2, atI_nat (j := 0) rfl, _, rfl, rfl, .inr ⟨_, rfl, _, _, rfl, rfl, .inl ⟨by omega, by omega⟩, _, _, rfl, rfl, fo, _, _, _, rfl, rfl, SqL.of hfo2, atv (f.boxes + r) _ ?_ (by omega), _, rfl, _, rfl, fo, _, p, p, rfl, rfl, hfo2, ixN_nat (by omega), ?_⟩⟩
        · rw [show decide (V.str "load" = V.str "load") = true by decide +kernel]
          simp
          omega
        · exact ⟨⟨_, _, _, _, rfl⟩, put _ (d.set p (atG .non d (f.boxes + r))) (x2.trans (stp hfo2)) (by rw [upd_same]) rfl⟩
    · rintro σ H2 ⟨⟨v4, v5, v6, v7, rfl⟩, hfo2, x2⟩
      rw [mall.len, List.length_map, List.take_length] at hfo2
      exact ⟨_, rfl, q _ fo nfo hfo2 (x1.hide nfo x2)⟩
end
end Bw
namespace Bw
open PySem PySem.Spec PyProof.Rows L2 GxR Gx RZ
/-! ### the law's marks: a dict of two lists and a number -/
def mkK (x y : V) (k : Nat) : List (Key × V) := [(Sum.inr "names", x), (Sum.inr "held", y), (Sum.inr "many", .int (k : Int))]
theorem key_nm : ¬ (("names" : Str) = ("many" : Str)) := by decide +kernel
theorem key_hm : ¬ (("held" : Str) = ("many" : Str)) := by decide +kernel
theorem key_mh : ¬ (("many" : Str) = ("held" : Str)) := by decide +kernel
theorem key_nh : ¬ (("names" : Str) = ("held" : Str)) := by decide +kernel
theorem mkK_names (x y : V) (k : Nat) : valV (mkK x y k) (Sum.inr "names") = some x := by simp [valV, mkK]
theorem mkK_held (x y : V) (k : Nat) : valV (mkK x y k) (Sum.inr "held") = some y := by simp [valV, mkK, key_nh]
theorem mkK_many (x y : V) (k : Nat) : valV (mkK x y k) (Sum.inr "many") = some (.int (k : Int)) := by simp [valV, mkK, key_nm, key_hm]
theorem mkK_put (x y : V) (k : Nat) (j : Nat) : putK (mkK x y k) (Sum.inr "many") (.int (j : Int)) = mkK x y j := by simp [putK, mkK, key_nm, key_hm]
theorem mkK_lay (x y z : V) (k : Nat) : putK (mkK x y k) (Sum.inr "held") z = mkK x z k := by simp [putK, mkK, key_nh, key_mh]
theorem log_small {k : Nat} (h : k < 10000) : ((k + 1 : Nat) : Int).natAbs.log2 < 1920 := by
  rw [Int.natAbs_natCast]
  exact (Nat.log2_lt (Nat.succ_ne_zero k)).mpr (Nat.lt_of_le_of_lt (show k + 1 ≤ 2 ^ 14 by omega) (Nat.pow_lt_pow_right (a := 2) (m := 14) (n := 1920) (by decide) (by decide)))
theorem num_short {k : Nat} (h : k < 10000) : (Str.ofString (toString ((k + 1 : Nat) : Int))).length ≤ 10002 := by
  have e : (Str.ofString (toString ((k + 1 : Nat) : Int))).cps.toList.length = (Nat.toDigits 10 (k + 1)).length := by rw [PySem.W.KIN.signs_num, List.length_map]
  have l : (Nat.toDigits 10 (k + 1)).length ≤ k + 1 + 1 := PySem.toDigits_len_le 10 (k + 1)
  show (Str.ofString (toString ((k + 1 : Nat) : Int))).cps.size ≤ 10002
  rw [Array.length_toList] at e
  omega
section
variable {base : Heap} {K : PySem.W.Frag} {mg : Str → Option Value} {P : Program} {w : World}
def spNew : Sp := fun vs H Q _ => ∃ (d : Addr) (x y : V) (k : Nat), vs = [.ref d] ∧ H d = some (.dK (mkK x y k)) ∧ k < 10000 ∧ Q (.str (mkS "m" (k + 1))) (upd H d (.dK (mkK x y (k + 1))))
theorem scNew : FnScope ["_law_m"] ["_law_m"] (defScope s_law_new) := ⟨rfl, rfl, rfl, by decide +kernel, rfl, by decide +kernel, by decide +kernel⟩
theorem ok_new {f : Addr} {fd : FuncData} (D : Df K mg "_law_new" s_law_new ["_law_m"] f fd) (B : Bt mg) : FnOk P w K mg base CX0 1 f fd ["_law_m"] spNew := by
  refine D.F.ok scNew (fun vs H Q E h => ?_) (fun cdv A outer s H vs Q E hr h => ?_)
  · obtain ⟨d, x, y, k, rfl, _⟩ := h
    rfl
  · obtain ⟨d, x, y, k, rfl, hd, few, q⟩ := h
    have hu1 := hu_of hr
    refine ⟨_, pss_cons (ps_asg (pe_op op_add (pe_dget hu1 (pv 0) pe_str (fun _ _ => rfl)) pe_int) (pg_sub (pv 0) pe_str (set_dict hu1)))
      (pss_one (ps_ret (pe_op op_add_str pe_str (pe_callTy call_str_int (by rfl) B.str (by decide +kernel) (pa_cons (pe_dget hu1 (pv 0) pe_str (fun _ _ => rfl)) pa_nil))))), ?_⟩
    refine ⟨_, rfl, d, _, rfl, (by have := DGet.k (k := Sum.inr "many") hd; rw [mkK_many] at this; exact this), _, _, rfl, rfl, ?_⟩
    refine ⟨_, rfl, d, _, rfl, DPut.k (k := Sum.inr "many") hd (by show 3 < sizeLine; decide), ?_⟩
    have put1 : putK (mkK x y k) (Sum.inr ("many" : Str)) (V.int ((k : Int) + 1)) = mkK x y (k + 1) := mkK_put x y k (k + 1)
    rw [show putK (mkK x y k) (Sum.inr ("many" : Str)) ((fun i j : Int => V.int (i + j)) (k : Int) 1) = mkK x y (k + 1) from put1]
    have hd1 : (upd H d (.dK (mkK x y (k + 1)))) d = some (.dK (mkK x y (k + 1))) := upd_same
    refine ⟨_, rfl, d, _, rfl, (by have := DGet.k (k := Sum.inr "many") hd1; rw [mkK_many] at this; exact this), _, rfl, log_small few, _, _, rfl, rfl, ?_, q⟩
    have := num_short few
    exact Nat.le_trans (Nat.add_le_add_left this _) (by decide)
end
end Bw
namespace Bw
open PySem PySem.Spec PyProof.Rows L2 GxR Gx RZ
/-! ### the program's marks -/
structure Kcls (K : PySem.W.Frag) (C : Addr) : Prop where
  cls : Cls K C
  frame : NoAttr K C "frame"
  named : NoAttr K C "named"
  cells : NoAttr K C "cells"
  newest : NoAttr K C "newest"
structure Dm (K : PySem.W.Frag) (C : Addr) (m : Str) (qual : Str) (st : Stmt) (ps : List Str) (f : Addr) (fd : FuncData) : Prop where
  F : Fun K m qual st f fd
  b : Binds K fd ps []
  at_ : Meth K C m f
theorem putNe {f g : Str} {v x : V} {r : List (Str × V)} (h : g ≠ f) : putF f v ((g, x) :: r) = (g, x) :: putF f v r := if_neg h
def kfs (fr nl cl : Addr) (p : Int) : List (Str × V) := [("frame", .ref fr), ("named", .ref nl), ("cells", .ref cl), ("newest", .int p)]
theorem put_newest (fr nl cl : Addr) (p q : Int) : putF "newest" (.int q) (kfs fr nl cl p) = kfs fr nl cl q := by
  rw [kfs, putNe (by decide +kernel), putNe (by decide +kernel), putNe (by decide +kernel), putF, if_pos rfl]
  rfl
abbrev pI (x : Mark) : V := .int x.1
abbrev lS (x : Mark) : V := .str x.2
abbrev mc2 (m cl : Addr) : Addr → Prop := fun x => x = m ∨ x = cl
section
variable {base : Heap} {K : PySem.W.Frag} {mg : Str → Option Value} {P : Program} {w : World}
def spFresh (C : Addr) : Sp := fun vs H Q _ => ∃ (m dx fr nl cl : Addr) (p : Int), vs = [.ref m] ∧ H m = some (.ins C dx (kfs fr nl cl p)) ∧ ∀ H', H' m = some (.ins C dx (kfs fr nl cl (p + 1))) → Ext (fun x => x = m) H H' → Q (.int (p + 1)) H'
theorem scFresh : FnScope ["self"] ["self"] (defScope s_k_fresh) := ⟨rfl, rfl, rfl, by decide +kernel, rfl, by decide +kernel, by decide +kernel⟩
theorem ok_fresh {f C : Addr} {fd : FuncData} (D : Dm K C "fresh" "Marks.fresh" s_k_fresh ["self"] f fd) (M : Kcls K C) : FnOk P w K mg base CX0 1 f fd ["self"] (spFresh C) := by
  refine D.F.ok scFresh (fun vs H Q E h => ?_) (fun cdv A outer s H vs Q E hr h => ?_)
  · obtain ⟨m, dx, fr, nl, cl, p, rfl, _⟩ := h
    rfl
  · obtain ⟨m, dx, fr, nl, cl, p, rfl, hm, q⟩ := h
    refine ⟨_, pss_cons (ps_fldaug (pv 0) pe_int in_add) (pss_one (ps_ret (pe_fld (pv 0) rfl))), ?_⟩
    have l2 : ∀ p, (kfs fr nl cl p).lookup ("newest" : Str) = some (.int p) := fun _ => rfl
    refine ⟨_, rfl, m, C, dx, _, _, rfl, hm, M.cls, M.newest, l2 _, p, 1, rfl, rfl, dx, _, hm, by show 4 < 1000; decide, ?_⟩
    rw [put_newest]
    exact ⟨_, rfl, m, C, dx, _, _, rfl, upd_same, M.cls, M.newest, l2 _, q _ upd_same (Ext.put hm rfl (fun _ z => by cases z) (fun _ z => by cases z))⟩
def spEatK (C : Addr) : Sp := fun vs H Q _ => ∃ (m dx fr nl cl : Addr) (p : Int) (mm : Nat) (f : Fr) (c : List Mark), vs = [.ref m] ∧ H m = some (.ins C dx (kfs fr nl cl p)) ∧ FrAt H fr f ∧ f.Ok ∧ H cl = some (.lst (c.map pI)) ∧ c.length = f.boxes + f.slots ∧
  ∀ H', H' m = some (.ins C dx (kfs fr nl cl (p + f.eaten.length))) → H' cl = some (.lst ((eatW p mm f.eaten 0 c).map pI)) → Ext (mc2 m cl) H H' → Q .non H'
theorem scEatK : FnScope ["self", "box"] ["self"] (defScope s_k_eat) := ⟨rfl, rfl, rfl, by decide +kernel, rfl, by decide +kernel, by decide +kernel⟩
theorem ok_eatK {f C fU : Addr} {fd fdU : FuncData} (D : Dm K C "eat" "Marks.eat" s_k_eat ["self"] f fd) (DU : Dm K C "fresh" "Marks.fresh" s_k_fresh ["self"] fU fdU) (M : Kcls K C) : FnOk P w K mg base CX0 2 f fd ["self"] (spEatK C) := by
  have GU : FnOk P w K mg base CX0 1 fU fdU ["self"] (spFresh C) := ok_fresh DU M
  refine D.F.ok scEatK (fun vs H Q E h => ?_) (fun cdv A outer s H vs Q E hr h => ?_)
  · obtain ⟨m, dx, fr, nl, cl, p, mm, f, c, rfl, _⟩ := h
    rfl
  · obtain ⟨m, dx, fr, nl, cl, p, mm, f, c, rfl, hm, hfr, ok, hcl, clen, q⟩ := h
    have nmc : m ≠ cl := fun z => by
      rw [z, hcl] at hm
      cases hm
    obtain ⟨e, hf1, he⟩ := hfr.ex
    refine ⟨_, pss_one (ps_for PassesOwn.never rfl (pi_tup (pe_ix ix_tup (pe_fld (pv 0) rfl) pe_int (fun _ _ => rfl))) (pg_name (i := 1) scEatK.nd rfl (.inl rfl))
      (pss_one (ps_asg (pe_meth0 (pv 0) M.cls DU.at_ GU hr DU.b .nil pass0) (pg_sub (pe_fld (pv 0) rfl) (pv 1) set_list)))), ?_⟩
    refine ⟨_, rfl, m, C, dx, _, _, rfl, hm, M.cls, M.frame, rfl, fr, _, 2, _, rfl, rfl, SqT.of hf1, atI_nat (j := 2) rfl, e, rfl, ⟨_, SqT.of he⟩, ?_⟩
    have l1 : ∀ p, (kfs fr nl cl p).lookup ("cells" : Str) = some (.ref cl) := fun _ => rfl
    have l3 : ∀ p, (kfs fr nl cl p).lookup ("fresh" : Str) = none := fun _ => rfl
    refine for_tup (xs := nV f.eaten) (fun i σ H2 => (∃ v1, σ = [some (.ref m), v1]) ∧ H2 m = some (.ins C dx (kfs fr nl cl (p + i))) ∧ H2 cl = some (.lst ((eatW p mm (f.eaten.take i) 0 c).map pI)) ∧ Ext (mc2 m cl) H H2)
      ⟨⟨_, rfl⟩, by rw [hm]; show some (HO.ins C dx (kfs fr nl cl p)) = some (HO.ins C dx (kfs fr nl cl (p + (0 : Nat)))); rw [show p + ((0 : Nat) : Int) = p by omega], hcl, Ext.refl _ _⟩ (fun i σ H2 _ z => SqT.of (z.2.2.2.tup _ _ he)) ?_ ?_
    · rintro i x σ H2 hx ⟨⟨v1, rfl⟩, hm2, hcl2, x2⟩
      rw [List.getElem?_map] at hx
      obtain ⟨b, hb, rfl⟩ : ∃ b, f.eaten[i]? = some b ∧ x = V.int (b : Int) := by
        cases e : f.eaten[i]? with
        | none => rw [e] at hx; cases hx
        | some b => rw [e] at hx; exact ⟨b, rfl, (Option.some.inj hx).symm⟩
      have bl : b < f.boxes := ok.eat b (List.mem_of_getElem? hb)
      refine ⟨_, rfl, m, dx, _, rfl, hm2, l3 _, m, dx, fr, nl, cl, p + i, rfl, hm2, fun H3 hm3 x3 => ?_⟩
      have hcl3 := x3.lst (fun z : cl = m => nmc z.symm) hcl2
      have dl : (eatW p mm (f.eaten.take i) 0 c).length = f.boxes + f.slots := by rw [eatW_len]; exact clen
      have il : (f.eaten.take i).length = i := by rw [List.length_take]; have := (List.getElem?_eq_some_iff.mp hb).1; omega
      refine ⟨_, rfl, m, C, dx, _, _, rfl, hm3, M.cls, M.cells, l1 _, _, rfl, cl, _, b, b, rfl, rfl, hcl3, ixN_nat (by rw [List.length_map]; omega), ⟨_, rfl⟩, ?_, ?_, ?_⟩
      · rw [upd_ne nmc, hm3, show p + (i : Int) + 1 = p + ((i + 1 : Nat) : Int) by omega]
      · rw [upd_same, List.take_add_one, hb]
        show _ = some (HO.lst ((eatW p mm (f.eaten.take i ++ [b]) 0 c).map pI))
        rw [eatW_snoc, List.map_set, il, Nat.zero_add]
        show some (HO.lst (_)) = some (HO.lst (_))
        rw [show pI (newM (p + 1 + (i : Int)) (mm + 2 + i)) = V.int (p + (i : Int) + 1) by show V.int (p + 1 + (i : Int)) = _; rw [show p + 1 + (i : Int) = p + (i : Int) + 1 by omega]]
      · exact (x2.trans (x3.mono fun _ z => .inl z)).trans (Ext.put hcl3 (.inr rfl) (fun _ z => by cases z) (fun _ z => by cases z))
    · rintro σ H2 ⟨_, hm2, hcl2, x2⟩
      rw [show (nV f.eaten).length = f.eaten.length from List.length_map .., List.take_length] at hcl2
      rw [show (nV f.eaten).length = f.eaten.length from List.length_map ..] at hm2
      exact q _ hm2 hcl2 x2
end
end Bw
namespace Bw
open PySem PySem.Spec PyProof.Rows L2 GxR Gx RZ
section
variable {base : Heap} {K : PySem.W.Frag} {mg : Str → Option Value} {P : Program} {w : World}
abbrev mc3 (m nl cl : Addr) : Addr → Prop := fun x => x = m ∨ x = nl ∨ x = cl
def spMake (C : Addr) : Sp := fun vs H Q _ => ∃ (m dx fr nl cl : Addr) (p : Int) (name box : Nat) (same : Bool) (ns cs : List V), vs = [.ref m, .int name, .int box, .bl same] ∧ H m = some (.ins C dx (kfs fr nl cl p)) ∧ H nl = some (.lst ns) ∧ H cl = some (.lst cs) ∧ nl ≠ cl ∧ name < ns.length ∧ box < cs.length ∧
  ∀ H', H' m = some (.ins C dx (kfs fr nl cl (p + 1 + ownBy same))) → H' nl = some (.lst (ns.set name (.int (p + 1)))) → H' cl = some (.lst (cs.set box (.int (p + 1 + ownBy same)))) → Ext (mc3 m nl cl) H H' → Q .non H'
theorem scMake : FnScope ["self", "name", "box", "same", "mark"] ["self", "name", "box", "same"] (defScope s_k_make) := ⟨rfl, rfl, rfl, by decide +kernel, rfl, by decide +kernel, by decide +kernel⟩
theorem ok_make {f C fU : Addr} {fd fdU : FuncData} (D : Dm K C "make" "Marks.make" s_k_make ["self", "name", "box", "same"] f fd) (DU : Dm K C "fresh" "Marks.fresh" s_k_fresh ["self"] fU fdU) (M : Kcls K C) : FnOk P w K mg base CX0 2 f fd ["self", "name", "box", "same"] (spMake C) := by
  have GU : FnOk P w K mg base CX0 1 fU fdU ["self"] (spFresh C) := ok_fresh DU M
  refine D.F.ok scMake (fun vs H Q E h => ?_) (fun cdv A outer s H vs Q E hr h => ?_)
  · obtain ⟨m, dx, fr, nl, cl, p, name, box, same, ns, cs, rfl, _⟩ := h
    rfl
  · obtain ⟨m, dx, fr, nl, cl, p, name, box, same, ns, cs, rfl, hm, hnl, hcl, nnc, nlt, blt, q⟩ := h
    have nmc : m ≠ cl := fun z => by
      rw [z, hcl] at hm
      cases hm
    have nmn : m ≠ nl := fun z => by
      rw [z, hnl] at hm
      cases hm
    refine ⟨_, pss_cons (ps_set (i := 4) scMake.nd rfl (.inl rfl) (pe_meth0 (pv 0) M.cls DU.at_ GU hr DU.b .nil pass0))
      (pss_cons (ps_asg (pv 4) (pg_sub (pe_fld (pv 0) rfl) (pv 1) set_list))
      (pss_one (ps_asg (pe_ifExp (pt_val (pv 3)) (pv 4) (pe_meth0 (pv 0) M.cls DU.at_ GU hr DU.b .nil pass0)) (pg_sub (pe_fld (pv 0) rfl) (pv 2) set_list)))), ?_⟩
    have l1 : ∀ p, (kfs fr nl cl p).lookup ("cells" : Str) = some (.ref cl) := fun _ => rfl
    have l2 : ∀ p, (kfs fr nl cl p).lookup ("named" : Str) = some (.ref nl) := fun _ => rfl
    have l3 : ∀ p, (kfs fr nl cl p).lookup ("fresh" : Str) = none := fun _ => rfl
    refine ⟨_, rfl, m, dx, _, rfl, hm, l3 _, m, dx, fr, nl, cl, p, rfl, hm, fun H1 hm1 x1 => ?_⟩
    have hnl1 := x1.lst (fun z : nl = m => nmn z.symm) hnl
    have hcl1 := x1.lst (fun z : cl = m => nmc z.symm) hcl
    refine ⟨_, rfl, _, rfl, m, C, dx, _, _, rfl, hm1, M.cls, M.named, l2 _, _, rfl, nl, _, name, name, rfl, rfl, hnl1, ixN_nat nlt, ?_⟩
    have hm2 : (upd H1 nl (.lst (ns.set name (.int (p + 1))))) m = some (.ins C dx (kfs fr nl cl (p + 1))) := by rw [upd_ne nmn]; exact hm1
    have hnl2 : (upd H1 nl (.lst (ns.set name (.int (p + 1))))) nl = some (.lst (ns.set name (.int (p + 1)))) := upd_same
    have hcl2 : (upd H1 nl (.lst (ns.set name (.int (p + 1))))) cl = some (.lst cs) := by rw [upd_ne nnc.symm]; exact hcl1
    have x2 : Ext (mc3 m nl cl) H (upd H1 nl (.lst (ns.set name (.int (p + 1))))) := (x1.mono fun _ z => .inl z).trans (Ext.put hnl1 (.inr (.inl rfl)) (fun _ z => by cases z) (fun _ z => by cases z))
    generalize upd H1 nl (.lst (ns.set name (.int (p + 1)))) = H2 at hm2 hnl2 hcl2 x2 ⊢
    cases same with
    | true =>
      refine ⟨_, rfl, _, rfl, iteT ⟨_, rfl, _, rfl, m, C, dx, _, _, rfl, hm2, M.cls, M.cells, l1 _, _, rfl, cl, _, box, box, rfl, rfl, hcl2, ixN_nat blt, ?_⟩⟩
      rw [show p + 1 + ((ownBy true : Nat) : Int) = p + 1 by show p + 1 + ((0 : Nat) : Int) = _; omega] at q
      exact q _ (by rw [upd_ne nmc]; exact hm2) (by rw [upd_ne nnc]; exact hnl2) upd_same (x2.trans (Ext.put hcl2 (.inr (.inr rfl)) (fun _ z => by cases z) (fun _ z => by cases z)))
    | false =>
      refine ⟨_, rfl, _, rfl, iteF ⟨_, rfl, m, dx, _, rfl, hm2, l3 _, m, dx, fr, nl, cl, p + 1, rfl, hm2, fun H3 hm3 x3 => ?_⟩⟩
      have hnl3 := x3.lst (fun z : nl = m => nmn z.symm) hnl2
      have hcl3 := x3.lst (fun z : cl = m => nmc z.symm) hcl2
      refine ⟨_, rfl, m, C, dx, _, _, rfl, hm3, M.cls, M.cells, l1 _, _, rfl, cl, _, box, box, rfl, rfl, hcl3, ixN_nat blt, ?_⟩
      rw [show p + 1 + ((ownBy false : Nat) : Int) = p + 1 + 1 from rfl] at q
      exact q _ (by rw [upd_ne nmc]; exact hm3) (by rw [upd_ne nnc]; exact hnl3) upd_same ((x2.trans (x3.mono fun _ z => .inl z)).trans (Ext.put hcl3 (.inr (.inr rfl)) (fun _ z => by cases z) (fun _ z => by cases z)))
end
end Bw
namespace Bw
open PySem PySem.Spec PyProof.Rows L2 GxR Gx RZ
/-- the walk over enumerate(list), where the list stays -/
theorem for_enumL {K : PySem.W.Frag} {a : Addr} {xs : List V} {g : TG} {tb : TS} {D : Ends} {σ : L2.St} {H : Hp} (Pv : Nat → L2.St → Hp → Prop) (h0 : Pv 0 σ H) (hq : ∀ i σ H, Pv i σ H → SqL K H a xs)
    (hs : ∀ (i : Nat) (x : V) (t : Addr) (σ : L2.St) (H : Hp), xs[i]? = some x → Pv i σ H → H t = none → g (.ref t) σ (upd H t (.tup [.int (i : Nat), x])) fun σ2 H2 => tb { D with nx := Pv (i + 1), ct := Pv (i + 1), bk := D.nx } σ2 H2) (hd : ∀ σ H, Pv xs.length σ H → D.nx σ H) :
    ∃ W : Nat → Nat → L2.St → Hp → Prop, (∃ m, W 0 m σ H) ∧ ∀ i m σ H, W i m σ H → ((Ite K a).stop i H ∧ D.nx σ H) ∨ ((Ite K a).go i H ∧ ∃ N : L2.St → Hp → Prop, (∀ σ' H', N σ' H' → ∃ m', m' < m ∧ W (i + 1) m' σ' H') ∧ ∀ v H', (Ite K a).yld i H v H' → g v σ H' fun σ2 H2 => tb { D with nx := N, ct := N, bk := D.nx } σ2 H2) := by
  refine ⟨fun i m σ H => m = xs.length - i ∧ i ≤ xs.length ∧ Pv i σ H, ⟨_, rfl, Nat.zero_le _, h0⟩, ?_⟩
  rintro i m σ H ⟨rfl, le, here⟩
  have isL := hq i σ H here
  by_cases last : i = xs.length
  · subst last
    exact .inl ⟨⟨xs, isL, Nat.le_refl _⟩, hd σ H here⟩
  · have lt : i < xs.length := by omega
    refine .inr ⟨⟨xs, xs[i], isL, List.getElem?_eq_getElem lt⟩, Pv (i + 1), fun σ' H' n => ⟨xs.length - (i + 1), by omega, rfl, by omega, n⟩, ?_⟩
    rintro v H' ⟨t, x, rfl, nt, rfl, isX⟩
    exact hs i x t σ H (isX xs isL) here nt
theorem rg_names (names : Nat) : rgV 0 (names : Int) = (namesW names).map pI := by
  unfold rgV namesW
  rw [List.map_map, show ((names : Int) - 0).toNat = names by omega]
  apply List.map_congr_left
  intro i _
  show V.int (0 + (i : Int)) = V.int (i : Int)
  rw [Int.zero_add]
theorem rg_cells (names cells : Nat) : rgV (names : Int) ((names : Int) + (cells : Int)) = (cellsW names cells).map pI := by
  unfold rgV cellsW
  rw [List.map_map, show ((names : Int) + (cells : Int) - (names : Int)).toNat = cells by omega]
  rfl
def kf1 (fr : Addr) : List (Str × V) := [("frame", .ref fr)]
def kf2 (fr nl : Addr) : List (Str × V) := [("frame", .ref fr), ("named", .ref nl)]
def kf3 (fr nl cl : Addr) : List (Str × V) := [("frame", .ref fr), ("named", .ref nl), ("cells", .ref cl)]
theorem kfs_1 (fr : Addr) : putF "frame" (.ref fr) [] = kf1 fr := rfl
theorem kfs_2 (fr nl : Addr) : putF "named" (.ref nl) (kf1 fr) = kf2 fr nl := by
  rw [kf1, putNe (by decide +kernel)]
  rfl
theorem kfs_3 (fr nl cl : Addr) : putF "cells" (.ref cl) (kf2 fr nl) = kf3 fr nl cl := by
  rw [kf2, putNe (by decide +kernel), putNe (by decide +kernel)]
  rfl
theorem kfs_4 (fr nl cl : Addr) (p : Int) : putF "newest" (.int p) (kf3 fr nl cl) = kfs fr nl cl p := by
  rw [kf3, putNe (by decide +kernel), putNe (by decide +kernel), putNe (by decide +kernel)]
  rfl
section
variable {base : Heap} {K : PySem.W.Frag} {mg : Str → Option Value} {P : Program} {w : World}
def spInitK (C : Addr) : Sp := fun vs H Q _ => ∃ (m dx a pl : Addr) (names : Nat) (f : Fr) (ps : List Pl), vs = [.ref m, .int names, .ref a, .ref pl] ∧ H m = some (.ins C dx []) ∧ FrAt H a f ∧ f.Ok ∧ Tp H (.ref pl) (.tuple (ps.map Pl.d)) ∧ ps.length ≤ names ∧ names ≤ 8 ∧ (∀ q ∈ ps, q.Ok f) ∧
  ∀ H' nl cl, H nl = none → H cl = none → nl ≠ cl → H' m = some (.ins C dx (kfs a nl cl (((names + (f.boxes + f.slots) : Nat) : Int) - 1))) → H' nl = some (.lst ((namesW names).map pI)) → H' cl = some (.lst ((layW f (namesW names) ps 0 (cellsW names (f.boxes + f.slots))).map pI)) → Ext (fun x => x = m) H H' → Q .non H'
abbrev nInitK : List Str := ["self", "names", "frame", "places", "cells", "name", "cell"]
theorem scInitK : FnScope nInitK ["self", "names", "frame", "places"] (defScope s_k_init) := ⟨rfl, rfl, rfl, by decide +kernel, rfl, by decide +kernel, by decide +kernel⟩
theorem ok_initK {f C fP fC : Addr} {fd fdP fdC : FuncData} (F : Fun K "__init__" "Marks.__init__" s_k_init f fd) (DP : Df K mg "place_cells" s_place_cells ["frame", "places"] fP fdP) (DC : Df K mg "cell_of" s_cell_of ["frame", "part", "number"] fC fdC) (M : Kcls K C) (B : Bt mg) : FnOk P w K mg base CX0 3 f fd ["self", "names", "frame", "places"] (spInitK C) := by
  have GP : FnOk P w K mg base CX0 2 fP fdP ["frame", "places"] spPlCells := ok_plCells DP DC
  refine F.ok scInitK (fun vs H Q E h => ?_) (fun cdv A outer s H vs Q E hr h => ?_)
  · obtain ⟨m, dx, a, pl, names, f, ps, rfl, _⟩ := h
    rfl
  · obtain ⟨m, dx, a, pl, names, f, ps, rfl, hm, hf, ok, hpl, pn, n8, pok, q⟩ := h
    refine ⟨_, pss_cons (ps_set (i := 4) scInitK.nd rfl (.inl rfl) (pe_op op_add (pe_ix ix_tup (pv 2) pe_int (fun _ _ => rfl)) (pe_ix ix_tup (pv 2) pe_int (fun _ _ => rfl))))
      (pss_cons (ps_fld (pv 0) (pv 2) rfl)
      (pss_cons (ps_fld (pv 0) (pe_listRg rfl (by rfl) B.list (prg_1 (by rfl) B.range (pv 1))) rfl)
      (pss_cons (ps_fld (pv 0) (pe_listRg rfl (by rfl) B.list (prg_2 (by rfl) B.range (pv 1) (pe_op op_add (pv 1) (pv 4)))) rfl)
      (pss_cons (ps_fld (pv 0) (pe_op op_sub (pe_op op_add (pv 1) (pv 4)) pe_int) rfl)
      (pss_one (ps_for PassesOwn.never rfl (pi_enum (by rfl) B.enumerate (pa_cons (pcall DP GP hr (pa_cons (pv 2) (pa_cons (pv 3) pa_nil))) pa_nil)) (pg_tup rfl (pgs_cons (pg_name (i := 5) scInitK.nd rfl (.inl rfl)) (pgs_cons (pg_name (i := 6) scInitK.nd rfl (.inl rfl)) pgs_nil)))
        (pss_one (ps_asg (pe_ix ix_list (pe_fld (pv 0) rfl) (pv 5) (fun _ _ => rfl)) (pg_sub (pe_fld (pv 0) rfl) (pv 6) set_list))))))))), ?_⟩
    obtain ⟨e, ha, _⟩ := hf.ex
    have b6 := ok.b6
    have s8 := ok.s8
    have step : ∀ {H1 : Hp} {fs : List (Str × V)} {o : HO}, H1 m = some (.ins C dx fs) → Ext (fun x => x = m) H1 (upd H1 m o) := fun {H1 fs o} h => Ext.put h rfl (fun _ z => by cases z) (fun _ z => by cases z)
    refine ⟨_, rfl, a, _, 0, _, rfl, rfl, SqT.of ha, atI_nat (j := 0) rfl, _, rfl, a, _, 1, _, rfl, rfl, SqT.of ha, atI_nat (j := 1) rfl, _, _, rfl, rfl, ?_⟩
    refine ⟨_, rfl, _, rfl, m, C, dx, _, rfl, hm, M.cls, M.frame, by decide, ?_⟩
    rw [kfs_1]
    have hm1 : (upd H m (.ins C dx (kf1 a))) m = some (.ins C dx (kf1 a)) := upd_same
    have x1 : Ext (fun x => x = m) H (upd H m (.ins C dx (kf1 a))) := step hm
    generalize upd H m (.ins C dx (kf1 a)) = H1 at hm1 x1 ⊢
    refine ⟨_, rfl, _, rfl, RgOk.of_le (by omega) (by omega) (by omega) (by omega), fun nl nnl => ?_⟩
    have hm1' : (upd H1 nl (.lst (rgV 0 (names : Int)))) m = some (.ins C dx (kf1 a)) := by rw [upd_ne (ne_of_none hm1 nnl)]; exact hm1
    have hn1 : (upd H1 nl (.lst (rgV 0 (names : Int)))) nl = some (.lst ((namesW names).map pI)) := by rw [upd_same, rg_names]
    have x1' : Ext (fun x => x = m) H (upd H1 nl (.lst (rgV 0 (names : Int)))) := x1.trans (Ext.new nnl)
    have nnl0 : H nl = none := x1.dom nl nnl
    generalize upd H1 nl (.lst (rgV 0 (names : Int))) = H2 at hm1' hn1 x1' ⊢
    have nmn : m ≠ nl := fun z => by
      rw [z, hn1] at hm1'
      cases hm1'
    refine ⟨_, rfl, m, C, dx, _, rfl, hm1', M.cls, M.named, by show 1 < 1000; decide, ?_⟩
    rw [kfs_2]
    have hm2 : (upd H2 m (.ins C dx (kf2 a nl))) m = some (.ins C dx (kf2 a nl)) := upd_same
    have hn2 : (upd H2 m (.ins C dx (kf2 a nl))) nl = some (.lst ((namesW names).map pI)) := by rw [upd_ne nmn.symm]; exact hn1
    have x2 : Ext (fun x => x = m) H (upd H2 m (.ins C dx (kf2 a nl))) := x1'.trans (step hm1')
    generalize upd H2 m (.ins C dx (kf2 a nl)) = H3 at hm2 hn2 x2 ⊢
    refine ⟨_, rfl, _, rfl, _, rfl, _, _, rfl, rfl, _, _, rfl, rfl, RgOk.of_le (by omega) (by omega) (by omega) (by omega), fun cl ncl => ?_⟩
    have ecl : rgV (names : Int) ((names : Int) + ((f.boxes : Int) + (f.slots : Int))) = (cellsW names (f.boxes + f.slots)).map pI := rg_cells names (f.boxes + f.slots)
    have hm2' : (upd H3 cl (.lst (rgV (names : Int) ((names : Int) + ((f.boxes : Int) + (f.slots : Int)))))) m = some (.ins C dx (kf2 a nl)) := by rw [upd_ne (ne_of_none hm2 ncl)]; exact hm2
    have hn2' : (upd H3 cl (.lst (rgV (names : Int) ((names : Int) + ((f.boxes : Int) + (f.slots : Int)))))) nl = some (.lst ((namesW names).map pI)) := by rw [upd_ne (ne_of_none hn2 ncl)]; exact hn2
    have hc2' : (upd H3 cl (.lst (rgV (names : Int) ((names : Int) + ((f.boxes : Int) + (f.slots : Int)))))) cl = some (.lst ((cellsW names (f.boxes + f.slots)).map pI)) := by rw [upd_same, ecl]
    have x2' : Ext (fun x => x = m) H (upd H3 cl (.lst (rgV (names : Int) ((names : Int) + ((f.boxes : Int) + (f.slots : Int)))))) := x2.trans (Ext.new ncl)
    have ncl0 : H cl = none := x2.dom cl ncl
    have nnc : nl ≠ cl := ne_of_none hn2 ncl
    have nmc : m ≠ cl := ne_of_none hm2 ncl
    refine ⟨_, rfl, m, C, dx, _, rfl, hm2', M.cls, M.cells, by show 2 < 1000; decide, ?_⟩
    rw [kfs_3]
    refine ⟨_, rfl, _, rfl, _, _, rfl, rfl, _, _, rfl, rfl, _, rfl, m, C, dx, _, rfl, upd_same, M.cls, M.newest, by show 3 < 1000; decide, ?_⟩
    rw [kfs_4]
    generalize h5 : upd (upd (upd H3 cl (.lst (rgV (names : Int) ((names : Int) + ((f.boxes : Int) + (f.slots : Int)))))) m (.ins C dx (kf3 a nl cl))) m (.ins C dx (kfs a nl cl ((names : Int) + ((f.boxes : Int) + (f.slots : Int)) - 1))) = H5
    have hm5 : H5 m = some (.ins C dx (kfs a nl cl (((names + (f.boxes + f.slots) : Nat) : Int) - 1))) := by rw [← h5, upd_same]; rfl
    have hn5 : H5 nl = some (.lst ((namesW names).map pI)) := by rw [← h5, upd_ne nmn.symm, upd_ne nmn.symm]; exact hn2'
    have hc5 : H5 cl = some (.lst ((cellsW names (f.boxes + f.slots)).map pI)) := by rw [← h5, upd_ne nmc.symm, upd_ne nmc.symm]; exact hc2'
    have x5 : Ext (fun x => x = m) H H5 := by rw [← h5]; exact (x2'.trans (step hm2')).trans (step upd_same)
    clear h5
    refine ⟨_, rfl, _, rfl, a, pl, f, ps, rfl, hf.ext x5, hpl.ext x5, by omega, fun H6 r nr hr6 x6 => ?_⟩
    have hm6 := x6.oth m _ (fun z => z) (fun _ z => by cases z) hm5
    have hn6 := x6.lst (fun z => z) hn5
    have hc6 := x6.lst (fun z => z) hc5
    have nrm : r ≠ m := fun z => by rw [z, hm5] at nr; cases nr
    have nrc : r ≠ cl := fun z => by rw [z, hc5] at nr; cases nr
    have l1 : ∀ p, (kfs a nl cl p).lookup ("cells" : Str) = some (.ref cl) := fun _ => rfl
    have l2 : ∀ p, (kfs a nl cl p).lookup ("named" : Str) = some (.ref nl) := fun _ => rfl
    refine ⟨r, _, rfl, SqL.of hr6, for_enumL (xs := nV (ps.map (Pl.cell f))) (fun i σ H7 => (∃ v5 v6, σ = [some (.ref m), some (.int names), some (.ref a), some (.ref pl), some (.int ((f.boxes : Int) + (f.slots : Int))), v5, v6]) ∧ H7 m = some (.ins C dx (kfs a nl cl (((names + (f.boxes + f.slots) : Nat) : Int) - 1))) ∧ H7 nl = some (.lst ((namesW names).map pI)) ∧ H7 cl = some (.lst ((layW f (namesW names) (ps.take i) 0 (cellsW names (f.boxes + f.slots))).map pI)) ∧ H7 r = some (.lst (nV (ps.map (Pl.cell f)))) ∧ Ext (fun x => x = m) H H7)
      ⟨⟨_, _, rfl⟩, hm6, hn6, hc6, hr6, x5.trans (x6.mono fun _ z => z.elim)⟩ (fun i σ H7 z => SqL.of z.2.2.2.2.1) ?_ ?_⟩
    · rintro i x t σ H7 hx ⟨⟨v5, v6, rfl⟩, hm7, hn7, hc7, hr7, x7⟩ nt
      have ilt : i < ps.length := by
        have := (List.getElem?_eq_some_iff.mp hx).1
        rw [List.length_map, List.length_map] at this
        exact this
      have eiq : ps[i]? = some ps[i] := List.getElem?_eq_getElem ilt
      have qok := pok _ (List.getElem_mem ilt)
      generalize ps[i] = pq at eiq qok
      obtain rfl : x = V.int (pq.cell f : Nat) := by
        rw [List.getElem?_map, List.getElem?_map, eiq] at hx
        exact (Option.some.inj hx).symm
      have x8 : Ext no H7 (upd H7 t (.tup [.int (i : Nat), V.int (pq.cell f : Nat)])) := Ext.new nt
      have ht8 : (upd H7 t (.tup [.int (i : Nat), V.int (pq.cell f : Nat)])) t = some (.tup [.int (i : Nat), V.int (pq.cell f : Nat)]) := upd_same
      generalize upd H7 t (.tup [.int (i : Nat), V.int (pq.cell f : Nat)]) = H8 at x8 ht8 ⊢
      have hm8 := x8.oth m _ (fun z => z) (fun _ z => by cases z) hm7
      have hn8 := x8.lst (fun z => z) hn7
      have hc8 := x8.lst (fun z => z) hc7
      have hr8 := x8.lst (fun z => z) hr7
      have nlen : (namesW names).length = names := by rw [namesW, List.length_map, List.length_range]
      have clen : (layW f (namesW names) (ps.take i) 0 (cellsW names (f.boxes + f.slots))).length = f.boxes + f.slots := by rw [layW_len, cellsW, List.length_map, List.length_range]
      have cellLt := Pl.cell_lt qok
      have get : ((namesW names).map pI)[i]? = some (pI (atG m0 (namesW names) i)) := by rw [List.getElem?_map, atG_get (d := m0) (show i < (namesW names).length by rw [nlen]; omega)]; rfl
      refine ⟨t, _, rfl, SqT.of ht8, rfl, _, _, rfl, _, _, rfl, rfl, ?_⟩
      refine ⟨_, rfl, m, C, dx, _, _, rfl, hm8, M.cls, M.named, l2 _, _, rfl, nl, _, i, _, rfl, rfl, SqL.of hn8, atI_nat get, ?_⟩
      refine ⟨_, rfl, m, C, dx, _, _, rfl, hm8, M.cls, M.cells, l1 _, _, rfl, cl, _, pq.cell f, pq.cell f, rfl, rfl, hc8, ixN_nat (by rw [List.length_map, clen]; exact cellLt), ?_⟩
      refine ⟨⟨_, _, rfl⟩, by rw [upd_ne nmc]; exact hm8, by rw [upd_ne nnc]; exact hn8, ?_, by rw [upd_ne nrc]; exact hr8, (x7.trans (x8.mono fun _ z => z.elim)).own ncl0⟩
      rw [upd_same, List.take_add_one, eiq]
      show _ = some (HO.lst ((layW f (namesW names) (ps.take i ++ [pq]) 0 (cellsW names (f.boxes + f.slots))).map pI))
      rw [layW_snoc, List.map_set, show (ps.take i).length = i by rw [List.length_take]; omega, Nat.zero_add]
    · rintro σ H7 ⟨_, hm7, hn7, hc7, _, x7⟩
      rw [show (nV (ps.map (Pl.cell f))).length = ps.length by rw [List.length_map, List.length_map], List.take_length] at hc7
      exact q _ nl cl nnl0 ncl0 nnc hm7 hn7 hc7 x7
end
end Bw
namespace Bw
open PySem PySem.Spec PyProof.Rows L2 GxR Gx RZ
def talkV : List V := [.str "say", .str "if", .str "go", .str "end"]
theorem out_talk (row : Row) : (!inV (.str (wordOf row)) talkV) = makes row := by
  cases row with
  | put => exact (by decide +kernel : (!inV (.str "put") talkV) = true)
  | copy => exact (by decide +kernel : (!inV (.str "copy") talkV) = true)
  | add => exact (by decide +kernel : (!inV (.str "add") talkV) = true)
  | take => exact (by decide +kernel : (!inV (.str "take") talkV) = true)
  | less => exact (by decide +kernel : (!inV (.str "less") talkV) = true)
  | call => exact (by decide +kernel : (!inV (.str "call") talkV) = true)
  | say => exact (by decide +kernel : (!inV (.str "say") talkV) = false)
  | iff => exact (by decide +kernel : (!inV (.str "if") talkV) = false)
  | go => exact (by decide +kernel : (!inV (.str "go") talkV) = false)
  | fin => exact (by decide +kernel : (!inV (.str "end") talkV) = false)
section
variable {base : Heap} {K : PySem.W.Frag} {mg : Str → Option Value} {P : Program} {w : World}
def spMakes : Sp := fun vs H Q _ => ∃ (r : Addr) (row : Row), vs = [.ref r] ∧ H r = some (.tup (rowV row)) ∧ ∀ H', Ext no H H' → Q (.bl (makes row)) H'
theorem scMakes : FnScope ["_law_row_here"] ["_law_row_here"] (defScope s_law_makes) := ⟨rfl, rfl, rfl, by decide +kernel, rfl, by decide +kernel, by decide +kernel⟩
theorem ok_makes {f : Addr} {fd : FuncData} (D : Df K mg "_law_makes" s_law_makes ["_law_row_here"] f fd) : FnOk P w K mg base CX0 1 f fd ["_law_row_here"] spMakes := by
  refine D.F.ok scMakes (fun vs H Q E h => ?_) (fun cdv A outer s H vs Q E hr h => ?_)
  · obtain ⟨r, row, rfl, _⟩ := h
    rfl
  · obtain ⟨r, row, rfl, hrow, q⟩ := h
    refine ⟨_, pss_one (ps_ret (pe_cmpR op_notIn_seq (pe_ix ix_tup (pv 0) pe_int (fun _ _ => rfl)) (pe_tup (pa_cons pe_str (pa_cons pe_str (pa_cons pe_str (pa_cons pe_str pa_nil))))) (by rfl))), ?_⟩
    refine ⟨_, rfl, r, _, 0, _, rfl, rfl, SqT.of hrow, first_word (K := K), by show 4 ≤ sizeLine; decide, fun t nt => ⟨t, talkV, rfl, .inr (SqT.of upd_same), rfl, by decide +kernel, ?_⟩⟩
    have z := q _ (Ext.new (o := .tup talkV) nt)
    rw [← out_talk] at z
    exact z
end
end Bw
namespace Bw
open PySem PySem.Spec PyProof.Rows L2 GxR Gx RZ
/-- a method whose code object is known -/
structure Dmc (K : PySem.W.Frag) (C : Addr) (m qual : Str) (st : Stmt) (ps : List Str) (f : Addr) (fd : FuncData) (c : Addr) : Prop where
  D : Dm K C m qual st ps f fd
  ex : ∃ (oc : Value) (od : Option Addr) (kV doc pm : Value) (an : Option Addr) (ct : Value) (osl : Array (Option Value)),
    fd = PySem.W.fnOf m qual (defArgs st) (defBody st) (defScope st) .none kV doc pm an (.ref c) ct ∧ K.lookup f = some ⟨oc, od, .func fd, osl⟩ ∧ PySem.W.codeIn K (.ref c) qual = true
section
variable {base : Heap} {K : PySem.W.Frag} {mg : Str → Option Value} {P : Program} {w : World}
theorem Dmc.ok {C : Addr} {x qual : Str} {st : Stmt} {f c : Addr} {fd : FuncData} {N ps : List Str} {k : Nat} {sp : Sp} (F : Dmc K C x qual st ps f fd c) (S : FnScope N ps (defScope st)) (len : ∀ vs H Q E, sp vs H Q E → vs.length = ps.length)
    (body : ∀ (A : Around) (outer : List Env) (s : Shared) (H : Hp) (vs : List V) (Q : VK) (E : XK), Room k (A.deeper (envOfC qual (defScope st) s.heap.objs.size f (.ref c))) → sp vs H Q E →
      ∃ t, PSs (cxOf CX0 P w K mg base N qual (defScope st) f (.ref c) A outer s H E).nox (defBody st) t ∧ t { nx := fun _ H' => Q .non H', rt := Q } (start N vs) H) : FnOk P w K mg base CX0 (k + 1) f fd ps sp := by
  obtain ⟨oc, od, kV, doc, pm, an, ct, osl, same, lk, hcd⟩ := F.ex
  subst same
  refine fn_of lk hcd S len fun A outer s H vs Q E room here => ?_
  exact (body A outer s H vs Q E room here).elim fun t z => ⟨t, z.1.nox, z.2⟩
def sameG (n c : List Mark) (xs ys : List Nat) : Bool := (xs.zip ys).all fun q => decide ((atG m0 n q.1).1 = (atG m0 c q.2).1)
def spAgree (C T : Addr) : Sp := fun vs H Q _ => ∃ (m dx fr nl cl tn tb : Addr) (p : Int) (n c : List Mark) (xs ys : List Nat), vs = [.ref m, .ref tn, .ref tb] ∧ H m = some (.ins C dx (kfs fr nl cl p)) ∧ H nl = some (.lst (n.map pI)) ∧ H cl = some (.lst (c.map pI)) ∧ H tn = some (.tup (nV xs)) ∧ H tb = some (.tup (nV ys)) ∧
  xs.length = ys.length ∧ (∀ x ∈ xs, x < n.length) ∧ (∀ y ∈ ys, y < c.length) ∧ TabG H T ∧ ∀ H', Ext no H H' → Q (.bl (sameG n c xs ys)) H'
abbrev nAgree : List Str := ["self", "names", "boxes", "name", "box"]
theorem scAgree : FnScope nAgree ["self", "names", "boxes"] (defScope s_k_agree) := ⟨rfl, rfl, rfl, by decide +kernel, rfl, by decide +kernel, by decide +kernel⟩
theorem ok_agree {f C c T : Addr} {fd : FuncData} (D : Dmc K C "agree" "Marks.agree" s_k_agree ["self", "names", "boxes"] f fd c) (TB : TabB base mg c T) (M : Kcls K C) (B : Bt mg) : FnOk P w K mg base CX0 3 f fd ["self", "names", "boxes"] (spAgree C T) := by
  refine D.ok scAgree (fun vs H Q E h => ?_) (fun A outer s H vs Q E hr h => ?_)
  · obtain ⟨m, dx, fr, nl, cl, tn, tb, p, n, c, xs, ys, rfl, _⟩ := h
    rfl
  · obtain ⟨m, dx, fr, nl, cl, tn, tb, p, n, c, xs, ys, rfl, hm, hn, hc, hx, hy, len, xn, yc, tab, q⟩ := h
    refine ⟨_, pss_one (ps_ret (pe_allG (P := T) (own := [("name", 3), ("box", 4)]) (k := 0) (g := gTup K 2 (gCons (gName 3) (gCons (gName 4) gNil))) (tt := tYes) (te := tOp rEq (tOp (rIxL K) (tFld K (tVar 0) "named") (tVar 3)) (tOp (rIxL K) (tFld K (tVar 0) "cells") (tVar 4))) hr (by rfl) B.all TB rfl scAgree.nd (pi_zipA (by rfl) B.zip (pa_cons (pv 1) (pa_cons (pv 2) pa_nil)))
        (blkOk_by (N := nAgree) (sc := defScope s_k_agree) (by decide +kernel))
        (fun _ _ _ _ _ _ _ _ _ => pg_tup rfl (pgs_cons (pg_name (i := 3) scAgree.nd rfl (Or.inl rfl)) (pgs_cons (pg_name (i := 4) scAgree.nd rfl (Or.inl rfl)) pgs_nil))) (fun _ _ _ _ _ _ _ _ _ => pts_nil)
        (fun _ _ _ _ _ _ _ _ hA => pe_cmpR op_eq (pe_ix (r := rIxL K) ix_list (pe_fld (pv 0) rfl) (pv 3) (fun _ _ => rfl)) (pe_ix (r := rIxL K) ix_list (pe_fld (pv 0) rfl) (pv 4) (fun _ _ => rfl)) (nomark _)))), ?_⟩
    have l1 : (kfs fr nl cl p).lookup ("cells" : Str) = some (.ref cl) := rfl
    have l2 : (kfs fr nl cl p).lookup ("named" : Str) = some (.ref nl) := rfl
    refine ⟨_, rfl, _, rfl, tn, tb, _, _, rfl, .inr ⟨SqT.of hx, SqT.of hy, tab, fun H3 t3 => ?_⟩⟩
    have x3 : Ext no H H3 := Ext.tbd tab t3
    refine gx_zipT (xs := nV xs) (ys := nV ys) (by rw [List.length_map, List.length_map]; exact len) (fun i acc H4 => Ext no H3 H4 ∧ sameG n c (xs.take i) (ys.take i) = true) ⟨Ext.refl _ _, rfl⟩ (fun i acc H4 z => ⟨SqT.of (z.1.tup _ _ (x3.tup _ _ hx)), SqT.of (z.1.tup _ _ (x3.tup _ _ hy))⟩) ?_ ?_
    · rintro i x y t acc H4 isX isY ⟨x4, so⟩ nt
      rw [List.getElem?_map] at isX isY
      obtain ⟨u, hu, rfl⟩ : ∃ u, xs[i]? = some u ∧ x = V.int (u : Nat) := by
        cases e : xs[i]? with
        | none => rw [e] at isX; cases isX
        | some u => rw [e] at isX; exact ⟨u, rfl, (Option.some.inj isX).symm⟩
      obtain ⟨v, hv, rfl⟩ : ∃ v, ys[i]? = some v ∧ y = V.int (v : Nat) := by
        cases e : ys[i]? with
        | none => rw [e] at isY; cases isY
        | some v => rw [e] at isY; exact ⟨v, rfl, (Option.some.inj isY).symm⟩
      have un := xn u (List.mem_of_getElem? hu)
      have vc := yc v (List.mem_of_getElem? hv)
      have x5 : Ext no H (upd H4 t (.tup [.int (u : Nat), .int (v : Nat)])) := (x3.trans x4).trans (Ext.new nt)
      have hm5 := x5.oth m _ (fun z => z) (fun _ z => by cases z) hm
      have hn5 := x5.lst (fun z => z) hn
      have hc5 := x5.lst (fun z => z) hc
      have getu : (n.map pI)[u]? = some (pI (atG m0 n u)) := by rw [List.getElem?_map, atG_get (d := m0) un]; rfl
      have getv : (c.map pI)[v]? = some (pI (atG m0 c v)) := by rw [List.getElem?_map, atG_get (d := m0) vc]; rfl
      refine ⟨t, _, rfl, SqT.of upd_same, rfl, _, _, rfl, _, _, rfl, rfl, ?_⟩
      refine ⟨rfl, ?_⟩
      refine ⟨_, rfl, m, C, dx, _, _, rfl, hm5, M.cls, M.named, l2, _, rfl, nl, _, u, _, rfl, rfl, SqL.of hn5, atI_nat getu, _, rfl, m, C, dx, _, _, rfl, hm5, M.cls, M.cells, l1, _, rfl, cl, _, v, _, rfl, rfl, SqL.of hc5, atI_nat getv, ?_⟩
      by_cases e : (atG m0 n u).1 = (atG m0 c v).1
      · refine ⟨rfl, ?_⟩
        rw [decide_eq_true (show pI (atG m0 n u) = pI (atG m0 c v) from congrArg V.int e)]
        refine ⟨⟨true, rfl, fun z => by cases z⟩, fun _ => ⟨x4.trans (Ext.new nt), ?_⟩⟩
        rw [List.take_add_one, List.take_add_one, hu, hv]
        show sameG n c (xs.take i ++ [u]) (ys.take i ++ [v]) = true
        unfold sameG at so ⊢
        rw [List.zip_append (by rw [List.length_take, List.length_take, len]), List.all_append, so]
        show (decide _ && true) = true
        rw [decide_eq_true e]
        rfl
      · refine ⟨rfl, ?_⟩
        rw [decide_eq_false (fun z : pI (atG m0 n u) = pI (atG m0 c v) => e (V.int.inj z))]
        refine ⟨⟨false, rfl, fun _ => ?_⟩, fun z => by cases z⟩
        have no' : sameG n c xs ys = false := by
          refine List.all_eq_false.mpr ⟨(u, v), List.mem_of_getElem? (i := i) ?_, ?_⟩
          · rw [List.getElem?_zip_eq_some]
            exact ⟨hu, hv⟩
          · rw [decide_eq_false e]
            exact Bool.false_ne_true
        have z := q _ x5
        rw [no'] at z
        exact z
    · rintro acc H4 ⟨x4, so⟩
      rw [show (nV xs).length = xs.length from List.length_map .., List.take_length, len, List.take_length] at so
      have z := q _ (x3.trans x4)
      rw [so] at z
      exact z
end
end Bw
namespace Bw
open PySem PySem.Spec PyProof.Rows L2 GxR Gx RZ
section
variable {base : Heap} {K : PySem.W.Frag} {mg : Str → Option Value} {P : Program} {w : World}
/-- of the row's boxes those that it is handed -/
def handG (row : Row) (bs : List Nat) : List Nat := if isMaker row = true then bs.drop 1 else bs
def spHandG : Sp := fun vs H Q _ => ∃ (r o : Addr) (row : Row) (bs : List Nat), vs = [.ref r, .ref o] ∧ H r = some (.tup (rowV row)) ∧ H o = some (.tup (nV bs)) ∧ bs.length = (rowNames row).length ∧ ∀ H' t, H' t = some (.tup (nV (handG row bs))) → Ext no H H' → Q (.ref t) H'
theorem ok_handG {f m : Addr} {fd : FuncData} (D : Df K mg "handed" s_handed ["row", "ones"] f fd) (MK : Makers K mg m) : FnOk P w K mg base CX0 1 f fd ["row", "ones"] spHandG := by
  refine D.F.ok scHanded (fun vs H Q E h => ?_) (fun cdv A outer s H vs Q E hr h => ?_)
  · obtain ⟨r, o, row, bs, rfl, _⟩ := h
    rfl
  · obtain ⟨r, o, row, bs, rfl, hrow, ho, len, q⟩ := h
    refine ⟨_, pss_one (ps_ret (pe_ifExp (pt_cmpR op_in_seq (pe_ix ix_tup (pv 0) pe_int (fun _ _ => rfl)) (pe_glob (v := .ref m) (by rfl) MK.g rfl) (by rfl)) (pe_slice sl_tup (pv 1) (po_some pe_int) po_none) (pv 1))), ?_⟩
    refine ⟨_, rfl, r, _, 0, _, rfl, rfl, SqT.of hrow, first_word (K := K), m, _, rfl, .inr (MK.tup H), rfl, by decide +kernel, _, rfl, ?_⟩
    show if inV (.str (wordOf row)) makersV = true then _ else _
    rw [in_makers]
    by_cases e : isMaker row = true
    · rw [e]
      have pos : 0 < (nV bs).length := by
        rw [show (nV bs).length = bs.length from List.length_map .., len]
        cases row <;> first | exact Nat.zero_lt_succ _ | cases e
      refine iteT ⟨_, rfl, 1, rfl, o, _, rfl, SqT.of ho, notAll (k := 1) (by decide) pos, fun p np => q _ p ?_ (Ext.new np)⟩
      rw [upd_same, show cutV (nV bs) (some 1) none = (nV bs).drop 1 from cutFrom _ 1, handG, if_pos e]
      show some (HO.tup (List.drop 1 (List.map _ bs))) = _
      rw [← List.map_drop]
    · rw [Bool.not_eq_true] at e
      rw [e]
      refine iteF ⟨_, rfl, q _ o ?_ (Ext.refl _ _)⟩
      rw [ho, handG, if_neg (by rw [e]; exact Bool.false_ne_true)]
theorem handG_M (row : Row) (xs : List Nat) : handG row xs = handM row xs := by
  cases row <;> rfl
end
end Bw
namespace Bw
open PySem PySem.Spec PyProof.Rows L2 GxR Gx RZ
theorem grpE {H : Hp} {x : V} {g : Grp} (h : Tp H x g.d) : ∃ t ah bo be : Addr, x = .ref t ∧ H t = some (.tup [.ref ah, .ref bo, .ref be]) ∧ Tp H (.ref ah) (.tuple (g.ahead.map Mv.d)) ∧ H bo = some (.tup (nV g.boxes)) ∧ Tp H (.ref be) (.tuple (g.behind.map Mv.d)) := by
  obtain ⟨t, vs, e, ht, all⟩ := h.tupE
  cases all with
  | cons h1 t1 =>
    cases t1 with
    | cons h2 t2 =>
      cases t2 with
      | cons h3 t3 =>
        cases t3
        obtain ⟨a1, _, e1, _⟩ := h1.tupE
        obtain ⟨a2, v2, e2, k2, l2⟩ := h2.tupE
        obtain ⟨a3, _, e3, _⟩ := h3.tupE
        subst e1 e2 e3
        have k3 := l2.natsE
        exact ⟨t, a1, a2, a3, e, ht, h1, by rw [k2, k3], h3⟩
theorem pI_int (c : List Mark) : c.map pI = (c.map Prod.fst).map V.int := by rw [List.map_map]; rfl
theorem mv_pI (f : Fr) (ms : List Mv) (c : List Mark) : (mvsDo f ms (c.map Prod.fst)).map V.int = (mvsG m0 f ms c).map pI := by
  rw [pI_int, ← mvsG_map Prod.fst m0 f ms c, ← mvsG_int]
  rfl
section
variable {base : Heap} {K : PySem.W.Frag} {mg : Str → Option Value} {P : Program} {w : World}
/-- the moves of the program, over marks -/
theorem spMoves_marks {H : Hp} {a mv cl : Addr} {f : Fr} {ms : List Mv} {c : List Mark} {Q : VK} {E : XK} (hf : FrAt H a f) (tm : Tp H (.ref mv) (.tuple (ms.map Mv.d))) (ok : ∀ m ∈ ms, m.Ok f) (hc : H cl = some (.lst (c.map pI))) (len : c.length = f.boxes + f.slots)
    (q : ∀ H', H' cl = some (.lst ((mvsG m0 f ms c).map pI)) → Ext (fun x => x = cl) H H' → Q .non H') : spMovesG [.ref a, .ref mv, .ref cl] H Q E := by
  refine ⟨a, mv, cl, f, ms, c.map Prod.fst, rfl, hf, tm, ok, by rw [hc, pI_int], by rw [List.length_map]; exact len, fun H' h x => q H' ?_ x⟩
  rw [h, mv_pI]
abbrev nDoK : List Str := ["self", "row", "group", "ahead", "boxes", "behind", "names", "same"]
theorem scDoK : FnScope nDoK ["self", "row", "group"] (defScope s_k_do_row) := ⟨rfl, rfl, rfl, by decide +kernel, rfl, by decide +kernel, by decide +kernel⟩
end
end Bw
namespace Bw
open PySem PySem.Spec PyProof.Rows L2 GxR Gx RZ
/-! a statement with a word of one's own behind it -/
def tMid (t u : TS) : TS := fun D σ H => ∃ J : L2.St → Hp → Prop, t { D with nx := J } σ H ∧ ∀ σ' H', J σ' H' → u D σ' H'
theorem pss_mid {X : Cx} {st : Stmt} {rest : List Stmt} {t u : TS} (h1 : PS X st t) (h2 : PSs X rest u) : PSs X (st :: rest) (tMid t u) := by
  refine ⟨fun pins s σ H D I ⟨J, h, k⟩ => ?_⟩
  refine wpAny_execs_cons (thn (h1.run pins s σ H { D with nx := J } I h) fun f s1 q => ?_)
  cases f with
  | next =>
    obtain ⟨σ', H', I', q⟩ := q
    exact h2.run pins s1 σ' H' D I' (k σ' H' q)
  | ret v => exact q
  | brk => exact q
  | cont => exact q
theorem word_is (row : Row) (u : Str) : decide (V.str (wordOf row) = V.str u) = decide (wordOf row = u) := by
  rw [decide_eq_decide]
  exact ⟨V.str.inj, congrArg V.str⟩
theorem word_copy (row : Row) : decide (V.str (wordOf row) = V.str "copy") = isCopy row := by
  rw [word_is]
  cases row with
  | put => exact (by decide +kernel : decide (("put" : Str) = "copy") = false)
  | copy => exact (by decide +kernel : decide (("copy" : Str) = "copy") = true)
  | add => exact (by decide +kernel : decide (("add" : Str) = "copy") = false)
  | take => exact (by decide +kernel : decide (("take" : Str) = "copy") = false)
  | less => exact (by decide +kernel : decide (("less" : Str) = "copy") = false)
  | call => exact (by decide +kernel : decide (("call" : Str) = "copy") = false)
  | say => exact (by decide +kernel : decide (("say" : Str) = "copy") = false)
  | iff => exact (by decide +kernel : decide (("if" : Str) = "copy") = false)
  | go => exact (by decide +kernel : decide (("go" : Str) = "copy") = false)
  | fin => exact (by decide +kernel : decide (("end" : Str) = "copy") = false)
theorem word_call (row : Row) : decide (V.str (wordOf row) = V.str "call") = calls row := by
  rw [word_is]
  cases row with
  | put => exact (by decide +kernel : decide (("put" : Str) = "call") = false)
  | copy => exact (by decide +kernel : decide (("copy" : Str) = "call") = false)
  | add => exact (by decide +kernel : decide (("add" : Str) = "call") = false)
  | take => exact (by decide +kernel : decide (("take" : Str) = "call") = false)
  | less => exact (by decide +kernel : decide (("less" : Str) = "call") = false)
  | call => exact (by decide +kernel : decide (("call" : Str) = "call") = true)
  | say => exact (by decide +kernel : decide (("say" : Str) = "call") = false)
  | iff => exact (by decide +kernel : decide (("if" : Str) = "call") = false)
  | go => exact (by decide +kernel : decide (("go" : Str) = "call") = false)
  | fin => exact (by decide +kernel : decide (("end" : Str) = "call") = false)
theorem maker_makes (row : Row) : isMaker row = makes row := by cases row <;> rfl
theorem names_len (row : Row) : (namesOf row).length = (rowNames row).length := by cases row <;> rfl
theorem handG_mem {row : Row} {bs : List Nat} {b : Nat} (h : b ∈ handG row bs) : b ∈ bs := by
  unfold handG at h
  split at h
  · exact List.mem_of_mem_drop h
  · exact h
theorem handG_len2 {row : Row} {as bs : List Nat} (h : as.length = bs.length) : (handG row as).length = (handG row bs).length := by
  unfold handG
  split
  · rw [List.length_drop, List.length_drop, h]
  · exact h
theorem names_lt {names many : Nat} {row : Row} (ok : RowOk names many row) : ∀ x ∈ namesOf row, x < names := by
  cases row with
  | put n v => intro x hx; simp [namesOf] at hx; subst hx; exact ok.1
  | copy n o => intro x hx; simp [namesOf] at hx; rcases hx with rfl | rfl <;> first | exact ok.1 | exact ok.2 | exact ok.2.1 | exact ok.2.2
  | add n a b => intro x hx; simp [namesOf] at hx; rcases hx with rfl | rfl | rfl <;> first | exact ok.1 | exact ok.2 | exact ok.2.1 | exact ok.2.2
  | take n a b => intro x hx; simp [namesOf] at hx; rcases hx with rfl | rfl | rfl <;> first | exact ok.1 | exact ok.2 | exact ok.2.1 | exact ok.2.2
  | less n a b => intro x hx; simp [namesOf] at hx; rcases hx with rfl | rfl | rfl <;> first | exact ok.1 | exact ok.2 | exact ok.2.1 | exact ok.2.2
  | call n o => intro x hx; simp [namesOf] at hx; rcases hx with rfl | rfl <;> first | exact ok.1 | exact ok.2 | exact ok.2.1 | exact ok.2.2
  | say n => intro x hx; simp [namesOf] at hx; subst hx; exact ok
  | iff n r => intro x hx; simp [namesOf] at hx; subst hx; exact ok.1
  | go r => intro x hx; cases hx
  | fin => intro x hx; cases hx
section
variable {base : Heap} {K : PySem.W.Frag} {mg : Str → Option Value} {P : Program} {w : World}
def spDoK (C TN TA : Addr) : Sp := fun vs H Q _ => ∃ (m dx fr nl cl r : Addr) (x : V) (row : Row) (g : Grp) (f : Fr) (s : Wk) (names many : Nat), vs = [.ref m, .ref r, x] ∧ H r = some (.tup (rowV row)) ∧ Tp H x g.d ∧ Grp.Ok f row g ∧ f.Ok ∧ H m = some (.ins C dx (kfs fr nl cl s.p)) ∧ FrAt H fr f ∧ H nl = some (.lst (s.n.map pI)) ∧ H cl = some (.lst (s.c.map pI)) ∧ nl ≠ cl ∧ s.Ok names f ∧ RowOk names many row ∧ TabG H TN ∧ TabG H TA ∧
  ∀ H', H' m = some (.ins C dx (kfs fr nl cl (doRowW f row g s).p)) → H' nl = some (.lst ((doRowW f row g s).n.map pI)) → H' cl = some (.lst ((doRowW f row g s).c.map pI)) → Ext (mc3 m nl cl) H H' → Q (.bl (sameOf f row g s)) H'
theorem ok_doK {f C fN cN TN fM fC fH fA cA TA fE fF fK mk d dp : Addr} {fd fdN fdM fdC fdH fdA fdE fdF fdK : FuncData} {es ep : Array DictEntry} {n0 n1 : Nat} (D : Dm K C "do_row" "Marks.do_row" s_k_do_row ["self", "row", "group"] f fd) (DN : Dc K mg "names_of" s_names_of ["row"] fN fdN cN) (GN : FnOk P w K mg base CX0 4 fN fdN ["row"] (spNames TN))
    (DM : Df K mg "do_moves" s_do_moves ["frame", "moves", "cells"] fM fdM) (DC : Df K mg "cell_of" s_cell_of ["frame", "part", "number"] fC fdC) (MV : Moves K w mg d es n0) (DH : Df K mg "handed" s_handed ["row", "ones"] fH fdH) (MK : Makers K mg mk)
    (DA : Dmc K C "agree" "Marks.agree" s_k_agree ["self", "names", "boxes"] fA fdA cA) (GA : FnOk P w K mg base CX0 3 fA fdA ["self", "names", "boxes"] (spAgree C TA)) (DE : Dm K C "eat" "Marks.eat" s_k_eat ["self"] fE fdE) (DF : Dm K C "fresh" "Marks.fresh" s_k_fresh ["self"] fF fdF) (DK : Dm K C "make" "Marks.make" s_k_make ["self", "name", "box", "same"] fK fdK) (M : Kcls K C) :
    FnOk P w K mg base CX0 5 f fd ["self", "row", "group"] (spDoK C TN TA) := by
  have GE : FnOk P w K mg base CX0 2 fE fdE ["self"] (spEatK C) := ok_eatK DE DF M
  have GK : FnOk P w K mg base CX0 2 fK fdK ["self", "name", "box", "same"] (spMake C) := ok_make DK DF M
  have GM : FnOk P w K mg base CX0 2 fM fdM ["frame", "moves", "cells"] spMovesG := ok_movesG DM DC MV
  have GH : FnOk P w K mg base CX0 1 fH fdH ["row", "ones"] spHandG := ok_handG DH MK
  refine D.F.ok scDoK (fun vs H Q E h => ?_) (fun cdv A outer s0 H vs Q E hr h => ?_)
  · obtain ⟨m, dx, fr, nl, cl, r, x, row, g, f, s, names, many, rfl, _⟩ := h
    rfl
  · obtain ⟨m, dx, fr, nl, cl, r, x, row, g, f, s, names, many, rfl, hrow, hg, gok, fok, hm, hfr, hn, hc, nnc, sok, rok, tabN, tabA, q⟩ := h
    have hr1 := hr.mono (show 1 ≤ 4 by decide)
    have hr2 := hr.mono (show 2 ≤ 4 by decide)
    have hr3 := hr.mono (show 3 ≤ 4 by decide)
    refine ⟨_, pss_cons (ps_asg (pv 2) (pg_tup rfl (pgs_cons (pg_name (i := 3) scDoK.nd rfl (.inl rfl)) (pgs_cons (pg_name (i := 4) scDoK.nd rfl (.inl rfl)) (pgs_cons (pg_name (i := 5) scDoK.nd rfl (.inl rfl)) pgs_nil)))))
      (pss_cons (ps_set (i := 6) scDoK.nd rfl (.inl rfl) (pcall DN.D GN hr (pa_cons (pv 1) pa_nil)))
      (pss_cons (ps_expr (pcall DM GM hr2 (pa_cons (pe_fld (pv 0) rfl) (pa_cons (pv 3) (pa_cons (pe_fld (pv 0) rfl) pa_nil)))))
      (pss_cons (ps_set (i := 7) scDoK.nd rfl (.inl rfl) (pe_meth (pv 0) M.cls DA.D.at_ GA hr3 DA.D.b .nil pass0 (pa_cons (pcall DH GH hr1 (pa_cons (pv 1) (pa_cons (pv 6) pa_nil))) (pa_cons (pcall DH GH hr1 (pa_cons (pv 1) (pa_cons (pv 4) pa_nil))) pa_nil))))
      (pss_mid (ps_if (pt_cmpR op_eq (pe_ix ix_tup (pv 1) pe_int (fun _ _ => rfl)) pe_str (nomark _))
          (pss_cons (ps_asg (pe_ix ix_list (pe_fld (pv 0) rfl) (pe_ix ix_tup (pv 6) pe_int (fun _ _ => rfl)) (fun _ _ => rfl)) (pg_sub (pe_fld (pv 0) rfl) (pe_ix ix_tup (pv 6) pe_int (fun _ _ => rfl)) set_list))
          (pss_one (ps_asg (pe_ix ix_list (pe_fld (pv 0) rfl) (pe_ix ix_tup (pv 4) pe_int (fun _ _ => rfl)) (fun _ _ => rfl)) (pg_sub (pe_fld (pv 0) rfl) (pe_ix ix_tup (pv 4) pe_int (fun _ _ => rfl)) set_list))))
          (pss_one (ps_if (pt_cmpR op_in_seq (pe_ix ix_tup (pv 1) pe_int (fun _ _ => rfl)) (pe_glob (v := .ref mk) (by rfl) MK.g rfl) (by rfl))
            (pss_mid (ps_if (pt_cmpR op_eq (pe_ix ix_tup (pv 1) pe_int (fun _ _ => rfl)) pe_str (nomark _)) (pss_one (ps_expr (pe_meth0 (pv 0) M.cls DE.at_ GE hr2 DE.b .nil pass0))) pss_nil)
            (pss_one (ps_expr (pe_meth (pv 0) M.cls DK.at_ GK hr2 DK.b .nil pass0 (pa_cons (pe_ix ix_tup (pv 6) pe_int (fun _ _ => rfl)) (pa_cons (pe_ix ix_tup (pv 4) pe_int (fun _ _ => rfl)) (pa_cons (pv 7) pa_nil)))))))
            pss_nil)))
      (pss_cons (ps_expr (pcall DM GM hr2 (pa_cons (pe_fld (pv 0) rfl) (pa_cons (pv 5) (pa_cons (pe_fld (pv 0) rfl) pa_nil)))))
      (pss_one (ps_ret (pv 7)))))))), ?_⟩
    obtain ⟨t, ah, bo, be, rfl, ht, tah, hbo, tbe⟩ := grpE hg
    have nmc : m ≠ cl := fun z => by
      rw [z, hc] at hm
      cases hm
    have nmn : m ≠ nl := fun z => by
      rw [z, hn] at hm
      cases hm
    have l0 : ∀ p, (kfs fr nl cl p).lookup ("frame" : Str) = some (.ref fr) := fun _ => rfl
    have l1 : ∀ p, (kfs fr nl cl p).lookup ("cells" : Str) = some (.ref cl) := fun _ => rfl
    have l2 : ∀ p, (kfs fr nl cl p).lookup ("named" : Str) = some (.ref nl) := fun _ => rfl
    have la : ∀ p, (kfs fr nl cl p).lookup ("agree" : Str) = none := fun _ => rfl
    have le : ∀ p, (kfs fr nl cl p).lookup ("eat" : Str) = none := fun _ => rfl
    have lk : ∀ p, (kfs fr nl cl p).lookup ("make" : Str) = none := fun _ => rfl
    refine ⟨_, rfl, t, _, rfl, SqT.of ht, rfl, _, _, rfl, _, _, rfl, _, _, rfl, rfl, ?_⟩
    refine ⟨_, rfl, r, row, rfl, hrow, tabN, fun H1 tn htn x1 => ?_⟩
    have hm1 := x1.oth m _ (fun z => z) (fun _ z => by cases z) hm
    have hn1 := x1.lst (fun z => z) hn
    have hc1 := x1.lst (fun z => z) hc
    refine ⟨_, rfl, m, C, dx, _, _, rfl, hm1, M.cls, M.frame, l0 _, _, rfl, _, rfl, m, C, dx, _, _, rfl, hm1, M.cls, M.cells, l1 _, ?_⟩
    refine ⟨fr, ah, cl, f, g.ahead, s.c.map Prod.fst, rfl, hfr.ext x1, tah.ext x1, gok.am, by rw [hc1, pI_int], by rw [List.length_map]; exact sok.cl, fun H2 hc2 x2 => ?_⟩
    rw [mv_pI] at hc2
    have x02 : Ext (mc3 m nl cl) H H2 := (x1.mono fun _ z => z.elim).trans (x2.mono fun _ z => .inr (.inr z))
    have hm2 := x2.oth m _ nmc (fun _ z => by cases z) hm1
    have hn2 := x2.lst nnc hn1
    have htn2 := x2.tup _ _ htn
    have hbo2 := x02.tup _ _ hbo
    have hrow2 := x02.tup _ _ hrow
    refine ⟨_, rfl, m, dx, _, rfl, hm2, la _, ?_⟩
    refine ⟨_, rfl, _, rfl, r, tn, row, namesOf row, rfl, hrow2, htn2, names_len row, fun H3 t1 ht1 x3 => ?_⟩
    have hrow3 := x3.tup _ _ hrow2
    have hbo3 := x3.tup _ _ hbo2
    refine ⟨_, rfl, _, rfl, r, bo, row, g.boxes, rfl, hrow3, hbo3, gok.len, fun H4 t2 ht2 x4 => ?_⟩
    have x24 : Ext no H2 H4 := x3.trans x4
    have c1l : (mvsG m0 f g.ahead s.c).length = f.boxes + f.slots := (mvsG_len ..).trans sok.cl
    refine ⟨m, dx, fr, nl, cl, t1, t2, s.p, s.n, mvsG m0 f g.ahead s.c, handG row (namesOf row), handG row g.boxes, rfl, x24.oth m _ (fun z => z) (fun _ z => by cases z) hm2, x24.lst (fun z => z) hn2, x24.lst (fun z => z) hc2, x4.tup _ _ ht1, ht2, handG_len2 ((names_len row).trans gok.len.symm), (fun x hx => by rw [sok.nl]; exact names_lt rok x (handG_mem hx)), (fun y hy => by rw [c1l]; have := gok.bm y (handG_mem hy); omega), x24.tab _ (x02.tab _ tabA), fun H5 x5 => ?_⟩
    have x25 : Ext no H2 H5 := x24.trans x5
    have x05 : Ext (mc3 m nl cl) H H5 := x02.trans x25.of0
    have hm5 := x25.oth m _ (fun z => z) (fun _ z => by cases z) hm2
    have hn5 := x25.lst (fun z => z) hn2
    have hc5 := x25.lst (fun z => z) hc2
    have htn5 := x25.tup _ _ htn2
    have hbo5 := x25.tup _ _ hbo2
    have hrow5 := x25.tup _ _ hrow2
    have es : sameG s.n (mvsG m0 f g.ahead s.c) (handG row (namesOf row)) (handG row g.boxes) = sameOf f row g s := by
      rw [handG_M, handG_M]
      rfl
    rw [es]
    refine ⟨fun σ' H' => σ' = [some (.ref m), some (.ref r), some (.ref t), some (.ref ah), some (.ref bo), some (.ref be), some (.ref tn), some (.bl (sameOf f row g s))] ∧ H' m = some (.ins C dx (kfs fr nl cl (coreW f row g.boxes (aheadW f g s)).p)) ∧ H' nl = some (.lst ((coreW f row g.boxes (aheadW f g s)).n.map pI)) ∧ H' cl = some (.lst ((coreW f row g.boxes (aheadW f g s)).c.map pI)) ∧ Ext (mc3 m nl cl) H H', ?_, ?_⟩
    · refine ⟨_, rfl, r, _, 0, _, rfl, rfl, SqT.of hrow5, first_word (K := K), rfl, _, rfl, ?_⟩
      rw [word_copy]
      by_cases hcp : isCopy row = true
      · rw [hcp]
        obtain ⟨n, o, rfl⟩ : ∃ n o, row = .copy n o := by
          cases row with
          | copy n o => exact ⟨n, o, rfl⟩
          | _ => cases hcp
        obtain ⟨b0, b1, hb⟩ : ∃ b0 b1, g.boxes = [b0, b1] := by
          have hl := gok.len
          match e : g.boxes, hl with
          | [x, y], _ => exact ⟨x, y, rfl⟩
        have b0l : b0 < f.boxes := gok.bm b0 (by rw [hb]; simp)
        have b1l : b1 < f.boxes := gok.bm b1 (by rw [hb]; simp)
        rw [hb] at hbo5
        have nl0 : n < s.n.length := by rw [sok.nl]; exact rok.1
        have ol0 : o < s.n.length := by rw [sok.nl]; exact rok.2
        have geto : (s.n.map pI)[o]? = some (pI (atG m0 s.n o)) := by rw [List.getElem?_map, atG_get (d := m0) ol0]; rfl
        have getb : ((mvsG m0 f g.ahead s.c).map pI)[b1]? = some (pI (atG m0 (mvsG m0 f g.ahead s.c) b1)) := by rw [List.getElem?_map, atG_get (d := m0) (by omega)]; rfl
        refine iteT ⟨_, rfl, m, C, dx, _, _, rfl, hm5, M.cls, M.named, l2 _, _, rfl, tn, _, 1, _, rfl, rfl, SqT.of htn5, atI_nat (j := 1) rfl, nl, _, o, _, rfl, rfl, SqL.of hn5, atI_nat geto, ?_⟩
        refine ⟨_, rfl, m, C, dx, _, _, rfl, hm5, M.cls, M.named, l2 _, _, rfl, tn, _, 0, _, rfl, rfl, SqT.of htn5, atI_nat (j := 0) rfl, nl, _, n, n, rfl, rfl, hn5, ixN_nat (by rw [List.length_map]; exact nl0), ?_⟩
        have hmA : (upd H5 nl (.lst ((s.n.map pI).set n (pI (atG m0 s.n o))))) m = some (.ins C dx (kfs fr nl cl s.p)) := by rw [upd_ne nmn]; exact hm5
        have hnA : (upd H5 nl (.lst ((s.n.map pI).set n (pI (atG m0 s.n o))))) nl = some (.lst ((s.n.set n (atG m0 s.n o)).map pI)) := by rw [upd_same, List.map_set]
        have hcA : (upd H5 nl (.lst ((s.n.map pI).set n (pI (atG m0 s.n o))))) cl = some (.lst ((mvsG m0 f g.ahead s.c).map pI)) := by rw [upd_ne nnc.symm]; exact hc5
        have xA : Ext (mc3 m nl cl) H (upd H5 nl (.lst ((s.n.map pI).set n (pI (atG m0 s.n o))))) := x05.trans (Ext.put hn5 (.inr (.inl rfl)) (fun _ z => by cases z) (fun _ z => by cases z))
        have hboA : (upd H5 nl (.lst ((s.n.map pI).set n (pI (atG m0 s.n o))))) bo = some (.tup (nV [b0, b1])) := by rw [upd_ne (ne_of hbo5 hn5 (by intro z; cases z))]; exact hbo5
        generalize upd H5 nl (.lst ((s.n.map pI).set n (pI (atG m0 s.n o)))) = HA at hmA hnA hcA xA hboA ⊢
        refine ⟨_, rfl, m, C, dx, _, _, rfl, hmA, M.cls, M.cells, l1 _, _, rfl, bo, _, 1, _, rfl, rfl, SqT.of hboA, atI_nat (j := 1) rfl, cl, _, b1, _, rfl, rfl, SqL.of hcA, atI_nat getb, ?_⟩
        refine ⟨_, rfl, m, C, dx, _, _, rfl, hmA, M.cls, M.cells, l1 _, _, rfl, bo, _, 0, _, rfl, rfl, SqT.of hboA, atI_nat (j := 0) rfl, cl, _, b0, b0, rfl, rfl, hcA, ixN_nat (by rw [List.length_map]; omega), ?_⟩
        refine ⟨rfl, by rw [upd_ne nmc]; exact hmA, by rw [upd_ne nnc]; exact hnA, ?_, xA.trans (Ext.put hcA (.inr (.inr rfl)) (fun _ z => by cases z) (fun _ z => by cases z))⟩
        rw [upd_same, ← List.map_set, hb]
        rfl
      · rw [Bool.not_eq_true] at hcp
        rw [hcp]
        refine iteF ⟨_, rfl, r, _, 0, _, rfl, rfl, SqT.of hrow5, first_word (K := K), mk, _, rfl, .inr (MK.tup H5), rfl, by decide +kernel, _, rfl, ?_⟩
        show if inV (.str (wordOf row)) makersV = true then _ else _
        rw [in_makers, maker_makes]
        by_cases hmk : makes row = true
        · rw [hmk]
          obtain ⟨b0, rest, hb⟩ : ∃ n rest, g.boxes = n :: rest := by
            have hl := gok.len
            match e : g.boxes, hl with
            | [], hl => exfalso; cases row <;> first | exact Bool.noConfusion hmk | exact Nat.noConfusion hl
            | n :: rest, _ => exact ⟨n, rest, rfl⟩
          have hfn : ∃ rest, namesOf row = firstName row :: rest := by
            cases row <;> first | exact ⟨_, rfl⟩ | cases hmk
          obtain ⟨nrest, hns⟩ := hfn
          have n0l : firstName row < s.n.length := by
            rw [sok.nl]
            exact names_lt rok _ (by rw [hns]; exact List.mem_cons_self ..)
          have b0l : b0 < f.boxes := gok.bm b0 (by rw [hb]; exact List.mem_cons_self ..)
          rw [hb] at hbo5
          rw [hns] at htn5
          have ec : coreW f row g.boxes (aheadW f g s) = { n := s.n.set (firstName row) (newM (s.p + (eatenBy f row).length + 1) (s.m + 1)), c := (eatW s.p s.m (eatenBy f row) 0 (mvsG m0 f g.ahead s.c)).set (boxAt g.boxes 0) (if sameOf f row g s = true then newM (s.p + (eatenBy f row).length + 1) (s.m + 1) else newM (s.p + (eatenBy f row).length + 2) (s.m + 2 + (eatenBy f row).length)), p := s.p + (eatenBy f row).length + 1 + ownBy (sameOf f row g s), m := s.m + 1 + (eatenBy f row).length + ownBy (sameOf f row g s) } := by
            unfold coreW
            rw [if_neg (by rw [hcp]; exact Bool.false_ne_true), if_pos hmk]
            rfl
          refine iteT ⟨fun σ' H' => σ' = [some (.ref m), some (.ref r), some (.ref t), some (.ref ah), some (.ref bo), some (.ref be), some (.ref tn), some (.bl (sameOf f row g s))] ∧ H' m = some (.ins C dx (kfs fr nl cl (s.p + (eatenBy f row).length))) ∧ H' nl = some (.lst (s.n.map pI)) ∧ H' cl = some (.lst ((eatW s.p s.m (eatenBy f row) 0 (mvsG m0 f g.ahead s.c)).map pI)) ∧ Ext (mc3 m nl cl) H H' ∧ H' bo = some (.tup (nV (b0 :: rest))) ∧ H' tn = some (.tup (natsV (firstName row :: nrest))), ?_, ?_⟩
          · refine ⟨_, rfl, r, _, 0, _, rfl, rfl, SqT.of hrow5, first_word (K := K), rfl, _, rfl, ?_⟩
            rw [word_call]
            by_cases hca : calls row = true
            · rw [hca]
              refine iteT ⟨_, rfl, m, dx, _, rfl, hm5, le _, m, dx, fr, nl, cl, s.p, s.m, f, mvsG m0 f g.ahead s.c, rfl, hm5, hfr.ext x05, fok, hc5, c1l, fun H6 hm6 hc6 x6 => ?_⟩
              have eb : eatenBy f row = f.eaten := if_pos hca
              rw [eb]
              exact ⟨rfl, hm6, x6.lst (fun z : nl = m ∨ nl = cl => z.elim (fun z => nmn z.symm) nnc) hn5, hc6, x05.trans (x6.mono fun _ z => z.imp_right .inr), x6.tup _ _ hbo5, x6.tup _ _ htn5⟩
            · rw [Bool.not_eq_true] at hca
              rw [hca]
              have eb : eatenBy f row = [] := if_neg (by rw [hca]; exact Bool.false_ne_true)
              rw [eb]
              exact iteF ⟨rfl, by rw [hm5]; show some (HO.ins C dx (kfs fr nl cl s.p)) = some (HO.ins C dx (kfs fr nl cl (s.p + (0 : Nat)))); rw [show s.p + ((0 : Nat) : Int) = s.p by omega], hn5, hc5, x05, hbo5, htn5⟩
          · rintro σ' H6 ⟨rfl, hm6, hn6, hc6, x06, hbo6, htn6⟩
            have c6l : (eatW s.p s.m (eatenBy f row) 0 (mvsG m0 f g.ahead s.c)).length = f.boxes + f.slots := (eatW_len ..).trans c1l
            refine ⟨_, rfl, m, dx, _, rfl, hm6, lk _, ?_⟩
            refine ⟨_, rfl, tn, _, 0, _, rfl, rfl, SqT.of htn6, atI_nat (j := 0) rfl, _, rfl, bo, _, 0, _, rfl, rfl, SqT.of hbo6, atI_nat (j := 0) rfl, _, rfl, ?_⟩
            refine ⟨m, dx, fr, nl, cl, s.p + (eatenBy f row).length, firstName row, b0, sameOf f row g s, _, _, rfl, hm6, hn6, hc6, nnc, by rw [List.length_map]; exact n0l, by rw [List.length_map, c6l]; omega, fun H7 hm7 hn7 hc7 x7 => ⟨rfl, ?_, ?_, ?_, x06.trans x7⟩⟩
            · rw [hm7, ec]
            · rw [hn7, ec]
              show _ = some (HO.lst (List.map pI (List.set _ _ _)))
              rw [List.map_set]
              rfl
            · rw [hc7, ec, hb]
              show _ = some (HO.lst (List.map pI (List.set _ b0 _)))
              rw [List.map_set]
              have en : V.int (s.p + ((eatenBy f row).length : Int) + 1 + (ownBy (sameOf f row g s) : Nat)) = pI (if sameOf f row g s = true then newM (s.p + (eatenBy f row).length + 1) (s.m + 1) else newM (s.p + (eatenBy f row).length + 2) (s.m + 2 + (eatenBy f row).length)) := by
                cases sameOf f row g s with
                | true => exact congrArg V.int (show s.p + ((eatenBy f row).length : Int) + 1 + ((0 : Nat) : Int) = s.p + (eatenBy f row).length + 1 by omega)
                | false => exact congrArg V.int (show s.p + ((eatenBy f row).length : Int) + 1 + ((1 : Nat) : Int) = s.p + (eatenBy f row).length + 2 by omega)
              rw [en]
        · rw [Bool.not_eq_true] at hmk
          rw [hmk]
          have ec : coreW f row g.boxes (aheadW f g s) = aheadW f g s := by
            unfold coreW
            rw [if_neg (by rw [hcp]; exact Bool.false_ne_true), if_neg (by rw [hmk]; exact Bool.false_ne_true)]
          rw [ec]
          exact iteF ⟨rfl, hm5, hn5, hc5, x05⟩
    · rintro σ' H6 ⟨rfl, hm6, hn6, hc6, x06⟩
      refine ⟨_, rfl, m, C, dx, _, _, rfl, hm6, M.cls, M.frame, l0 _, _, rfl, _, rfl, m, C, dx, _, _, rfl, hm6, M.cls, M.cells, l1 _, ?_⟩
      refine ⟨fr, be, cl, f, g.behind, (coreW f row g.boxes (aheadW f g s)).c.map Prod.fst, rfl, hfr.ext x06, tbe.ext x06, gok.hm, by rw [hc6, pI_int], by rw [List.length_map]; exact (coreW_ok (sok.moves gok.am) rok gok.len gok.bm).cl, fun H7 hc7 x7 => ?_⟩
      rw [mv_pI] at hc7
      refine ⟨_, rfl, q H7 (x7.oth m _ nmc (fun _ z => by cases z) hm6) (x7.lst nnc hn6) hc7 (x06.trans (x7.mono fun _ z => .inr (.inr z)))⟩
end
end Bw
namespace Bw
open PySem PySem.Spec PyProof.Rows L2 GxR Gx RZ
theorem Ext.hidP {m : Addr → Prop} {H H1 H2 : Hp} (a : Ext no H H1) (n : ∀ x, m x → H x = none) (b : Ext m H1 H2) : Ext no H H2 :=
  ⟨fun x xs h => b.tup _ _ (a.tup _ _ h), fun x o k t h => b.oth x o (fun z => by rw [n x z] at h; cases h) t (a.oth x o k t h), fun T t => b.tab T (a.tab T t), fun x h => a.dom x (b.dom x h)⟩
/-- pairs of a row's number and a truth, in the heap -/
structure TellAt (H : Hp) (as : List Addr) (told : List (Nat × Bool)) : Prop where
  len : as.length = told.length
  at_ : ∀ (i : Nat) (a : Addr) (t : Nat × Bool), as[i]? = some a → told[i]? = some t → H a = some (.tup [.int (t.1 : Nat), .bl t.2])
theorem TellAt.ext {m : Addr → Prop} {H H' : Hp} {as : List Addr} {told : List (Nat × Bool)} (h : TellAt H as told) (x : Ext m H H') : TellAt H' as told := ⟨h.len, fun i a t e1 e2 => x.tup _ _ (h.at_ i a t e1 e2)⟩
theorem TellAt.snoc {H : Hp} {as : List Addr} {told : List (Nat × Bool)} {a : Addr} {t : Nat × Bool} (h : TellAt H as told) (k : H a = some (.tup [.int (t.1 : Nat), .bl t.2])) : TellAt H (as ++ [a]) (told ++ [t]) := by
  refine ⟨by simp [h.len], fun i b u e1 e2 => ?_⟩
  by_cases lt : i < as.length
  · rw [List.getElem?_append_left lt] at e1
    rw [List.getElem?_append_left (by rw [← h.len]; exact lt)] at e2
    exact h.at_ i b u e1 e2
  · rw [List.getElem?_append_right (by omega)] at e1
    rw [List.getElem?_append_right (by rw [← h.len]; omega), ← h.len] at e2
    by_cases z : i - as.length = 0
    · rw [z] at e1 e2
      cases e1
      cases e2
      exact k
    · rw [List.getElem?_eq_none (by show 1 ≤ _; omega)] at e1
      cases e1
def walkW (p : Prog) (f : Fr) (c : Ch) (ways : List Bool) : List (Nat × Bool) := goW f p.rows c.groups 300 (startW p f c) 0 ways []
section
variable {base : Heap} {K : PySem.W.Frag} {mg : Str → Option Value} {P : Program} {w : World}
structure WalkPre (H : Hp) (pa a ca wl : Addr) (p : Prog) (f : Fr) (c : Ch) (ways : List Bool) : Prop where
  hp : ProgAt H pa p
  pok : p.Ok
  hf : FrAt H a f
  fok : f.Ok
  hc : Tp H (.ref ca) c.d
  cok : Ch.Ok p f c
  hw : H wl = some (.lst (ways.map V.bl))
structure WalkTabs (H : Hp) (TR T T1 T2 T3 TP TA : Addr) : Prop where
  tr : TabG H TR
  ta : TabG H TA
  ts : Tabs H T T1 T2 T3 TP
theorem WalkTabs.ext {m : Addr → Prop} {H H' : Hp} {TR T T1 T2 T3 TP TA : Addr} (h : WalkTabs H TR T T1 T2 T3 TP TA) (x : Ext m H H') : WalkTabs H' TR T T1 T2 T3 TP TA := ⟨x.tab _ h.tr, x.tab _ h.ta, h.ts.ext x⟩
def spWalk (TR T T1 T2 T3 TP TA : Addr) : Sp := fun vs H Q _ => ∃ (pa a ca wl : Addr) (p : Prog) (f : Fr) (c : Ch) (ways : List Bool), vs = [.ref pa, .ref a, .ref ca, .ref wl] ∧ WalkPre H pa a ca wl p f c ways ∧ WalkTabs H TR T T1 T2 T3 TP TA ∧
  ∀ H' td as, H td = none → H' td = some (.lst (as.map V.ref)) → TellAt H' as (walkW p f c ways) → Ext no H H' → Q (.ref td) H'
abbrev nWalk : List Str := ["program", "frame", "choice", "ways", "rows", "places", "groups", "marks", "told", "at", "done", "ifs", "row", "same", "jumps"]
theorem scWalk : FnScope nWalk ["program", "frame", "choice", "ways"] (defScope s_walk) := ⟨rfl, rfl, rfl, by decide +kernel, rfl, by decide +kernel, by decide +kernel⟩
theorem word_if (row : Row) : decide (V.str (wordOf row) = V.str "if") = isIf row := by
  rw [word_is]
  cases row with
  | put => exact (by decide +kernel : decide (("put" : Str) = "if") = false)
  | copy => exact (by decide +kernel : decide (("copy" : Str) = "if") = false)
  | add => exact (by decide +kernel : decide (("add" : Str) = "if") = false)
  | take => exact (by decide +kernel : decide (("take" : Str) = "if") = false)
  | less => exact (by decide +kernel : decide (("less" : Str) = "if") = false)
  | call => exact (by decide +kernel : decide (("call" : Str) = "if") = false)
  | say => exact (by decide +kernel : decide (("say" : Str) = "if") = false)
  | iff => exact (by decide +kernel : decide (("if" : Str) = "if") = true)
  | go => exact (by decide +kernel : decide (("go" : Str) = "if") = false)
  | fin => exact (by decide +kernel : decide (("end" : Str) = "if") = false)
theorem in_tells (row : Row) : inV (.str (wordOf row)) [.str "say", .str "if"] = tells row := by
  cases row with
  | put => exact (by decide +kernel : inV (.str "put") [.str "say", .str "if"] = false)
  | copy => exact (by decide +kernel : inV (.str "copy") [.str "say", .str "if"] = false)
  | add => exact (by decide +kernel : inV (.str "add") [.str "say", .str "if"] = false)
  | take => exact (by decide +kernel : inV (.str "take") [.str "say", .str "if"] = false)
  | less => exact (by decide +kernel : inV (.str "less") [.str "say", .str "if"] = false)
  | call => exact (by decide +kernel : inV (.str "call") [.str "say", .str "if"] = false)
  | say => exact (by decide +kernel : inV (.str "say") [.str "say", .str "if"] = true)
  | iff => exact (by decide +kernel : inV (.str "if") [.str "say", .str "if"] = true)
  | go => exact (by decide +kernel : inV (.str "go") [.str "say", .str "if"] = false)
  | fin => exact (by decide +kernel : inV (.str "end") [.str "say", .str "if"] = false)
theorem nextW_le {names : Nat} {rows : List Row} {row : Row} {i : Nat} {left : List Bool} (ok : RowOk names rows.length row) (h : rows[i]? = some row) : nextW row left i ≤ rows.length := by
  have lt : i < rows.length := (List.getElem?_eq_some_iff.mp h).1
  cases row with
  | go r => exact Nat.le_of_lt ok
  | iff n r =>
    show (if left.head? = some true then r else i + 1) ≤ _
    split
    · exact Nat.le_of_lt ok.2
    · omega
  | _ => exact lt
def jumpOf (row : Row) (left : List Bool) : Bool := isIf row && decide (left.head? = some true)
theorem behind_jump (row : Row) (i : Nat) (left : List Bool) : behind row i (jumpOf row left) = nextW row left i := by
  cases row with
  | iff n r =>
    show (if (true && decide (left.head? = some true)) = true then r else i + 1) = if left.head? = some true then r else i + 1
    rw [Bool.true_and]
    by_cases e : left.head? = some true
    · rw [decide_eq_true e, if_pos rfl, if_pos e]
    · rw [decide_eq_false e, if_neg Bool.false_ne_true, if_neg e]
  | _ => rfl
theorem ok_walk {fu C fA fI fX fE fD TR T T1 T2 T3 TP TA : Addr} {fd fdA fdI fdX fdE fdD : FuncData} (D : Df K mg "walk" s_walk ["program", "frame", "choice", "ways"] fu fd) (DA : Df K mg "check_all" s_check_all ["program", "frame", "choice"] fA fdA) (DAe : Df K mg "at_end" s_at_end ["rows", "at"] fE fdE) (DX : Df K mg "next_row" s_next_row ["row", "at", "jumps"] fX fdX)
    (DD : Dm K C "do_row" "Marks.do_row" s_k_do_row ["self", "row", "group"] fD fdD) (MC : Mk K C fI) (gM : mg "Marks" = some (.ref C)) (bI : Binds K fdI ["self", "names", "frame", "places"] []) (B : Bt mg) (g300 : ∃ t, mg "WALK_MOST" = some (.int 300 t))
    (GA : FnOk P w K mg base CX0 10 fA fdA ["program", "frame", "choice"] (spCheckAll TR T T1 T2 T3 TP)) (GAe : FnOk P w K mg base CX0 1 fE fdE ["rows", "at"] spAtEnd) (GX : FnOk P w K mg base CX0 1 fX fdX ["row", "at", "jumps"] spNext)
    (GI : FnOk P w K mg base CX0 3 fI fdI ["self", "names", "frame", "places"] (spInitK C)) (GD : FnOk P w K mg base CX0 5 fD fdD ["self", "row", "group"] (spDoK C T3 TA)) (M : Kcls K C) : FnOk P w K mg base CX0 11 fu fd ["program", "frame", "choice", "ways"] (spWalk TR T T1 T2 T3 TP TA) := by
  refine D.F.ok scWalk (fun vs H Q E h => ?_) (fun cdv A outer s0 H vs Q E hr h => ?_)
  · obtain ⟨pa, a, ca, wl, p, f, c, ways, rfl, _⟩ := h
    rfl
  · obtain ⟨pa, a, ca, wl, p, f, c, ways, rfl, ⟨hp, pok, hf, fok, hc, cok, hw⟩, tabs, q⟩ := h
    have hr5 := hr.mono (show 5 ≤ 10 by decide)
    have hr4 := hr.mono (show 4 ≤ 10 by decide)
    have hr1 := hr.mono (show 1 ≤ 10 by decide)
    refine ⟨_, (pss_cons (ps_expr (pcall DA GA hr (pa_cons (pv 0) (pa_cons (pv 1) (pa_cons (pv 2) pa_nil)))))
      (pss_cons (ps_set (i := 4) scWalk.nd rfl (.inl rfl) (pe_ix ix_tup (pv 0) pe_int (fun _ _ => rfl)))
      (pss_cons (ps_asg (pv 2) (pg_tup rfl (pgs_cons (pg_name (i := 5) scWalk.nd rfl (.inl rfl)) (pgs_cons (pg_name (i := 6) scWalk.nd rfl (.inl rfl)) pgs_nil))))
      (pss_cons (ps_set (i := 7) scWalk.nd rfl (.inl rfl) (pe_make MC GI hr4 (by rfl) gM bI .nil pass0 (pa_cons (pe_ix ix_tup (pv 0) pe_int (fun _ _ => rfl)) (pa_cons (pv 1) (pa_cons (pv 5) pa_nil)))))
      (pss_cons (ps_set (i := 8) scWalk.nd rfl (.inl rfl) (pe_lst pa_nil))
      (pss_cons (ps_asg3 pe_int (pg_name (i := 9) scWalk.nd rfl (.inl rfl)) (pg_name (i := 10) scWalk.nd rfl (.inl rfl)) (pg_name (i := 11) scWalk.nd rfl (.inl rfl)))
      (pss_cons (ps_while PassesOwn.never (PW.pt (pw_and (pt_cmpR op_lt (pv 10) (pe_num g300) (nomark _)) (pw_and1 (pt_not (pt_val (pcall DAe GAe hr1 (pa_cons (pv 4) (pa_cons (pv 9) pa_nil))))))))
      (pss_cons (ps_set (i := 12) scWalk.nd rfl (.inl rfl) (pe_ix ix_tup (pv 4) (pv 9) (fun _ _ => rfl)))
      (pss_mid (ps_if (PW.pt (pw_and (pt_cmpR op_eq (pe_ix ix_tup (pv 12) pe_int (fun _ _ => rfl)) pe_str (nomark _)) (pw_and1 (pt_cmpR op_eq (pv 11) (pe_callB call_len_seq (by rfl) B.len PySem.boot_len (pa_cons (pv 3) pa_nil)) (nomark _))))) (pss_one ps_break)
      pss_nil)
      (pss_cons (ps_set (i := 13) scWalk.nd rfl (.inl rfl) (pe_meth (pv 7) M.cls DD.at_ GD hr5 DD.b .nil pass0 (pa_cons (pv 12) (pa_cons (pe_ix ix_tup (pv 6) (pv 9) (fun _ _ => rfl)) pa_nil))))
      (pss_mid (ps_if (pt_cmpR op_in_seq (pe_ix ix_tup (pv 12) pe_int (fun _ _ => rfl)) (pe_tup (pa_cons pe_str (pa_cons pe_str pa_nil))) (by rfl)) (pss_one (ps_expr (pe_bm PySem.F.plainAttrs_list PySem.F.slot_list_append PySem.F.type_list_append mt_append (pv 8) (pa_cons (pe_tup (pa_cons (pv 9) (pa_cons (pv 13) pa_nil))) pa_nil))))
      pss_nil)
      (pss_cons (ps_set (i := 14) scWalk.nd rfl (.inl rfl) pe_bl)
      (pss_mid (ps_if (pt_cmpR op_eq (pe_ix ix_tup (pv 12) pe_int (fun _ _ => rfl)) pe_str (nomark _)) (pss_cons (ps_set (i := 14) scWalk.nd rfl (.inl rfl) (pe_ix ix_list (pv 3) (pv 11) (fun _ _ => rfl)))
      (pss_one (ps_aug (i := 11) scWalk.nd rfl (.inl rfl) pe_int ip_add)))
      pss_nil)
      (pss_cons (ps_set (i := 9) scWalk.nd rfl (.inl rfl) (pcall DX GX hr1 (pa_cons (pv 12) (pa_cons (pv 9) (pa_cons (pv 14) pa_nil)))))
      (pss_one (ps_aug (i := 10) scWalk.nd rfl (.inl rfl) pe_int ip_add))))))))))
      (pss_one (ps_ret (pv 8)))))))))), ?_⟩
    -- check_all
    refine ⟨_, rfl, _, rfl, _, rfl, pa, a, ca, p, f, c, rfl, hp, pok, hf, fok, hc, cok, tabs.tr, tabs.ts, fun H1 x1 => ?_⟩
    obtain ⟨rs, as, hpa, hrs, hrows⟩ := hp.ex
    refine ⟨_, rfl, pa, _, 2, _, rfl, rfl, SqT.of (x1.tup _ _ hpa), atI_nat (j := 2) rfl, ?_⟩
    obtain ⟨ca', cvs, ec, hca, call⟩ := hc.tupE
    obtain rfl : ca = ca' := V.ref.inj ec
    obtain ⟨p0, gt, rfl, tpl, tgr⟩ : ∃ p0 gt, cvs = [.ref p0, .ref gt] ∧ Tp H (.ref p0) (.tuple (c.places.map Pl.d)) ∧ Tp H (.ref gt) (.tuple (c.groups.map Grp.d)) := by
      cases call with
      | cons h1 t1 =>
        cases t1 with
        | cons h2 t2 =>
          cases t2
          obtain ⟨z1, _, e1, _⟩ := h1.tupE
          obtain ⟨z2, _, e2, _⟩ := h2.tupE
          subst e1 e2
          exact ⟨z1, z2, rfl, h1, h2⟩
    obtain ⟨gt', gvs, eg, hgt, gall⟩ := tgr.tupE
    obtain rfl : gt = gt' := V.ref.inj eg
    refine ⟨_, rfl, ca, _, rfl, SqT.of (x1.tup _ _ hca), rfl, _, _, rfl, _, _, rfl, rfl, ?_⟩
    -- marks = Marks(..)
    refine ⟨_, rfl, pa, _, 1, _, rfl, rfl, SqT.of (x1.tup _ _ hpa), atI_nat (j := 1) rfl, _, rfl, _, rfl, fun m dx nm ndx nxm => ?_⟩
    have nm' : (upd H1 dx (.own m)) m = none := by rw [upd_ne nxm.symm]; exact nm
    have x2 : Ext no H1 (upd (upd H1 dx (.own m)) m (.ins C dx [])) := (Ext.new ndx).trans (Ext.new nm')
    generalize h2 : upd (upd H1 dx (.own m)) m (.ins C dx []) = H2 at x2 ⊢
    have hm2 : H2 m = some (.ins C dx []) := by rw [← h2]; exact upd_same
    have mN : H m = none := x1.dom m nm
    refine ⟨m, dx, a, p0, p.names, f, c.places, rfl, hm2, (hf.ext x1).ext x2, fok, (tpl.ext x1).ext x2, by rw [cok.pl]; exact pok.pn, pok.n1, cok.pm, fun H3 nl cl nnl ncl nnc hm3 hn3 hc3 x3 => ⟨rfl, ?_⟩⟩
    have x02 : Ext no H H2 := x1.trans x2
    have x03 : Ext no H H3 := x02.hidP (fun x z => by rw [z]; exact mN) x3
    have nlN : H nl = none := x02.dom nl nnl
    have clN : H cl = none := x02.dom cl ncl
    -- told = []
    refine ⟨Nat.zero_le _, fun td ntd => ?_⟩
    have tdN : H td = none := x03.dom td ntd
    have x04 : Ext no H (upd H3 td (.lst [])) := x03.trans (Ext.new ntd)
    have ntm : m ≠ td := ne_of_none hm3 ntd
    have ntn : nl ≠ td := ne_of_none hn3 ntd
    have ntc : cl ≠ td := ne_of_none hc3 ntd
    let Wn : Nat → L2.St → Hp → Prop := fun n σ H5 => ∃ (s : Wk) (i ifs done : Nat) (left : List Bool) (told : List (Nat × Bool)) (ts : List Addr) (v12 v13 v14 : Option V), σ = [some (.ref pa), some (.ref a), some (.ref ca), some (.ref wl), some (.ref rs), some (.ref p0), some (.ref gt), some (.ref m), some (.ref td), some (.int i), some (.int done), some (.int ifs), v12, v13, v14] ∧ n = 300 - done ∧ done ≤ 300 ∧ i ≤ p.rows.length ∧ ifs ≤ ways.length ∧ left = ways.drop ifs ∧ s.Ok p.names f ∧
      H5 m = some (.ins C dx (kfs a nl cl s.p)) ∧ H5 nl = some (.lst (s.n.map pI)) ∧ H5 cl = some (.lst (s.c.map pI)) ∧ H5 td = some (.lst (ts.map V.ref)) ∧ TellAt H5 ts told ∧ told.length ≤ done ∧ Ext no H H5 ∧ goW f p.rows c.groups (300 - done) s i left told = walkW p f c ways
    refine ⟨Wn, ⟨300, startW p f c, 0, 0, 0, ways, [], [], none, none, none, rfl, rfl, Nat.zero_le _, Nat.zero_le _, Nat.zero_le _, rfl, startW_ok pok cok, by rw [upd_ne ntm]; exact hm3, by rw [upd_ne ntn]; exact hn3, by rw [upd_ne ntc]; exact hc3, upd_same, ⟨rfl, fun i a t e => by cases e⟩, Nat.le_refl _, x04, rfl⟩, ?_⟩
    rintro n σ H5 ⟨s, i, ifs, done, left, told, ts, v12, v13, v14, rfl, rfl, hd, hi, hif, hl, sok, hm5, hn5, hc5, ht5, hts, htl, x05, hgo⟩
    have hw5 := x05.lst (fun z => z) hw
    -- done < WALK_MOST and not at_end(rows, at)
    refine ⟨_, rfl, _, 300, rfl, rfl, _, rfl, ?_⟩
    by_cases lt : done < 300
    case neg =>
      rw [(decide_eq_false (by omega))]
      refine iteF (iteF ⟨_, rfl, q H5 td ts tdN ht5 ?_ x05⟩)
      rw [← hgo, show 300 - done = 0 by omega]
      exact hts
    rw [decide_eq_true (show (done : Int) < 300 by omega)]
    refine iteT ⟨_, rfl, _, rfl, rs, as, p.rows, i, rfl, x05.tup _ _ hrs, hrows.ext x05, hi, _, rfl, ?_⟩
    by_cases ae : atEnd p.rows i = true
    · rw [ae]
      refine iteF ⟨_, rfl, q H5 td ts tdN ht5 ?_ x05⟩
      rw [← hgo, goW_end ae]
      exact hts
    rw [Bool.not_eq_true] at ae
    rw [ae]
    obtain ⟨row, hrow, nfin⟩ := atEnd_of ae
    have ilt : i < p.rows.length := (List.getElem?_eq_some_iff.mp hrow).1
    obtain ⟨r, her⟩ : ∃ r, as[i]? = some r := ⟨_, List.getElem?_eq_getElem (by rw [hrows.len]; exact ilt)⟩
    obtain ⟨g, heg⟩ : ∃ g, c.groups[i]? = some g := ⟨_, List.getElem?_eq_getElem (by rw [cok.gl]; exact ilt)⟩
    obtain ⟨gv, hgv, tg⟩ := gall.get (i := i) (d := g.d) (by rw [List.getElem?_map, heg]; rfl)
    have har : (as.map V.ref)[i]? = some (.ref r) := by rw [List.getElem?_map, her]; rfl
    have rok : RowOk p.names p.rows.length row := pok.ok row (List.mem_of_getElem? hrow)
    have gk := cok.gm i g row heg hrow
    have hr5 := (hrows.ext x05).at_ i r row her hrow
    have hwl : (ways.map V.bl).length = ways.length := List.length_map ..
    refine iteT ⟨fun σ' H' => done < 300 ∧ Wn (300 - (done + 1)) σ' H', fun σ' H' ⟨_, h⟩ => ⟨_, by omega, h⟩, ?_⟩
    -- row = rows[at]
    refine ⟨_, rfl, _, rfl, rs, _, i, _, rfl, rfl, SqT.of (x05.tup _ _ hrs), atI_nat har, ?_⟩
    -- if row[0] == "if" and ifs == len(ways): break
    refine ⟨fun σ' H' => σ' = [some (.ref pa), some (.ref a), some (.ref ca), some (.ref wl), some (.ref rs), some (.ref p0), some (.ref gt), some (.ref m), some (.ref td), some (.int i), some (.int done), some (.int ifs), some (.ref r), v13, v14] ∧ H' = H5 ∧ (isIf row = true → ifs < ways.length), ?_, ?_⟩
    · refine ⟨_, rfl, r, _, 0, _, rfl, rfl, SqT.of hr5, first_word (K := K), rfl, _, rfl, ?_⟩
      rw [word_if]
      by_cases hI : isIf row = true
      · rw [hI]
        refine iteT ⟨_, rfl, _, rfl, wl, _, rfl, .inl (SqL.of hw5), rfl, _, rfl, ?_⟩
        rw [hwl]
        by_cases e : ifs = ways.length
        · rw [decide_eq_true (show V.int (ifs : Int) = V.int (ways.length : Int) by rw [e])]
          refine iteT ⟨_, rfl, q H5 td ts tdN ht5 ?_ x05⟩
          rw [← hgo, goW_stop hrow hI (by rw [hl, e, List.drop_length])]
          exact hts
        · rw [decide_eq_false (fun z : V.int (ifs : Int) = V.int (ways.length : Int) => e (Int.ofNat.inj (V.int.inj z)))]
          exact iteF ⟨rfl, rfl, fun _ => by omega⟩
      · rw [Bool.not_eq_true] at hI
        rw [hI]
        exact iteF (iteF ⟨rfl, rfl, fun z => by cases z⟩)
    rintro _ _ ⟨rfl, rfl, hsome⟩
    -- same = marks.do_row(row, groups[at])
    have l5 : ∀ sp, (kfs a nl cl sp).lookup ("do_row" : Str) = none := fun _ => rfl
    refine ⟨_, rfl, m, dx, _, rfl, hm5, l5 _, _, rfl, _, rfl, _, rfl, gt, _, i, _, rfl, rfl, SqT.of (x05.tup _ _ hgt), atI_nat hgv, ?_⟩
    refine ⟨m, dx, a, nl, cl, r, gv, row, g, f, s, p.names, p.rows.length, rfl, hr5, tg.ext x05, gk, fok, hm5, hf.ext x05, hn5, hc5, nnc, sok, rok, x05.tab _ tabs.ts.t3, x05.tab _ tabs.ta, fun H6 hm6 hn6 hc6 x6 => ?_⟩
    have x06 : Ext no H H6 := x05.hidP (fun x z => by rcases z with z | z | z <;> rw [z] <;> assumption) x6
    have ht6 := x6.lst (fun z : td = m ∨ td = nl ∨ td = cl => z.elim (fun z => ntm z.symm) fun z => z.elim (fun z => ntn z.symm) fun z => ntc z.symm) ht5
    have hts6 := hts.ext x6
    have hr6 := (hrows.ext x06).at_ i r row her hrow
    -- if row[0] in ("say", "if"): told.append((at, same))
    refine ⟨fun σ' H' => σ' = [some (.ref pa), some (.ref a), some (.ref ca), some (.ref wl), some (.ref rs), some (.ref p0), some (.ref gt), some (.ref m), some (.ref td), some (.int i), some (.int done), some (.int ifs), some (.ref r), some (.bl (sameOf f row g s)), v14] ∧ H' m = some (.ins C dx (kfs a nl cl (doRowW f row g s).p)) ∧ H' nl = some (.lst ((doRowW f row g s).n.map pI)) ∧ H' cl = some (.lst ((doRowW f row g s).c.map pI)) ∧ Ext no H H' ∧ (∃ ts', H' td = some (.lst (ts'.map V.ref)) ∧ TellAt H' ts' (if tells row = true then told ++ [(i, sameOf f row g s)] else told)), ?_, ?_⟩
    · refine ⟨_, rfl, r, _, 0, _, rfl, rfl, SqT.of hr6, first_word (K := K), by show 2 ≤ sizeLine; decide, fun t nt => ⟨t, _, rfl, .inr (SqT.of upd_same), rfl, by decide +kernel, _, rfl, ?_⟩⟩
      show if inV (.str (wordOf row)) [.str "say", .str "if"] = true then _ else _
      rw [in_tells]
      have x7 : Ext no H6 (upd H6 t (.tup [.str "say", .str "if"])) := Ext.new nt
      have e0 : ∀ x o, H6 x = some o → (upd H6 t (.tup [.str "say", .str "if"])) x = some o := fun x o h => by rw [upd_ne (ne_of_none h nt)]; exact h
      generalize upd H6 t (.tup [.str "say", .str "if"]) = H7 at x7 e0
      by_cases hT : tells row = true
      · rw [hT]
        refine iteT ⟨_, rfl, .inl ⟨rfl, _, SqL.of (e0 _ _ ht6)⟩, _, rfl, _, rfl, by show 2 ≤ sizeLine; decide, fun t2 nt2 => ?_⟩
        have x8 : Ext no H7 (upd H7 t2 (.tup [.int i, .bl (sameOf f row g s)])) := Ext.new nt2
        have e1 : ∀ x o, H7 x = some o → (upd H7 t2 (.tup [.int i, .bl (sameOf f row g s)])) x = some o := fun x o h => by rw [upd_ne (ne_of_none h nt2)]; exact h
        have ht2 : (upd H7 t2 (.tup [.int i, .bl (sameOf f row g s)])) t2 = some (.tup [.int i, .bl (sameOf f row g s)]) := upd_same
        generalize upd H7 t2 (.tup [.int i, .bl (sameOf f row g s)]) = H8 at x8 e1 ht2
        have ht8 := e1 _ _ (e0 _ _ ht6)
        refine ⟨td, _, _, rfl, rfl, ht8, by rw [List.length_map, hts.len]; exact small_lt (k := 300) (by omega) (by decide), rfl, ?_⟩
        have xp : Ext (fun x => x = td) H8 (upd H8 td (.lst (ts.map V.ref ++ [.ref t2]))) := Ext.put ht8 rfl (fun _ z => by cases z) (fun _ z => by cases z)
        refine ⟨by rw [upd_ne ntm]; exact e1 _ _ (e0 _ _ hm6), by rw [upd_ne ntn]; exact e1 _ _ (e0 _ _ hn6), by rw [upd_ne ntc]; exact e1 _ _ (e0 _ _ hc6), ((x06.trans x7).trans x8).hidP (fun x z => by rw [z]; exact tdN) xp, ts ++ [t2], by rw [upd_same, List.map_append]; rfl, ?_⟩
        rw [if_pos rfl]
        exact (((hts6.ext x7).ext x8).snoc (t := (i, sameOf f row g s)) ht2).ext xp
      · rw [Bool.not_eq_true] at hT
        rw [hT]
        exact iteF ⟨rfl, e0 _ _ hm6, e0 _ _ hn6, e0 _ _ hc6, x06.trans x7, ts, e0 _ _ ht6, by rw [if_neg Bool.false_ne_true]; exact hts6.ext x7⟩
    rintro _ H7 ⟨rfl, hm7, hn7, hc7, x07, ts7, ht7, hts7⟩
    -- jumps
    have hr7 := (hrows.ext x07).at_ i r row her hrow
    have hw7 := x07.lst (fun z => z) hw
    refine ⟨fun σ' H' => σ' = [some (.ref pa), some (.ref a), some (.ref ca), some (.ref wl), some (.ref rs), some (.ref p0), some (.ref gt), some (.ref m), some (.ref td), some (.int i), some (.int done), some (.int (if isIf row = true then ifs + 1 else ifs : Nat)), some (.ref r), some (.bl (sameOf f row g s)), some (.bl (jumpOf row left))] ∧ H' = H7, ?_, ?_⟩
    · refine ⟨_, rfl, r, _, 0, _, rfl, rfl, SqT.of hr7, first_word (K := K), rfl, _, rfl, ?_⟩
      rw [word_if]
      unfold jumpOf
      by_cases hI : isIf row = true
      · rw [hI]
        have lt2 := hsome hI
        have eh : left.head? = some ways[ifs] := by rw [hl, List.head?_drop, List.getElem?_eq_getElem lt2]
        have gw : (ways.map V.bl)[ifs]? = some (.bl ways[ifs]) := by rw [List.getElem?_map, List.getElem?_eq_getElem lt2]; rfl
        refine iteT ⟨_, rfl, _, rfl, wl, _, ifs, _, rfl, rfl, SqL.of hw7, atI_nat gw, _, rfl, _, _, rfl, rfl, ?_, rfl⟩
        rw [eh, if_pos rfl, Bool.true_and]
        have : decide (some ways[ifs] = some true) = ways[ifs] := by cases ways[ifs] <;> rfl
        rw [this]
        rfl
      · rw [Bool.not_eq_true] at hI
        rw [hI]
        exact iteF ⟨rfl, rfl⟩
    rintro _ _ ⟨rfl, rfl⟩
    -- at = next_row(row, at, jumps); done += 1
    refine ⟨_, rfl, _, rfl, _, rfl, r, row, i, _, rfl, hr7, ?_⟩
    rw [behind_jump]
    refine ⟨_, rfl, _, _, rfl, rfl, lt, ?_⟩
    refine ⟨doRowW f row g s, nextW row left i, if isIf row = true then ifs + 1 else ifs, done + 1, if isIf row = true then left.tail else left, if tells row = true then told ++ [(i, sameOf f row g s)] else told, ts7, _, _, _, rfl, rfl, lt, nextW_le rok hrow, ?_, ?_, doRowW_ok sok rok gk, hm7, hn7, hc7, ht7, hts7, ?_, x07, ?_⟩
    · by_cases hI : isIf row = true
      · rw [if_pos hI]; exact hsome hI
      · rw [if_neg hI]; exact hif
    · by_cases hI : isIf row = true
      · rw [if_pos hI, if_pos hI, hl, List.tail_drop]
      · rw [if_neg hI, if_neg hI]; exact hl
    · split
      · rw [List.length_append]; show told.length + 1 ≤ done + 1; omega
      · omega
    · rw [← hgo, show 300 - done = (300 - (done + 1)) + 1 by omega, goW_step hrow heg ae]
      intro hI z
      have := hsome hI
      rw [hl, List.drop_eq_nil_iff] at z
      omega
end
end Bw
namespace Bw
open PySem PySem.Spec PyProof.Rows L2 GxR Gx RZ
section
variable {base : Heap} {K : PySem.W.Frag} {mg : Str → Option Value} {P : Program} {w : World}
/-- what is handed to the law's marks -/
structure CasePre (H : Hp) (pa a ca : Addr) (p : Prog) (f : Fr) (c : Ch) : Prop where
  hp : ProgAt H pa p
  pok : p.Ok
  hf : FrAt H a f
  fok : f.Ok
  hc : Tp H (.ref ca) c.d
  cok : Ch.Ok p f c
theorem CasePre.ext {m : Addr → Prop} {H H' : Hp} {pa a ca : Addr} {p : Prog} {f : Fr} {c : Ch} (h : CasePre H pa a ca p f c) (x : Ext m H H') : CasePre H' pa a ca p f c := ⟨h.hp.ext x, h.pok, h.hf.ext x, h.fok, h.hc.ext x, h.cok⟩
/-- the law's marks in the heap -/
structure MarksAt (H : Hp) (d x y : Addr) (n c : List Mark) (k : Nat) : Prop where
  d : H d = some (.dK (mkK (.ref x) (.ref y) k))
  x : H x = some (.lst (n.map lS))
  y : H y = some (.lst (c.map lS))
def spMarks : Sp := fun vs H Q _ => ∃ (pa a ca : Addr) (p : Prog) (f : Fr) (c : Ch), vs = [.ref pa, .ref a, .ref ca] ∧ CasePre H pa a ca p f c ∧
  ∀ H' d x y, H d = none → H x = none → H y = none → x ≠ y → MarksAt H' d x y (startW p f c).n (startW p f c).c 0 → Ext no H H' → Q (.ref d) H'
abbrev nMarks : List Str := ["_law_program_here", "_law_frame_here", "_law_choice_here", "_law_many", "_law_m", "_law_k", "_law_sort", "_law_number"]
theorem scMarks : FnScope nMarks ["_law_program_here", "_law_frame_here", "_law_choice_here"] (defScope s_law_marks) := ⟨rfl, rfl, rfl, by decide +kernel, rfl, by decide +kernel, by decide +kernel⟩
theorem log_small0 {k : Nat} (h : k < 10000) : ((k : Nat) : Int).natAbs.log2 < 1920 := by
  rw [Int.natAbs_natCast]
  by_cases z : k = 0
  · rw [z]
    decide
  · exact (Nat.log2_lt z).mpr (Nat.lt_of_le_of_lt (show k ≤ 2 ^ 14 by omega) (Nat.pow_lt_pow_right (a := 2) (m := 14) (n := 1920) (by decide) (by decide)))
theorem num_short0 {k : Nat} (h : k < 10000) : (Str.ofString (toString ((k : Nat) : Int))).length ≤ 10002 := by
  have e : (Str.ofString (toString ((k : Nat) : Int))).cps.toList.length = (Nat.toDigits 10 k).length := by rw [PySem.W.KIN.signs_num, List.length_map]
  have l : (Nat.toDigits 10 k).length ≤ k + 1 := PySem.toDigits_len_le 10 k
  show (Str.ofString (toString ((k : Nat) : Int))).cps.size ≤ 10002
  rw [Array.length_toList] at e
  omega
theorem ok_marks {fu : Addr} {fd : FuncData} (D : Df K mg "_law_marks" s_law_marks ["_law_program_here", "_law_frame_here", "_law_choice_here"] fu fd) (B : Bt mg) : FnOk P w K mg base CX0 1 fu fd ["_law_program_here", "_law_frame_here", "_law_choice_here"] spMarks := by
  refine D.F.ok scMarks (fun vs H Q E h => ?_) (fun cdv A outer s0 H vs Q E hr h => ?_)
  · obtain ⟨pa, a, ca, p, f, c, rfl, _⟩ := h
    rfl
  · obtain ⟨pa, a, ca, p, f, c, rfl, ⟨hp, pok, hf, fok, hc, cok⟩, q⟩ := h
    have hu1 := hu_of hr
    refine ⟨_, (pss_cons (ps_set (i := 3) scMarks.nd rfl (.inl rfl) (pe_op op_add (pe_ix ix_tup (pv 1) pe_int (fun _ _ => rfl)) (pe_ix ix_tup (pv 1) pe_int (fun _ _ => rfl))))
      (pss_cons (ps_set (i := 4) scMarks.nd rfl (.inl rfl) (pe_disp (pps_cons pe_str (pe_lc (own := [("_law_k", 5)]) (g := gName 5) (tt := tYes) rfl scMarks.nd (pi_range1 (by rfl) B.range (pa_cons (pe_ix ix_tup (pv 0) pe_int (fun _ _ => rfl)) pa_nil)) (blkOk_by (N := nMarks) (sc := defScope s_law_marks) (by decide +kernel)) (fun _ _ _ _ _ => pg_name (i := 5) scMarks.nd rfl (Or.inl rfl)) (fun _ _ _ _ _ => pts_nil) (fun _ _ _ _ _ => (pe_op op_add_str pe_str (pe_callTy call_str_int (by rfl) B.str (by decide +kernel) (pa_cons (pv 5) pa_nil))))) (pps_cons pe_str (pe_lc (own := [("_law_k", 5)]) (g := gName 5) (tt := tYes) rfl scMarks.nd (pi_range1 (by rfl) B.range (pa_cons (pv 3) pa_nil)) (blkOk_by (N := nMarks) (sc := defScope s_law_marks) (by decide +kernel)) (fun _ _ _ _ _ => pg_name (i := 5) scMarks.nd rfl (Or.inl rfl)) (fun _ _ _ _ _ => pts_nil) (fun _ _ _ _ _ => (pe_op op_add_str pe_str (pe_callTy call_str_int (by rfl) B.str (by decide +kernel) (pa_cons (pv 5) pa_nil))))) (pps_cons pe_str pe_int pps_nil))) (by rfl) (by rfl) (fun z => by cases z) (by decide)))
      (pss_cons (ps_for PassesOwn.never rfl (pi_range1 (by rfl) B.range (pa_cons (pe_ix ix_tup (pv 0) pe_int (fun _ _ => rfl)) pa_nil)) (pg_name (i := 5) scMarks.nd rfl (.inl rfl))
      (pss_cons (ps_asg (pe_ix ix_tup (pe_ix ix_tup (pv 2) pe_int (fun _ _ => rfl)) (pv 5) (fun _ _ => rfl)) (pg_tup rfl (pgs_cons (pg_name (i := 6) scMarks.nd rfl (.inl rfl)) (pgs_cons (pg_name (i := 7) scMarks.nd rfl (.inl rfl)) pgs_nil))))
      (pss_one (ps_asg (pe_ix ix_list (pe_dget hu1 (pv 4) pe_str (fun _ _ => rfl)) (pv 5) (fun _ _ => rfl)) (pg_sub (pe_dget hu1 (pv 4) pe_str (fun _ _ => rfl)) (pe_op op_add (pv 7) (pe_op op_mul (pe_ix ix_tup (pv 1) pe_int (fun _ _ => rfl)) (pe_callTy call_int1 (by rfl) B.int (by decide +kernel) (pa_cons (pe_cmpR op_eq (pv 6) pe_str (nomark _)) pa_nil)))) set_list)))))
      (pss_one (ps_ret (pv 4)))))), ?_⟩
    obtain ⟨e, ha, he⟩ := hf.ex
    obtain ⟨rs, as, hpa, hrs, hrows⟩ := hp.ex
    have b6 := fok.b6
    -- many
    refine ⟨_, rfl, a, _, 0, _, rfl, rfl, SqT.of ha, atI_nat (j := 0) rfl, _, rfl, a, _, 1, _, rfl, rfl, SqT.of ha, atI_nat (j := 1) rfl, _, _, rfl, rfl, ?_⟩
    intro d nd
    have x1 : Ext no H (upd H d (.dK [])) := Ext.new nd
    have hd1 : (upd H d (.dK [])) d = some (.dK []) := upd_same
    generalize upd H d (.dK []) = H1 at x1 hd1 ⊢
    refine ⟨_, rfl, pa, _, 1, _, rfl, rfl, SqT.of (x1.tup _ _ hpa), atI_nat (j := 1) rfl, p.names, rfl, by have := pok.n1; omega, by have := pok.n1; omega, fun x nx => ?_⟩
    refine lc_range (lo := 0) (n := (p.names : Int).toNat) (fun j H2 => H2 x = some (.lst (((List.range j).map fun k : Nat => ((k : Int), mkS "n" k)).map lS)) ∧ Ext no H1 H2) ⟨upd_same, Ext.new nx⟩ ?_ ?_
    · rintro j H2 lt ⟨hx2, x2⟩
      have j8 : j < 8 := by have := pok.n1; omega
      rw [Int.zero_add]
      have sh : (Str.ofString "n").length + (Str.ofString (toString (j : Int))).length ≤ sizeLine := Nat.le_trans (Nat.add_le_add (show (Str.ofString "n").length ≤ 1 by decide +kernel) (num_short0 (by omega))) (by decide)
      refine ⟨rfl, _, rfl, _, rfl, log_small0 (by omega), _, _, rfl, rfl, sh, _, hx2, by rw [List.length_map, List.length_map, List.length_range]; exact small_lt (k := 8) (by omega) (by decide), ?_, x2.own nx⟩
      rw [upd_same, List.range_succ, List.map_append, List.map_append]
      rfl
    rintro H2 ⟨hx2, x2⟩
    rw [Int.toNat_natCast] at hx2
    refine ⟨_, rfl, ((f.boxes + f.slots : Nat) : Int), rfl, by have := fok.s8; omega, by have := fok.s8; omega, fun y ny => ?_⟩
    refine lc_range (lo := 0) (n := ((f.boxes + f.slots : Nat) : Int).toNat) (fun j H3 => H3 y = some (.lst (((List.range j).map fun k : Nat => (((p.names + k : Nat) : Int), mkS "h" k)).map lS)) ∧ Ext no H2 H3) ⟨upd_same, Ext.new ny⟩ ?_ ?_
    · rintro j H3 lt ⟨hy3, x3⟩
      have j8 : j < 100 := by have := fok.s8; omega
      rw [Int.zero_add]
      have sh : (Str.ofString "h").length + (Str.ofString (toString (j : Int))).length ≤ sizeLine := Nat.le_trans (Nat.add_le_add (show (Str.ofString "h").length ≤ 1 by decide +kernel) (num_short0 (by omega))) (by decide)
      refine ⟨rfl, _, rfl, _, rfl, log_small0 (by omega), _, _, rfl, rfl, sh, _, hy3, by rw [List.length_map, List.length_map, List.length_range]; exact small_lt (k := 100) (by omega) (by decide), ?_, x3.own ny⟩
      rw [upd_same, List.range_succ, List.map_append, List.map_append]
      rfl
    rintro H3 ⟨hy3, x3⟩
    rw [Int.toNat_natCast] at hy3
    have x03 : Ext no H H3 := (x1.trans x2).trans x3
    have hd3 := x3.oth d _ (fun z => z) (fun _ z => by cases z) (x2.oth d _ (fun z => z) (fun _ z => by cases z) hd1)
    have hx3 := x3.lst (fun z => z) hx2
    have xN : H x = none := x1.dom x nx
    have yN : H y = none := (x1.trans x2).dom y ny
    have nxy : x ≠ y := fun z => by rw [z, ny] at hx2; cases hx2
    have ndx : d ≠ x := fun z => by rw [z, nx] at hd1; cases hd1
    have hd2 := x2.oth d _ (fun z => z) (fun _ z => by cases z) hd1
    have ndy : d ≠ y := fun z => by rw [z, ny] at hd2; cases hd2
    refine ⟨hd3, mkK (.ref x) (.ref y) 0, rfl, by show 3 ≤ 15; decide, ?_⟩
    have mm : mergeK [] (mkK (.ref x) (.ref y) 0) = mkK (.ref x) (.ref y) 0 := by simp [mergeK, mkK, putK, key_nm, key_hm, key_nh]
    rw [mm]
    have x04 : Ext no H (upd H3 d (.dK (mkK (.ref x) (.ref y) 0))) := x03.own nd
    have at4 : MarksAt (upd H3 d (.dK (mkK (.ref x) (.ref y) 0))) d x y (namesW p.names) (cellsW p.names (f.boxes + f.slots)) 0 := ⟨upd_same, by rw [upd_ne ndx.symm]; exact hx3, by rw [upd_ne ndy.symm]; exact hy3⟩
    generalize upd H3 d (.dK (mkK (.ref x) (.ref y) 0)) = H4 at x04 at4 ⊢
    -- for k in range(params)
    obtain ⟨ca', cvs, ec, hca, call⟩ := hc.tupE
    obtain rfl : ca = ca' := V.ref.inj ec
    obtain ⟨p0, g0, rfl, tpl⟩ : ∃ p0 g0, cvs = [.ref p0, g0] ∧ Tp H (.ref p0) (.tuple (c.places.map Pl.d)) := by
      cases call with
      | cons h1 t1 =>
        cases t1 with
        | cons h2 t2 =>
          cases t2
          obtain ⟨z1, _, e1, _⟩ := h1.tupE
          subst e1
          exact ⟨z1, _, rfl, h1⟩
    obtain ⟨p0', pvs, ep, hpl, pall⟩ := tpl.tupE
    obtain rfl : p0 = p0' := V.ref.inj ep
    have pn := pok.pn
    have n1 := pok.n1
    have nwl : (namesW p.names).length = p.names := by rw [namesW, List.length_map, List.length_range]
    refine ⟨_, rfl, pa, _, 0, _, rfl, rfl, SqT.of (x04.tup _ _ hpa), atI_nat (j := 0) rfl, p.params, rfl, by omega, by omega, ?_⟩
    refine for_range (lo := 0) (n := (p.params : Int).toNat) (fun i σ H5 => (∃ v5 v6 v7, σ = [some (.ref pa), some (.ref a), some (.ref ca), some (.int (f.boxes + f.slots : Int)), some (.ref d), v5, v6, v7]) ∧ MarksAt H5 d x y (namesW p.names) (layW f (namesW p.names) (c.places.take i) 0 (cellsW p.names (f.boxes + f.slots))) 0 ∧ Ext no H H5)
      ⟨⟨_, _, _, rfl⟩, at4, x04⟩ ?_ ?_
    · rintro i σ H5 lt ⟨⟨v5, v6, v7, rfl⟩, at5, x05⟩
      rw [Int.zero_add]
      have ilt : i < c.places.length := by rw [cok.pl]; omega
      have ei : c.places[i]? = some c.places[i] := List.getElem?_eq_getElem ilt
      generalize c.places[i] = pp at ei
      have pk := cok.pm pp (List.mem_of_getElem? ei)
      obtain ⟨pv', hpv, tpv⟩ := pall.get (i := i) (d := pp.d) (by rw [List.getElem?_map, ei]; rfl)
      obtain ⟨t, rfl, ht⟩ := tp2E tpv
      have getn : ((namesW p.names).map lS)[i]? = some (lS (atG m0 (namesW p.names) i)) := by rw [List.getElem?_map, atG_get (d := m0) (by rw [nwl]; omega)]; rfl
      have gN : DGet H5 d (.str "names") (some (.ref x)) := by have := DGet.k (k := Sum.inr "names") at5.d; rw [mkK_names] at this; exact this
      have gH : DGet H5 d (.str "held") (some (.ref y)) := by have := DGet.k (k := Sum.inr "held") at5.d; rw [mkK_held] at this; exact this
      have dl : (layW f (namesW p.names) (c.places.take i) 0 (cellsW p.names (f.boxes + f.slots))).length = f.boxes + f.slots := (layW_len ..).trans (by rw [cellsW, List.length_map, List.length_range])
      refine ⟨_, rfl, ca, _, 0, _, rfl, rfl, SqT.of (x05.tup _ _ hca), atI_nat (j := 0) rfl, _, rfl, p0, _, i, _, rfl, rfl, SqT.of (x05.tup _ _ hpl), atI_nat hpv, ?_⟩
      cases pp with
      | mk bx n =>
        cases bx with
        | true =>
          have ht : H t = some (.tup [.str "box", .int n]) := ht
          have nlt : n < f.boxes + f.slots := Pl.cell_lt pk
          refine ⟨t, _, rfl, SqT.of (x05.tup _ _ ht), rfl, _, _, rfl, _, _, rfl, rfl, ?_⟩
          refine ⟨_, rfl, d, _, rfl, gN, _, rfl, x, _, i, _, rfl, rfl, SqL.of at5.x, atI_nat getn, ?_⟩
          refine ⟨_, rfl, d, _, rfl, gH, _, rfl, _, rfl, a, _, 0, _, rfl, rfl, SqT.of (x05.tup _ _ ha), atI_nat (j := 0) rfl, _, rfl, rfl, .inr ⟨_, rfl, _, _, rfl, rfl, .inl ⟨by omega, by omega⟩, _, _, rfl, rfl, y, _, ((n : Nat) : Int), n, rfl, ?_, at5.y, ixN_nat (by rw [List.length_map, dl]; exact nlt), ?_⟩⟩
          · rw [show decide (V.str "box" = V.str "slot") = false by decide +kernel]
            show V.int _ = V.int _
            congr 1
            try simp
            try omega
          · refine ⟨⟨_, _, _, rfl⟩, ⟨by rw [upd_ne ndy]; exact at5.d, by rw [upd_ne nxy]; exact at5.x, ?_⟩, x05.own yN⟩
            rw [upd_same, List.take_add_one, ei]
            show _ = some (HO.lst (List.map lS (layW f (namesW p.names) (c.places.take i ++ [_]) 0 _)))
            rw [layW_snoc, List.map_set, List.length_take, Nat.min_eq_left (Nat.le_of_lt ilt), Nat.zero_add]
            rfl
        | false =>
          have ht : H t = some (.tup [.str "slot", .int n]) := ht
          have nlt : (f.boxes + n) < f.boxes + f.slots := Pl.cell_lt pk
          refine ⟨t, _, rfl, SqT.of (x05.tup _ _ ht), rfl, _, _, rfl, _, _, rfl, rfl, ?_⟩
          refine ⟨_, rfl, d, _, rfl, gN, _, rfl, x, _, i, _, rfl, rfl, SqL.of at5.x, atI_nat getn, ?_⟩
          refine ⟨_, rfl, d, _, rfl, gH, _, rfl, _, rfl, a, _, 0, _, rfl, rfl, SqT.of (x05.tup _ _ ha), atI_nat (j := 0) rfl, _, rfl, rfl, .inr ⟨_, rfl, _, _, rfl, rfl, .inl ⟨by omega, by omega⟩, _, _, rfl, rfl, y, _, (((f.boxes + n) : Nat) : Int), (f.boxes + n), rfl, ?_, at5.y, ixN_nat (by rw [List.length_map, dl]; exact nlt), ?_⟩⟩
          · rw [show decide (V.str "slot" = V.str "slot") = true by decide +kernel]
            show V.int _ = V.int _
            congr 1
            try simp
            try omega
          · refine ⟨⟨_, _, _, rfl⟩, ⟨by rw [upd_ne ndy]; exact at5.d, by rw [upd_ne nxy]; exact at5.x, ?_⟩, x05.own yN⟩
            rw [upd_same, List.take_add_one, ei]
            show _ = some (HO.lst (List.map lS (layW f (namesW p.names) (c.places.take i ++ [_]) 0 _)))
            rw [layW_snoc, List.map_set, List.length_take, Nat.min_eq_left (Nat.le_of_lt ilt), Nat.zero_add]
            rfl
    · rintro σ H5 ⟨⟨v5, v6, v7, rfl⟩, at5, x05⟩
      rw [Int.toNat_natCast, List.take_of_length_le (by rw [cok.pl]; exact Nat.le_refl _)] at at5
      exact ⟨_, rfl, q H5 d x y nd xN yN nxy at5 x05⟩
end
end Bw
namespace Bw
open PySem PySem.Spec PyProof.Rows L2 GxR Gx RZ
theorem rising_in : ∀ (l : List Nat) (k n : Nat), l.Pairwise (· < ·) → (∀ x ∈ l, k ≤ x ∧ x < n) → l.length ≤ n - k
  | [], _, _, _, _ => Nat.zero_le _
  | x :: l, k, n, hp, hm => by
    have hx := hm x (List.mem_cons_self ..)
    have both := List.pairwise_cons.mp hp
    have := rising_in l (x + 1) n both.2 fun z hz => ⟨both.1 z hz, (hm z (List.mem_cons_of_mem _ hz)).2⟩
    rw [List.length_cons]
    omega
theorem rising_few (l : List Nat) (n : Nat) (hp : l.Pairwise (· < ·)) (hm : ∀ x ∈ l, x < n) : l.length ≤ n := rising_in l 0 n hp fun x hx => ⟨Nat.zero_le _, hm x hx⟩
theorem eaten_few {f : Fr} (ok : f.Ok) : f.eaten.length ≤ 6 := Nat.le_trans (rising_few _ _ ok.rise ok.eat) ok.b6
theorem rowV_name {row : Row} {k : Nat} (h : k < (namesOf row).length) : atI (rowV row) (1 + (k : Int)) = some (.int (boxAt (namesOf row) k)) := by
  rw [show (1 : Int) + (k : Int) = ((k + 1 : Nat) : Int) by omega]
  refine atI_nat ?_
  cases row with
  | put n v => match k, h with | 0, _ => rfl
  | copy n o => match k, h with | 0, _ => rfl | 1, _ => rfl
  | add n a b => match k, h with | 0, _ => rfl | 1, _ => rfl | 2, _ => rfl
  | take n a b => match k, h with | 0, _ => rfl | 1, _ => rfl | 2, _ => rfl
  | less n a b => match k, h with | 0, _ => rfl | 1, _ => rfl | 2, _ => rfl
  | call n o => match k, h with | 0, _ => rfl | 1, _ => rfl
  | say n => match k, h with | 0, _ => rfl
  | iff n r => match k, h with | 0, _ => rfl
  | go r => cases h
  | fin => cases h
theorem all_true : ∀ bs : List Bool, (!inV (.bl false) (bs.map V.bl)) = bs.all id
  | [] => rfl
  | b :: bs => by
    have i := all_true bs
    cases b with
    | true =>
      rw [List.all_cons]
      show _ = (true && _)
      rw [Bool.true_and, ← i]
      rfl
    | false => rfl
theorem flat_bls (bs : List Bool) : (bs.map V.bl).all flatV = true := by
  rw [List.all_map, List.all_eq_true]
  intro b _
  rfl
theorem mvG_dflt {α : Type} {f : Fr} {m : Mv} {c : List α} (e e' : α) (ok : m.Ok f) (len : c.length = f.boxes + f.slots) : mvG e f m c = mvG e' f m c := by
  have same : ∀ n, n < f.boxes + f.slots → atG e c n = atG e' c n := fun n h => by
    unfold atG
    rw [List.getElem?_eq_getElem (by omega)]
    rfl
  cases m with
  | copy p r =>
    obtain ⟨p1, r1⟩ := ok
    show c.set p (atG e c r) = c.set p (atG e' c r)
    rw [same r (by omega)]
  | swap p r =>
    obtain ⟨p1, r1⟩ := ok
    show (c.set p (atG e c r)).set r (atG e c p) = (c.set p (atG e' c r)).set r (atG e' c p)
    rw [same r (by omega), same p (by omega)]
  | store p r =>
    obtain ⟨p1, r1⟩ := ok
    show c.set _ (atG e c r) = c.set _ (atG e' c r)
    rw [same r (by omega)]
  | load p r =>
    obtain ⟨p1, r1⟩ := ok
    show c.set _ (atG e c _) = c.set _ (atG e' c _)
    rw [same _ (by omega)]
theorem mvsG_dflt {α : Type} {f : Fr} (e e' : α) : ∀ {ms : List Mv} {c : List α}, (∀ m ∈ ms, m.Ok f) → c.length = f.boxes + f.slots → mvsG e f ms c = mvsG e' f ms c
  | [], _, _, _ => rfl
  | m :: ms, c, ok, len => by
    show mvsG e f ms (mvG e f m c) = mvsG e' f ms (mvG e' f m c)
    rw [mvG_dflt e e' (ok m (List.mem_cons_self ..)) len]
    exact mvsG_dflt e e' (fun z hz => ok z (List.mem_cons_of_mem _ hz)) ((mvG_len ..).trans len)
theorem mvsG_text {f : Fr} {ms : List Mv} {c : List Mark} (ok : ∀ m ∈ ms, m.Ok f) (len : c.length = f.boxes + f.slots) : mvsG .non f ms (c.map lS) = (mvsG m0 f ms c).map lS := by
  rw [mvsG_dflt .non (lS m0) ok (by rw [List.length_map]; exact len)]
  exact mvsG_map lS m0 f ms c
section
theorem MarksAt.gN {H : Hp} {d x y : Addr} {n c : List Mark} {k : Nat} (h : MarksAt H d x y n c k) : DGet H d (.str "names") (some (.ref x)) := by
  have := DGet.k (k := Sum.inr "names") h.d
  rw [mkK_names] at this
  exact this
theorem MarksAt.gH {H : Hp} {d x y : Addr} {n c : List Mark} {k : Nat} (h : MarksAt H d x y n c k) : DGet H d (.str "held") (some (.ref y)) := by
  have := DGet.k (k := Sum.inr "held") h.d
  rw [mkK_held] at this
  exact this
theorem MarksAt.ext {m : Addr → Prop} {H H' : Hp} {d x y : Addr} {n c : List Mark} {k : Nat} (h : MarksAt H d x y n c k) (e : Ext m H H') (nd : ¬ m d) (nx : ¬ m x) (ny : ¬ m y) : MarksAt H' d x y n c k := ⟨e.oth d _ nd (fun _ z => by cases z) h.d, e.lst nx h.x, e.lst ny h.y⟩
theorem MarksAt.dx {H : Hp} {d x y : Addr} {n c : List Mark} {k : Nat} (h : MarksAt H d x y n c k) : d ≠ x := ne_of h.d h.x (by intro z; cases z)
theorem MarksAt.dy {H : Hp} {d x y : Addr} {n c : List Mark} {k : Nat} (h : MarksAt H d x y n c k) : d ≠ y := ne_of h.d h.y (by intro z; cases z)
variable {base : Heap} {K : PySem.W.Frag} {mg : Str → Option Value} {P : Program} {w : World}
abbrev md2 (d x : Addr) : Addr → Prop := fun z => z = d ∨ z = x
structure DoPre (H : Hp) (d x y r a : Addr) (v : V) (row : Row) (g : Grp) (f : Fr) (s : Wk) (names many : Nat) : Prop where
  hrow : H r = some (.tup (rowV row))
  hg : Tp H v g.d
  gok : Grp.Ok f row g
  hf : FrAt H a f
  fok : f.Ok
  at_ : MarksAt H d x y s.n s.c s.m
  nxy : x ≠ y
  sok : s.Ok names f
  rok : RowOk names many row
  few : s.m < 9000
def spDoL : Sp := fun vs H Q _ => ∃ (d x y r a : Addr) (v : V) (row : Row) (g : Grp) (f : Fr) (s : Wk) (names many : Nat), vs = [.ref d, .ref r, v, .ref a] ∧ DoPre H d x y r a v row g f s names many ∧
  ∀ H' y', H y' = none → MarksAt H' d x y' (doRowW f row g s).n (doRowW f row g s).c (doRowW f row g s).m → Ext (md2 d x) H H' → Q (.bl (sameOf f row g s)) H'
abbrev nDoL : List Str := ["_law_m", "_law_row_here", "_law_group_here", "_law_frame_here", "_law_ahead", "_law_boxes", "_law_behind", "_law_first", "_law_same", "_law_mark", "_law_one", "_law_k"]
theorem scDoL : FnScope nDoL ["_law_m", "_law_row_here", "_law_group_here", "_law_frame_here"] (defScope s_law_do) := ⟨rfl, rfl, rfl, by decide +kernel, rfl, by decide +kernel, by decide +kernel⟩
theorem ok_doL {fu fN fH fK : Addr} {fd fdN fdH fdK : FuncData} (D : Df K mg "_law_do" s_law_do ["_law_m", "_law_row_here", "_law_group_here", "_law_frame_here"] fu fd) (DN : Df K mg "_law_new" s_law_new ["_law_m"] fN fdN) (DH : Df K mg "_law_held" s_law_held ["_law_held_here", "_law_moves", "_law_frame_here"] fH fdH) (DK : Df K mg "_law_makes" s_law_makes ["_law_row_here"] fK fdK) (B : Bt mg) : FnOk P w K mg base CX0 2 fu fd ["_law_m", "_law_row_here", "_law_group_here", "_law_frame_here"] spDoL := by
  have GN : FnOk P w K mg base CX0 1 fN fdN ["_law_m"] spNew := ok_new DN B
  have GH : FnOk P w K mg base CX0 1 fH fdH ["_law_held_here", "_law_moves", "_law_frame_here"] spHeldG := ok_heldG DH B
  have GK : FnOk P w K mg base CX0 1 fK fdK ["_law_row_here"] spMakes := ok_makes DK
  refine D.F.ok scDoL (fun vs H Q E h => ?_) (fun cdv A outer s0 H vs Q E hr1 h => ?_)
  · obtain ⟨d, x, y, r, a, v, row, g, f, s, names, many, rfl, _⟩ := h
    rfl
  · obtain ⟨d, x, y, r, a, v, row, g, f, s, names, many, rfl, ⟨hrow, hg, gok, hf, fok, at0, nxy, sok, rok, few⟩, q⟩ := h
    have hu1 := hu_of hr1
    refine ⟨_, (pss_cons (ps_asg (pv 2) (pg_tup rfl (pgs_cons (pg_name (i := 4) scDoL.nd rfl (.inl rfl)) (pgs_cons (pg_name (i := 5) scDoL.nd rfl (.inr rfl)) (pgs_cons (pg_name (i := 6) scDoL.nd rfl (.inl rfl)) pgs_nil)))))
      (pss_cons (ps_asg (pcall DH GH hr1 (pa_cons (pe_dget hu1 (pv 0) pe_str (fun _ _ => rfl)) (pa_cons (pv 4) (pa_cons (pv 3) pa_nil)))) (pg_sub (pv 0) pe_str (set_dict hu1)))
      (pss_cons (ps_set (i := 7) scDoL.nd rfl (.inl rfl) (pe_callTy call_int1 (by rfl) B.int (by decide +kernel) (pa_cons (pcall DK GK hr1 (pa_cons (pv 1) pa_nil)) pa_nil)))
      (pss_cons (ps_setLc (i := 8) (own := [("_law_k", 11)]) (g := gName 11) (tt := tYes) rfl scDoL.nd rfl rfl (sw_true rfl rfl rfl (by decide +kernel)) (pi_range2 (by rfl) B.range (pa_cons (pv 7) (pa_cons (pe_callB call_len_seq (by rfl) B.len PySem.boot_len (pa_cons (pv 5) pa_nil)) pa_nil))) (blkOk_by (N := nDoL) (sc := defScope s_law_do) (by decide +kernel)) (fun _ _ _ _ _ => pg_name (i := 11) scDoL.nd rfl (Or.inl rfl)) (fun _ _ _ _ _ => pts_nil) (fun _ _ _ _ _ => (pe_cmpR op_eq (pe_ix (r := rIxL K) ix_list (pe_dget hu1 (pv 0) pe_str (fun _ _ => rfl)) (pe_ix (r := rIxT K) ix_tup (pv 5) (pv 11) (fun _ _ => rfl)) (fun _ _ => rfl)) (pe_ix (r := rIxL K) ix_list (pe_dget hu1 (pv 0) pe_str (fun _ _ => rfl)) (pe_ix (r := rIxT K) ix_tup (pv 1) (pe_op op_add pe_int (pv 11)) (fun _ _ => rfl)) (fun _ _ => rfl)) (nomark _))))
      (pss_mid (ps_if (pt_cmpR op_eq (pe_ix ix_tup (pv 1) pe_int (fun _ _ => rfl)) pe_str (nomark _)) (pss_cons (ps_asg (pe_ix ix_list (pe_dget hu1 (pv 0) pe_str (fun _ _ => rfl)) (pe_ix ix_tup (pv 1) pe_int (fun _ _ => rfl)) (fun _ _ => rfl)) (pg_sub (pe_dget hu1 (pv 0) pe_str (fun _ _ => rfl)) (pe_ix ix_tup (pv 1) pe_int (fun _ _ => rfl)) set_list))
      (pss_one (ps_asg (pe_ix ix_list (pe_dget hu1 (pv 0) pe_str (fun _ _ => rfl)) (pe_ix ix_tup (pv 5) pe_int (fun _ _ => rfl)) (fun _ _ => rfl)) (pg_sub (pe_dget hu1 (pv 0) pe_str (fun _ _ => rfl)) (pe_ix ix_tup (pv 5) pe_int (fun _ _ => rfl)) set_list))))
      (pss_one (ps_if (pt_cmpR op_eq (pv 7) pe_int (nomark _)) (pss_cons (ps_set (i := 9) scDoL.nd rfl (.inl rfl) (pcall DN GN hr1 (pa_cons (pv 0) pa_nil)))
      (pss_cons (ps_asg (pv 9) (pg_sub (pe_dget hu1 (pv 0) pe_str (fun _ _ => rfl)) (pe_ix ix_tup (pv 1) pe_int (fun _ _ => rfl)) set_list))
      (pss_mid (ps_if (pt_cmpR op_eq (pe_ix ix_tup (pv 1) pe_int (fun _ _ => rfl)) pe_str (nomark _)) (pss_one (ps_for PassesOwn.never rfl (pi_tup (pe_ix ix_tup (pv 3) pe_int (fun _ _ => rfl))) (pg_name (i := 10) scDoL.nd rfl (.inl rfl))
      (pss_one (ps_asg (pcall DN GN hr1 (pa_cons (pv 0) pa_nil)) (pg_sub (pe_dget hu1 (pv 0) pe_str (fun _ _ => rfl)) (pv 10) set_list)))))
      pss_nil)
      (pss_one (ps_asg (pe_ifExp (pt_cmpR op_notIn_seq pe_bl (pv 8) (by rfl)) (pv 9) (pcall DN GN hr1 (pa_cons (pv 0) pa_nil))) (pg_sub (pe_dget hu1 (pv 0) pe_str (fun _ _ => rfl)) (pe_ix ix_tup (pv 5) pe_int (fun _ _ => rfl)) set_list)))))) pss_nil)))
      (pss_cons (ps_asg (pcall DH GH hr1 (pa_cons (pe_dget hu1 (pv 0) pe_str (fun _ _ => rfl)) (pa_cons (pv 6) (pa_cons (pv 3) pa_nil)))) (pg_sub (pv 0) pe_str (set_dict hu1)))
      (pss_one (ps_ret (pe_cmpR op_notIn_seq pe_bl (pv 8) (by rfl)))))))))), ?_⟩
    obtain ⟨t, ah, bo, be, rfl, ht, tah, hbo, tbe⟩ := grpE hg
    obtain ⟨e, ha, he⟩ := hf.ex
    have c1l : (mvsG m0 f g.ahead s.c).length = f.boxes + f.slots := (mvsG_len ..).trans sok.cl
    refine ⟨_, rfl, t, _, rfl, SqT.of ht, rfl, _, _, rfl, _, _, rfl, _, _, rfl, rfl, ?_⟩
    -- m["held"] = held(..)
    refine ⟨_, rfl, d, _, rfl, at0.gH, _, rfl, _, rfl, y, ah, a, s.c.map lS, g.ahead, f, rfl, at0.y, by rw [List.length_map]; exact sok.cl, tah, gok.am, hf, fok, fun H1 y1 ny1 hy1 x1 => ?_⟩
    rw [mvsG_text gok.am sok.cl] at hy1
    have at1 := at0.ext x1 (fun z => z) (fun z => z) (fun z => z)
    have ndy1 : d ≠ y1 := ne_of_none at0.d ny1
    have nxy1 : x ≠ y1 := ne_of_none at0.x ny1
    refine ⟨_, rfl, d, _, rfl, DPut.k (k := Sum.inr "held") at1.d (by show 3 < sizeLine; decide), ?_⟩
    rw [mkK_lay]
    have x02 : Ext (md2 d x) H (upd H1 d (.dK (mkK (.ref x) (.ref y1) s.m))) := (x1.mono fun _ z => z.elim).trans (Ext.put at1.d (.inl rfl) (fun _ z => by cases z) (fun _ z => by cases z))
    have at2 : MarksAt (upd H1 d (.dK (mkK (.ref x) (.ref y1) s.m))) d x y1 s.n (mvsG m0 f g.ahead s.c) s.m := ⟨upd_same, by rw [upd_ne at0.dx.symm]; exact at1.x, by rw [upd_ne ndy1.symm]; exact hy1⟩
    generalize upd H1 d (.dK (mkK (.ref x) (.ref y1) s.m)) = H2 at x02 at2 ⊢
    -- first = int(makes(row))
    refine ⟨_, rfl, r, row, rfl, x02.tup _ _ hrow, fun H3 x3 => .inr ⟨_, rfl, ?_⟩⟩
    have ef : (if makes row = true then (1 : Int) else 0) = (firstOf row : Nat) := by
      unfold firstOf
      split <;> rfl
    rw [ef]
    have x03 : Ext (md2 d x) H H3 := x02.trans x3.of0
    have at3 := at2.ext x3 (fun z => z) (fun z => z) (fun z => z)
    have hbo3 := x03.tup _ _ hbo
    have hrow3 := x03.tup _ _ hrow
    have f1 : firstOf row ≤ 1 := by
      unfold firstOf
      split <;> decide
    have r3 : (rowNames row).length ≤ 3 := by cases row <;> simp [rowNames]
    have glen := gok.len
    have hbl : (nV g.boxes).length = g.boxes.length := List.length_map ..
    -- same = [..]
    refine ⟨_, rfl, _, rfl, bo, _, rfl, .inr (SqT.of hbo3), (firstOf row : Nat), (g.boxes.length : Nat), by rw [hbl], ⟨by omega, by omega, by omega, by omega⟩, fun sm nsm => ?_⟩
    have ln : (((g.boxes.length : Nat) : Int) - ((firstOf row : Nat) : Int)).toNat = g.boxes.length - firstOf row := by omega
    rw [ln]
    have lsl : (lawSame row g.boxes s.n (mvsG m0 f g.ahead s.c)).length = g.boxes.length - firstOf row := by rw [lawSame, List.length_map, List.length_range]
    refine lc_range (lo := ((firstOf row : Nat) : Int)) (n := g.boxes.length - firstOf row) (fun j H4 => H4 sm = some (.lst (((lawSame row g.boxes s.n (mvsG m0 f g.ahead s.c)).take j).map V.bl)) ∧ Ext no H3 H4) ⟨upd_same, Ext.new nsm⟩ ?_ ?_
    · rintro j H4 lt ⟨hsm4, x4⟩
      have at4 := at3.ext x4 (fun z => z) (fun z => z) (fun z => z)
      have kb : firstOf row + j < g.boxes.length := by omega
      have kn : firstOf row + j < (namesOf row).length := by rw [names_len]; omega
      have gb : (nV g.boxes)[firstOf row + j]? = some (.int (boxAt g.boxes (firstOf row + j))) := by
        rw [List.getElem?_map, List.getElem?_eq_getElem kb]
        show some (V.int _) = some (V.int _)
        rw [boxAt, List.getElem?_eq_getElem kb]
        rfl
      have bl : boxAt g.boxes (firstOf row + j) < f.boxes := gok.bm _ (by
        rw [boxAt, List.getElem?_eq_getElem kb]
        exact List.getElem_mem kb)
      have nlt : boxAt (namesOf row) (firstOf row + j) < names := names_lt rok _ (by
        rw [boxAt, List.getElem?_eq_getElem kn]
        exact List.getElem_mem kn)
      have gc : ((mvsG m0 f g.ahead s.c).map lS)[boxAt g.boxes (firstOf row + j)]? = some (lS (atG m0 (mvsG m0 f g.ahead s.c) (boxAt g.boxes (firstOf row + j)))) := by rw [List.getElem?_map, atG_get (d := m0) (by omega)]; rfl
      have gn : (s.n.map lS)[boxAt (namesOf row) (firstOf row + j)]? = some (lS (atG m0 s.n (boxAt (namesOf row) (firstOf row + j)))) := by rw [List.getElem?_map, atG_get (d := m0) (by rw [sok.nl]; exact nlt)]; rfl
      rw [show ((firstOf row : Nat) : Int) + (j : Int) = ((firstOf row + j : Nat) : Int) by omega]
      refine ⟨rfl, _, rfl, d, _, rfl, at4.gH, _, rfl, _, rfl, bo, _, _, _, rfl, rfl, SqT.of (x4.tup _ _ hbo3), atI_nat gb, y1, _, _, _, rfl, rfl, SqL.of at4.y, atI_nat gc, ?_⟩
      refine ⟨_, rfl, d, _, rfl, at4.gN, _, rfl, _, rfl, _, _, rfl, rfl, r, _, _, _, rfl, rfl, SqT.of (x4.tup _ _ hrow3), rowV_name kn, x, _, _, _, rfl, rfl, SqL.of at4.x, atI_nat gn, rfl, _, hsm4, ?_, ?_, x4.own nsm⟩
      · rw [List.length_map (f := V.bl), List.length_take]
        exact small_lt (k := 3) (by omega) (by decide)
      · rw [upd_same, List.take_add_one, List.map_append]
        have gl : (lawSame row g.boxes s.n (mvsG m0 f g.ahead s.c))[j]? = some (decide ((atG m0 (mvsG m0 f g.ahead s.c) (boxAt g.boxes (firstOf row + j))).2 = (atG m0 s.n (boxAt (namesOf row) (firstOf row + j))).2)) := by
          rw [lawSame, List.getElem?_map, List.getElem?_range lt]
          rfl
        rw [gl]
        have de : decide (lS (atG m0 (mvsG m0 f g.ahead s.c) (boxAt g.boxes (firstOf row + j))) = lS (atG m0 s.n (boxAt (namesOf row) (firstOf row + j)))) = decide ((atG m0 (mvsG m0 f g.ahead s.c) (boxAt g.boxes (firstOf row + j))).2 = (atG m0 s.n (boxAt (namesOf row) (firstOf row + j))).2) := by
          rw [decide_eq_decide]
          exact ⟨V.str.inj, congrArg V.str⟩
        rw [de]
        rfl
    rintro H4 ⟨hsm4, x4⟩
    rw [List.take_of_length_le (Nat.le_of_eq lsl)] at hsm4
    have at4 := at3.ext x4 (fun z => z) (fun z => z) (fun z => z)
    have x04 : Ext (md2 d x) H H4 := x03.trans x4.of0
    have smN : H sm = none := x03.dom sm nsm
    have nsd : sm ≠ d := fun z => by rw [z, at0.d] at smN; cases smN
    have nsx : sm ≠ x := fun z => by rw [z, at0.x] at smN; cases smN
    have nsy : sm ≠ y1 := fun z => by rw [z, at3.y] at nsm; cases nsm
    have esame : (lawSame row g.boxes s.n (mvsG m0 f g.ahead s.c)).all id = sameOf f row g s := law_same (s := aheadW f g s) (sok.moves gok.am) rok gok.len gok.bm
    generalize lawSame row g.boxes s.n (mvsG m0 f g.ahead s.c) = ls at hsm4 esame
    -- the row itself
    refine ⟨fun σ' H' => (∃ v9 v10 v11, σ' = [some (.ref d), some (.ref r), some (.ref t), some (.ref a), some (.ref ah), some (.ref bo), some (.ref be), some (.int (firstOf row : Nat)), some (.ref sm), v9, v10, v11]) ∧ MarksAt H' d x y1 (coreW f row g.boxes (aheadW f g s)).n (coreW f row g.boxes (aheadW f g s)).c (coreW f row g.boxes (aheadW f g s)).m ∧ Ext (md2 d x) H H' ∧ H' sm = some (.lst (ls.map V.bl)), ?_, ?_⟩
    · have hrow4 := x04.tup _ _ hrow
      have hbo4 := x04.tup _ _ hbo
      refine ⟨_, rfl, r, _, 0, _, rfl, rfl, SqT.of hrow4, first_word (K := K), rfl, _, rfl, ?_⟩
      rw [word_copy]
      by_cases hcp : isCopy row = true
      · rw [hcp]
        obtain ⟨n, o, rfl⟩ : ∃ n o, row = .copy n o := by
          cases row with
          | copy n o => exact ⟨n, o, rfl⟩
          | _ => cases hcp
        obtain ⟨b0, b1, hb⟩ : ∃ b0 b1, g.boxes = [b0, b1] := by
          have hl := gok.len
          match e : g.boxes, hl with
          | [x, y], _ => exact ⟨x, y, rfl⟩
        have b0l : b0 < f.boxes := gok.bm b0 (by rw [hb]; simp)
        have b1l : b1 < f.boxes := gok.bm b1 (by rw [hb]; simp)
        rw [hb] at hbo4
        have nl0 : n < s.n.length := by rw [sok.nl]; exact rok.1
        have ol0 : o < s.n.length := by rw [sok.nl]; exact rok.2
        have geto : (s.n.map lS)[o]? = some (lS (atG m0 s.n o)) := by rw [List.getElem?_map, atG_get (d := m0) ol0]; rfl
        have getb : ((mvsG m0 f g.ahead s.c).map lS)[b1]? = some (lS (atG m0 (mvsG m0 f g.ahead s.c) b1)) := by rw [List.getElem?_map, atG_get (d := m0) (by omega)]; rfl
        refine iteT ⟨_, rfl, d, _, rfl, at4.gN, _, rfl, r, _, 2, _, rfl, rfl, SqT.of hrow4, atI_nat (j := 2) rfl, x, _, o, _, rfl, rfl, SqL.of at4.x, atI_nat geto, ?_⟩
        refine ⟨_, rfl, d, _, rfl, at4.gN, _, rfl, r, _, 1, _, rfl, rfl, SqT.of hrow4, atI_nat (j := 1) rfl, x, _, n, n, rfl, rfl, at4.x, ixN_nat (by rw [List.length_map]; exact nl0), ?_⟩
        have atA : MarksAt (upd H4 x (.lst ((s.n.map lS).set n (lS (atG m0 s.n o))))) d x y1 (s.n.set n (atG m0 s.n o)) (mvsG m0 f g.ahead s.c) s.m := ⟨by rw [upd_ne at0.dx]; exact at4.d, by rw [upd_same, List.map_set], by rw [upd_ne nxy1.symm]; exact at4.y⟩
        have xA : Ext (md2 d x) H (upd H4 x (.lst ((s.n.map lS).set n (lS (atG m0 s.n o))))) := x04.trans (Ext.put at4.x (.inr rfl) (fun _ z => by cases z) (fun _ z => by cases z))
        have hboA : (upd H4 x (.lst ((s.n.map lS).set n (lS (atG m0 s.n o))))) bo = some (.tup (nV [b0, b1])) := by rw [upd_ne (ne_of hbo4 at4.x (by intro z; cases z))]; exact hbo4
        have hsA : (upd H4 x (.lst ((s.n.map lS).set n (lS (atG m0 s.n o))))) sm = some (.lst (ls.map V.bl)) := by rw [upd_ne nsx]; exact hsm4
        generalize upd H4 x (.lst ((s.n.map lS).set n (lS (atG m0 s.n o)))) = HA at atA xA hboA hsA ⊢
        refine ⟨_, rfl, d, _, rfl, atA.gH, _, rfl, bo, _, 1, _, rfl, rfl, SqT.of hboA, atI_nat (j := 1) rfl, y1, _, b1, _, rfl, rfl, SqL.of atA.y, atI_nat getb, ?_⟩
        refine ⟨_, rfl, d, _, rfl, atA.gH, _, rfl, bo, _, 0, _, rfl, rfl, SqT.of hboA, atI_nat (j := 0) rfl, y1, _, b0, b0, rfl, rfl, atA.y, ixN_nat (by rw [List.length_map]; omega), ?_⟩
        refine ⟨⟨_, _, _, rfl⟩, ⟨by rw [upd_ne ndy1]; exact atA.d, by rw [upd_ne nxy1]; exact atA.x, ?_⟩, xA.own ny1, by rw [upd_ne nsy]; exact hsA⟩
        rw [upd_same, ← List.map_set, hb]
        rfl
      · rw [Bool.not_eq_true] at hcp
        rw [hcp]
        refine iteF ⟨_, rfl, rfl, _, rfl, ?_⟩
        by_cases hmk : makes row = true
        · have ef1 : firstOf row = 1 := if_pos hmk
          rw [decide_eq_true (show V.int ((firstOf row : Nat) : Int) = V.int 1 by rw [ef1]; rfl)]
          obtain ⟨b0, rest, hb⟩ : ∃ n rest, g.boxes = n :: rest := by
            have hl := gok.len
            match e : g.boxes, hl with
            | [], hl => exfalso; cases row <;> first | exact Bool.noConfusion hmk | exact Nat.noConfusion hl
            | n :: rest, _ => exact ⟨n, rest, rfl⟩
          have hix : atI (rowV row) 1 = some (.int (firstName row)) := by
            refine atI_nat (j := 1) ?_
            cases row <;> first | rfl | exact Bool.noConfusion hmk
          have n0l : firstName row < s.n.length := by
            rw [sok.nl]
            refine names_lt rok _ ?_
            cases row <;> first | exact List.mem_cons_self .. | exact Bool.noConfusion hmk
          have b0l : b0 < f.boxes := gok.bm b0 (by rw [hb]; exact List.mem_cons_self ..)
          rw [hb] at hbo4
          have ec : coreW f row g.boxes (aheadW f g s) = { n := s.n.set (firstName row) (newM (s.p + (eatenBy f row).length + 1) (s.m + 1)), c := (eatW s.p s.m (eatenBy f row) 0 (mvsG m0 f g.ahead s.c)).set (boxAt g.boxes 0) (if sameOf f row g s = true then newM (s.p + (eatenBy f row).length + 1) (s.m + 1) else newM (s.p + (eatenBy f row).length + 2) (s.m + 2 + (eatenBy f row).length)), p := s.p + (eatenBy f row).length + 1 + ownBy (sameOf f row g s), m := s.m + 1 + (eatenBy f row).length + ownBy (sameOf f row g s) } := by
            unfold coreW
            rw [if_neg (by rw [hcp]; exact Bool.false_ne_true), if_pos hmk]
            rfl
          refine iteT ⟨_, rfl, d, .ref x, .ref y1, s.m, rfl, at4.d, by omega, ?_⟩
          have atA : MarksAt (upd H4 d (.dK (mkK (.ref x) (.ref y1) (s.m + 1)))) d x y1 s.n (mvsG m0 f g.ahead s.c) (s.m + 1) := ⟨upd_same, by rw [upd_ne at0.dx.symm]; exact at4.x, by rw [upd_ne ndy1.symm]; exact at4.y⟩
          have xA : Ext (md2 d x) H (upd H4 d (.dK (mkK (.ref x) (.ref y1) (s.m + 1)))) := x04.trans (Ext.put at4.d (.inl rfl) (fun _ z => by cases z) (fun _ z => by cases z))
          have hsA : (upd H4 d (.dK (mkK (.ref x) (.ref y1) (s.m + 1)))) sm = some (.lst (ls.map V.bl)) := by rw [upd_ne nsd]; exact hsm4
          generalize upd H4 d (.dK (mkK (.ref x) (.ref y1) (s.m + 1))) = HA at atA xA hsA ⊢
          refine ⟨_, rfl, _, rfl, d, _, rfl, atA.gN, _, rfl, r, _, 1, _, rfl, rfl, SqT.of (xA.tup _ _ hrow), hix, x, _, firstName row, firstName row, rfl, rfl, atA.x, ixN_nat (by rw [List.length_map]; exact n0l), ?_⟩
          have atB : MarksAt (upd HA x (.lst ((s.n.map lS).set (firstName row) (.str (mkS "m" (s.m + 1)))))) d x y1 (s.n.set (firstName row) (newM (s.p + (eatenBy f row).length + 1) (s.m + 1))) (mvsG m0 f g.ahead s.c) (s.m + 1) := ⟨by rw [upd_ne at0.dx]; exact atA.d, by rw [upd_same, List.map_set]; rfl, by rw [upd_ne nxy1.symm]; exact atA.y⟩
          have xB : Ext (md2 d x) H (upd HA x (.lst ((s.n.map lS).set (firstName row) (.str (mkS "m" (s.m + 1)))))) := xA.trans (Ext.put atA.x (.inr rfl) (fun _ z => by cases z) (fun _ z => by cases z))
          have hsB : (upd HA x (.lst ((s.n.map lS).set (firstName row) (.str (mkS "m" (s.m + 1)))))) sm = some (.lst (ls.map V.bl)) := by rw [upd_ne nsx]; exact hsA
          generalize upd HA x (.lst ((s.n.map lS).set (firstName row) (.str (mkS "m" (s.m + 1))))) = HB at atB xB hsB ⊢
          generalize s.n.set (firstName row) (newM (s.p + (eatenBy f row).length + 1) (s.m + 1)) = nB at atB ec
          refine ⟨fun σ' H' => (∃ v10, σ' = [some (.ref d), some (.ref r), some (.ref t), some (.ref a), some (.ref ah), some (.ref bo), some (.ref be), some (.int (firstOf row : Nat)), some (.ref sm), some (.str (mkS "m" (s.m + 1))), v10, none]) ∧ MarksAt H' d x y1 nB (eatW s.p s.m (eatenBy f row) 0 (mvsG m0 f g.ahead s.c)) (s.m + 1 + (eatenBy f row).length) ∧ Ext (md2 d x) H H' ∧ H' sm = some (.lst (ls.map V.bl)), ?_, ?_⟩
          · refine ⟨_, rfl, r, _, 0, _, rfl, rfl, SqT.of (xB.tup _ _ hrow), first_word (K := K), rfl, _, rfl, ?_⟩
            rw [word_call]
            by_cases hca : calls row = true
            · rw [hca]
              have eb : eatenBy f row = f.eaten := if_pos hca
              have e6 : f.eaten.length ≤ 6 := eaten_few fok
              rw [eb]
              refine iteT ⟨_, rfl, a, _, 2, _, rfl, rfl, SqT.of (xB.tup _ _ ha), atI_nat (j := 2) rfl, e, rfl, ⟨_, SqT.of (xB.tup _ _ he)⟩, ?_⟩
              refine for_tup (xs := nV f.eaten) (fun i σ H6 => (∃ v10, σ = [some (.ref d), some (.ref r), some (.ref t), some (.ref a), some (.ref ah), some (.ref bo), some (.ref be), some (.int (firstOf row : Nat)), some (.ref sm), some (.str (mkS "m" (s.m + 1))), v10, none]) ∧ MarksAt H6 d x y1 nB (eatW s.p s.m (f.eaten.take i) 0 (mvsG m0 f g.ahead s.c)) (s.m + 1 + i) ∧ Ext (md2 d x) H H6 ∧ H6 sm = some (.lst (ls.map V.bl)))
                ⟨⟨_, rfl⟩, atB, xB, hsB⟩ (fun i σ H6 _ z => SqT.of (z.2.2.1.tup _ _ he)) ?_ ?_
              · rintro i b' σ H6 hx ⟨⟨v10, rfl⟩, at6, x06, hs6⟩
                rw [List.getElem?_map] at hx
                obtain ⟨b, hbb, rfl⟩ : ∃ b, f.eaten[i]? = some b ∧ b' = V.int (b : Int) := by
                  cases e : f.eaten[i]? with
                  | none => rw [e] at hx; cases hx
                  | some b => rw [e] at hx; exact ⟨b, rfl, (Option.some.inj hx).symm⟩
                have bl : b < f.boxes := fok.eat b (List.mem_of_getElem? hbb)
                have il := (List.getElem?_eq_some_iff.mp hbb).1
                have dl : (eatW s.p s.m (f.eaten.take i) 0 (mvsG m0 f g.ahead s.c)).length = f.boxes + f.slots := (eatW_len ..).trans c1l
                refine ⟨_, rfl, d, .ref x, .ref y1, s.m + 1 + i, rfl, at6.d, by omega, ?_⟩
                have at7 : MarksAt (upd H6 d (.dK (mkK (.ref x) (.ref y1) (s.m + 1 + i + 1)))) d x y1 nB (eatW s.p s.m (f.eaten.take i) 0 (mvsG m0 f g.ahead s.c)) (s.m + 1 + (i + 1)) := ⟨upd_same, by rw [upd_ne at0.dx.symm]; exact at6.x, by rw [upd_ne ndy1.symm]; exact at6.y⟩
                have x07 : Ext (md2 d x) H (upd H6 d (.dK (mkK (.ref x) (.ref y1) (s.m + 1 + i + 1)))) := x06.trans (Ext.put at6.d (.inl rfl) (fun _ z => by cases z) (fun _ z => by cases z))
                have hs7 : (upd H6 d (.dK (mkK (.ref x) (.ref y1) (s.m + 1 + i + 1)))) sm = some (.lst (ls.map V.bl)) := by rw [upd_ne nsd]; exact hs6
                generalize upd H6 d (.dK (mkK (.ref x) (.ref y1) (s.m + 1 + i + 1))) = H7 at at7 x07 hs7 ⊢
                refine ⟨_, rfl, d, _, rfl, at7.gH, _, rfl, y1, _, b, b, rfl, rfl, at7.y, ixN_nat (by rw [List.length_map]; omega), ⟨_, rfl⟩, ⟨by rw [upd_ne ndy1]; exact at7.d, by rw [upd_ne nxy1]; exact at7.x, ?_⟩, x07.own ny1, by rw [upd_ne nsy]; exact hs7⟩
                rw [upd_same, List.take_add_one, hbb]
                show _ = some (HO.lst (List.map lS (eatW s.p s.m (f.eaten.take i ++ [b]) 0 _)))
                rw [eatW_snoc, List.map_set, List.length_take, Nat.min_eq_left (Nat.le_of_lt il), Nat.zero_add]
                show some (HO.lst (List.set _ b (V.str (mkS "m" (s.m + 1 + i + 1))))) = some (HO.lst (List.set _ b (V.str (mkS "m" (s.m + 2 + i)))))
                rw [show s.m + 1 + i + 1 = s.m + 2 + i by omega]
              · rintro σ H6 ⟨hσ, at6, x06, hs6⟩
                rw [show (nV f.eaten).length = f.eaten.length from List.length_map .., List.take_length] at at6
                exact ⟨hσ, at6, x06, hs6⟩
            · rw [Bool.not_eq_true] at hca
              rw [hca]
              have eb : eatenBy f row = [] := if_neg (by rw [hca]; exact Bool.false_ne_true)
              rw [eb]
              exact iteF ⟨⟨_, rfl⟩, atB, xB, hsB⟩
          · rintro _ H6 ⟨⟨v10, rfl⟩, at6, x06, hs6⟩
            have e6 : (eatenBy f row).length ≤ 6 := by
              unfold eatenBy
              split
              · exact eaten_few fok
              · exact Nat.zero_le _
            have dl : (eatW s.p s.m (eatenBy f row) 0 (mvsG m0 f g.ahead s.c)).length = f.boxes + f.slots := (eatW_len ..).trans c1l
            have hbo6 : H6 bo = some (.tup (nV (b0 :: rest))) := by rw [← hb]; exact x06.tup _ _ hbo
            refine ⟨_, rfl, sm, _, rfl, .inl (SqL.of hs6), rfl, flat_bls ls, _, rfl, ?_⟩
            show if (!inV (.bl false) (ls.map V.bl)) = true then _ else _
            rw [all_true, esame, ec]
            cases sameOf f row g s with
            | true =>
              refine iteT ⟨_, rfl, _, rfl, d, _, rfl, at6.gH, _, rfl, bo, _, 0, _, rfl, rfl, SqT.of hbo6, atI_nat (j := 0) rfl, y1, _, b0, b0, rfl, rfl, at6.y, ixN_nat (by rw [List.length_map]; omega), ⟨_, _, _, rfl⟩, ⟨by rw [upd_ne ndy1]; exact at6.d, by rw [upd_ne nxy1]; exact at6.x, ?_⟩, x06.own ny1, by rw [upd_ne nsy]; exact hs6⟩
              rw [upd_same, hb]
              show _ = some (HO.lst (List.map lS (List.set _ b0 _)))
              rw [List.map_set]
              rfl
            | false =>
              refine iteF ⟨_, rfl, d, .ref x, .ref y1, s.m + 1 + (eatenBy f row).length, rfl, at6.d, by omega, ?_⟩
              have at7 : MarksAt (upd H6 d (.dK (mkK (.ref x) (.ref y1) (s.m + 1 + (eatenBy f row).length + 1)))) d x y1 nB (eatW s.p s.m (eatenBy f row) 0 (mvsG m0 f g.ahead s.c)) (s.m + 1 + (eatenBy f row).length + 1) := ⟨upd_same, by rw [upd_ne at0.dx.symm]; exact at6.x, by rw [upd_ne ndy1.symm]; exact at6.y⟩
              have x07 : Ext (md2 d x) H (upd H6 d (.dK (mkK (.ref x) (.ref y1) (s.m + 1 + (eatenBy f row).length + 1)))) := x06.trans (Ext.put at6.d (.inl rfl) (fun _ z => by cases z) (fun _ z => by cases z))
              have hs7 : (upd H6 d (.dK (mkK (.ref x) (.ref y1) (s.m + 1 + (eatenBy f row).length + 1)))) sm = some (.lst (ls.map V.bl)) := by rw [upd_ne nsd]; exact hs6
              have hbo7 : (upd H6 d (.dK (mkK (.ref x) (.ref y1) (s.m + 1 + (eatenBy f row).length + 1)))) bo = some (.tup (nV (b0 :: rest))) := by rw [upd_ne (ne_of hbo6 at6.d (by intro z; cases z))]; exact hbo6
              generalize upd H6 d (.dK (mkK (.ref x) (.ref y1) (s.m + 1 + (eatenBy f row).length + 1))) = H7 at at7 x07 hs7 hbo7 ⊢
              refine ⟨_, rfl, d, _, rfl, at7.gH, _, rfl, bo, _, 0, _, rfl, rfl, SqT.of hbo7, atI_nat (j := 0) rfl, y1, _, b0, b0, rfl, rfl, at7.y, ixN_nat (by rw [List.length_map]; omega), ⟨_, _, _, rfl⟩, ⟨by rw [upd_ne ndy1]; exact at7.d, by rw [upd_ne nxy1]; exact at7.x, ?_⟩, x07.own ny1, by rw [upd_ne nsy]; exact hs7⟩
              rw [upd_same, hb]
              show _ = some (HO.lst (List.map lS (List.set _ b0 _)))
              rw [List.map_set]
              show some (HO.lst (List.set _ b0 (V.str (mkS "m" (s.m + 1 + (eatenBy f row).length + 1))))) = some (HO.lst (List.set _ b0 (V.str (mkS "m" (s.m + 2 + (eatenBy f row).length)))))
              rw [show s.m + 1 + (eatenBy f row).length + 1 = s.m + 2 + (eatenBy f row).length by omega]
        · rw [Bool.not_eq_true] at hmk
          have ef0 : firstOf row = 0 := if_neg (by rw [hmk]; exact Bool.false_ne_true)
          rw [decide_eq_false (show ¬ V.int ((firstOf row : Nat) : Int) = V.int 1 from fun z => by rw [ef0] at z; cases z)]
          have ec : coreW f row g.boxes (aheadW f g s) = aheadW f g s := by
            unfold coreW
            rw [if_neg (by rw [hcp]; exact Bool.false_ne_true), if_neg (by rw [hmk]; exact Bool.false_ne_true)]
          rw [ec]
          exact iteF ⟨⟨_, _, _, rfl⟩, at4, x04, hsm4⟩
    · rintro _ H5 ⟨⟨v9, v10, v11, rfl⟩, at5, x05, hsm5⟩
      have c5 : (coreW f row g.boxes (aheadW f g s)).Ok names f := coreW_ok (sok.moves gok.am) rok gok.len gok.bm
      refine ⟨_, rfl, d, _, rfl, at5.gH, _, rfl, _, rfl, y1, be, a, (coreW f row g.boxes (aheadW f g s)).c.map lS, g.behind, f, rfl, at5.y, by rw [List.length_map]; exact c5.cl, tbe.ext x05, gok.hm, hf.ext x05, fok, fun H6 y6 ny6 hy6 x6 => ?_⟩
      rw [mvsG_text gok.hm c5.cl] at hy6
      have at6 := at5.ext x6 (fun z => z) (fun z => z) (fun z => z)
      refine ⟨_, rfl, d, _, rfl, DPut.k (k := Sum.inr "held") at6.d (by show 3 < sizeLine; decide), ?_⟩
      rw [mkK_lay]
      have ndy6 : d ≠ y6 := ne_of_none at5.d ny6
      have nxy6 : x ≠ y6 := ne_of_none at5.x ny6
      have hsm7 : (upd H6 d (.dK (mkK (.ref x) (.ref y6) (coreW f row g.boxes (aheadW f g s)).m))) sm = some (.lst (ls.map V.bl)) := by rw [upd_ne nsd]; exact x6.lst (fun z => z) hsm5
      have x07 : Ext (md2 d x) H (upd H6 d (.dK (mkK (.ref x) (.ref y6) (coreW f row g.boxes (aheadW f g s)).m))) := (x05.trans x6.of0).trans (Ext.put at6.d (.inl rfl) (fun _ z => by cases z) (fun _ z => by cases z))
      have z := q _ y6 (x05.dom y6 ny6) ⟨upd_same, by rw [upd_ne at0.dx.symm]; exact at6.x, by rw [upd_ne ndy6.symm]; exact hy6⟩ x07
      rw [← esame, ← all_true] at z
      exact ⟨_, rfl, sm, _, rfl, .inl (SqL.of hsm7), rfl, flat_bls ls, z⟩
end
end Bw
namespace Bw
open PySem PySem.Spec PyProof.Rows L2 GxR Gx RZ
section
variable {base : Heap} {K : PySem.W.Frag} {mg : Str → Option Value} {P : Program} {w : World}
/-- what lies where: for each cell the names whose mark it has -/
def whereL (names : Nat) (s : Wk) : List (List Nat) := s.c.map fun q => (List.range names).filter fun k => decide ((atG m0 s.n k).2 = q.2)
def lieD (l : Nat × List (List Nat)) : PyData := .tuple [.int (l.1 : Nat), .tuple (l.2.map fun x => .tuple (nD x))]
def goL (names : Nat) (f : Fr) (rows : List Row) (gs : List Grp) : Nat → Wk → Nat → List Bool → List (Nat × List (List Nat)) → List (Nat × List (List Nat))
  | 0, _, _, _, lies => lies
  | n + 1, s, i, left, lies => match rows[i]?, gs[i]? with
    | some row, some g => if atEnd rows i = true then lies else if (isIf row && left.isEmpty) = true then lies else
        goL names f rows gs n (doRowW f row g s) (nextW row left i) (if isIf row = true then left.tail else left) (lies ++ [(i, whereL names s)])
    | _, _ => lies
theorem goL_end {names : Nat} {f : Fr} {rows : List Row} {gs : List Grp} {n i : Nat} {s : Wk} {left : List Bool} {lies : List (Nat × List (List Nat))} (h : atEnd rows i = true) : goL names f rows gs n s i left lies = lies := by
  cases n with
  | zero => rfl
  | succ n =>
    rw [goL]
    split
    · rw [if_pos h]
    · rfl
theorem goL_stop {names : Nat} {f : Fr} {rows : List Row} {gs : List Grp} {n i : Nat} {s : Wk} {left : List Bool} {lies : List (Nat × List (List Nat))} {row : Row} (er : rows[i]? = some row) (hi : isIf row = true) (hl : left = []) : goL names f rows gs n s i left lies = lies := by
  cases n with
  | zero => rfl
  | succ n =>
    rw [goL, er]
    cases gs[i]? with
    | none => rfl
    | some g =>
      simp only
      split
      · rfl
      · rw [if_pos (by rw [hi, hl]; rfl)]
theorem goL_step {names : Nat} {f : Fr} {rows : List Row} {gs : List Grp} {n i : Nat} {s : Wk} {left : List Bool} {lies : List (Nat × List (List Nat))} {row : Row} {g : Grp} (er : rows[i]? = some row) (eg : gs[i]? = some g) (h : atEnd rows i = false) (hl : isIf row = true → left ≠ []) :
    goL names f rows gs (n + 1) s i left lies = goL names f rows gs n (doRowW f row g s) (nextW row left i) (if isIf row = true then left.tail else left) (lies ++ [(i, whereL names s)]) := by
  rw [goL, er, eg]
  simp only
  rw [if_neg (by rw [h]; exact Bool.false_ne_true), if_neg]
  intro z
  rw [Bool.and_eq_true, List.isEmpty_iff] at z
  exact hl z.1 z.2
theorem doRowW_m {f : Fr} (ok : f.Ok) (row : Row) (g : Grp) (s : Wk) : (doRowW f row g s).m ≤ s.m + 8 := by
  show (coreW f row g.boxes (aheadW f g s)).m ≤ s.m + 8
  unfold coreW
  have e6 : (eatenBy f row).length ≤ 6 := by
    unfold eatenBy
    split
    · exact eaten_few ok
    · exact Nat.zero_le _
  have o1 : ∀ b, ownBy b ≤ 1 := fun b => by cases b <;> decide
  split
  · show s.m ≤ s.m + 8
    omega
  · split
    · have := o1 (sameW row g.boxes (aheadW f g s).n (aheadW f g s).c)
      show s.m + 1 + (eatenBy f row).length + ownBy _ ≤ s.m + 8
      omega
    · show s.m ≤ s.m + 8
      omega
theorem dpBools {K : PySem.W.Frag} {H : Hp} : ∀ bs : List Bool, DpAll K H (bs.map V.bl) (bs.map PyData.bool)
  | [] => .nil
  | b :: bs => .cons (.bl b) (dpBools bs)
theorem layBools : ∀ bs : List Bool, PyData.canLayAll0 (bs.map PyData.bool) = true
  | [] => rfl
  | _ :: bs => by rw [List.map_cons, PyData.canLayAll0, layBools bs]; rfl
theorem deepBools : ∀ bs : List Bool, PyData.depthAll (bs.map PyData.bool) ≤ 1
  | [] => by decide
  | _ :: bs => by
    have := deepBools bs
    rw [List.map_cons, PyData.depthAll, PyData.depth]
    omega
theorem shBools (bs : List Bool) : SeqAt.shaped (.list (bs.map PyData.bool)) = true := by
  have := deepBools bs
  rw [SeqAt.shaped, PyData.canLay0, layBools, PyData.depth, Bool.true_and]
  exact (decide_eq_true (by omega))
theorem eqvNil (bs : List Bool) : PyData.eqv (.list (bs.map PyData.bool)) (.list []) = bs.isEmpty := by
  cases bs <;> rfl
theorem atEnd_out {rows : List Row} {i : Nat} (h : atEnd rows i = true) (lt : i < rows.length) : rows[i]? = some .fin := by
  have e := List.getElem?_eq_getElem lt
  generalize rows[i] = row at e
  unfold atEnd at h
  rw [e] at h ⊢
  cases row <;> first | rfl | exact Bool.noConfusion h
def liesW (p : Prog) (f : Fr) (c : Ch) (ways : List Bool) : List (Nat × List (List Nat)) := goL p.names f p.rows c.groups 300 (startW p f c) 0 ways []
def spWalkL : Sp := fun vs H Q _ => ∃ (pa a ca wl : Addr) (p : Prog) (f : Fr) (c : Ch) (ways : List Bool), vs = [.ref pa, .ref a, .ref ca, .ref wl] ∧ WalkPre H pa a ca wl p f c ways ∧ ways.length ≤ 1000 ∧
  ∀ H' t td li as ls, H t = none → H td = none → H li = none → H' t = some (.tup [.ref td, .ref li]) → H' td = some (.lst (as.map V.ref)) → TellAt H' as (walkW p f c ways) → H' li = some (.lst ls) → TpAll H' ls ((liesW p f c ways).map lieD) → Ext no H H' → Q (.ref t) H'
abbrev nWalkL : List Str := ["_law_program_here", "_law_frame_here", "_law_choice_here", "_law_ways", "_law_m", "_law_at", "_law_left", "_law_found", "_law_lies", "_law_row_here", "_law_where", "_law_mark", "_law_same", "_law_name"]
theorem scWalkL : FnScope nWalkL ["_law_program_here", "_law_frame_here", "_law_choice_here", "_law_ways"] (defScope s_law_walk) := ⟨rfl, rfl, rfl, by decide +kernel, rfl, by decide +kernel, by decide +kernel⟩
theorem ok_walkL {fu fM fD : Addr} {fd fdM fdD : FuncData} (D : Df K mg "_law_walk" s_law_walk ["_law_program_here", "_law_frame_here", "_law_choice_here", "_law_ways"] fu fd) (DM : Df K mg "_law_marks" s_law_marks ["_law_program_here", "_law_frame_here", "_law_choice_here"] fM fdM) (DD : Df K mg "_law_do" s_law_do ["_law_m", "_law_row_here", "_law_group_here", "_law_frame_here"] fD fdD) (GD : FnOk P w K mg base CX0 2 fD fdD ["_law_m", "_law_row_here", "_law_group_here", "_law_frame_here"] spDoL) (B : Bt mg) :
    FnOk P w K mg base CX0 3 fu fd ["_law_program_here", "_law_frame_here", "_law_choice_here", "_law_ways"] spWalkL := by
  have GM : FnOk P w K mg base CX0 1 fM fdM ["_law_program_here", "_law_frame_here", "_law_choice_here"] spMarks := ok_marks DM B
  refine D.F.ok scWalkL (fun vs H Q E h => ?_) (fun cdv A outer s0 H vs Q E hr2 h => ?_)
  · obtain ⟨pa, a, ca, wl, p, f, c, ways, rfl, _⟩ := h
    rfl
  · obtain ⟨pa, a, ca, wl, p, f, c, ways, rfl, pre, wfew, q⟩ := h
    have hr1 := hr2.mono (show 1 ≤ 2 by decide)
    have hu1 := hu_of hr1
    have hu := hr2.units
    refine ⟨_, (pss_cons (ps_asg (pe_tup (pa_cons (pcall DM GM hr1 (pa_cons (pv 0) (pa_cons (pv 1) (pa_cons (pv 2) pa_nil)))) (pa_cons pe_int (pa_cons (pe_callTy call_list_of (by rfl) B.list (by decide +kernel) (pa_cons (pv 3) pa_nil)) pa_nil)))) (pg_tup rfl (pgs_cons (pg_name (i := 4) scWalkL.nd rfl (.inr rfl)) (pgs_cons (pg_name (i := 5) scWalkL.nd rfl (.inl rfl)) (pgs_cons (pg_name (i := 6) scWalkL.nd rfl (.inl rfl)) pgs_nil)))))
      (pss_cons (ps_par (i := 7) (j := 8) rfl scWalkL.nd rfl rfl (by decide) rfl rfl (pa_cons (pe_lst pa_nil) (pa_cons (pe_lst pa_nil) pa_nil)) (by rfl))
      (pss_mid (ps_while PassesOwn.never (PW.pt (pw_and (pt_cmpR op_lt (pv 5) (pe_callB call_len_seq (by rfl) B.len PySem.boot_len (pa_cons (pe_ix ix_tup (pv 0) pe_int (fun _ _ => rfl)) pa_nil)) (nomark _)) (pw_and (pt_cmpR op_ne (pe_ix ix_tup (pe_ix ix_tup (pe_ix ix_tup (pv 0) pe_int (fun _ _ => rfl)) (pv 5) (fun _ _ => rfl)) pe_int (fun _ _ => rfl)) pe_str (nomark _)) (pw_and1 (pt_cmpR op_lt (pe_callB call_len_seq (by rfl) B.len PySem.boot_len (pa_cons (pv 8) pa_nil)) pe_int (nomark _))))))
      (pss_cons (ps_set (i := 9) scWalkL.nd rfl (.inl rfl) (pe_ix ix_tup (pe_ix ix_tup (pv 0) pe_int (fun _ _ => rfl)) (pv 5) (fun _ _ => rfl)))
      (pss_mid (ps_if (PW.pt (pw_and (pt_cmpR op_eq (pe_ix ix_tup (pv 9) pe_int (fun _ _ => rfl)) pe_str (nomark _)) (pw_and1 (pt_cmpR (op_eqD hu) (pv 6) (pe_lst pa_nil) (nomark _))))) (pss_one ps_break)
      pss_nil)
      (pss_cons (ps_set (i := 10) scWalkL.nd rfl (.inl rfl) (pe_lst pa_nil))
      (pss_mid (ps_for PassesOwn.never rfl (pi_list (pe_dget hu1 (pv 4) pe_str (fun _ _ => rfl))) (pg_name (i := 11) scWalkL.nd rfl (.inr rfl)) (pss_one (ps_expr (pe_bm PySem.F.plainAttrs_list PySem.F.slot_list_append PySem.F.type_list_append mt_append (pv 10) (pa_cons (pe_callTy call_tuple_of (by rfl) B.tuple (by decide +kernel) (pa_cons (pe_lc (own := [("_law_name", 13)]) (g := gName 13) rfl scWalkL.nd (pi_range1 (by rfl) B.range (pa_cons (pe_ix ix_tup (pv 0) pe_int (fun _ _ => rfl)) pa_nil)) (blkOk_by (N := nWalkL) (sc := defScope s_law_walk) (by decide +kernel)) (fun _ _ _ _ _ => pg_name (i := 13) scWalkL.nd rfl (Or.inl rfl)) (fun _ _ _ _ _ => pts_one (pt_cmpR op_eq (pe_ix (r := rIxL K) ix_list (pe_dget hu1 (pv 4) pe_str (fun _ _ => rfl)) (pv 13) (fun _ _ => rfl)) (pv 11) (nomark _))) (fun _ _ _ _ _ => (pv 13))) pa_nil)) pa_nil)))))
      (pss_cons (ps_expr (pe_bm PySem.F.plainAttrs_list PySem.F.slot_list_append PySem.F.type_list_append mt_append (pv 8) (pa_cons (pe_tup (pa_cons (pv 5) (pa_cons (pe_callTy call_tuple_of (by rfl) B.tuple (by decide +kernel) (pa_cons (pv 10) pa_nil)) pa_nil))) pa_nil)))
      (pss_cons (ps_set (i := 12) scWalkL.nd rfl (.inl rfl) (pcall DD GD hr2 (pa_cons (pv 4) (pa_cons (pv 9) (pa_cons (pe_ix ix_tup (pe_ix ix_tup (pv 2) pe_int (fun _ _ => rfl)) (pv 5) (fun _ _ => rfl)) (pa_cons (pv 1) pa_nil))))))
      (pss_mid (ps_if (pt_cmpR op_in_seq (pe_ix ix_tup (pv 9) pe_int (fun _ _ => rfl)) (pe_tup (pa_cons pe_str (pa_cons pe_str pa_nil))) (by rfl)) (pss_one (ps_expr (pe_bm PySem.F.plainAttrs_list PySem.F.slot_list_append PySem.F.type_list_append mt_append (pv 7) (pa_cons (pe_tup (pa_cons (pv 5) (pa_cons (pv 12) pa_nil))) pa_nil))))
      pss_nil)
      (pss_one (ps_if (PW.pt (pw_or (pt_cmpR op_eq (pe_ix ix_tup (pv 9) pe_int (fun _ _ => rfl)) pe_str (nomark _)) (pw_or1 (PW.pt (pw_and (pt_cmpR op_eq (pe_ix ix_tup (pv 9) pe_int (fun _ _ => rfl)) pe_str (nomark _)) (pw_and1 (pt_val (pe_bm PySem.F.plainAttrs_list PySem.F.slot_list_pop PySem.F.type_list_pop mt_popAt (pv 6) (pa_cons pe_int pa_nil))))))))) (pss_one (ps_set (i := 5) scWalkL.nd rfl (.inl rfl) (pe_ix ix_tup (pv 9) (pe_un un_neg pe_int) (fun _ _ => rfl))))
      (pss_one (ps_set (i := 5) scWalkL.nd rfl (.inl rfl) (pe_op op_add (pv 5) pe_int)))))))))))))
      (pss_one (ps_ret (pe_tup (pa_cons (pv 7) (pa_cons (pv 8) pa_nil)))))))), ?_⟩
    obtain ⟨hp, pok, hf, fok, hc, cok, hw⟩ := pre
    obtain ⟨rs, as, hpa, hrs, hrows⟩ := hp.ex
    -- m, at, left = marks(..), 0, list(ways)
    refine ⟨_, rfl, _, rfl, _, rfl, pa, a, ca, p, f, c, rfl, ⟨hp, pok, hf, fok, hc, cok⟩, fun H1 d x y dN xN yN nxy at1 x1 => ?_⟩
    refine ⟨_, rfl, wl, _, rfl, .inl (SqL.of (x1.lst (fun z => z) hw)), fun le nle => ?_⟩
    have leN : H le = none := x1.dom le nle
    have x02 : Ext no H (upd H1 le (.lst (ways.map V.bl))) := x1.trans (Ext.new nle)
    have e02 : ∀ z o, H1 z = some o → (upd H1 le (.lst (ways.map V.bl))) z = some o := fun z o h => by rw [upd_ne (ne_of_none h nle)]; exact h
    have hle2 : (upd H1 le (.lst (ways.map V.bl))) le = some (.lst (ways.map V.bl)) := upd_same
    generalize upd H1 le (.lst (ways.map V.bl)) = H2 at x02 e02 hle2 ⊢
    refine ⟨by show 3 ≤ sizeLine; decide, fun tt ntt => ?_⟩
    refine ⟨tt, _, rfl, SqT.of upd_same, rfl, _, _, rfl, _, _, rfl, _, _, rfl, rfl, ?_⟩
    have x03 : Ext no H (upd H2 tt (.tup [.ref d, .int 0, .ref le])) := x02.trans (Ext.new ntt)
    have e03 : ∀ z o, H2 z = some o → (upd H2 tt (.tup [.ref d, .int 0, .ref le])) z = some o := fun z o h => by rw [upd_ne (ne_of_none h ntt)]; exact h
    generalize upd H2 tt (.tup [.ref d, .int 0, .ref le]) = H3 at x03 e03 ⊢
    -- found, lies = [], []
    refine ⟨Nat.zero_le _, fun td ntd => ⟨Nat.zero_le _, fun li nli => ⟨_, _, rfl, ?_⟩⟩⟩
    have tdN : H td = none := x03.dom td ntd
    have x04 : Ext no H (upd H3 td (.lst [])) := x03.trans (Ext.new ntd)
    have e04 : ∀ z o, H3 z = some o → (upd H3 td (.lst [])) z = some o := fun z o h => by rw [upd_ne (ne_of_none h ntd)]; exact h
    have htd4 : (upd H3 td (.lst [])) td = some (.lst []) := upd_same
    generalize upd H3 td (.lst []) = H4 at x04 e04 htd4 nli ⊢
    have liN : H li = none := x04.dom li nli
    have x05 : Ext no H (upd H4 li (.lst [])) := x04.trans (Ext.new nli)
    have e05 : ∀ z o, H4 z = some o → (upd H4 li (.lst [])) z = some o := fun z o h => by rw [upd_ne (ne_of_none h nli)]; exact h
    have hli5 : (upd H4 li (.lst [])) li = some (.lst []) := upd_same
    generalize upd H4 li (.lst []) = H5 at x05 e05 hli5 ⊢
    have e15 : ∀ z o, H1 z = some o → H5 z = some o := fun z o h => e05 _ _ (e04 _ _ (e03 _ _ (e02 _ _ h)))
    have e25 : ∀ z o, H2 z = some o → H5 z = some o := fun z o h => e05 _ _ (e04 _ _ (e03 _ _ h))
    have nNle : ∀ {z o}, H1 z = some o → z ≠ le := fun h => ne_of_none h nle
    have nNtd : ∀ {z o}, H2 z = some o → z ≠ td := fun h => ne_of_none (e03 _ _ h) ntd
    have nNli : ∀ {z o}, H2 z = some o → z ≠ li := fun h => ne_of_none (e04 _ _ (e03 _ _ h)) nli
    have ndle := nNle at1.d
    have nxle := nNle at1.x
    have nyle := nNle at1.y
    have ndtd := nNtd (e02 _ _ at1.d)
    have nxtd := nNtd (e02 _ _ at1.x)
    have nytd := nNtd (e02 _ _ at1.y)
    have nletd := nNtd hle2
    have ndli := nNli (e02 _ _ at1.d)
    have nxli := nNli (e02 _ _ at1.x)
    have nyli := nNli (e02 _ _ at1.y)
    have nleli := nNli hle2
    have ntdli : td ≠ li := ne_of_none htd4 nli
    refine ⟨fun σ' H' => (∃ i v9 v10 v11 v12, σ' = [some (.ref pa), some (.ref a), some (.ref ca), some (.ref wl), some (.ref d), some (.int (i : Nat)), some (.ref le), some (.ref td), some (.ref li), v9, v10, v11, v12, none]) ∧ (∃ ts ls, H' td = some (.lst (ts.map V.ref)) ∧ TellAt H' ts (walkW p f c ways) ∧ H' li = some (.lst ls) ∧ TpAll H' ls ((liesW p f c ways).map lieD)) ∧ Ext no H H', ?_, ?_⟩
    rotate_left
    · rintro _ H6 ⟨⟨i, v9, v10, v11, v12, rfl⟩, ⟨ts, ls, htd, hts, hli, hls⟩, x06⟩
      refine ⟨_, rfl, _, rfl, by show 2 ≤ sizeLine; decide, fun t nt => ?_⟩
      have x7 : Ext no H6 (upd H6 t (.tup [.ref td, .ref li])) := Ext.new nt
      exact q _ t td li ts ls (x06.dom t nt) tdN liN upd_same (x7.lst (fun z => z) htd) (hts.ext x7) (x7.lst (fun z => z) hli) (hls.ext x7) (x06.trans x7)
    let Wn : Nat → L2.St → Hp → Prop := fun n σ H6 => ∃ (s : Wk) (i : Nat) (left : List Bool) (told : List (Nat × Bool)) (lies : List (Nat × List (List Nat))) (ts : List Addr) (ls : List V) (y : Addr) (v9 v10 v11 v12 : Option V), σ = [some (.ref pa), some (.ref a), some (.ref ca), some (.ref wl), some (.ref d), some (.int (i : Nat)), some (.ref le), some (.ref td), some (.ref li), v9, v10, v11, v12, none] ∧ n = 300 - lies.length ∧ lies.length ≤ 300 ∧ i ≤ p.rows.length ∧ s.Ok p.names f ∧ s.m ≤ 8 * lies.length ∧ MarksAt H6 d x y s.n s.c s.m ∧
      (x ≠ y ∧ y ≠ le ∧ y ≠ td ∧ y ≠ li) ∧ H6 le = some (.lst (left.map V.bl)) ∧ H6 td = some (.lst (ts.map V.ref)) ∧ TellAt H6 ts told ∧ told.length ≤ lies.length ∧ H6 li = some (.lst ls) ∧ TpAll H6 ls (lies.map lieD) ∧ Ext no H H6 ∧ goW f p.rows c.groups (300 - lies.length) s i left told = walkW p f c ways ∧ goL p.names f p.rows c.groups (300 - lies.length) s i left lies = liesW p f c ways
    refine ⟨Wn, ⟨300, startW p f c, 0, ways, [], [], [], [], y, none, none, none, none, rfl, rfl, Nat.zero_le _, Nat.zero_le _, startW_ok pok cok, Nat.le_refl _, ⟨e15 _ _ at1.d, e15 _ _ at1.x, e15 _ _ at1.y⟩, ⟨nxy, nyle, nytd, nyli⟩, e25 _ _ hle2, e05 _ _ htd4, ⟨rfl, fun i a t e => by cases e⟩, Nat.le_refl _, hli5, .nil, x05, rfl, rfl⟩, ?_⟩
    clear nyle nytd nyli nxy at1 yN
    clear y
    rintro n σ H6 ⟨s, i, left, told, lies, ts, ls, y, v9, v10, v11, v12, rfl, rfl, hd, hi, sok, hm8, at6, ⟨nxy, nyle, nytd, nyli⟩, hle6, htd6, hts6, htl, hli6, hls6, x06, hgo, hgl⟩
    have hpa6 := x06.tup _ _ hpa
    have hrs6 := x06.tup _ _ hrs
    have rl : (as.map V.ref).length = p.rows.length := by rw [List.length_map, hrows.len]
    have r24 := pok.r1
    have lsl : ls.length = lies.length := by rw [hls6.len, List.length_map]
    -- at < len(rows)
    refine ⟨_, rfl, _, rfl, pa, _, 2, _, rfl, rfl, SqT.of hpa6, atI_nat (j := 2) rfl, rs, _, rfl, .inr (SqT.of hrs6), _, _, rfl, rfl, _, rfl, ?_⟩
    rw [rl]
    have out : atEnd p.rows i = true → ∃ ts ls, H6 td = some (.lst (ts.map V.ref)) ∧ TellAt H6 ts (walkW p f c ways) ∧ H6 li = some (.lst ls) ∧ TpAll H6 ls ((liesW p f c ways).map lieD) := fun ae => ⟨ts, ls, htd6, by rw [← hgo, goW_end ae]; exact hts6, hli6, by rw [← hgl, goL_end ae]; exact hls6⟩
    by_cases ilt : i < p.rows.length
    case neg =>
      rw [(decide_eq_false (by omega))]
      exact iteF (iteF ⟨⟨_, _, _, _, _, rfl⟩, out (by unfold atEnd; rw [List.getElem?_eq_none (by omega)]), x06⟩)
    rw [decide_eq_true (show (i : Int) < (p.rows.length : Nat) by omega)]
    obtain ⟨row, hrow⟩ : ∃ row, p.rows[i]? = some row := ⟨_, List.getElem?_eq_getElem ilt⟩
    obtain ⟨r, her⟩ : ∃ r, as[i]? = some r := ⟨_, List.getElem?_eq_getElem (by rw [hrows.len]; exact ilt)⟩
    have har : (as.map V.ref)[i]? = some (.ref r) := by rw [List.getElem?_map, her]; rfl
    have hr6 := (hrows.ext x06).at_ i r row her hrow
    refine iteT ⟨_, rfl, pa, _, 2, _, rfl, rfl, SqT.of hpa6, atI_nat (j := 2) rfl, _, rfl, rs, _, i, _, rfl, rfl, SqT.of hrs6, atI_nat har, r, _, 0, _, rfl, rfl, SqT.of hr6, first_word (K := K), rfl, _, rfl, ?_⟩
    by_cases ae : atEnd p.rows i = true
    · have ef := atEnd_out ae ilt
      obtain rfl : row = .fin := Option.some.inj (hrow.symm.trans ef)
      rw [show (!decide (V.str (wordOf .fin) = V.str "end")) = false from (by decide +kernel : (!decide (V.str "end" = V.str "end")) = false)]
      exact iteF (iteF ⟨⟨_, _, _, _, _, rfl⟩, out ae, x06⟩)
    rw [Bool.not_eq_true] at ae
    have nfin : row ≠ .fin := fun z => by
      rw [z] at hrow
      unfold atEnd at ae
      rw [hrow] at ae
      cases ae
    rw [word_end nfin]
    refine iteT ⟨_, rfl, li, _, rfl, .inl (SqL.of hli6), _, _, rfl, rfl, _, rfl, ?_⟩
    rw [lsl]
    by_cases lt : lies.length < 300
    case neg =>
      rw [(decide_eq_false (by omega))]
      refine iteF ⟨⟨_, _, _, _, _, rfl⟩, ⟨ts, ls, htd6, ?_, hli6, ?_⟩, x06⟩
      · rw [← hgo, show 300 - lies.length = 0 by omega]; exact hts6
      · rw [← hgl, show 300 - lies.length = 0 by omega]; exact hls6
    rw [decide_eq_true (show (lies.length : Int) < 300 by omega)]
    obtain ⟨g, heg⟩ : ∃ g, c.groups[i]? = some g := ⟨_, List.getElem?_eq_getElem (by rw [cok.gl]; exact ilt)⟩
    have rok : RowOk p.names p.rows.length row := pok.ok row (List.mem_of_getElem? hrow)
    have gk := cok.gm i g row heg hrow
    refine iteT ⟨fun σ' H' => lies.length < 300 ∧ Wn (300 - (lies.length + 1)) σ' H', fun σ' H' ⟨_, h⟩ => ⟨_, by omega, h⟩, ?_⟩
    -- row = rows[at]
    refine ⟨_, rfl, pa, _, 2, _, rfl, rfl, SqT.of hpa6, atI_nat (j := 2) rfl, _, rfl, rs, _, i, _, rfl, rfl, SqT.of hrs6, atI_nat har, ?_⟩
    -- if row[0] == "if" and left == []: break
    refine ⟨fun σ' H' => σ' = [some (.ref pa), some (.ref a), some (.ref ca), some (.ref wl), some (.ref d), some (.int (i : Nat)), some (.ref le), some (.ref td), some (.ref li), some (.ref r), v10, v11, v12, none] ∧ (isIf row = true → left ≠ []) ∧ Ext no H6 H', ?_, ?_⟩
    · refine ⟨_, rfl, r, _, 0, _, rfl, rfl, SqT.of hr6, first_word (K := K), rfl, _, rfl, ?_⟩
      rw [word_if]
      by_cases hI : isIf row = true
      · rw [hI]
        refine iteT ⟨_, rfl, Nat.zero_le _, fun l0 nl0 => ?_⟩
        have x7 : Ext no H6 (upd H6 l0 (.lst [])) := Ext.new nl0
        refine ⟨.list (left.map PyData.bool), .list [], .lst (SqL.of (x7.lst (fun z => z) hle6)) (dpBools left), .lst (SqL.of upd_same) .nil, shBools left, rfl, _, rfl, ?_⟩
        rw [eqvNil]
        by_cases e : left = []
        · rw [e]
          refine iteT ⟨⟨_, _, _, _, _, rfl⟩, ⟨ts, ls, x7.lst (fun z => z) htd6, ?_, x7.lst (fun z => z) hli6, ?_⟩, x06.trans x7⟩
          · rw [← hgo, goW_stop hrow hI e]; exact hts6.ext x7
          · rw [← hgl, goL_stop hrow hI e]; exact hls6.ext x7
        · rw [show left.isEmpty = false by cases left with | nil => exact absurd rfl e | cons => rfl]
          exact iteF ⟨rfl, fun _ => e, x7⟩
      · rw [Bool.not_eq_true] at hI
        rw [hI]
        exact iteF (iteF ⟨rfl, fun z => absurd z Bool.false_ne_true, Ext.refl _ _⟩)
    rintro _ H7 ⟨rfl, hsome, x67⟩
    have at7 := at6.ext x67 (fun z => z) (fun z => z) (fun z => z)
    have hle7 := x67.lst (fun z => z) hle6
    have htd7 := x67.lst (fun z => z) htd6
    have hli7 := x67.lst (fun z => z) hli6
    have hts7 := hts6.ext x67
    have hls7 := hls6.ext x67
    have x07 := x06.trans x67
    clear at6 hle6 htd6 hli6 hts6 hls6 out
    -- where = []
    refine ⟨Nat.zero_le _, fun wh nwh => ?_⟩
    have whN : H wh = none := x07.dom wh nwh
    have x8 : Ext no H7 (upd H7 wh (.lst [])) := Ext.new nwh
    have hwh8 : (upd H7 wh (.lst [])) wh = some (.lst []) := upd_same
    generalize upd H7 wh (.lst []) = H8 at x8 hwh8 ⊢
    have at8 := at7.ext x8 (fun z => z) (fun z => z) (fun z => z)
    have nywh : y ≠ wh := ne_of_none at7.y nwh
    have nxwh : x ≠ wh := ne_of_none at7.x nwh
    have ndwh : d ≠ wh := ne_of_none at7.d nwh
    have nwl : (whereL p.names s).length = f.boxes + f.slots := by rw [whereL, List.length_map]; exact sok.cl
    have b6 := fok.b6
    have s8 := fok.s8
    refine ⟨fun σ' H' => (∃ v11, σ' = [some (.ref pa), some (.ref a), some (.ref ca), some (.ref wl), some (.ref d), some (.int (i : Nat)), some (.ref le), some (.ref td), some (.ref li), some (.ref r), some (.ref wh), v11, v12, none]) ∧ Ext (fun z => z = wh) H8 H' ∧ ∃ ws, H' wh = some (.lst ws) ∧ TpAll H' ws ((whereL p.names s).map fun l => .tuple (nD l)), ?_, ?_⟩
    · refine ⟨_, rfl, d, _, rfl, at8.gH, y, rfl, ⟨_, SqL.of at8.y⟩, ?_⟩
      refine for_list (xs := s.c.map lS) (fun j σ H9 => (∃ v11, σ = [some (.ref pa), some (.ref a), some (.ref ca), some (.ref wl), some (.ref d), some (.int (i : Nat)), some (.ref le), some (.ref td), some (.ref li), some (.ref r), some (.ref wh), v11, v12, none]) ∧ Ext (fun z => z = wh) H8 H9 ∧ ∃ ws, H9 wh = some (.lst ws) ∧ TpAll H9 ws (((whereL p.names s).take j).map fun l => .tuple (nD l)))
        ⟨⟨_, rfl⟩, Ext.refl _ _, [], hwh8, .nil⟩ (fun j σ H9 _ z => SqL.of (z.2.1.lst nywh at8.y)) ?_ ?_
      · rintro j mv σ H9 hx ⟨⟨v11', rfl⟩, x9, ws, hwh9, hws9⟩
        rw [List.getElem?_map] at hx
        obtain ⟨mk, hmk, rfl⟩ : ∃ mk, s.c[j]? = some mk ∧ mv = lS mk := by
          cases e : s.c[j]? with
          | none => rw [e] at hx; cases hx
          | some b => rw [e] at hx; exact ⟨b, rfl, (Option.some.inj hx).symm⟩
        have jl := (List.getElem?_eq_some_iff.mp hmk).1
        have hw9 : (whereL p.names s)[j]? = some ((List.range p.names).filter fun k => decide ((atG m0 s.n k).2 = mk.2)) := by rw [whereL, List.getElem?_map, hmk]; rfl
        refine ⟨_, rfl, .inl ⟨rfl, _, SqL.of hwh9⟩, ?_⟩
        have x79 := x07.trans x8
        have n1 := pok.n1
        refine ⟨_, rfl, pa, _, 1, _, rfl, rfl, SqT.of (x9.tup _ _ (x79.tup _ _ hpa)), atI_nat (j := 1) rfl, p.names, rfl, by omega, by omega, fun L nL => ?_⟩
        refine lc_range (lo := 0) (n := (p.names : Int).toNat) (fun k H10 => H10 L = some (.lst (nV ((List.range k).filter fun k => decide ((atG m0 s.n k).2 = mk.2)))) ∧ Ext no H9 H10) ⟨upd_same, Ext.new nL⟩ ?_ ?_
        · rintro k H10 kl ⟨hL, x10⟩
          rw [Int.zero_add]
          have kn : k < s.n.length := by rw [sok.nl]; omega
          have getn : (s.n.map lS)[k]? = some (lS (atG m0 s.n k)) := by rw [List.getElem?_map, atG_get (d := m0) kn]; rfl
          have at10 := (at8.ext x9 ndwh nxwh nywh).ext x10 (fun z => z) (fun z => z) (fun z => z)
          refine ⟨rfl, _, rfl, d, _, rfl, at10.gN, _, rfl, x, _, k, _, rfl, rfl, SqL.of at10.x, atI_nat getn, _, rfl, rfl, _, rfl, ?_⟩
          have de : decide (lS (atG m0 s.n k) = lS mk) = decide ((atG m0 s.n k).2 = mk.2) := by
            rw [decide_eq_decide]
            exact ⟨V.str.inj, congrArg V.str⟩
          rw [de]
          have fl : ((List.range k).filter fun k => decide ((atG m0 s.n k).2 = mk.2)).length ≤ k := Nat.le_trans (List.length_filter_le ..) (by rw [List.length_range]; exact Nat.le_refl _)
          by_cases em : (atG m0 s.n k).2 = mk.2
          · rw [decide_eq_true em]
            refine iteT ⟨_, rfl, _, hL, by rw [List.length_map]; exact small_lt (k := 8) (by omega) (by decide), ?_, x10.own nL⟩
            rw [upd_same, List.range_succ, List.filter_append]
            simp only [List.filter_cons, decide_eq_true em, List.filter_nil, if_true]
            rw [nV, nV, List.map_append]
            rfl
          · rw [decide_eq_false em]
            refine iteF ⟨?_, x10⟩
            rw [hL, List.range_succ, List.filter_append]
            simp only [List.filter_cons, decide_eq_false em, List.filter_nil]
            rw [if_neg Bool.false_ne_true, List.append_nil]
        · rintro H10 ⟨hL, x10⟩
          rw [Int.toNat_natCast] at hL
          refine ⟨L, _, rfl, .inl ⟨SqL.of hL, fun T nT => ?_⟩⟩
          have x11 : Ext no H10 (upd H10 T (.tup (nV ((List.range p.names).filter fun k => decide ((atG m0 s.n k).2 = mk.2))))) := Ext.new nT
          have hT : (upd H10 T (.tup (nV ((List.range p.names).filter fun k => decide ((atG m0 s.n k).2 = mk.2))))) T = some (.tup (nV ((List.range p.names).filter fun k => decide ((atG m0 s.n k).2 = mk.2)))) := upd_same
          generalize upd H10 T (.tup (nV ((List.range p.names).filter fun k => decide ((atG m0 s.n k).2 = mk.2)))) = H11 at x11 hT ⊢
          have x911 := x10.trans x11
          have hwh11 := x911.lst (fun z => z) hwh9
          refine ⟨wh, _, _, rfl, rfl, hwh11, ?_, ⟨_, rfl⟩, ?_, _, upd_same, ?_⟩
          · rw [hws9.len, List.length_map, List.length_take]
            exact small_lt (k := 14) (by omega) (by decide)
          · exact (x9.trans x911.of0).trans (Ext.put hwh11 rfl (fun _ z => by cases z) (fun _ z => by cases z))
          · have xp : Ext (fun z => z = wh) H11 (upd H11 wh (.lst (ws ++ [.ref T]))) := Ext.put hwh11 rfl (fun _ z => by cases z) (fun _ z => by cases z)
            rw [List.take_add_one, hw9, List.map_append]
            exact ((hws9.ext x911).app (.cons (.tup hT (TpAll.nats _)) .nil)).ext xp
      · rintro σ H9 ⟨hσ, x9, ws, hwh9, hws9⟩
        rw [show (s.c.map lS).length = (whereL p.names s).length by rw [List.length_map, whereL, List.length_map], List.take_length] at hws9
        exact ⟨hσ, x9, ws, hwh9, hws9⟩
    rintro _ H9 ⟨⟨v11', rfl⟩, x89, ws, hwh9, hws9⟩
    have x09 : Ext no H H9 := (x07.trans x8).hidP (fun z e => by rw [e]; exact whN) x89
    have at9 := at8.ext x89 ndwh nxwh nywh
    have nlewh : le ≠ wh := ne_of_none hle7 nwh
    have ntdwh : td ≠ wh := ne_of_none htd7 nwh
    have nliwh : li ≠ wh := ne_of_none hli7 nwh
    have hle9 := x89.lst nlewh (x8.lst (fun z => z) hle7)
    have htd9 := x89.lst ntdwh (x8.lst (fun z => z) htd7)
    have hli9 := x89.lst nliwh (x8.lst (fun z => z) hli7)
    have hts9 := (hts7.ext x8).ext x89
    have hls9 := (hls7.ext x8).ext x89
    -- lies.append((at, tuple(where)))
    refine ⟨_, rfl, .inl ⟨rfl, _, SqL.of hli9⟩, _, rfl, _, rfl, wh, _, rfl, .inl ⟨SqL.of hwh9, fun W nW => ?_⟩⟩
    have xW : Ext no H9 (upd H9 W (.tup ws)) := Ext.new nW
    have hW : (upd H9 W (.tup ws)) W = some (.tup ws) := upd_same
    generalize upd H9 W (.tup ws) = HW at xW hW ⊢
    refine ⟨by show 2 ≤ sizeLine; decide, fun T nT => ?_⟩
    have xT : Ext no HW (upd HW T (.tup [.int (i : Nat), .ref W])) := Ext.new nT
    have hT : (upd HW T (.tup [.int (i : Nat), .ref W])) T = some (.tup [.int (i : Nat), .ref W]) := upd_same
    generalize upd HW T (.tup [.int (i : Nat), .ref W]) = HT at xT hT ⊢
    have x9T := xW.trans xT
    have hliT := x9T.lst (fun z => z) hli9
    refine ⟨li, _, _, rfl, rfl, hliT, by rw [lsl]; exact small_lt (k := 300) (by omega) (by decide), ?_⟩
    have xL : Ext (fun z => z = li) HT (upd HT li (.lst (ls ++ [.ref T]))) := Ext.put hliT rfl (fun _ z => by cases z) (fun _ z => by cases z)
    have hliL : (upd HT li (.lst (ls ++ [.ref T]))) li = some (.lst (ls ++ [.ref T])) := upd_same
    have hlsL : TpAll (upd HT li (.lst (ls ++ [.ref T]))) (ls ++ [.ref T]) ((lies ++ [(i, whereL p.names s)]).map lieD) := by
      rw [List.map_append]
      exact ((hls9.ext x9T).app (.cons (.tup hT (.cons (.int _) (.cons (.tup (xT.tup _ _ hW) ((hws9.ext xW).ext xT)) .nil))) .nil)).ext xL
    generalize upd HT li (.lst (ls ++ [.ref T])) = HL at xL hliL hlsL ⊢
    have x0L : Ext no H HL := (x09.trans x9T).hidP (fun z e => by rw [e]; exact liN) xL
    have atL := (at9.ext x9T (fun z => z) (fun z => z) (fun z => z)).ext xL ndli nxli nyli
    have hleL := xL.lst nleli (x9T.lst (fun z => z) hle9)
    have htdL := xL.lst ntdli (x9T.lst (fun z => z) htd9)
    have htsL := (hts9.ext x9T).ext xL
    -- same = do(..)
    obtain ⟨ca', cvs, ec, hca, call⟩ := hc.tupE
    obtain rfl : ca = ca' := V.ref.inj ec
    obtain ⟨p0, gt, rfl, tgr⟩ : ∃ p0 gt, cvs = [p0, .ref gt] ∧ Tp H (.ref gt) (.tuple (c.groups.map Grp.d)) := by
      cases call with
      | cons h1 t1 =>
        cases t1 with
        | cons h2 t2 =>
          cases t2
          obtain ⟨z2, _, e2, _⟩ := h2.tupE
          subst e2
          exact ⟨_, z2, rfl, h2⟩
    obtain ⟨gt', gvs, eg, hgt, gall⟩ := tgr.tupE
    obtain rfl : gt = gt' := V.ref.inj eg
    obtain ⟨gv, hgv, tg⟩ := gall.get (i := i) (d := g.d) (by rw [List.getElem?_map, heg]; rfl)
    refine ⟨_, rfl, _, rfl, _, rfl, ca, _, 1, _, rfl, rfl, SqT.of (x0L.tup _ _ hca), atI_nat (j := 1) rfl, _, rfl, gt, _, i, _, rfl, rfl, SqT.of (x0L.tup _ _ hgt), atI_nat hgv, _, rfl, ?_⟩
    refine ⟨d, x, y, r, a, gv, row, g, f, s, p.names, p.rows.length, rfl, ⟨(hrows.ext x0L).at_ i r row her hrow, tg.ext x0L, gk, hf.ext x0L, fok, atL, nxy, sok, rok, by omega⟩, fun HD y' ny' atD xD => ?_⟩
    have x0D : Ext no H HD := x0L.hidP (fun z e => by rcases e with e | e <;> rw [e] <;> assumption) xD
    have hleD := xD.lst (fun z : le = d ∨ le = x => z.elim (fun z => ndle z.symm) fun z => nxle z.symm) hleL
    have htdD := xD.lst (fun z : td = d ∨ td = x => z.elim (fun z => ndtd z.symm) fun z => nxtd z.symm) htdL
    have hliD := xD.lst (fun z : li = d ∨ li = x => z.elim (fun z => ndli z.symm) fun z => nxli z.symm) hliL
    have htsD := htsL.ext xD
    have hlsD := hlsL.ext xD
    have nyle' : y' ≠ le := fun z => by rw [z, hleL] at ny'; cases ny'
    have nytd' : y' ≠ td := fun z => by rw [z, htdL] at ny'; cases ny'
    have nyli' : y' ≠ li := fun z => by rw [z, hliL] at ny'; cases ny'
    have nxy' : x ≠ y' := fun z => by rw [← z, atL.x] at ny'; cases ny'
    have hrD := (hrows.ext x0D).at_ i r row her hrow
    -- if row[0] in ("say", "if"): found.append((at, same))
    refine ⟨fun σ' H' => σ' = [some (.ref pa), some (.ref a), some (.ref ca), some (.ref wl), some (.ref d), some (.int (i : Nat)), some (.ref le), some (.ref td), some (.ref li), some (.ref r), some (.ref wh), v11', some (.bl (sameOf f row g s)), none] ∧ Ext (fun z => z = td) HD H' ∧ ∃ ts', H' td = some (.lst (ts'.map V.ref)) ∧ TellAt H' ts' (if tells row = true then told ++ [(i, sameOf f row g s)] else told), ?_, ?_⟩
    · refine ⟨_, rfl, r, _, 0, _, rfl, rfl, SqT.of hrD, first_word (K := K), by show 2 ≤ sizeLine; decide, fun t nt => ⟨t, _, rfl, .inr (SqT.of upd_same), rfl, by decide +kernel, _, rfl, ?_⟩⟩
      show if inV (.str (wordOf row)) [.str "say", .str "if"] = true then _ else _
      rw [in_tells]
      have x7' : Ext no HD (upd HD t (.tup [.str "say", .str "if"])) := Ext.new nt
      generalize upd HD t (.tup [.str "say", .str "if"]) = HE at x7'
      by_cases hT : tells row = true
      · rw [hT]
        have htdE := x7'.lst (fun z => z) htdD
        refine iteT ⟨_, rfl, .inl ⟨rfl, _, SqL.of htdE⟩, _, rfl, _, rfl, by show 2 ≤ sizeLine; decide, fun t2 nt2 => ?_⟩
        have x8' : Ext no HE (upd HE t2 (.tup [.int i, .bl (sameOf f row g s)])) := Ext.new nt2
        have ht2 : (upd HE t2 (.tup [.int i, .bl (sameOf f row g s)])) t2 = some (.tup [.int i, .bl (sameOf f row g s)]) := upd_same
        generalize upd HE t2 (.tup [.int i, .bl (sameOf f row g s)]) = HG at x8' ht2
        have htdG := x8'.lst (fun z => z) htdE
        refine ⟨td, _, _, rfl, rfl, htdG, by rw [List.length_map, hts7.len]; exact small_lt (k := 300) (by omega) (by decide), rfl, ?_⟩
        have xp : Ext (fun x => x = td) HG (upd HG td (.lst (ts.map V.ref ++ [.ref t2]))) := Ext.put htdG rfl (fun _ z => by cases z) (fun _ z => by cases z)
        refine ⟨(x7'.trans x8').of0.trans xp, ts ++ [t2], by rw [upd_same, List.map_append]; rfl, ?_⟩
        rw [if_pos rfl]
        exact (((htsD.ext x7').ext x8').snoc (t := (i, sameOf f row g s)) ht2).ext xp
      · rw [Bool.not_eq_true] at hT
        rw [hT]
        exact iteF ⟨rfl, x7'.of0, ts, x7'.lst (fun z => z) htdD, by rw [if_neg Bool.false_ne_true]; exact htsD.ext x7'⟩
    rintro _ HF ⟨rfl, xF, ts', htdF, htsF⟩
    have x0F : Ext no H HF := x0D.hidP (fun z e => by rw [e]; exact tdN) xF
    have atF := atD.ext xF ndtd nxtd nytd'
    have hleF := xF.lst nletd hleD
    have hliF := xF.lst (fun z => ntdli z.symm) hliD
    have hlsF := hlsD.ext xF
    have hrF := (hrows.ext x0F).at_ i r row her hrow
    have fin : ∀ (HZ : Hp) (i' : Nat) (left' : List Bool), i' = nextW row left i → left' = (if isIf row = true then left.tail else left) → HZ le = some (.lst (left'.map V.bl)) → Ext (fun z => z = le) HF HZ →
        lies.length < 300 ∧ Wn (300 - (lies.length + 1)) [some (.ref pa), some (.ref a), some (.ref ca), some (.ref wl), some (.ref d), some (.int (i' : Nat)), some (.ref le), some (.ref td), some (.ref li), some (.ref r), some (.ref wh), v11', some (.bl (sameOf f row g s)), none] HZ := fun HZ i' left' ei el hleZ xZ => by
      refine ⟨lt, doRowW f row g s, i', left', if tells row = true then told ++ [(i, sameOf f row g s)] else told, lies ++ [(i, whereL p.names s)], ts', ls ++ [.ref T], y', _, _, _, _, rfl, ?_, ?_, ?_, doRowW_ok sok rok gk, ?_, atF.ext xZ ndle nxle nyle', ⟨nxy', nyle', nytd', nyli'⟩, hleZ, xZ.lst (fun z => nletd z.symm) htdF, htsF.ext xZ, ?_, xZ.lst (fun z => nleli z.symm) hliF, hlsF.ext xZ, x0F.hidP (fun z e => by rw [e]; exact leN) xZ, ?_, ?_⟩
      · rw [List.length_append]; rfl
      · rw [List.length_append]; show lies.length + 1 ≤ 300; omega
      · rw [ei]; exact nextW_le rok hrow
      · rw [List.length_append]
        have := doRowW_m fok row g s
        show _ ≤ 8 * (lies.length + 1)
        omega
      · rw [List.length_append]
        show _ ≤ lies.length + 1
        split
        · rw [List.length_append]; show told.length + 1 ≤ _; omega
        · omega
      · rw [← hgo, List.length_append, show [(i, whereL p.names s)].length = 1 from rfl, show 300 - lies.length = (300 - (lies.length + 1)) + 1 by omega, goW_step hrow heg ae hsome, ei, el]
      · rw [← hgl, List.length_append, show [(i, whereL p.names s)].length = 1 from rfl, show 300 - lies.length = (300 - (lies.length + 1)) + 1 by omega, goL_step hrow heg ae hsome, ei, el]
    rcases kinds row with ⟨j, rfl⟩ | ⟨n, j, rfl⟩ | ⟨n1, n2, same⟩
    · refine ⟨_, rfl, r, _, 0, _, rfl, rfl, SqT.of hrF, first_word (K := K), rfl, _, rfl, yS (iteT ⟨_, rfl, _, rfl, r, _, -1, _, rfl, rfl, SqT.of hrF, (show atI (rowV (Row.go j)) (-1) = some (.int j) from atI_last [V.str "go"] (V.int j)), ?_⟩)⟩
      exact fin HF j left rfl rfl hleF (Ext.refl _ _)
    · obtain ⟨b, rest, hlb⟩ : ∃ b rest, left = b :: rest := by
        cases left with
        | nil => exact absurd rfl (hsome rfl)
        | cons b rest => exact ⟨b, rest, rfl⟩
      subst hlb
      refine ⟨_, rfl, r, _, 0, _, rfl, rfl, SqT.of hrF, first_word (K := K), rfl, _, rfl, nS (show decide (V.str "if" = V.str "go") = false by decide +kernel) ⟨_, rfl, r, _, 0, _, rfl, rfl, SqT.of hrF, first_word (K := K), rfl, _, rfl, yS ?_⟩⟩
      refine ⟨_, rfl, .inl ⟨rfl, _, SqL.of hleF⟩, le, _, 0, 0, .bl b, rfl, rfl, hleF, by decide, by decide, (ixN_seq (ixN_nat (j := 0) (Nat.zero_lt_succ _))).1, rfl, ?_⟩
      have xZ : Ext (fun z => z = le) HF (upd HF le (.lst (rest.map V.bl))) := Ext.put hleF rfl (fun _ z => by cases z) (fun _ z => by cases z)
      refine ⟨b, rfl, ?_⟩
      cases b with
      | true =>
        refine iteT ⟨_, rfl, _, rfl, r, _, -1, _, rfl, rfl, SqT.of (xZ.tup _ _ hrF), (show atI (rowV (Row.iff n j)) (-1) = some (.int j) from atI_last [V.str "if", V.int n] (V.int j)), ?_⟩
        exact fin _ j rest rfl rfl upd_same xZ
      | false =>
        refine iteF ⟨_, rfl, _, _, rfl, rfl, ?_⟩
        exact fin _ (i + 1) rest rfl rfl upd_same xZ
    · refine ⟨_, rfl, r, _, 0, _, rfl, rfl, SqT.of hrF, first_word (K := K), rfl, _, rfl, nS n1 ⟨_, rfl, r, _, 0, _, rfl, rfl, SqT.of hrF, first_word (K := K), rfl, _, rfl, nS n2 (iteF ⟨_, rfl, _, _, rfl, rfl, ?_⟩)⟩⟩
      have hI : isIf row = false := by rw [← word_if]; exact n2
      have e1 : nextW row left i = i + 1 := by rw [← behind_jump]; exact same i _
      exact fin HF (i + 1) left e1.symm (by rw [hI, if_neg Bool.false_ne_true]) hleF (Ext.refl _ _)
end
end Bw
namespace Bw
open PySem PySem.Spec PyProof.Rows L2 GxR Gx RZ
def tellD (ts : List (Nat × Bool)) : PyData := .list (ts.map fun t => .tuple [.int (t.1 : Nat), .bool t.2])
theorem tell_dpAll {K : PySem.W.Frag} {H : Hp} : ∀ {as : List Addr} {ts : List (Nat × Bool)}, TellAt H as ts → DpAll K H (as.map V.ref) (ts.map fun t => .tuple [.int (t.1 : Nat), .bool t.2])
  | [], [], _ => .nil
  | [], _ :: _, h => absurd h.len (by simp)
  | _ :: _, [], h => absurd h.len (by simp)
  | a :: as, t :: ts, h => by
    refine .cons (.tup (SqT.of (h.at_ 0 a t rfl rfl)) (.cons (.int _) (.cons (.bl _) .nil))) (tell_dpAll (as := as) (ts := ts) ⟨by simpa using h.len, fun i b u e1 e2 => h.at_ (i + 1) b u (by simpa using e1) (by simpa using e2)⟩)
theorem tell_lv {ts : List (Nat × Bool)} (h : ts.length ≤ 300) : Lv 3 (tellD ts) = true := by
  have each : (ts.map fun t => PyData.tuple [.int (t.1 : Nat), .bool t.2]).all (Lv 2) = true := List.all_eq_true.mpr fun x hx => by
    obtain ⟨z, _, rfl⟩ := List.mem_map.mp hx
    rfl
  show (decide ((ts.map fun t => PyData.tuple [.int (t.1 : Nat), .bool t.2]).length ≤ 100000) && (ts.map fun t => PyData.tuple [.int (t.1 : Nat), .bool t.2]).all (Lv 2)) = true
  rw [each, decide_eq_true (by rw [List.length_map]; omega)]
  rfl
section
variable {base : Heap} {K : PySem.W.Frag} {mg : Str → Option Value} {P : Program} {w : World}
def spLawW (K : PySem.W.Frag) (TR T T1 T2 T3 TP TA : Addr) : Sp := fun vs H Q _ => ∃ (a : Addr) (ns : List Int), vs = [.ref a] ∧ SqL K H a (ns.map V.int) ∧ ns.length ≤ 63 ∧ WalkTabs H TR T T1 T2 T3 TP TA ∧ ∀ H', Q (.bl true) H'
abbrev nLawW : List Str := ["_law_script", "_law_box", "_law_turn", "_law_program_here", "_law_frame_here", "_law_choice_here", "_law_ways", "_law_due", "_law_again", "_law_handed", "_law_found", "_law_k"]
theorem scLawW : FnScope nLawW ["_law_script"] (defScope s_law) := ⟨rfl, rfl, rfl, by decide +kernel, rfl, by decide +kernel, by decide +kernel⟩
theorem ok_lawW {f fB fT fC fL fA fU TR T T1 T2 T3 TP TA : Addr} {fd fdB fdT fdC fdL fdA fdU : FuncData} (D : Df K mg "law" s_law ["_law_script"] f fd) (DB : Df K mg "_law_begun" s_begun ["_law_script"] fB fdB) (DT : Df K mg "_law_take" s_take ["_law_box", "_law_many"] fT fdT)
    (DC : Df K mg "_law_case" s_law_case ["_law_box", "_law_most"] fC fdC) (DL : Df K mg "_law_walk" s_law_walk ["_law_program_here", "_law_frame_here", "_law_choice_here", "_law_ways"] fL fdL) (DA : Df K mg "_law_alike" s_alike ["_law_found", "_law_due"] fA fdA) (DU : Df K mg "walk" s_walk ["program", "frame", "choice", "ways"] fU fdU)
    (GC : FnOk P w K mg base CX0 4 fC fdC ["_law_box", "_law_most"] spCase) (GL : FnOk P w K mg base CX0 3 fL fdL ["_law_program_here", "_law_frame_here", "_law_choice_here", "_law_ways"] spWalkL) (GU : FnOk P w K mg base CX0 11 fU fdU ["program", "frame", "choice", "ways"] (spWalk TR T T1 T2 T3 TP TA)) (B : Bt mg) :
    FnOk P w K mg base CX0 12 f fd ["_law_script"] (spLawW K TR T T1 T2 T3 TP TA) := by
  have GB : FnOk P w K mg base CX0 1 fB fdB ["_law_script"] (spBegun K) := ok_begun DB B
  have GT : FnOk P w K mg base CX0 1 fT fdT ["_law_box", "_law_many"] spTake := ok_take DT
  have GA : FnOk P w K mg base CX0 3 fA fdA ["_law_found", "_law_due"] (spAlike K 3) := ok_alike DA B 3
  refine D.F.ok scLawW (fun vs H Q E h => ?_) (fun cdv A outer s H vs Q E hr h => ?_)
  · obtain ⟨a, ns, rfl, _⟩ := h
    rfl
  · obtain ⟨a, ns, rfl, hS, fewS, tabs, q⟩ := h
    have hr1 := hr.mono (show 1 ≤ 11 by decide)
    have hr3 := hr.mono (show 3 ≤ 11 by decide)
    have hr4 := hr.mono (show 4 ≤ 11 by decide)
    have huD := hr.units
    refine ⟨_, (pss_cons (ps_set (i := 1) scLawW.nd rfl (.inr rfl) (pcall DB GB hr1 (pa_cons (pv 0) pa_nil)))
      (pss_cons (ps_for PassesOwn.never rfl (pi_range1 (by rfl) B.range (pa_cons pe_int pa_nil)) (pg_name (i := 2) scLawW.nd rfl (.inl rfl))
      (pss_cons (ps_asg (pcall DC GC hr4 (pa_cons (pv 1) (pa_cons pe_int pa_nil))) (pg_tup rfl (pgs_cons (pg_name (i := 3) scLawW.nd rfl (.inl rfl)) (pgs_cons (pg_name (i := 4) scLawW.nd rfl (.inl rfl)) (pgs_cons (pg_name (i := 5) scLawW.nd rfl (.inl rfl)) pgs_nil)))))
      (pss_cons (ps_setLc (i := 6) (own := [("_law_k", 11)]) (g := gName 11) (tt := tYes) rfl scLawW.nd rfl rfl (sw_true rfl rfl rfl (by decide +kernel)) (pi_range1 (by rfl) B.range (pa_cons (pcall DT GT hr1 (pa_cons (pv 1) (pa_cons (pe_ix ix_list (pe_lst (pa_cons pe_int (pa_cons pe_int (pa_cons pe_int pa_nil)))) (pcall DT GT hr1 (pa_cons (pv 1) (pa_cons pe_int pa_nil))) (fun _ _ => rfl)) pa_nil))) pa_nil)) (blkOk_by (N := nLawW) (sc := defScope s_law) (by decide +kernel)) (fun _ _ _ _ _ => pg_name (i := 11) scLawW.nd rfl (Or.inl rfl)) (fun _ _ _ _ _ => pts_nil) (fun _ _ _ _ _ => (pe_cmpR op_eq (pcall DT GT hr1 (pa_cons (pv 1) (pa_cons pe_int pa_nil))) pe_int (nomark _))))
      (pss_cons (ps_set (i := 7) scLawW.nd rfl (.inl rfl) (pe_ix ix_tup (pcall DL GL hr3 (pa_cons (pv 3) (pa_cons (pv 4) (pa_cons (pv 5) (pa_cons (pv 6) pa_nil))))) pe_int (fun _ _ => rfl)))
      (pss_one (ps_for PassesOwn.never rfl (pi_range1 (by rfl) B.range (pa_cons pe_int pa_nil)) (pg_name (i := 8) scLawW.nd rfl (.inl rfl))
      (pss_cons (ps_set (i := 9) scLawW.nd rfl (.inl rfl) (pe_callTy call_list_of (by rfl) B.list (by decide +kernel) (pa_cons (pv 6) pa_nil)))
      (pss_cons (ps_set (i := 10) scLawW.nd rfl (.inl rfl) (pcall DU GU hr (pa_cons (pv 3) (pa_cons (pv 4) (pa_cons (pv 5) (pa_cons (pv 9) pa_nil))))))
      (pss_cons (ps_if (PW.pt (pw_or (pt_not (pt_val (pcall DA GA hr3 (pa_cons (pv 10) (pa_cons (pv 7) pa_nil))))) (pw_or1 (pt_cmpR (op_neD huD) (pv 9) (pv 6) (nomark _))))) (pss_one (ps_ret pe_bl))
      pss_nil)
      (pss_one (ps_expr (pe_bm PySem.F.plainAttrs_list PySem.F.slot_list_append PySem.F.type_list_append mt_append (pv 10) (pa_cons (pe_tup pa_nil) pa_nil)))))))))))))
      (pss_one (ps_ret pe_bl))))
      , ?_⟩
    refine ⟨_, rfl, a, ns, rfl, hS, fewS, fun H1 b l nb nl bo1 x1 => ?_⟩
    refine ⟨5, rfl, by decide, by decide, for_range (lo := 0) (n := 5) (fun i σ H2 => (∃ v2 v3 v4 v5 v6 v7 v8 v9 v10, σ = [some (.ref a), some (.ref b), v2, v3, v4, v5, v6, v7, v8, v9, v10, none]) ∧ BoxAt H2 b l ∧ WalkTabs H2 TR T T1 T2 T3 TP TA)
      ⟨⟨_, _, _, _, _, _, _, _, _, rfl⟩, bo1, tabs.ext x1⟩ ?_ ?_⟩
    · rintro i σ H2 hi ⟨⟨v2, v3, v4, v5, v6, v7, v8, v9, v10, rfl⟩, bo2, t2⟩
      -- a case
      refine ⟨_, rfl, b, l, 24, rfl, bo2, by decide, by decide, fun H3 t pa fa ca p f c ht3 pok pm hp3 fok hf3 cok tc3 bo3 x3 => ?_⟩
      refine ⟨t, _, rfl, SqT.of ht3, rfl, _, _, rfl, _, _, rfl, _, _, rfl, rfl, ?_⟩
      -- ways
      refine ⟨_, rfl, by show 3 ≤ sizeLine; decide, fun L nL => ?_⟩
      refine ⟨_, rfl, b, l, 3, rfl, bo3.new nL, by decide, by decide, fun H6 k k0 k1 bo6 x6 => ?_⟩
      obtain ⟨v, ev, hv⟩ := pick3 (x := .int 5) (y := .int 41) (z := .int 310) k0 k1
      refine ⟨L, _, k, v, rfl, rfl, SqL.of (x6.lst (bo3.nb nL) upd_same), ev, ?_⟩
      obtain ⟨mm, rfl, m1, m2⟩ : ∃ mm : Int, v = .int mm ∧ 0 < mm ∧ mm ≤ 310 := by
        rcases hv with rfl | rfl | rfl
        · exact ⟨5, rfl, by decide, by decide⟩
        · exact ⟨41, rfl, by decide, by decide⟩
        · exact ⟨310, rfl, by decide, by decide⟩
      refine ⟨b, l, mm, rfl, bo6, m1, by omega, fun H7 jn jn0 jn1 bo7 x7 => ?_⟩
      obtain ⟨many, rfl⟩ : ∃ many : Nat, jn = (many : Int) := ⟨jn.toNat, by omega⟩
      have x37 : Ext (bx b l) H3 H7 := ((Ext.new nL).trans x6).trans x7
      refine ⟨many, rfl, by omega, by omega, fun J nJ => ?_⟩
      refine lc_range (lo := 0) (n := many) (fun j H8 => ∃ jv : List Bool, jv.length = j ∧ H8 J = some (.lst (jv.map V.bl)) ∧ BoxAt H8 b l ∧ Ext (bx b l) H7 H8)
        ⟨[], rfl, upd_same, bo7.new nJ, Ext.new nJ⟩ ?_ ?_
      · rintro j H8 hj ⟨jv, hjl, hJ8, bo8, x8⟩
        refine ⟨rfl, ?_⟩
        refine ⟨_, rfl, b, l, 2, rfl, bo8, by decide, by decide, fun H9 r1 r10 r11 bo9 x9 => ?_⟩
        have hJ9 := x9.lst (bo7.nb nJ) hJ8
        refine ⟨rfl, ?_⟩
        have y : Ext (fun x => x = J) H9 (upd H9 J (.lst (jv.map V.bl ++ [.bl (decide (V.int r1 = V.int 1))]))) := Ext.put hJ9 rfl (fun _ z => by cases z) (fun _ z => by cases z)
        exact ⟨_, hJ9, by rw [List.length_map]; exact small_lt (k := 310) (by omega) (by decide), jv ++ [decide (V.int r1 = V.int 1)], by rw [List.length_append, hjl]; rfl, by rw [upd_same, List.map_append]; rfl, bo9.ext y (fun z => bo7.nb nJ (.inl z.symm)) (fun z => bo7.nb nJ (.inr z.symm)), (x8.trans x9).own nJ⟩
      rintro H8 ⟨jv, hjl, hJ8, bo8, x8⟩
      have x38 := x37.trans x8
      have X8 : Ext (bx b l) H2 H8 := x3.trans x38
      have t8 := t2.ext X8
      have pre : ∀ {H' : Hp} {J' : Addr}, Ext no H8 H' → H' J' = some (.lst (jv.map V.bl)) → WalkPre H' pa fa ca J' p f c jv := fun xx hj => ⟨(hp3.ext x38).ext xx, pok, (hf3.ext x38).ext xx, fok, (tc3.ext x38).ext xx, cok, hj⟩
      -- due
      refine ⟨_, rfl, _, rfl, _, rfl, _, rfl, pa, fa, ca, J, p, f, c, jv, rfl, pre (Ext.refl _ _) hJ8, by omega, fun He t' due li as ls nt' ndue nli ht' hdue tolde hli hls xe => ?_⟩
      refine ⟨t', _, 0, _, rfl, rfl, SqT.of ht', atI_nat (j := 0) rfl, ?_⟩
      have short : (walkW p f c jv).length ≤ 300 := by
        have := goW_len f p.rows c.groups 300 (startW p f c) 0 jv []
        have e0 : ([] : List (Nat × Bool)).length = 0 := rfl
        unfold walkW
        omega
      generalize hres : walkW p f c jv = res at tolde short
      refine ⟨2, rfl, by decide, by decide, for_range (lo := 0) (n := 2) (fun i σ H2 => (∃ v2 v8 v9 v10, σ = [some (.ref a), some (.ref b), v2, some (.ref pa), some (.ref fa), some (.ref ca), some (.ref J), some (.ref due), v8, v9, v10, none]) ∧ Ext no He H2)
        ⟨⟨_, _, _, _, rfl⟩, Ext.refl _ _⟩ ?_ ?_⟩
      · rintro i3 σ Hf hi3 ⟨⟨w2, w8, w9, w10, rfl⟩, xf⟩
        have xcf := xe.trans xf
        have hJf := xcf.lst (fun z => z) hJ8
        refine ⟨_, rfl, J, _, rfl, .inl (SqL.of hJf), fun hn nhn => ?_⟩
        have xg : Ext no Hf (upd Hf hn (.lst (jv.map V.bl))) := Ext.new nhn
        have hhn : (upd Hf hn (.lst (jv.map V.bl))) hn = some (.lst (jv.map V.bl)) := upd_same
        generalize upd Hf hn (.lst (jv.map V.bl)) = Hg at xg hhn
        have xcg := xcf.trans xg
        refine ⟨_, rfl, _, rfl, _, rfl, _, rfl, pa, fa, ca, hn, p, f, c, jv, rfl, pre xcg hhn, t8.ext xcg, fun Hh fo as2 nfo hfo toldh xh => ?_⟩
        rw [hres] at toldh
        have xfh := (xf.trans xg).trans xh
        have toldd := tolde.ext xfh
        have hdueh := xfh.lst (fun z => z) hdue
        refine ⟨_, rfl, _, rfl, _, _, tellD res, rfl, .lst (SqL.of hfo) (tell_dpAll toldh), .lst (SqL.of hdueh) (tell_dpAll toldd), tell_lv short, _, rfl, iteF ?_⟩
        have hnh := xh.lst (fun z => z) hhn
        have hJh := (xg.trans xh).lst (fun z => z) hJf
        refine ⟨_, rfl, _, rfl, .list (jv.map PyData.bool), .list (jv.map PyData.bool), .lst (SqL.of hnh) (dpBools _), .lst (SqL.of hJh) (dpBools _), shBools _, shBools _, _, rfl, ?_⟩
        rw [SeqAt.eqv_refl _ (SeqAt.canLay_of_shaped (shBools jv))]
        refine iteF ?_
        refine ⟨_, rfl, .inl ⟨rfl, _, SqL.of hfo⟩, Nat.zero_le _, fun et net => ?_⟩
        have xi : Ext no Hh (upd Hh et (.tup [])) := Ext.new net
        have hfo2 := xi.lst (fun z => z) hfo
        refine ⟨fo, _, _, rfl, rfl, hfo2, ?_, ⟨⟨_, _, _, _, rfl⟩, (xf.trans xg).trans ((xh.trans xi).own nfo)⟩⟩
        rw [List.length_map, toldh.len]
        exact small_lt short (by decide)
      · rintro σ Hf ⟨⟨w2, w8, w9, w10, rfl⟩, xf⟩
        exact ⟨⟨_, _, _, _, _, _, _, _, _, rfl⟩, bo8.ext (xe.trans xf) (fun z => z) (fun z => z), t8.ext (xe.trans xf)⟩
    · rintro σ H2 _
      exact q _
end
end Bw
namespace Bw
open PySem PySem.Spec PyProof.Rows L2 GxR
/-! ### the end: what the top has left -/
/-- as LamX.walk_ofTs, where the tables of the defs named in xs are asked for -/
theorem walk_tabs {l : PySem.W.OpenLaw} {n k : Nat} {q : Program} {loose : List Str} {XP : (Str → Option Value) → Heap → Prop} {YP : World → Heap → Prop} {d : DefRec} {K : Params → PySem.W.Frag} {x : Str} (xs : List Str)
    (most : l.most = some n) (few : n ≤ sizeLine) (plain : d.params.defaults = []) (room : Room k callerA) (recs : ∀ y ∈ xs, ((recsOf q).any fun e => e.name == y) = true) (isIn : ∀ (w : World) (h : Heap), YP w h → (K w.params).In h)
    (F : ∀ (w : World) (mg : Str → Option Value) (fa : Addr) (h : Heap), YP w h → (K w.params).In h → h.Ns mainGlobals mg → mg d.name = some (.ref fa) → (∀ y ∈ xs, ∀ f, mg y = some (.ref f) → LamX.OwnTab (K w.params) f h) → LamX.LawAtS l w (K w.params) CX0 k n x mg fa h) : PySem.W.WalkO q loose XP YP l.row.toRowW d [] (fun f vs => PySem.call f vs) := by
  refine Att.attach_callB most plain fun w s₀ s₁ mg mb fa o pm cd doc a vs ns G Y ho hd hcd hmg isList areInts short bits hg => ?_
  have there := isIn w _ Y
  have tabs : ∀ y ∈ xs, ∀ f, mg y = some (.ref f) → LamX.OwnTab (K w.params) f s₁.heap := by
    intro y hy f isF c T o1 fd1 e dd vs1 sl k1 k2 k3 k4 k5
    obtain ⟨rec, isRec, named⟩ := List.any_eq_true.mp (recs y hy)
    obtain ⟨f', o', fd', c', T', g1, g2, g3, g4, _, ⟨⟨oc, vc, g5, _, g6, g7⟩, empty⟩⟩ := G.T.tab rec isRec
    rw [beq_iff_eq.mp named, isF] at g1
    obtain rfl : f = f' := Value.ref.inj (Option.some.inj g1)
    obtain rfl : o1 = o' := Option.some.inj ((there _ _ k1).symm.trans g2)
    obtain rfl : fd1 = fd' := Data.func.inj (k2.symm.trans g3)
    obtain rfl : c = c' := Value.ref.inj (k3.symm.trans g4)
    obtain rfl : ({ cls := e, dict := dd, data := .fields vs1, slots := sl } : Obj) = oc := Option.some.inj ((there _ _ k4).symm.trans g5)
    obtain rfl : vs1 = vc := Data.fields.inj g6
    obtain rfl : T = T' := Value.ref.inj (Option.some.inj (k5.symm.trans g7))
    exact empty
  obtain ⟨fd, cs, sp, empty, apart, codes, binds, says, keeps⟩ := F w mg fa _ Y there G.T.g hmg tabs
  exact LamX.law_callTs there G.T.g G.T.b G.T.builtins G.T.nolimit hg empty apart codes G.T.bmain isList areInts (Nat.le_trans short few) room keeps binds (fun H isT isS => says H a ns short bits isT isS) fun _ _ _ z => z
section
variable {K : PySem.W.Frag} {h : Heap} {mg : Str → Option Value} {w : World} {A : Prop}
abbrev Bnd (x qual : Str) (st : Stmt) (ps : List Str) : Prop := ∀ (kV doc pm : Value) (an : Option Addr) (cdv ct : Value) (us : List Value), us.length = ps.length → bindArgs (PySem.W.fnOf x qual (defArgs st) (defBody st) (defScope st) .none kV doc pm an cdv ct) ⟨us, []⟩ = pure (ps.zip us)
theorem df_mk (x : Str) (st : Stmt) (ps : List Str) {f : Addr} {oc : Value} {od an : Option Addr} {osl : Array (Option Value)} {kV doc pm cdv ct : Value} (KX : K.In h) (G : h.Ns mainGlobals mg) (b : Bnd x x st ps)
    (at_ : PySem.W.nsIn K mainGlobals x = some (some (.ref f))) (lk : K.lookup f = some ⟨oc, od, .func (PySem.W.fnOf x x (defArgs st) (defBody st) (defScope st) .none kV doc pm an cdv ct), osl⟩) (cd : PySem.W.codeIn K cdv x = true) (kp : PySem.W.keepIn K (.ref f) = true)
    (next : ∀ f fd, Df K mg x st ps f fd → A) : A :=
  next f _ ⟨fun_mk (st := st) lk cd kp, (fun_mk (st := st) lk cd kp).binds b, PySem.W.mg_of KX G at_⟩
/-- a def that holds a generator expression: its code at c, its table at T -/
structure Gen (K : PySem.W.Frag) (h : Heap) (c T : Addr) : Prop where
  hd : PySem.W.CodeHd h c T
  no : K.lookup T = none
  tab : h.get? T = some { cls := .none, data := .fields #[] }
theorem dc_mk (x : Str) (st : Stmt) (ps : List Str) {f c T : Addr} {oc : Value} {od an : Option Addr} {osl : Array (Option Value)} {kV doc pm ct e : Value} {dd : Option Addr} {vs : Array Value} {sl : Array (Option Value)} (KX : K.In h) (G : h.Ns mainGlobals mg) (own : ∀ f, mg x = some (.ref f) → LamX.OwnTab K f h) (b : Bnd x x st ps)
    (at_ : PySem.W.nsIn K mainGlobals x = some (some (.ref f))) (lk : K.lookup f = some ⟨oc, od, .func (PySem.W.fnOf x x (defArgs st) (defBody st) (defScope st) .none kV doc pm an (.ref c) ct), osl⟩) (cd : PySem.W.codeIn K (.ref c) x = true) (kp : PySem.W.keepIn K (.ref f) = true)
    (lc : K.lookup c = some ⟨e, dd, .fields vs, sl⟩) (at11 : vs[11]? = some (.ref T)) (hd : PySem.W.codeHdIn K c T = true) (no : K.lookup T = none)
    (next : ∀ f fd c T, Dc K mg x st ps f fd c → Gen K h c T → A) : A :=
  next f _ c T ⟨⟨fun_mk (st := st) lk cd kp, (fun_mk (st := st) lk cd kp).binds b, PySem.W.mg_of KX G at_⟩, ⟨oc, od, kV, doc, pm, an, ct, osl, rfl, lk, cd⟩⟩
    ⟨PySem.W.codeHd_of_K KX hd, no, own f (PySem.W.mg_of KX G at_) c T _ _ e dd vs sl lk rfl rfl lc at11⟩
theorem dm_mk {C : Addr} (_ : Kcls K C) (m qual : Str) (st : Stmt) (ps : List Str) {f : Addr} {oc : Value} {od an : Option Addr} {osl : Array (Option Value)} {kV doc pm cdv ct : Value} (b : Bnd m qual st ps)
    (at_ : PySem.W.findIn K (.ref C) m = some (some (.ref f))) (fn : PySem.W.isFn K (.ref f) = true) (lk : K.lookup f = some ⟨oc, od, .func (PySem.W.fnOf m qual (defArgs st) (defBody st) (defScope st) .none kV doc pm an cdv ct), osl⟩) (cd : PySem.W.codeIn K cdv qual = true) (kp : PySem.W.keepIn K (.ref f) = true)
    (next : ∀ f fd, Dm K C m qual st ps f fd → A) : A :=
  next f _ ⟨fun_mk (st := st) lk cd kp, (fun_mk (st := st) lk cd kp).binds b, ⟨at_, fn, kp⟩⟩
/-- a method that holds a generator expression -/
theorem dmc_mk {C : Addr} (_ : Kcls K C) (m qual : Str) (st : Stmt) (ps : List Str) {f c T : Addr} {oc : Value} {od an : Option Addr} {osl : Array (Option Value)} {kV doc pm ct e : Value} {dd : Option Addr} {vs : Array Value} {sl : Array (Option Value)} (KX : K.In h) (b : Bnd m qual st ps)
    (at_ : PySem.W.findIn K (.ref C) m = some (some (.ref f))) (fn : PySem.W.isFn K (.ref f) = true) (lk : K.lookup f = some ⟨oc, od, .func (PySem.W.fnOf m qual (defArgs st) (defBody st) (defScope st) .none kV doc pm an (.ref c) ct), osl⟩) (cd : PySem.W.codeIn K (.ref c) qual = true) (kp : PySem.W.keepIn K (.ref f) = true)
    (lc : K.lookup c = some ⟨e, dd, .fields vs, sl⟩) (at11 : vs[11]? = some (.ref T)) (hd : PySem.W.codeHdIn K c T = true) (no : K.lookup T = none) (tab : h.get? T = some { cls := .none, data := .fields #[] })
    (next : ∀ f fd c T, Dmc K C m qual st ps f fd c → Gen K h c T → A) : A :=
  next f _ c T ⟨⟨fun_mk (st := st) lk cd kp, (fun_mk (st := st) lk cd kp).binds b, ⟨at_, fn, kp⟩⟩, ⟨oc, od, kV, doc, pm, an, ct, osl, rfl, lk, cd⟩⟩ ⟨PySem.W.codeHd_of_K KX hd, no, tab⟩
structure PartAt (K : PySem.W.Frag) (d : Addr) (word : Str) (xs : List V) : Prop where
  ex : ∃ a, PySem.W.nsIn K d word = some (some (.ref a)) ∧ ∀ H, SqT K H a xs
theorem part_mk {d a : Addr} {word : Str} {xs : List V} {od : Option Addr} {its : Array Value} {n : Nat} {sl : Array (Option Value)} (at_ : PySem.W.nsIn K d word = some (some (.ref a))) (lk : K.lookup a = some ⟨.type "tuple", od, .seq its n, sl⟩) (few : its.size ≤ 10) (v : Vals xs its.toList) : PartAt K d word xs :=
  ⟨a, at_, fun H => .inr ⟨_, its, n, lk, rfl, rfl, Nat.le_trans few (by decide), v⟩⟩
end
end Bw
namespace Bw
open PySem PySem.Spec PyProof.Rows L2 GxR
theorem law_binds {K : PySem.W.Frag} {f : Addr} {fd : FuncData} (F : Fun K "law" "law" s_law f fd) : ∀ (s : Shared) (u : Value), BindsTo s fd ⟨[u], []⟩ [("_law_script", u)] := by
  obtain ⟨oc, od, kV, doc, pm, an, cdv, ct, osl, same, _, _⟩ := F.ex
  subst same
  exact fun s u => .of_eq rfl
theorem all7 {R : Addr × Addr → Prop} {a b c d e f g : Addr × Addr} (ha : R a) (hb : R b) (hc : R c) (hd : R d) (he : R e) (hf : R f) (hg : R g) : ∀ p ∈ [a, b, c, d, e, f, g], R p := fun p hp => by
  simp only [List.mem_cons, List.not_mem_nil, or_false] at hp
  rcases hp with z | z | z | z | z | z | z <;> (rw [z]; assumption)
theorem tab_of {H : Hp} {T : Addr} (h : H T = some (.tbl #[])) : TabG H T := ⟨#[], h, trivial⟩
theorem law_at {l : PySem.W.OpenLaw} {w : World} {K : PySem.W.Frag} {mg : Str → Option Value} {h : Heap} {fa C dp dm mk wb : Addr} {es em : Array DictEntry} {n0 n1 : Nat} {f1 f2 f3 f4 f5 f6 f7 f8 f9 f10 f11 f12 f13 f14 f15 f16 f17 f18 f19 f20 f21 f22 f23 f24 f25 f26 f27 f28 f29 f30 f31 f32 f33 f34 f35 f36 f37 f38 f39 f40 f41 f42 f43 f44 f45 f46 f47 f48 f49 f50 cDRC tDRC cDPs tDPs cDGc tDGc cDMs tDMs cDMc tDMc cDNm tDNm cDmA tDmA : Addr}
    {d1 d2 d3 d4 d5 d6 d7 d8 d9 d10 d11 d12 d13 d14 d15 d16 d17 d18 d19 d20 d21 d22 d23 d24 d25 d26 d27 d28 d29 d30 d31 d32 d33 d34 d35 d36 d37 d38 d39 d40 d41 d42 d43 d44 d45 d46 d47 d48 d49 d50 : FuncData}
    (DL : Df K mg "law" s_law ["_law_script"] f1 d1) (DB : Df K mg "_law_begun" s_begun ["_law_script"] f2 d2) (DT : Df K mg "_law_take" s_take ["_law_box", "_law_many"] f3 d3) (DA : Df K mg "_law_alike" s_alike ["_law_found", "_law_due"] f4 d4)
    (DR : Df K mg "_law_row" s_row ["_law_box", "_law_names", "_law_many", "_law_at"] f5 d5) (DP : Df K mg "_law_program" s_program ["_law_box", "_law_most"] f6 d6) (DF : Df K mg "_law_frame" s_law_frame ["_law_box"] f7 d7) (DHo : Df K mg "_law_homes" s_law_homes ["_law_box", "_law_names", "_law_frame_here"] f8 d8)
    (DGr : Df K mg "_law_group" s_law_group ["_law_box", "_law_row_here", "_law_homes_here", "_law_frame_here"] f9 d9) (DCh : Df K mg "_law_choice" s_law_choice ["_law_box", "_law_program_here", "_law_frame_here"] f10 d10) (DFi : Df K mg "_law_fits" s_law_fits ["_law_program_here", "_law_frame_here"] f11 d11) (DM : Df K mg "_law_move" s_law_move ["_law_box", "_law_frame_here"] f12 d12)
    (DBe : Df K mg "_law_bent" s_law_bent ["_law_box", "_law_program_here", "_law_frame_here", "_law_choice_here"] f13 d13) (DCa : Df K mg "_law_case" s_law_case ["_law_box", "_law_most"] f14 d14) (DHe : Df K mg "_law_held" s_law_held ["_law_held_here", "_law_moves", "_law_frame_here"] f15 d15) (DMa : Df K mg "_law_makes" s_law_makes ["_law_row_here"] f16 d16)
    (DMr : Df K mg "_law_marks" s_law_marks ["_law_program_here", "_law_frame_here", "_law_choice_here"] f17 d17) (DNw : Df K mg "_law_new" s_law_new ["_law_m"] f18 d18) (DDo : Df K mg "_law_do" s_law_do ["_law_m", "_law_row_here", "_law_group_here", "_law_frame_here"] f19 d19) (DLr : Df K mg "_law_walk" s_law_walk ["_law_program_here", "_law_frame_here", "_law_choice_here", "_law_ways"] f20 d20)
    (DU : Df K mg "walk" s_walk ["program", "frame", "choice", "ways"] f21 d21) (DAl : Df K mg "check_all" s_check_all ["program", "frame", "choice"] f22 d22) (DC : Df K mg "check_program" s_check_program ["program"] f23 d23) (DH0 : Df K mg "head_can_be" s_head_can_be ["program"] f24 d24)
    (DRC : Dc K mg "row_can_be" s_row_can_be ["row", "names", "many"] f25 d25 cDRC) (gDRC : Gen K h cDRC tDRC) (DCf : Df K mg "check_frame" s_check_frame ["frame"] f26 d26) (DFc : Df K mg "frame_can_be" s_frame_can_be ["frame"] f27 d27) (DRi : Df K mg "is_rising" s_is_rising ["value", "many"] f28 d28)
    (DCc : Df K mg "check_choice" s_check_choice ["program", "frame", "choice"] f29 d29) (DPs : Dc K mg "places_can_be" s_places_can_be ["program", "frame", "places"] f30 d30 cDPs) (gDPs : Gen K h cDPs tDPs) (DPl : Df K mg "place_can_be" s_place_can_be ["frame", "place"] f31 d31) (DHi : Df K mg "highest_of" s_highest_of ["frame", "part"] f32 d32)
    (DGc : Dc K mg "group_can_be" s_group_can_be ["row", "frame", "group"] f33 d33 cDGc) (gDGc : Gen K h cDGc tDGc) (DMs : Dc K mg "moves_can_be" s_moves_can_be ["frame", "moves"] f34 d34 cDMs) (gDMs : Gen K h cDMs tDMs) (DMc : Dc K mg "move_can_be" s_move_can_be ["frame", "move"] f35 d35 cDMc) (gDMc : Gen K h cDMc tDMc) (DNm : Dc K mg "names_of" s_names_of ["row"] f36 d36 cDNm) (gDNm : Gen K h cDNm tDNm)
    (DN : Df K mg "is_number" s_is_number ["value", "low", "high"] f37 d37) (DTu : Df K mg "is_tuple_of" s_is_tuple_of ["value", "many"] f38 d38) (DCe : Df K mg "cell_of" s_cell_of ["frame", "part", "number"] f39 d39) (DPc : Df K mg "place_cells" s_place_cells ["frame", "places"] f40 d40)
    (DMv : Df K mg "do_moves" s_do_moves ["frame", "moves", "cells"] f41 d41) (DAe : Df K mg "at_end" s_at_end ["rows", "at"] f42 d42) (DX : Df K mg "next_row" s_next_row ["row", "at", "jumps"] f43 d43) (DHd : Df K mg "handed" s_handed ["row", "ones"] f44 d44)
    (DmI : Dm K C "__init__" "Marks.__init__" s_k_init ["self", "names", "frame", "places"] f45 d45) (DmF : Dm K C "fresh" "Marks.fresh" s_k_fresh ["self"] f46 d46) (DmD : Dm K C "do_row" "Marks.do_row" s_k_do_row ["self", "row", "group"] f47 d47) (DmA : Dmc K C "agree" "Marks.agree" s_k_agree ["self", "names", "boxes"] f48 d48 cDmA) (gDmA : Gen K h cDmA tDmA)
    (DmE : Dm K C "eat" "Marks.eat" s_k_eat ["self"] f49 d49) (DmK : Dm K C "make" "Marks.make" s_k_make ["self", "name", "box", "same"] f50 d50) (isL : mg "law" = some (.ref fa)) (mkC : PySem.W.makesIn K C = true) (kpC : PySem.W.keepIn K (.ref C) = true) (gM : mg "Marks" = some (.ref C)) (M : Kcls K C)
    (PT0 : Parts K w mg dp es n0) (MV : Moves K w mg dm em n1) (MK : Makers K mg mk) (W : Without K mg wb) (B : Bt mg) (nS : mg "set" = none) (G : Gk mg) (Gc0 : Gc mg) (gW : ∃ t, mg "WALK_MOST" = some (.int 300 t)) : LamX.LawAtS l w K CX0 12 63 "_law_script" mg fa h := by
  obtain rfl : f1 = fa := Value.ref.inj (Option.some.inj (DL.g.symm.trans isL))
  refine ⟨d1, [(cDRC, tDRC), (cDPs, tDPs), (cDGc, tDGc), (cDMs, tDMs), (cDMc, tDMc), (cDNm, tDNm), (cDmA, tDmA)], spLawW K tDRC tDGc tDMs tDMc tDNm tDPs tDmA, ?_, ?_, ?_, law_binds DL.F, ?_, ?_⟩
  · exact all7 gDRC.tab gDPs.tab gDGc.tab gDMs.tab gDMc.tab gDNm.tab gDmA.tab
  · exact all7 gDRC.no gDPs.no gDGc.no gDMs.no gDMc.no gDNm.no gDmA.no
  · exact all7 gDRC.hd gDPs.hd gDGc.hd gDMs.hd gDMc.hd gDNm.hd gDmA.hd
  · intro H a ns short _ tabs isS
    exact ⟨a, ns, rfl, isS, short, ⟨(tab_of (tabs (cDRC, tDRC) (by simp))), (tab_of (tabs (cDmA, tDmA) (by simp))), ⟨(tab_of (tabs (cDGc, tDGc) (by simp))), (tab_of (tabs (cDMs, tDMs) (by simp))), (tab_of (tabs (cDMc, tDMc) (by simp))), (tab_of (tabs (cDNm, tDNm) (by simp))), (tab_of (tabs (cDPs, tDPs) (by simp)))⟩⟩, fun _ => rfl⟩
  · intro base inB _ TBs
    have xDRC := TBs (cDRC, tDRC) (by simp)
    have bDRC : GxR.TabB base mg cDRC tDRC := ⟨xDRC.code, xDRC.bm, xDRC.gP⟩
    have xDPs := TBs (cDPs, tDPs) (by simp)
    have bDPs : GxR.TabB base mg cDPs tDPs := ⟨xDPs.code, xDPs.bm, xDPs.gP⟩
    have xDGc := TBs (cDGc, tDGc) (by simp)
    have bDGc : GxR.TabB base mg cDGc tDGc := ⟨xDGc.code, xDGc.bm, xDGc.gP⟩
    have xDMs := TBs (cDMs, tDMs) (by simp)
    have bDMs : GxR.TabB base mg cDMs tDMs := ⟨xDMs.code, xDMs.bm, xDMs.gP⟩
    have xDMc := TBs (cDMc, tDMc) (by simp)
    have bDMc : GxR.TabB base mg cDMc tDMc := ⟨xDMc.code, xDMc.bm, xDMc.gP⟩
    have xDNm := TBs (cDNm, tDNm) (by simp)
    have bDNm : GxR.TabB base mg cDNm tDNm := ⟨xDNm.code, xDNm.bm, xDNm.gP⟩
    have xDmA := TBs (cDmA, tDmA) (by simp)
    have bDmA : GxR.TabB base mg cDmA tDmA := ⟨xDmA.code, xDmA.bm, xDmA.gP⟩
    have GD0 : FnOk l.prog w K mg base CX0 2 _ _ ["_law_m", "_law_row_here", "_law_group_here", "_law_frame_here"] spDoL := ok_doL DDo DNw DHe DMa B
    have GN0 := ok_names (P := l.prog) (w := w) DNm bDNm PT0 B
    have GDR := ok_doK (P := l.prog) (w := w) (mg := mg) (base := base) (dp := dp) (ep := es) (n1 := n0) DmD DNm GN0 DMv DCe MV DHd MK DmA (ok_agree DmA bDmA M B) DmE DmF DmK M
    exact ok_lawW DL DB DT DCa DLr DA DU (ok_case DCa DT DR DP DF DFi DHo DGr DCh DM DBe B) (ok_walkL DLr DMr DDo GD0 B) (ok_walk DU DAl DAe DX DmD ⟨mkC, DmI.at_.at_, DmI.at_.fn, kpC⟩ gM DmI.b B gW (ok_checkAll DAl DC DCf DCc (ok_check DC DH0 DRC bDRC DN DTu PT0 B G) (ok_checkFr DCf DFc (ok_frameCan DFc DN DTu DRi B Gc0)) (ok_checkCh DCc DTu DPs.D DGc (ok_placesCan DPs bDPs DTu DPl DN DHi B nS) (ok_groupCan DGc bDGc DMs DNm DN DTu DHi W (ok_movesCan DMs bDMs DMc (ok_moveCan DMc bDMc DN DTu DHi MV B) B Gc0) GN0 B) B)) (ok_atEnd DAe B) (ok_next DX) (ok_initK DmI.F DPc DCe M B) GDR M) B
theorem bs_law : Bnd "law" "law" s_law ["_law_script"] := fun _ _ _ _ _ _ us hl => match us, hl with | [_], _ => rfl
theorem bs_begun : Bnd "_law_begun" "_law_begun" s_begun ["_law_script"] := fun _ _ _ _ _ _ us hl => match us, hl with | [_], _ => rfl
theorem bs_take : Bnd "_law_take" "_law_take" s_take ["_law_box", "_law_many"] := fun _ _ _ _ _ _ us hl => match us, hl with | [_, _], _ => rfl
theorem bs_alike : Bnd "_law_alike" "_law_alike" s_alike ["_law_found", "_law_due"] := fun _ _ _ _ _ _ us hl => match us, hl with | [_, _], _ => rfl
theorem bs_row : Bnd "_law_row" "_law_row" s_row ["_law_box", "_law_names", "_law_many", "_law_at"] := fun _ _ _ _ _ _ us hl => match us, hl with | [_, _, _, _], _ => rfl
theorem bs_program : Bnd "_law_program" "_law_program" s_program ["_law_box", "_law_most"] := fun _ _ _ _ _ _ us hl => match us, hl with | [_, _], _ => rfl
theorem bs_law_frame : Bnd "_law_frame" "_law_frame" s_law_frame ["_law_box"] := fun _ _ _ _ _ _ us hl => match us, hl with | [_], _ => rfl
theorem bs_law_homes : Bnd "_law_homes" "_law_homes" s_law_homes ["_law_box", "_law_names", "_law_frame_here"] := fun _ _ _ _ _ _ us hl => match us, hl with | [_, _, _], _ => rfl
theorem bs_law_group : Bnd "_law_group" "_law_group" s_law_group ["_law_box", "_law_row_here", "_law_homes_here", "_law_frame_here"] := fun _ _ _ _ _ _ us hl => match us, hl with | [_, _, _, _], _ => rfl
theorem bs_law_choice : Bnd "_law_choice" "_law_choice" s_law_choice ["_law_box", "_law_program_here", "_law_frame_here"] := fun _ _ _ _ _ _ us hl => match us, hl with | [_, _, _], _ => rfl
theorem bs_law_fits : Bnd "_law_fits" "_law_fits" s_law_fits ["_law_program_here", "_law_frame_here"] := fun _ _ _ _ _ _ us hl => match us, hl with | [_, _], _ => rfl
theorem bs_law_move : Bnd "_law_move" "_law_move" s_law_move ["_law_box", "_law_frame_here"] := fun _ _ _ _ _ _ us hl => match us, hl with | [_, _], _ => rfl
theorem bs_law_bent : Bnd "_law_bent" "_law_bent" s_law_bent ["_law_box", "_law_program_here", "_law_frame_here", "_law_choice_here"] := fun _ _ _ _ _ _ us hl => match us, hl with | [_, _, _, _], _ => rfl
theorem bs_law_case : Bnd "_law_case" "_law_case" s_law_case ["_law_box", "_law_most"] := fun _ _ _ _ _ _ us hl => match us, hl with | [_, _], _ => rfl
theorem bs_law_held : Bnd "_law_held" "_law_held" s_law_held ["_law_held_here", "_law_moves", "_law_frame_here"] := fun _ _ _ _ _ _ us hl => match us, hl with | [_, _, _], _ => rfl
theorem bs_law_makes : Bnd "_law_makes" "_law_makes" s_law_makes ["_law_row_here"] := fun _ _ _ _ _ _ us hl => match us, hl with | [_], _ => rfl
theorem bs_law_marks : Bnd "_law_marks" "_law_marks" s_law_marks ["_law_program_here", "_law_frame_here", "_law_choice_here"] := fun _ _ _ _ _ _ us hl => match us, hl with | [_, _, _], _ => rfl
theorem bs_law_new : Bnd "_law_new" "_law_new" s_law_new ["_law_m"] := fun _ _ _ _ _ _ us hl => match us, hl with | [_], _ => rfl
theorem bs_law_do : Bnd "_law_do" "_law_do" s_law_do ["_law_m", "_law_row_here", "_law_group_here", "_law_frame_here"] := fun _ _ _ _ _ _ us hl => match us, hl with | [_, _, _, _], _ => rfl
theorem bs_law_walk : Bnd "_law_walk" "_law_walk" s_law_walk ["_law_program_here", "_law_frame_here", "_law_choice_here", "_law_ways"] := fun _ _ _ _ _ _ us hl => match us, hl with | [_, _, _, _], _ => rfl
theorem bs_walk : Bnd "walk" "walk" s_walk ["program", "frame", "choice", "ways"] := fun _ _ _ _ _ _ us hl => match us, hl with | [_, _, _, _], _ => rfl
theorem bs_check_all : Bnd "check_all" "check_all" s_check_all ["program", "frame", "choice"] := fun _ _ _ _ _ _ us hl => match us, hl with | [_, _, _], _ => rfl
theorem bs_check_program : Bnd "check_program" "check_program" s_check_program ["program"] := fun _ _ _ _ _ _ us hl => match us, hl with | [_], _ => rfl
theorem bs_head_can_be : Bnd "head_can_be" "head_can_be" s_head_can_be ["program"] := fun _ _ _ _ _ _ us hl => match us, hl with | [_], _ => rfl
theorem bs_row_can_be : Bnd "row_can_be" "row_can_be" s_row_can_be ["row", "names", "many"] := fun _ _ _ _ _ _ us hl => match us, hl with | [_, _, _], _ => rfl
theorem bs_check_frame : Bnd "check_frame" "check_frame" s_check_frame ["frame"] := fun _ _ _ _ _ _ us hl => match us, hl with | [_], _ => rfl
theorem bs_frame_can_be : Bnd "frame_can_be" "frame_can_be" s_frame_can_be ["frame"] := fun _ _ _ _ _ _ us hl => match us, hl with | [_], _ => rfl
theorem bs_is_rising : Bnd "is_rising" "is_rising" s_is_rising ["value", "many"] := fun _ _ _ _ _ _ us hl => match us, hl with | [_, _], _ => rfl
theorem bs_check_choice : Bnd "check_choice" "check_choice" s_check_choice ["program", "frame", "choice"] := fun _ _ _ _ _ _ us hl => match us, hl with | [_, _, _], _ => rfl
theorem bs_places_can_be : Bnd "places_can_be" "places_can_be" s_places_can_be ["program", "frame", "places"] := fun _ _ _ _ _ _ us hl => match us, hl with | [_, _, _], _ => rfl
theorem bs_place_can_be : Bnd "place_can_be" "place_can_be" s_place_can_be ["frame", "place"] := fun _ _ _ _ _ _ us hl => match us, hl with | [_, _], _ => rfl
theorem bs_highest_of : Bnd "highest_of" "highest_of" s_highest_of ["frame", "part"] := fun _ _ _ _ _ _ us hl => match us, hl with | [_, _], _ => rfl
theorem bs_group_can_be : Bnd "group_can_be" "group_can_be" s_group_can_be ["row", "frame", "group"] := fun _ _ _ _ _ _ us hl => match us, hl with | [_, _, _], _ => rfl
theorem bs_moves_can_be : Bnd "moves_can_be" "moves_can_be" s_moves_can_be ["frame", "moves"] := fun _ _ _ _ _ _ us hl => match us, hl with | [_, _], _ => rfl
theorem bs_move_can_be : Bnd "move_can_be" "move_can_be" s_move_can_be ["frame", "move"] := fun _ _ _ _ _ _ us hl => match us, hl with | [_, _], _ => rfl
theorem bs_names_of : Bnd "names_of" "names_of" s_names_of ["row"] := fun _ _ _ _ _ _ us hl => match us, hl with | [_], _ => rfl
theorem bs_is_number : Bnd "is_number" "is_number" s_is_number ["value", "low", "high"] := fun _ _ _ _ _ _ us hl => match us, hl with | [_, _, _], _ => rfl
theorem bs_is_tuple_of : Bnd "is_tuple_of" "is_tuple_of" s_is_tuple_of ["value", "many"] := fun _ _ _ _ _ _ us hl => match us, hl with | [_, _], _ => rfl
theorem bs_cell_of : Bnd "cell_of" "cell_of" s_cell_of ["frame", "part", "number"] := fun _ _ _ _ _ _ us hl => match us, hl with | [_, _, _], _ => rfl
theorem bs_place_cells : Bnd "place_cells" "place_cells" s_place_cells ["frame", "places"] := fun _ _ _ _ _ _ us hl => match us, hl with | [_, _], _ => rfl
theorem bs_do_moves : Bnd "do_moves" "do_moves" s_do_moves ["frame", "moves", "cells"] := fun _ _ _ _ _ _ us hl => match us, hl with | [_, _, _], _ => rfl
theorem bs_at_end : Bnd "at_end" "at_end" s_at_end ["rows", "at"] := fun _ _ _ _ _ _ us hl => match us, hl with | [_, _], _ => rfl
theorem bs_next_row : Bnd "next_row" "next_row" s_next_row ["row", "at", "jumps"] := fun _ _ _ _ _ _ us hl => match us, hl with | [_, _, _], _ => rfl
theorem bs_handed : Bnd "handed" "handed" s_handed ["row", "ones"] := fun _ _ _ _ _ _ us hl => match us, hl with | [_, _], _ => rfl
theorem bs_k_init : Bnd "__init__" "Marks.__init__" s_k_init ["self", "names", "frame", "places"] := fun _ _ _ _ _ _ us hl => match us, hl with | [_, _, _, _], _ => rfl
theorem bs_k_fresh : Bnd "fresh" "Marks.fresh" s_k_fresh ["self"] := fun _ _ _ _ _ _ us hl => match us, hl with | [_], _ => rfl
theorem bs_k_do_row : Bnd "do_row" "Marks.do_row" s_k_do_row ["self", "row", "group"] := fun _ _ _ _ _ _ us hl => match us, hl with | [_, _, _], _ => rfl
theorem bs_k_agree : Bnd "agree" "Marks.agree" s_k_agree ["self", "names", "boxes"] := fun _ _ _ _ _ _ us hl => match us, hl with | [_, _, _], _ => rfl
theorem bs_k_eat : Bnd "eat" "Marks.eat" s_k_eat ["self"] := fun _ _ _ _ _ _ us hl => match us, hl with | [_], _ => rfl
theorem bs_k_make : Bnd "make" "Marks.make" s_k_make ["self", "name", "box", "same"] := fun _ _ _ _ _ _ us hl => match us, hl with | [_, _, _, _], _ => rfl
section
variable {K : PySem.W.Frag} {h : Heap} {mg : Str → Option Value} {w : World} {A : Prop}
theorem gk_mk {t1 t2 t3 : Tok} (KX : K.In h) (G : h.Ns mainGlobals mg) (a1 : PySem.W.nsIn K mainGlobals "VALUE_MOST" = some (some (.int 999 t1))) (a2 : PySem.W.nsIn K mainGlobals "NAMES_MOST" = some (some (.int 8 t2))) (a3 : PySem.W.nsIn K mainGlobals "ROWS_MOST" = some (some (.int 24 t3)))
    (next : Gk mg → A) : A :=
  next ⟨⟨_, PySem.W.mg_of KX G a1⟩, ⟨_, PySem.W.mg_of KX G a2⟩, ⟨_, PySem.W.mg_of KX G a3⟩⟩
theorem bt_mk (KX : K.In h) (G : h.Ns mainGlobals mg) (a1 : PySem.W.nsIn K mainGlobals "len" = some none) (a2 : PySem.W.nsIn K mainGlobals "list" = some none) (a3 : PySem.W.nsIn K mainGlobals "int" = some none) (a4 : PySem.W.nsIn K mainGlobals "tuple" = some none) (a5 : PySem.W.nsIn K mainGlobals "dict" = some none) (a6 : PySem.W.nsIn K mainGlobals "range" = some none) (a7 : PySem.W.nsIn K mainGlobals "min" = some none) (a8 : PySem.W.nsIn K mainGlobals "isinstance" = some none) (a9 : PySem.W.nsIn K mainGlobals "bool" = some none) (a10 : PySem.W.nsIn K mainGlobals "str" = some none) (a11 : PySem.W.nsIn K mainGlobals "all" = some none) (a12 : PySem.W.nsIn K mainGlobals "zip" = some none) (a13 : PySem.W.nsIn K mainGlobals "enumerate" = some none) (next : Bt mg → A) : A :=
  next ⟨PySem.W.mg_none_of KX G a1, PySem.W.mg_none_of KX G a2, PySem.W.mg_none_of KX G a3, PySem.W.mg_none_of KX G a4, PySem.W.mg_none_of KX G a5, PySem.W.mg_none_of KX G a6, PySem.W.mg_none_of KX G a7, PySem.W.mg_none_of KX G a8, PySem.W.mg_none_of KX G a9, PySem.W.mg_none_of KX G a10, PySem.W.mg_none_of KX G a11, PySem.W.mg_none_of KX G a12, PySem.W.mg_none_of KX G a13⟩
theorem mc_mk {C : Addr} (KX : K.In h) (G : h.Ns mainGlobals mg) (at_ : PySem.W.nsIn K mainGlobals "Marks" = some (some (.ref C))) (pg : PySem.W.plainGet K C Str.empty = true) (hd : PySem.W.hasDictIn K C = true) (po : PySem.W.plainOver K C = true) (sa : PySem.W.findIn K (.ref C) "__setattr__" = some (some (.builtin "object.__setattr__")))
    (n1 : PySem.W.findIn K (.ref C) "frame" = some none) (n2 : PySem.W.findIn K (.ref C) "named" = some none) (n3 : PySem.W.findIn K (.ref C) "cells" = some none) (n4 : PySem.W.findIn K (.ref C) "newest" = some none) (mkC : PySem.W.makesIn K C = true) (kpC : PySem.W.keepIn K (.ref C) = true)
    (next : mg "Marks" = some (.ref C) → Kcls K C → PySem.W.makesIn K C = true → PySem.W.keepIn K (.ref C) = true → A) : A :=
  next (PySem.W.mg_of KX G at_) ⟨⟨pg, hd, po, sa⟩, n1, n2, n3, n4⟩ mkC kpC
theorem mk_mk {m : Addr} {od : Option Addr} {its : Array Value} {n : Nat} {sl : Array (Option Value)} (KX : K.In h) (G : h.Ns mainGlobals mg) (at_ : PySem.W.nsIn K mainGlobals "MAKERS" = some (some (.ref m))) (lk : K.lookup m = some ⟨.type "tuple", od, .seq its n, sl⟩) (few : its.size ≤ 10) (v : Vals makersV its.toList) (next : ∀ m, Makers K mg m → A) : A :=
  next m ⟨PySem.W.mg_of KX G at_, fun H => .inr ⟨_, its, n, lk, rfl, rfl, Nat.le_trans few (by decide), v⟩⟩
theorem pt_mk {d : Addr} {es : Array DictEntry} {n : Nat} (KX : K.In h) (G : h.Ns mainGlobals mg) (at_ : PySem.W.nsIn K mainGlobals "PARTS" = some (some (.ref d))) (lk : K.lookup d = some ⟨.type "dict", none, .dict es n, #[]⟩) (lit : PySem.W.KeysLit w.params es.toList) (low : (d == sysModules) = false)
    (p1 : PartAt K d "put" [.str "name", .str "number"]) (p2 : PartAt K d "copy" [.str "name", .str "name"]) (p3 : PartAt K d "add" [.str "name", .str "name", .str "name"]) (p4 : PartAt K d "take" [.str "name", .str "name", .str "name"]) (p5 : PartAt K d "less" [.str "name", .str "name", .str "name"])
    (p6 : PartAt K d "call" [.str "name", .str "name"]) (p7 : PartAt K d "say" [.str "name"]) (p8 : PartAt K d "if" [.str "name", .str "row"]) (p9 : PartAt K d "go" [.str "row"]) (p10 : PartAt K d "end" []) (next : ∀ d es n, Parts K w mg d es n → A) : A :=
  next d es n ⟨PySem.W.mg_of KX G at_, ⟨lk, lit, low⟩, fun row => match row with
    | .put .. => p1.ex | .copy .. => p2.ex | .add .. => p3.ex | .take .. => p4.ex | .less .. => p5.ex | .call .. => p6.ex | .say .. => p7.ex | .iff .. => p8.ex | .go .. => p9.ex | .fin => p10.ex⟩
theorem gc_mk {t1 t2 t3 : Tok} (KX : K.In h) (G : h.Ns mainGlobals mg) (a1 : PySem.W.nsIn K mainGlobals "BOXES_MOST" = some (some (.int 6 t1))) (a2 : PySem.W.nsIn K mainGlobals "SLOTS_MOST" = some (some (.int 8 t2))) (a3 : PySem.W.nsIn K mainGlobals "MOVES_MOST" = some (some (.int 6 t3))) (next : Gc mg → A) : A :=
  next ⟨⟨_, PySem.W.mg_of KX G a1⟩, ⟨_, PySem.W.mg_of KX G a2⟩, ⟨_, PySem.W.mg_of KX G a3⟩⟩
theorem no_mk (KX : K.In h) (G : h.Ns mainGlobals mg) (a1 : PySem.W.nsIn K mainGlobals "set" = some none) (next : mg "set" = none → A) : A := next (PySem.W.mg_none_of KX G a1)
theorem wb_mk {m : Addr} {od : Option Addr} {its : Array Value} {n : Nat} {sl : Array (Option Value)} (KX : K.In h) (G : h.Ns mainGlobals mg) (at_ : PySem.W.nsIn K mainGlobals "WITHOUT_BEHIND" = some (some (.ref m))) (lk : K.lookup m = some ⟨.type "tuple", od, .seq its n, sl⟩) (few : its.size ≤ 10) (v : Vals withoutV its.toList) (next : ∀ m, Without K mg m → A) : A :=
  next m ⟨PySem.W.mg_of KX G at_, fun H => .inr ⟨_, its, n, lk, rfl, rfl, Nat.le_trans few (by decide), v⟩⟩
theorem mv_mk {d : Addr} {es : Array DictEntry} {n : Nat} (KX : K.In h) (G : h.Ns mainGlobals mg) (at_ : PySem.W.nsIn K mainGlobals "MOVES" = some (some (.ref d))) (lk : K.lookup d = some ⟨.type "dict", none, .dict es n, #[]⟩) (lit : PySem.W.KeysLit w.params es.toList) (low : (d == sysModules) = false)
    (p1 : PartAt K d "copy" [.str "box", .str "box"]) (p2 : PartAt K d "swap" [.str "box", .str "box"]) (p3 : PartAt K d "store" [.str "slot", .str "box"]) (p4 : PartAt K d "load" [.str "box", .str "slot"]) (next : ∀ d es n, Moves K w mg d es n → A) : A :=
  next d es n ⟨PySem.W.mg_of KX G at_, ⟨lk, lit, low⟩, fun m => match m with
    | .copy .. => p1.ex | .swap .. => p2.ex | .store .. => p3.ex | .load .. => p4.ex⟩
theorem gw_mk {t1 : Tok} (KX : K.In h) (G : h.Ns mainGlobals mg) (a1 : PySem.W.nsIn K mainGlobals "WALK_MOST" = some (some (.int 300 t1))) (next : (∃ t, mg "WALK_MOST" = some (.int 300 t)) → A) : A := next ⟨_, PySem.W.mg_of KX G a1⟩
end
end Bw
open PySem PySem.W
open PyProof.Rows
local macro_rules | `(tactic| o_head ($f $a $b $c)) => `(tactic| o_head (PySem.W.kmHook $a $b $c [284]))
set_option maxHeartbeats 0 in
theorem PySem.Challenge.cw_boxwitness_k06_walks_by_marks_holds : PySem.Challenge.rw_boxwitness_k06_walks_by_marks.Holds := by
  w_on
  o_law
  k_head
  case hw => w_witness2
  k_fill
  refine Bw.walk_tabs (l := PySem.Challenge.rw_boxwitness_k06_walks_by_marks) (n := 63) (k := 12) (x := "_law_script") ["row_can_be", "places_can_be", "group_can_be", "moves_can_be", "move_can_be", "names_of"] rfl (by decide) rfl ⟨rfl, by decide, by decide⟩ ?recs (fun w h Y => PySem.W.km_in_of Y) ?F
  case recs => decide +kernel
  case F =>
    intro w mg fa h YY KX G hmg tabs
    have mtab := PySem.W.km_tabs_of YY
    refine' Bw.df_mk "law" Bw.s_law ["_law_script"] KX G Bw.bs_law ?az1 ?lz1 ?cz1 ?kz1 ?nz1
    (case az1 => k_is); (case lz1 => k_is); (case cz1 => k_is); (case kz1 => k_is)
    intro f fd DL
    refine' Bw.df_mk "_law_begun" Bw.s_begun ["_law_script"] KX G Bw.bs_begun ?az2 ?lz2 ?cz2 ?kz2 ?nz2
    (case az2 => k_is); (case lz2 => k_is); (case cz2 => k_is); (case kz2 => k_is)
    intro f fd DB
    refine' Bw.df_mk "_law_take" Bw.s_take ["_law_box", "_law_many"] KX G Bw.bs_take ?az3 ?lz3 ?cz3 ?kz3 ?nz3
    (case az3 => k_is); (case lz3 => k_is); (case cz3 => k_is); (case kz3 => k_is)
    intro f fd DT
    refine' Bw.df_mk "_law_alike" Bw.s_alike ["_law_found", "_law_due"] KX G Bw.bs_alike ?az4 ?lz4 ?cz4 ?kz4 ?nz4
    (case az4 => k_is); (case lz4 => k_is); (case cz4 => k_is); (case kz4 => k_is)
    intro f fd DA
    refine' Bw.df_mk "_law_row" Bw.s_row ["_law_box", "_law_names", "_law_many", "_law_at"] KX G Bw.bs_row ?az5 ?lz5 ?cz5 ?kz5 ?nz5
    (case az5 => k_is); (case lz5 => k_is); (case cz5 => k_is); (case kz5 => k_is)
    intro f fd DR
    refine' Bw.df_mk "_law_program" Bw.s_program ["_law_box", "_law_most"] KX G Bw.bs_program ?az6 ?lz6 ?cz6 ?kz6 ?nz6
    (case az6 => k_is); (case lz6 => k_is); (case cz6 => k_is); (case kz6 => k_is)
    intro f fd DP
    refine' Bw.df_mk "_law_frame" Bw.s_law_frame ["_law_box"] KX G Bw.bs_law_frame ?az7 ?lz7 ?cz7 ?kz7 ?nz7
    (case az7 => k_is); (case lz7 => k_is); (case cz7 => k_is); (case kz7 => k_is)
    intro f fd DF
    refine' Bw.df_mk "_law_homes" Bw.s_law_homes ["_law_box", "_law_names", "_law_frame_here"] KX G Bw.bs_law_homes ?az8 ?lz8 ?cz8 ?kz8 ?nz8
    (case az8 => k_is); (case lz8 => k_is); (case cz8 => k_is); (case kz8 => k_is)
    intro f fd DHo
    refine' Bw.df_mk "_law_group" Bw.s_law_group ["_law_box", "_law_row_here", "_law_homes_here", "_law_frame_here"] KX G Bw.bs_law_group ?az9 ?lz9 ?cz9 ?kz9 ?nz9
    (case az9 => k_is); (case lz9 => k_is); (case cz9 => k_is); (case kz9 => k_is)
    intro f fd DGr
    refine' Bw.df_mk "_law_choice" Bw.s_law_choice ["_law_box", "_law_program_here", "_law_frame_here"] KX G Bw.bs_law_choice ?az10 ?lz10 ?cz10 ?kz10 ?nz10
    (case az10 => k_is); (case lz10 => k_is); (case cz10 => k_is); (case kz10 => k_is)
    intro f fd DCh
    refine' Bw.df_mk "_law_fits" Bw.s_law_fits ["_law_program_here", "_law_frame_here"] KX G Bw.bs_law_fits ?az11 ?lz11 ?cz11 ?kz11 ?nz11
    (case az11 => k_is); (case lz11 => k_is); (case cz11 => k_is); (case kz11 => k_is)
    intro f fd DFi
    refine' Bw.df_mk "_law_move" Bw.s_law_move ["_law_box", "_law_frame_here"] KX G Bw.bs_law_move ?az12 ?lz12 ?cz12 ?kz12 ?nz12
    (case az12 => k_is); (case lz12 => k_is); (case cz12 => k_is); (case kz12 => k_is)
    intro f fd DM
    refine' Bw.df_mk "_law_bent" Bw.s_law_bent ["_law_box", "_law_program_here", "_law_frame_here", "_law_choice_here"] KX G Bw.bs_law_bent ?az13 ?lz13 ?cz13 ?kz13 ?nz13
    (case az13 => k_is); (case lz13 => k_is); (case cz13 => k_is); (case kz13 => k_is)
    intro f fd DBe
    refine' Bw.df_mk "_law_case" Bw.s_law_case ["_law_box", "_law_most"] KX G Bw.bs_law_case ?az14 ?lz14 ?cz14 ?kz14 ?nz14
    (case az14 => k_is); (case lz14 => k_is); (case cz14 => k_is); (case kz14 => k_is)
    intro f fd DCa
    refine' Bw.df_mk "_law_held" Bw.s_law_held ["_law_held_here", "_law_moves", "_law_frame_here"] KX G Bw.bs_law_held ?az15 ?lz15 ?cz15 ?kz15 ?nz15
    (case az15 => k_is); (case lz15 => k_is); (case cz15 => k_is); (case kz15 => k_is)
    intro f fd DHe
    refine' Bw.df_mk "_law_makes" Bw.s_law_makes ["_law_row_here"] KX G Bw.bs_law_makes ?az16 ?lz16 ?cz16 ?kz16 ?nz16
    (case az16 => k_is); (case lz16 => k_is); (case cz16 => k_is); (case kz16 => k_is)
    intro f fd DMa
    refine' Bw.df_mk "_law_marks" Bw.s_law_marks ["_law_program_here", "_law_frame_here", "_law_choice_here"] KX G Bw.bs_law_marks ?az17 ?lz17 ?cz17 ?kz17 ?nz17
    (case az17 => k_is); (case lz17 => k_is); (case cz17 => k_is); (case kz17 => k_is)
    intro f fd DMr
    refine' Bw.df_mk "_law_new" Bw.s_law_new ["_law_m"] KX G Bw.bs_law_new ?az18 ?lz18 ?cz18 ?kz18 ?nz18
    (case az18 => k_is); (case lz18 => k_is); (case cz18 => k_is); (case kz18 => k_is)
    intro f fd DNw
    refine' Bw.df_mk "_law_do" Bw.s_law_do ["_law_m", "_law_row_here", "_law_group_here", "_law_frame_here"] KX G Bw.bs_law_do ?az19 ?lz19 ?cz19 ?kz19 ?nz19
    (case az19 => k_is); (case lz19 => k_is); (case cz19 => k_is); (case kz19 => k_is)
    intro f fd DDo
    refine' Bw.df_mk "_law_walk" Bw.s_law_walk ["_law_program_here", "_law_frame_here", "_law_choice_here", "_law_ways"] KX G Bw.bs_law_walk ?az20 ?lz20 ?cz20 ?kz20 ?nz20
    (case az20 => k_is); (case lz20 => k_is); (case cz20 => k_is); (case kz20 => k_is)
    intro f fd DLr
    refine' Bw.df_mk "walk" Bw.s_walk ["program", "frame", "choice", "ways"] KX G Bw.bs_walk ?az21 ?lz21 ?cz21 ?kz21 ?nz21
    (case az21 => k_is); (case lz21 => k_is); (case cz21 => k_is); (case kz21 => k_is)
    intro f fd DU
    refine' Bw.df_mk "check_all" Bw.s_check_all ["program", "frame", "choice"] KX G Bw.bs_check_all ?az22 ?lz22 ?cz22 ?kz22 ?nz22
    (case az22 => k_is); (case lz22 => k_is); (case cz22 => k_is); (case kz22 => k_is)
    intro f fd DAl
    refine' Bw.df_mk "check_program" Bw.s_check_program ["program"] KX G Bw.bs_check_program ?az23 ?lz23 ?cz23 ?kz23 ?nz23
    (case az23 => k_is); (case lz23 => k_is); (case cz23 => k_is); (case kz23 => k_is)
    intro f fd DC
    refine' Bw.df_mk "head_can_be" Bw.s_head_can_be ["program"] KX G Bw.bs_head_can_be ?az24 ?lz24 ?cz24 ?kz24 ?nz24
    (case az24 => k_is); (case lz24 => k_is); (case cz24 => k_is); (case kz24 => k_is)
    intro f fd DH0
    refine' Bw.dc_mk "row_can_be" Bw.s_row_can_be ["row", "names", "many"] KX G (tabs "row_can_be" (by simp)) Bw.bs_row_can_be ?az25 ?lz25 ?cz25 ?kz25 ?qz25 ?ez25 ?dz25 ?zz25 ?nz25
    (case az25 => k_is); (case lz25 => k_is); (case cz25 => k_is); (case kz25 => k_is); (case qz25 => k_is); (case ez25 => rfl); (case dz25 => kernel_rfl); (case zz25 => kernel_rfl)
    intro f fd c T DRC gDRC
    refine' Bw.df_mk "check_frame" Bw.s_check_frame ["frame"] KX G Bw.bs_check_frame ?az26 ?lz26 ?cz26 ?kz26 ?nz26
    (case az26 => k_is); (case lz26 => k_is); (case cz26 => k_is); (case kz26 => k_is)
    intro f fd DCf
    refine' Bw.df_mk "frame_can_be" Bw.s_frame_can_be ["frame"] KX G Bw.bs_frame_can_be ?az27 ?lz27 ?cz27 ?kz27 ?nz27
    (case az27 => k_is); (case lz27 => k_is); (case cz27 => k_is); (case kz27 => k_is)
    intro f fd DFc
    refine' Bw.df_mk "is_rising" Bw.s_is_rising ["value", "many"] KX G Bw.bs_is_rising ?az28 ?lz28 ?cz28 ?kz28 ?nz28
    (case az28 => k_is); (case lz28 => k_is); (case cz28 => k_is); (case kz28 => k_is)
    intro f fd DRi
    refine' Bw.df_mk "check_choice" Bw.s_check_choice ["program", "frame", "choice"] KX G Bw.bs_check_choice ?az29 ?lz29 ?cz29 ?kz29 ?nz29
    (case az29 => k_is); (case lz29 => k_is); (case cz29 => k_is); (case kz29 => k_is)
    intro f fd DCc
    refine' Bw.dc_mk "places_can_be" Bw.s_places_can_be ["program", "frame", "places"] KX G (tabs "places_can_be" (by simp)) Bw.bs_places_can_be ?az30 ?lz30 ?cz30 ?kz30 ?qz30 ?ez30 ?dz30 ?zz30 ?nz30
    (case az30 => k_is); (case lz30 => k_is); (case cz30 => k_is); (case kz30 => k_is); (case qz30 => k_is); (case ez30 => rfl); (case dz30 => kernel_rfl); (case zz30 => kernel_rfl)
    intro f fd c T DPs gDPs
    refine' Bw.df_mk "place_can_be" Bw.s_place_can_be ["frame", "place"] KX G Bw.bs_place_can_be ?az31 ?lz31 ?cz31 ?kz31 ?nz31
    (case az31 => k_is); (case lz31 => k_is); (case cz31 => k_is); (case kz31 => k_is)
    intro f fd DPl
    refine' Bw.df_mk "highest_of" Bw.s_highest_of ["frame", "part"] KX G Bw.bs_highest_of ?az32 ?lz32 ?cz32 ?kz32 ?nz32
    (case az32 => k_is); (case lz32 => k_is); (case cz32 => k_is); (case kz32 => k_is)
    intro f fd DHi
    refine' Bw.dc_mk "group_can_be" Bw.s_group_can_be ["row", "frame", "group"] KX G (tabs "group_can_be" (by simp)) Bw.bs_group_can_be ?az33 ?lz33 ?cz33 ?kz33 ?qz33 ?ez33 ?dz33 ?zz33 ?nz33
    (case az33 => k_is); (case lz33 => k_is); (case cz33 => k_is); (case kz33 => k_is); (case qz33 => k_is); (case ez33 => rfl); (case dz33 => kernel_rfl); (case zz33 => kernel_rfl)
    intro f fd c T DGc gDGc
    refine' Bw.dc_mk "moves_can_be" Bw.s_moves_can_be ["frame", "moves"] KX G (tabs "moves_can_be" (by simp)) Bw.bs_moves_can_be ?az34 ?lz34 ?cz34 ?kz34 ?qz34 ?ez34 ?dz34 ?zz34 ?nz34
    (case az34 => k_is); (case lz34 => k_is); (case cz34 => k_is); (case kz34 => k_is); (case qz34 => k_is); (case ez34 => rfl); (case dz34 => kernel_rfl); (case zz34 => kernel_rfl)
    intro f fd c T DMs gDMs
    refine' Bw.dc_mk "move_can_be" Bw.s_move_can_be ["frame", "move"] KX G (tabs "move_can_be" (by simp)) Bw.bs_move_can_be ?az35 ?lz35 ?cz35 ?kz35 ?qz35 ?ez35 ?dz35 ?zz35 ?nz35
    (case az35 => k_is); (case lz35 => k_is); (case cz35 => k_is); (case kz35 => k_is); (case qz35 => k_is); (case ez35 => rfl); (case dz35 => kernel_rfl); (case zz35 => kernel_rfl)
    intro f fd c T DMc gDMc
    refine' Bw.dc_mk "names_of" Bw.s_names_of ["row"] KX G (tabs "names_of" (by simp)) Bw.bs_names_of ?az36 ?lz36 ?cz36 ?kz36 ?qz36 ?ez36 ?dz36 ?zz36 ?nz36
    (case az36 => k_is); (case lz36 => k_is); (case cz36 => k_is); (case kz36 => k_is); (case qz36 => k_is); (case ez36 => rfl); (case dz36 => kernel_rfl); (case zz36 => kernel_rfl)
    intro f fd c T DNm gDNm
    refine' Bw.df_mk "is_number" Bw.s_is_number ["value", "low", "high"] KX G Bw.bs_is_number ?az37 ?lz37 ?cz37 ?kz37 ?nz37
    (case az37 => k_is); (case lz37 => k_is); (case cz37 => k_is); (case kz37 => k_is)
    intro f fd DN
    refine' Bw.df_mk "is_tuple_of" Bw.s_is_tuple_of ["value", "many"] KX G Bw.bs_is_tuple_of ?az38 ?lz38 ?cz38 ?kz38 ?nz38
    (case az38 => k_is); (case lz38 => k_is); (case cz38 => k_is); (case kz38 => k_is)
    intro f fd DTu
    refine' Bw.df_mk "cell_of" Bw.s_cell_of ["frame", "part", "number"] KX G Bw.bs_cell_of ?az39 ?lz39 ?cz39 ?kz39 ?nz39
    (case az39 => k_is); (case lz39 => k_is); (case cz39 => k_is); (case kz39 => k_is)
    intro f fd DCe
    refine' Bw.df_mk "place_cells" Bw.s_place_cells ["frame", "places"] KX G Bw.bs_place_cells ?az40 ?lz40 ?cz40 ?kz40 ?nz40
    (case az40 => k_is); (case lz40 => k_is); (case cz40 => k_is); (case kz40 => k_is)
    intro f fd DPc
    refine' Bw.df_mk "do_moves" Bw.s_do_moves ["frame", "moves", "cells"] KX G Bw.bs_do_moves ?az41 ?lz41 ?cz41 ?kz41 ?nz41
    (case az41 => k_is); (case lz41 => k_is); (case cz41 => k_is); (case kz41 => k_is)
    intro f fd DMv
    refine' Bw.df_mk "at_end" Bw.s_at_end ["rows", "at"] KX G Bw.bs_at_end ?az42 ?lz42 ?cz42 ?kz42 ?nz42
    (case az42 => k_is); (case lz42 => k_is); (case cz42 => k_is); (case kz42 => k_is)
    intro f fd DAe
    refine' Bw.df_mk "next_row" Bw.s_next_row ["row", "at", "jumps"] KX G Bw.bs_next_row ?az43 ?lz43 ?cz43 ?kz43 ?nz43
    (case az43 => k_is); (case lz43 => k_is); (case cz43 => k_is); (case kz43 => k_is)
    intro f fd DX
    refine' Bw.df_mk "handed" Bw.s_handed ["row", "ones"] KX G Bw.bs_handed ?az44 ?lz44 ?cz44 ?kz44 ?nz44
    (case az44 => k_is); (case lz44 => k_is); (case cz44 => k_is); (case kz44 => k_is)
    intro f fd DHd
    refine' Bw.gk_mk KX G ?az45 ?bz45 ?cz45 ?nz45
    (case az45 => k_is); (case bz45 => k_is); (case cz45 => k_is)
    intro GK
    refine' Bw.gw_mk KX G ?az46 ?nz46
    (case az46 => k_is)
    intro GW
    refine' Bw.gc_mk KX G ?az47 ?bz47 ?cz47 ?nz47
    (case az47 => k_is); (case bz47 => k_is); (case cz47 => k_is)
    intro GC
    refine' Bw.no_mk KX G ?az48 ?nz48
    (case az48 => k_is)
    intro nS
    refine' Bw.bt_mk KX G ?a1z49 ?a2z49 ?a3z49 ?a4z49 ?a5z49 ?a6z49 ?a7z49 ?a8z49 ?a9z49 ?a10z49 ?a11z49 ?a12z49 ?a13z49 ?nz49
    (case a1z49 => k_is); (case a2z49 => k_is); (case a3z49 => k_is); (case a4z49 => k_is); (case a5z49 => k_is); (case a6z49 => k_is); (case a7z49 => k_is); (case a8z49 => k_is); (case a9z49 => k_is); (case a10z49 => k_is); (case a11z49 => k_is); (case a12z49 => k_is); (case a13z49 => k_is)
    intro BT
    refine' Bw.mk_mk KX G ?az50 ?lz50 ?sz50 ?vz50 ?nz50
    (case az50 => k_is); (case lz50 => k_is); (case sz50 => decide); (case vz50 => exact .cons ⟨_, rfl⟩ (.cons ⟨_, rfl⟩ (.cons ⟨_, rfl⟩ (.cons ⟨_, rfl⟩ (.cons ⟨_, rfl⟩ (.cons ⟨_, rfl⟩ (.nil)))))))
    intro m MK
    refine' Bw.wb_mk KX G ?az51 ?lz51 ?sz51 ?vz51 ?nz51
    (case az51 => k_is); (case lz51 => k_is); (case sz51 => decide); (case vz51 => exact .cons ⟨_, rfl⟩ (.cons ⟨_, rfl⟩ (.cons ⟨_, rfl⟩ (.nil))))
    intro m WB
    refine' Bw.pt_mk (w := w) KX G ?az52 ?lz52 ?litz52 ?lowz52 (Bw.part_mk ?a1z52 ?l1z52 ?s1z52 ?v1z52) (Bw.part_mk ?a2z52 ?l2z52 ?s2z52 ?v2z52) (Bw.part_mk ?a3z52 ?l3z52 ?s3z52 ?v3z52) (Bw.part_mk ?a4z52 ?l4z52 ?s4z52 ?v4z52) (Bw.part_mk ?a5z52 ?l5z52 ?s5z52 ?v5z52) (Bw.part_mk ?a6z52 ?l6z52 ?s6z52 ?v6z52) (Bw.part_mk ?a7z52 ?l7z52 ?s7z52 ?v7z52) (Bw.part_mk ?a8z52 ?l8z52 ?s8z52 ?v8z52) (Bw.part_mk ?a9z52 ?l9z52 ?s9z52 ?v9z52) (Bw.part_mk ?a10z52 ?l10z52 ?s10z52 ?v10z52) ?nz52
    (case az52 => k_is); (case lz52 => k_is); (case lowz52 => decide); (case litz52 => exact ⟨⟨_, _, rfl, rfl⟩, ⟨⟨_, _, rfl, rfl⟩, ⟨⟨_, _, rfl, rfl⟩, ⟨⟨_, _, rfl, rfl⟩, ⟨⟨_, _, rfl, rfl⟩, ⟨⟨_, _, rfl, rfl⟩, ⟨⟨_, _, rfl, rfl⟩, ⟨⟨_, _, rfl, rfl⟩, ⟨⟨_, _, rfl, rfl⟩, ⟨⟨_, _, rfl, rfl⟩, trivial⟩⟩⟩⟩⟩⟩⟩⟩⟩⟩)
    (case a1z52 => k_is); (case l1z52 => k_is); (case s1z52 => decide); (case v1z52 => exact .cons ⟨_, rfl⟩ (.cons ⟨_, rfl⟩ (.nil)))
    (case a2z52 => k_is); (case l2z52 => k_is); (case s2z52 => decide); (case v2z52 => exact .cons ⟨_, rfl⟩ (.cons ⟨_, rfl⟩ (.nil)))
    (case a3z52 => k_is); (case l3z52 => k_is); (case s3z52 => decide); (case v3z52 => exact .cons ⟨_, rfl⟩ (.cons ⟨_, rfl⟩ (.cons ⟨_, rfl⟩ (.nil))))
    (case a4z52 => k_is); (case l4z52 => k_is); (case s4z52 => decide); (case v4z52 => exact .cons ⟨_, rfl⟩ (.cons ⟨_, rfl⟩ (.cons ⟨_, rfl⟩ (.nil))))
    (case a5z52 => k_is); (case l5z52 => k_is); (case s5z52 => decide); (case v5z52 => exact .cons ⟨_, rfl⟩ (.cons ⟨_, rfl⟩ (.cons ⟨_, rfl⟩ (.nil))))
    (case a6z52 => k_is); (case l6z52 => k_is); (case s6z52 => decide); (case v6z52 => exact .cons ⟨_, rfl⟩ (.cons ⟨_, rfl⟩ (.nil)))
    (case a7z52 => k_is); (case l7z52 => k_is); (case s7z52 => decide); (case v7z52 => exact .cons ⟨_, rfl⟩ (.nil))
    (case a8z52 => k_is); (case l8z52 => k_is); (case s8z52 => decide); (case v8z52 => exact .cons ⟨_, rfl⟩ (.cons ⟨_, rfl⟩ (.nil)))
    (case a9z52 => k_is); (case l9z52 => k_is); (case s9z52 => decide); (case v9z52 => exact .cons ⟨_, rfl⟩ (.nil))
    (case a10z52 => k_is); (case l10z52 => k_is); (case s10z52 => decide); (case v10z52 => exact .nil)
    intro d es n PT0
    refine' Bw.mv_mk (w := w) KX G ?az53 ?lz53 ?litz53 ?lowz53 (Bw.part_mk ?a1z53 ?l1z53 ?s1z53 ?v1z53) (Bw.part_mk ?a2z53 ?l2z53 ?s2z53 ?v2z53) (Bw.part_mk ?a3z53 ?l3z53 ?s3z53 ?v3z53) (Bw.part_mk ?a4z53 ?l4z53 ?s4z53 ?v4z53) ?nz53
    (case az53 => k_is); (case lz53 => k_is); (case lowz53 => decide); (case litz53 => exact ⟨⟨_, _, rfl, rfl⟩, ⟨⟨_, _, rfl, rfl⟩, ⟨⟨_, _, rfl, rfl⟩, ⟨⟨_, _, rfl, rfl⟩, trivial⟩⟩⟩⟩)
    (case a1z53 => k_is); (case l1z53 => k_is); (case s1z53 => decide); (case v1z53 => exact .cons ⟨_, rfl⟩ (.cons ⟨_, rfl⟩ (.nil)))
    (case a2z53 => k_is); (case l2z53 => k_is); (case s2z53 => decide); (case v2z53 => exact .cons ⟨_, rfl⟩ (.cons ⟨_, rfl⟩ (.nil)))
    (case a3z53 => k_is); (case l3z53 => k_is); (case s3z53 => decide); (case v3z53 => exact .cons ⟨_, rfl⟩ (.cons ⟨_, rfl⟩ (.nil)))
    (case a4z53 => k_is); (case l4z53 => k_is); (case s4z53 => decide); (case v4z53 => exact .cons ⟨_, rfl⟩ (.cons ⟨_, rfl⟩ (.nil)))
    intro d es n MV
    refine' Bw.mc_mk KX G ?az54 ?bz54 ?cz54 ?dz54 ?ez54 ?fz54 ?gz54 ?hz54 ?iz54 ?jz54 ?kz54 ?nz54
    (case az54 => k_is); (case bz54 => k_is); (case cz54 => k_is); (case dz54 => k_is); (case ez54 => k_is); (case fz54 => k_is); (case gz54 => k_is); (case hz54 => k_is); (case iz54 => k_is); (case jz54 => k_is); (case kz54 => k_is)
    intro gM M mkC kpC
    refine' Bw.dm_mk M "__init__" "Marks.__init__" Bw.s_k_init ["self", "names", "frame", "places"] Bw.bs_k_init ?az55 ?fz55 ?lz55 ?cz55 ?kz55 ?nz55
    (case az55 => k_is); (case fz55 => k_is); (case lz55 => k_is); (case cz55 => k_is); (case kz55 => k_is)
    intro f fd DmI
    refine' Bw.dm_mk M "fresh" "Marks.fresh" Bw.s_k_fresh ["self"] Bw.bs_k_fresh ?az56 ?fz56 ?lz56 ?cz56 ?kz56 ?nz56
    (case az56 => k_is); (case fz56 => k_is); (case lz56 => k_is); (case cz56 => k_is); (case kz56 => k_is)
    intro f fd DmF
    refine' Bw.dm_mk M "do_row" "Marks.do_row" Bw.s_k_do_row ["self", "row", "group"] Bw.bs_k_do_row ?az57 ?fz57 ?lz57 ?cz57 ?kz57 ?nz57
    (case az57 => k_is); (case fz57 => k_is); (case lz57 => k_is); (case cz57 => k_is); (case kz57 => k_is)
    intro f fd DmD
    refine' Bw.dmc_mk M "agree" "Marks.agree" Bw.s_k_agree ["self", "names", "boxes"] KX Bw.bs_k_agree ?az58 ?fz58 ?lz58 ?cz58 ?kz58 ?qz58 ?ez58 ?dz58 ?zz58 ?tz58 ?nz58
    (case az58 => k_is); (case fz58 => k_is); (case lz58 => k_is); (case cz58 => k_is); (case kz58 => k_is); (case qz58 => k_is); (case ez58 => rfl); (case dz58 => kernel_rfl); (case zz58 => kernel_rfl); (case tz58 => exact mtab _ (List.mem_singleton.mpr rfl))
    intro f fd c T DmA gDmA
    refine' Bw.dm_mk M "eat" "Marks.eat" Bw.s_k_eat ["self"] Bw.bs_k_eat ?az59 ?fz59 ?lz59 ?cz59 ?kz59 ?nz59
    (case az59 => k_is); (case fz59 => k_is); (case lz59 => k_is); (case cz59 => k_is); (case kz59 => k_is)
    intro f fd DmE
    refine' Bw.dm_mk M "make" "Marks.make" Bw.s_k_make ["self", "name", "box", "same"] Bw.bs_k_make ?az60 ?fz60 ?lz60 ?cz60 ?kz60 ?nz60
    (case az60 => k_is); (case fz60 => k_is); (case lz60 => k_is); (case cz60 => k_is); (case kz60 => k_is)
    intro f fd DmK
    exact Bw.law_at DL DB DT DA DR DP DF DHo DGr DCh DFi DM DBe DCa DHe DMa DMr DNw DDo DLr DU DAl DC DH0 DRC gDRC DCf DFc DRi DCc DPs gDPs DPl DHi DGc gDGc DMs gDMs DMc gDMc DNm gDNm DN DTu DCe DPc DMv DAe DX DHd DmI DmF DmD DmA gDmA DmE DmK hmg mkC kpC gM M PT0 MV MK WB BT nS GK GC GW
