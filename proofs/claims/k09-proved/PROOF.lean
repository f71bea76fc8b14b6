import PyProof.Rows.All
import Wide.All
import OpenK.AllK
import Wide.FinOn
import HandS.AnyAll
import HandS.GenList
import HandS.Words
import HandS.ForMost
import HandS.IsInst
import HandS.Deep
import HandS.TupAny
import HandS.TupMul
import KE.GoesEnum
import HandS.ForExc
import HandS.Style
import HandS.SetFor
import HandS.Zip
import HandS.Conv
import HandS.List
import HandS.TupLe
import PyProof.ReprLen
import PyProof.ReprRoads
import HandS.ExcIs
import HandS.Lambda
import KE.KNestM
import HandS.HeadWalk
import PySem.Challenge.RW_allboughs_k09_whole_plays_drawn_to_rows
set_option Elab.async false
set_option linter.all false
set_option maxRecDepth 100000
set_option maxHeartbeats 1000000
/-! Gx0: the frame of a generator expression as a context of its own. -/
namespace Gx
open PySem PySem.Spec PyProof.Rows L2 GenW

/-- the code of the expression behind its start -/
abbrev loopOf (tg iter elt : Expr) (scope : Scope) (pos : Pos) (it : Addr) (env : Env) : Code :=
  .compLoop (.GeneratorExp elt [⟨tg, iter, [], 0⟩] scope pos) 0 (.ref it) .none env
abbrev beginOf (tg iter elt : Expr) (scope : Scope) (pos : Pos) (it : Addr) (env : Env) : Code :=
  .compStart (.GeneratorExp elt [⟨tg, iter, [], 0⟩] scope pos) 0 (.ref it) .none env
abbrev caught (X : Cx) (scope : Scope) : List (Str × Addr) := cloFrom X.env.cells scope.names []

def inner (X : Cx) (scope : Scope) (code : Value) (N : List Str) (A : Around) (s : Shared) (H : Hp) (ex : List Addr) : Cx where
  prog := X.prog
  w := X.w
  K := X.K
  mg := X.mg
  base := X.base
  A := A
  N := N
  s_0 := s
  H_0 := H
  env := genEnv scope (caught X scope) s.heap.objs.size code builtinsNs X.env
  outer := X.stack
  stack := genEnv scope (caught X scope) s.heap.objs.size code builtinsNs X.env :: X.stack
  ex := ex
  fn := fun _ => false
  calm := true
  pn := []
  xe := fun _ _ => False

/-- what is written of the expression's scope; js: for each of its names the place in the def's names, if it is caught there -/
structure ScopeOk (X : Cx) (scope : Scope) (N : List Str) (js : List (Option Nat)) : Prop where
  kind : scope.kind = .function
  co : scope.isCoroutine = false
  cell : ∀ y ∈ scope.names, y.2 ≠ .cell
  dot : scope.names.lookup (".0" : Str) = some NameKind.local
  free : ∀ y ∈ scope.names, y.2 = .free → ∃ c, X.env.cells.lookup y.1 = some c
  len : js.length = N.length
  cap : ∀ (i j : Nat), js[i]? = some (some j) → ∃ x, N[i]? = some x ∧ X.N[j]? = some x ∧ scope.names.lookup x = some .free ∧ (X.env.scope.names.lookup x = some .cell ∨ X.env.scope.names.lookup x = some .free)
/-- the expression's own slots at its start -/
def begun (js : List (Option Nat)) (σ : L2.St) : L2.St := js.map fun o => o.bind fun j => (σ[j]?).join

theorem caught_get {X : Cx} {scope : Scope} {x : Str} {c : Addr} (S : ∀ y ∈ scope.names, y.2 = .free → ∃ c, X.env.cells.lookup y.1 = some c) (h : (caught X scope).lookup x = some c) : X.env.cells.lookup x = some c := by
  rcases cloFrom_mem (PySem.mem_of_lookup h) with z | ⟨z, e⟩
  · cases z
  · obtain ⟨c', hc⟩ := S _ z rfl
    have hc2 : X.env.cells.lookup x = some c' := hc
    rw [e, hc2]
    rfl
theorem caught_has {X : Cx} {scope : Scope} {x : Str} (S : ∀ y ∈ scope.names, y.2 = .free → ∃ c, X.env.cells.lookup y.1 = some c) (h : scope.names.lookup x = some .free) : ∃ c, (caught X scope).lookup x = some c ∧ X.env.cells.lookup x = some c := by
  obtain ⟨c, hc⟩ := mem_lookup (cloFrom_has (cells := X.env.cells) (acc := []) (PySem.mem_of_lookup h))
  exact ⟨c, hc, caught_get S hc⟩

section
variable {X : Cx} {pins : List (Addr × Obj)} {σ : L2.St} {H : Hp} {s s5 : Shared} {scope : Scope} {N : List Str} {js : List (Option Nat)} {A : Around} {fp : List Addr} {a : Addr} {go : Obj} {code : Value}

theorem fp_apart (I : Inv X pins σ H s) (hf : ∀ b ∈ fp, FpOk X pins H b) : ∀ b ∈ fp, b ∉ frs X.stack := fun b hb hm => by
  obtain ⟨_, h2, h3, _⟩ := hf b hb
  rcases List.mem_cons.mp (I.stkSub b hm) with z | z
  · exact h2 z
  · exact h3 z

theorem start_inv (S : ScopeOk X scope N js) (I : Inv X pins σ H s) (hA : A.handled = none) (hfr : A.frames = some (genEnv scope (caught X scope) s.heap.objs.size code builtinsNs X.env :: X.stack))
    (hf : ∀ b ∈ fp, FpOk X pins H b) (hlt : ∀ b ∈ fp, b < s.heap.objs.size) (keep : ∀ b o, s.heap.get? b = some o → s5.heap.get? b = some o) (hos : s5.os = s.os) (hba : AllBare s5.gens)
    (m : Str → Option Value) (hns : s5.heap.Ns s.heap.objs.size m) (ha : s.heap.objs.size < a) (hgo : s5.heap.get? a = some go) (hgc : ∀ v, go.data ≠ .cell v) :
    Inv (inner X scope code N A s H fp) [(a, go)] (begun js σ) H s5 := by
  have cg := fun {x : Str} {c : Addr} (h : (caught X scope).lookup x = some c) => caught_get S.free h
  refine ⟨⟨I.ok.mod, S.kind, I.ok.glob, rfl, Nat.le_refl _, fun x y c h1 h2 => I.ok.inj x y c (cg h1) (cg h2), fun x hx => ?_, fun x c h _ => ?_, fun _ => hA, hfr, .inr ⟨rfl, rfl⟩, fun b hb => ⟨Nat.ne_of_lt (hlt b hb), fun x c h => (hf b hb).2.2.2.2.1 x c (cg h)⟩,
    I.bs, Nat.le_trans I.ok.bsz I.sz, fun b o e hb => ?_, fun b hb => fp_apart I hf b hb, I.stack, I.stkFree⟩,
    hos, hba, Un.kept keep, ⟨m, hns, fun i x v h1 h2 h3 => ?_⟩, fun x c h => ?_, I.hok.fresh (Nat.le_refl _), fun x c h => I.freeC x c (cg h), fun p hp => ?_, I.hok.kept keep, ?_⟩
  · have hx' : scope.names.lookup x = some .cell ∨ scope.names.lookup x = some .free := hx
    rcases hx' with z | z
    · exact absurd rfl (S.cell _ (PySem.mem_of_lookup z))
    · obtain ⟨c, hc, _⟩ := caught_has S.free z
      exact ⟨c, hc⟩
  · cases h
  · obtain ⟨_, _, _, h4, _⟩ := hf b hb
    rcases h4 with z | z
    · exact I.ok.noex b o e z
    · exact absurd (Nat.lt_of_lt_of_le (Heap.lt_size e) (Nat.le_trans I.ok.bsz z)) (Nat.lt_irrefl _)
  · have h1 : N[i]? = some x := h1
    unfold begun at h2
    rw [List.getElem?_map] at h2
    cases hj : js[i]? with
    | none => rw [hj] at h2; cases h2
    | some o =>
      cases o with
      | none => rw [hj] at h2; cases h2
      | some j =>
        rw [hj] at h2
        have h2 : (σ[j]?).join = some v := Option.some.inj h2
        obtain ⟨x', e1, e2, e3, e4⟩ := S.cap i j hj
        rw [h1] at e1
        cases e1
        have hσ : σ[j]? = some (some v) := by
          cases q : σ[j]? with
          | none => rw [q] at h2; cases h2
          | some o2 =>
            cases o2 with
            | none => rw [q] at h2; cases h2
            | some v2 => rw [q] at h2; cases h2; rfl
        obtain ⟨mo, _, look⟩ := I.loc
        obtain ⟨u, ru, lk⟩ := look j x v e2 hσ (e4.elim (fun z => .inr (.inl z)) fun z => .inr (.inr z))
        refine ⟨u, ru, .inr ⟨.inr e3, ?_⟩⟩
        rcases lk with ⟨z, _⟩ | ⟨_, c, hc, cell⟩
        · have z : X.env.scope.names.lookup x = some .local := z
          rcases e4 with w | w
          · rw [w] at z; cases z
          · rw [w] at z; cases z
        · obtain ⟨c', hc', hx'⟩ := caught_has S.free e3
          rw [hc] at hx'
          cases hx'
          obtain ⟨ob, ho, hd⟩ := cell
          exact ⟨c, hc', ob, keep _ _ ho, hd⟩
  · obtain ⟨v, ob, ho, hd⟩ := I.cell x c (cg h)
    exact ⟨v, ob, keep _ _ ho, hd⟩
  · have hp' : p ∈ ([] : List (Addr × Obj)) ++ [(a, go)] := hp
    rw [List.nil_append] at hp'
    rw [List.mem_singleton.mp hp']
    refine ⟨hgo, I.hok.fresh (Nat.le_of_lt ha), Nat.ne_of_gt ha, fun hm => ?_, hgc⟩
    have hm' : a ∈ frs X.stack := hm
    rcases List.mem_cons.mp (I.stkSub a hm') with z | z
    · exact absurd (Nat.lt_trans I.lt (by rw [← z]; exact ha)) (Nat.lt_irrefl _)
    · exact I.nofs (Nat.le_of_lt ha) z
  · show (begun js σ).length = N.length
    unfold begun
    rw [List.length_map]
    exact S.len

/-- the iterator's objects, in the expression's own frame -/
theorem start_fp (S : ScopeOk X scope N js) (I : Inv X pins σ H s) (hf : ∀ b ∈ fp, FpOk X pins H b) (hlt : ∀ b ∈ fp, b < s.heap.objs.size) (ha : s.heap.objs.size < a) {H' : Hp} (hn : ∀ b ∈ fp, H' b = none) : ∀ b ∈ fp, FpOk (inner X scope code N A s H fp) [(a, go)] H' b := fun b hb =>
  ⟨hn b hb, Nat.ne_of_lt (hlt b hb), fp_apart I hf b hb, .inl hb, fun x c h => (hf b hb).2.2.2.2.1 x c (caught_get S.free h), fun p hp => by
    have hp' : p ∈ ([] : List (Addr × Obj)) ++ [(a, go)] := hp
    rw [List.nil_append] at hp'
    rw [List.mem_singleton.mp hp']
    exact Nat.ne_of_gt (Nat.lt_trans (hlt b hb) ha)⟩

/-- back in the def -/
theorem back_inv {σ' : L2.St} {H' : Hp} {s' : Shared} {gp : List (Addr × Obj)} (I : Inv X pins σ H s) (hf : ∀ b ∈ fp, FpOk X pins H b) (J : Inv (inner X scope code N A s H fp) gp σ' H' s') : Inv X pins σ H' s' :=
  I.call' (ch := fp) J.os J.base J.hok J.bare fun b hb => let ⟨_, h2, _, h4, h5, h6⟩ := hf b hb; ⟨h4, h2, h5, h6⟩
end
end Gx


set_option Elab.async false
set_option linter.all false
set_option maxRecDepth 100000
set_option maxHeartbeats 1000000
/-! Gx1: all and any over a generator expression whose elements may call. -/
namespace Gx
open PySem PySem.Spec PyProof.Rows L2 GenW

/-- what the consumer does while the generator sleeps -/
structure Idle (s s' : Shared) : Prop where
  os : s'.os = s.os
  bare : AllBare s'.gens
  keep : ∀ b o, s.heap.get? b = some o → s'.heap.get? b = some o
theorem Idle.refl {s : Shared} (h : AllBare s.gens) : Idle s s := ⟨rfl, h, fun _ _ e => e⟩

section
variable {Y : Cx} {a : Addr} {go : Obj}
def At (Y : Cx) (a : Addr) (go : Obj) (R : Hp → Prop) (s : Shared) : Prop := ∃ σ H, Inv Y [(a, go)] σ H s ∧ R H
theorem inv_idle {pins : List (Addr × Obj)} {σ : L2.St} {H : Hp} {s s' : Shared} (I : Inv Y pins σ H s) (z : Idle s s') : Inv Y pins σ H s' :=
  I.call' (ch := []) z.os (Un.kept z.keep) (I.hok.kept z.keep) z.bare fun b hb => by simp at hb
theorem At.idle {R : Hp → Prop} {s s' : Shared} (h : At Y a go R s) (z : Idle s s') : At Y a go R s' := by
  obtain ⟨σ, H, I, q⟩ := h
  exact ⟨σ, H, inv_idle I z, q⟩
theorem pin_go {σ : L2.St} {H : Hp} {s : Shared} (I : Inv Y [(a, go)] σ H s) : s.heap.get? a = some go :=
  (I.pin (a, go) (List.mem_append_right _ (List.mem_singleton.mpr rfl))).1

/-- the protocol: truths go out; behind the one that stops nothing more is asked -/
def Says (Y : Cx) (a : Addr) (go : Obj) (z : Bool) (QZ : Hp → Prop) : Protocol := fun n s₀ v s kap =>
  ∃ b, v = .bool b ∧ (∃ σ H, Inv Y [(a, go)] σ H s ∧ (b = z → QZ H)) ∧ (b ≠ z → ∀ s', Idle s s' → kap (.send .none) s')
def Ends (Y : Cx) (a : Addr) (go : Obj) (QT : Hp → Prop) : GenEnd := fun n s₀ r s₁ =>
  ((r = .ok (.ret .none) ∨ r = .ok .next) ∧ At Y a go QT s₁) ∨ ∃ e, r = .error e ∧ False
end

section
variable {Y : Cx} {tg iter elt : Expr} {scope : Scope} {pos : Pos} {it a : Addr} {go : Obj} {B : Around} {g : TG} {te : TE} {J : It} {fp : List Addr} {tn : Nat → Heap → Prop} {z : Bool} {QZ QT : Hp → Prop} {W : Nat → Nat → L2.St → Hp → Prop}

theorem seg_loop (hA : Y.A = B.over (loopOf tg iter elt scope pos it Y.env) []) (hco : Y.env.scope.isCoroutine = false) (hcalm : Y.calm = true) (hxe : Y.xe = fun _ _ => False)
    (hg : PG Y tg g) (he : PE Y elt te) (T : Turn Y.prog Y.w Y.K tg J fp it tn) (hf : ∀ {H' : Hp}, (∀ b ∈ fp, H' b = none) → ∀ b ∈ fp, FpOk Y [(a, go)] H' b)
    (turn : ∀ i m σ H, W i m σ H → (J.stop i H ∧ QT H) ∨ (J.go i H ∧ ∀ x H', J.yld i H x H' → g x σ H' fun σ2 H2 => te σ2 H2 fun v H3 => ∃ b, v = .bl b ∧ (b = z → QZ H3) ∧ (b ≠ z → ∃ m', m' < m ∧ W (i + 1) m' σ2 H3))) :
    ∀ (m i n : Nat) (s₀ s : Shared) (σ : L2.St) (H : Hp), m < n → Inv Y [(a, go)] σ H s → tn i s.heap → (∀ b ∈ fp, H b = none) → W i m σ H →
      Seg (model Y.prog Y.w) B (Ends Y a go QT) (Says Y a go z QZ) n s₀ (loopOf tg iter elt scope pos it Y.env) ((model Y.prog Y.w).den (loopOf tg iter elt scope pos it Y.env)) [] s := by
  have no : ∀ {e : Value} {s : Shared}, Y.xe e s → False := fun {e s} h => by rw [hxe] at h; exact h
  intro m
  induction m using Nat.strongRecOn with
  | ind m ih =>
    intro i n s₀ s σ H hn I st hfn w
    obtain ⟨n, rfl⟩ : ∃ k, n = k + 1 := ⟨n - 1, by omega⟩
    show Seg _ B _ _ _ s₀ _ ((compTurn (.GeneratorExp elt [⟨tg, iter, [], 0⟩] scope pos) 0 (.ref it) .none Y.env).onRaise (leaving Y.env)) [] s
    rw [compTurn_gen, Sem.onRaise_eq_wrap]
    refine seg_bind_wrap (wpAny_standAt ?_)
    rcases turn i m σ H w with ⟨stop, qt⟩ | ⟨goes, step⟩
    · refine seg_bind_wrap ?_
      rw [← hA]
      refine wpAny_mono (T.done Y rfl rfl rfl hcalm i _ s σ H (fun _ _ => False) I (hf hfn) st stop) (fun r s1 ⟨hr, I1⟩ => ?_) fun _ _ q => q.elim
      subst hr
      exact seg_end (.ok .next) (.inl ⟨.inr rfl, σ, H, I1, qt⟩)
    · refine seg_bind_wrap ?_
      rw [← hA]
      refine wpAny_mono (T.item Y rfl rfl rfl hcalm i _ s σ H (fun _ _ => False) I (hf hfn) st goes) (fun r s1 ⟨u, hr, h1⟩ => ?_) fun _ _ q => q.elim
      subst hr
      refine seg_bind_wrap ?_
      rw [← hA]
      refine wpAny_mono h1 (fun _ s2 ⟨x, H2, I2, rx, yx, st2, fn2⟩ => ?_) fun _ _ q => q.elim
      have I2' := I2.pinned (hf fn2) (T.obj _ _ st2)
      refine seg_bind_wrap ?_
      rw [← hA]
      refine wpAny_mono (hg.run _ s2 σ H2 x u _ I2' rx (step x H2 yx)) (fun _ s3 ⟨σ3, H3, I3, q3⟩ => ?_) fun _ _ q => (no q).elim
      refine seg_bind_wrap ?_
      simp only [List.forIn_nil]
      refine wpAny_pure ?_
      simp only [if_true]
      have hy : ∀ v, yieldOut Y.env v = yieldValue v := fun v => by simp only [yieldOut, hco, Bool.false_eq_true, if_false]
      simp only [hy]
      rw [Sem.bind_eq_wrap', Sem.bind_eq_wrap', Sem.wrap_wrap, Sem.wrap_wrap]
      refine seg_wrap ?_
      rw [← hA]
      refine wpAny_mono (he.run _ s3 σ3 H3 _ I3 q3) (fun y s4 ⟨v, H4, I4, rv, b, ev, qz, qn⟩ => ?_) fun _ _ q => (no q).elim
      subst ev
      have ey : y = Value.bool b := rv
      subst ey
      have tn4 : ∀ {s' : Shared}, (∀ b o, s4.heap.get? b = some o → s'.heap.get? b = some o) → tn (i + 1) s'.heap := fun {s'} k => T.keep _ _ _ st2 fun b hb o e =>
        k b o (I4.pin (b, o) (List.mem_append_right _ (List.mem_append_right _ (mem_pinsAt hb e)))).1
      have fn4 : ∀ b ∈ fp, H4 b = none := fun b hb => by
        obtain ⟨o, e, d⟩ := T.obj _ _ st2 b hb
        exact (I4.pin (b, o) (List.mem_append_right _ (List.mem_append_right _ (mem_pinsAt hb e)))).2.1
      refine seg_at (seg_yield rfl rfl rfl ⟨b, rfl, ⟨σ3, H4, I4.unpinned, qz⟩, fun hb s' zz => ?_⟩)
      obtain ⟨m', hm, w'⟩ := qn hb
      exact seg_again rfl (ih m' hm (i + 1) n s' s' σ3 H4 (by omega) (inv_idle I4.unpinned zz) (tn4 zz.keep) fn4 w')

theorem seg_begin {n : Nat} {s₀ s : Shared} (htn : tn 0 s.heap) (T : Turn Y.prog Y.w Y.K tg J fp it tn)
    (loop : Seg (model Y.prog Y.w) B (Ends Y a go QT) (Says Y a go z QZ) n s₀ (loopOf tg iter elt scope pos it Y.env) ((model Y.prog Y.w).den (loopOf tg iter elt scope pos it Y.env)) [] s) :
    Seg (model Y.prog Y.w) B (Ends Y a go QT) (Says Y a go z QZ) n s₀ (beginOf tg iter elt scope pos it Y.env) ((model Y.prog Y.w).den (beginOf tg iter elt scope pos it Y.env)) [] s := by
  show Seg _ B _ _ _ s₀ _ ((compStart (.GeneratorExp elt [⟨tg, iter, [], 0⟩] scope pos) 0 (.ref it) .none Y.env).onRaise (leaving Y.env)) [] s
  unfold compStart
  rw [Sem.onRaise_eq_wrap]
  show Seg _ B _ _ _ s₀ _ ((ask >>= _).wrap _ _ _ _) [] s
  refine seg_bind_wrap (wpAny_askSetting ?_)
  split
  · exact seg_again rfl loop
  · first
      | exact seg_bind_wrap (wpAny_rule (seg_bind_wrap (wpAny_standAt (seg_bind_wrap (T.self _ 0 s _ _ htn (seg_again rfl loop))))))
      | (refine seg_bind_wrap (wpAny_rule ?_); show Seg _ B _ _ _ s₀ _ ((standAt iter.pos >>= _).wrap _ _ _ _) [] s; exact seg_bind_wrap (wpAny_standAt (seg_bind_wrap (T.self _ 0 s _ _ htn (seg_again rfl loop)))))

/-- all's loop over it -/
theorem drain_all {A : Around} {R : Result → Shared → Prop} {gi : Nat} (hh : A.handled = none) (hd : A.depth < recursionLimit) (hgo : ∀ h : Heap, h.get? a = some go → h.IsGen a gi)
    (hend : ∀ s s', At Y a go QT s → Idle s s' → R (.ok (.ret (.bool true))) s') (hstop : ∀ s s', At Y a go QZ s → Idle s s' → R (.ok (.ret (.bool false))) s') :
    ∀ (n : Nat) (s : Shared), s.heap.IsGen a gi → s.heap.NoLimit → AllBare s.gens → (∃ gs, s.gens[gi]? = some gs ∧ gs.Goes (model Y.prog Y.w) A.in1.in1 (Ends Y a go QT) (Says Y a go false QZ) n (.send .none) (s.setGen gi .running)) →
      codeAny (model Y.prog Y.w) A (.builtin "all.loop" ⟨[.ref a], []⟩) R s := by
  intro n
  induction n with
  | zero =>
    intro s hg hl hb ⟨gs, hgs, hgoes⟩
    refine codeAny_builtin F.entry_all_loop ?_
    rw [Around.under_plainId F.plain_all_loop _]
    show wpAny _ A.in1 (pyNext (.ref a) >>= _) _ _ s
    refine wpAny_bind (next_genG (A := A.in1) (F := fun _ _ s₁ => At Y a go QT s₁) (Er := fun _ _ => False) hh hl hd hg hgs hgoes (fun v s₁ gs' hbare hv => ?_) (fun s₁ hp h' hk => ?_) fun e s₁ he => he.elim)
    · obtain ⟨b, rfl, ⟨σ, H, I, qz⟩, hk⟩ := hv
      cases b with
      | true => exact (hk (by decide) s₁ (Idle.refl I.bare)).elim
      | false =>
        refine wpAny_bind (wpAny_holding (wpAny_truthy_bool ?_))
        refine wpAny_bind (wpAny_letGo ?_)
        simp only [Bool.false_eq_true, if_false]
        refine wpAny_bind (wpAny_rule (wpAny_pure ?_))
        exact hstop s₁ _ ⟨σ, H, I, qz rfl⟩ ⟨rfl, allBare_setGen I.bare hbare, fun _ _ e => e⟩
    · have hb1 : AllBare s₁.gens := let ⟨_, _, I, _⟩ := hp; I.bare
      refine wpAny_bind (wpAny_rule (wpAny_pure ?_))
      exact hend s₁ _ hp ⟨rfl, allBare_setGen hb1 rfl, hk⟩
  | succ n ih =>
    intro s hg hl hb ⟨gs, hgs, hgoes⟩
    have hgl : gi < s.gens.size := (Array.getElem?_eq_some_iff.mp hgs).1
    refine codeAny_builtin F.entry_all_loop ?_
    rw [Around.under_plainId F.plain_all_loop _]
    show wpAny _ A.in1 (pyNext (.ref a) >>= _) _ _ s
    refine wpAny_bind (wpAny_gsz (n := gi + 1) hgl (next_genG (A := A.in1) (F := fun _ _ s₁ => At Y a go QT s₁) (Er := fun _ _ => False) hh hl hd hg hgs hgoes (fun v s₁ gs' hbare hv => ?_) (fun s₁ hp h' hk => ?_) fun e s₁ he => he.elim))
    · intro hsz
      obtain ⟨b, rfl, ⟨σ, H, I, qz⟩, hk⟩ := hv
      refine wpAny_bind (wpAny_holding (wpAny_truthy_bool ?_))
      refine wpAny_bind (wpAny_letGo ?_)
      have hsz1 : gi < s₁.gens.size := by
        have q : (s₁.setGen gi gs').gens.size = s₁.gens.size := setGen_size _ _ _
        have hsz' : gi + 1 ≤ (s₁.setGen gi gs').gens.size := hsz
        omega
      cases b with
      | true =>
        simp only [if_true]
        refine wpAny_pure ⟨plainId_quiet F.plain_all_loop _, ih (s₁.setGen gi gs') (hgo s₁.heap (pin_go I)) I.nolimit (allBare_setGen I.bare hbare) ⟨gs', setGen_at hsz1, ?_⟩⟩
        exact hk (by decide) _ ⟨rfl, allBare_setGen (s := s₁.setGen gi gs') (allBare_setGen I.bare hbare) rfl, fun _ _ e => e⟩
      | false =>
        simp only [Bool.false_eq_true, if_false]
        refine wpAny_bind (wpAny_rule (wpAny_pure ?_))
        exact hstop s₁ _ ⟨σ, H, I, qz rfl⟩ ⟨rfl, allBare_setGen I.bare hbare, fun _ _ e => e⟩
    · intro hsz
      have hb1 : AllBare s₁.gens := let ⟨_, _, I, _⟩ := hp; I.bare
      refine wpAny_bind (wpAny_rule (wpAny_pure ?_))
      exact hend s₁ _ hp ⟨rfl, allBare_setGen hb1 rfl, hk⟩

/-- any's loop over it -/
theorem drain_any {A : Around} {R : Result → Shared → Prop} {gi : Nat} (hh : A.handled = none) (hd : A.depth < recursionLimit) (hgo : ∀ h : Heap, h.get? a = some go → h.IsGen a gi)
    (hend : ∀ s s', At Y a go QT s → Idle s s' → R (.ok (.ret (.bool false))) s') (hstop : ∀ s s', At Y a go QZ s → Idle s s' → R (.ok (.ret (.bool true))) s') :
    ∀ (n : Nat) (s : Shared), s.heap.IsGen a gi → s.heap.NoLimit → AllBare s.gens → (∃ gs, s.gens[gi]? = some gs ∧ gs.Goes (model Y.prog Y.w) A.in1.in1 (Ends Y a go QT) (Says Y a go true QZ) n (.send .none) (s.setGen gi .running)) →
      codeAny (model Y.prog Y.w) A (.builtin "any.loop" ⟨[.ref a], []⟩) R s := by
  intro n
  induction n with
  | zero =>
    intro s hg hl hb ⟨gs, hgs, hgoes⟩
    refine codeAny_builtin F.entry_any_loop ?_
    rw [Around.under_plainId F.plain_any_loop _]
    show wpAny _ A.in1 (pyNext (.ref a) >>= _) _ _ s
    refine wpAny_bind (next_genG (A := A.in1) (F := fun _ _ s₁ => At Y a go QT s₁) (Er := fun _ _ => False) hh hl hd hg hgs hgoes (fun v s₁ gs' hbare hv => ?_) (fun s₁ hp h' hk => ?_) fun e s₁ he => he.elim)
    · obtain ⟨b, rfl, ⟨σ, H, I, qz⟩, hk⟩ := hv
      cases b with
      | false => exact (hk (by decide) s₁ (Idle.refl I.bare)).elim
      | true =>
        refine wpAny_bind (wpAny_holding (wpAny_truthy_bool ?_))
        refine wpAny_bind (wpAny_letGo ?_)
        simp only [if_true]
        refine wpAny_bind (wpAny_rule (wpAny_pure ?_))
        exact hstop s₁ _ ⟨σ, H, I, qz rfl⟩ ⟨rfl, allBare_setGen I.bare hbare, fun _ _ e => e⟩
    · have hb1 : AllBare s₁.gens := let ⟨_, _, I, _⟩ := hp; I.bare
      refine wpAny_bind (wpAny_rule (wpAny_pure ?_))
      exact hend s₁ _ hp ⟨rfl, allBare_setGen hb1 rfl, hk⟩
  | succ n ih =>
    intro s hg hl hb ⟨gs, hgs, hgoes⟩
    have hgl : gi < s.gens.size := (Array.getElem?_eq_some_iff.mp hgs).1
    refine codeAny_builtin F.entry_any_loop ?_
    rw [Around.under_plainId F.plain_any_loop _]
    show wpAny _ A.in1 (pyNext (.ref a) >>= _) _ _ s
    refine wpAny_bind (wpAny_gsz (n := gi + 1) hgl (next_genG (A := A.in1) (F := fun _ _ s₁ => At Y a go QT s₁) (Er := fun _ _ => False) hh hl hd hg hgs hgoes (fun v s₁ gs' hbare hv => ?_) (fun s₁ hp h' hk => ?_) fun e s₁ he => he.elim))
    · intro hsz
      obtain ⟨b, rfl, ⟨σ, H, I, qz⟩, hk⟩ := hv
      refine wpAny_bind (wpAny_holding (wpAny_truthy_bool ?_))
      refine wpAny_bind (wpAny_letGo ?_)
      have hsz1 : gi < s₁.gens.size := by
        have q : (s₁.setGen gi gs').gens.size = s₁.gens.size := setGen_size _ _ _
        have hsz' : gi + 1 ≤ (s₁.setGen gi gs').gens.size := hsz
        omega
      cases b with
      | false =>
        simp only [Bool.false_eq_true, if_false]
        refine wpAny_pure ⟨plainId_quiet F.plain_any_loop _, ih (s₁.setGen gi gs') (hgo s₁.heap (pin_go I)) I.nolimit (allBare_setGen I.bare hbare) ⟨gs', setGen_at hsz1, ?_⟩⟩
        exact hk (by decide) _ ⟨rfl, allBare_setGen (s := s₁.setGen gi gs') (allBare_setGen I.bare hbare) rfl, fun _ _ e => e⟩
      | true =>
        simp only [if_true]
        refine wpAny_bind (wpAny_rule (wpAny_pure ?_))
        exact hstop s₁ _ ⟨σ, H, I, qz rfl⟩ ⟨rfl, allBare_setGen I.bare hbare, fun _ _ e => e⟩
    · intro hsz
      have hb1 : AllBare s₁.gens := let ⟨_, _, I, _⟩ := hp; I.bare
      refine wpAny_bind (wpAny_rule (wpAny_pure ?_))
      exact hend s₁ _ hp ⟨rfl, allBare_setGen hb1 rfl, hk⟩
end
end Gx


set_option Elab.async false
set_option linter.all false
set_option maxRecDepth 100000
set_option maxHeartbeats 1000000
/-! Gx2: the rules pe_allG, pe_anyG. -/
namespace Gx
open PySem PySem.Spec PyProof.Rows L2 GenW GxR

/-- what all (z = false) and any (z = true) of a generator expression ask -/
def tQuant (z : Bool) (P : Addr) (js : List (Option Nat)) (wi : TI) (g : TG) (te : TE) : TE := fun σ H Q => wi σ H fun J H1 => TabG H1 P ∧ ∀ H2, Tabbed P H1 H2 →
  ∃ W : Nat → Nat → L2.St → Hp → Prop, (∃ m, W 0 m (begun js σ) H2) ∧ ∀ i m σ' H', W i m σ' H' → (J.stop i H' ∧ Q (.bl (!z)) H') ∨
    (J.go i H' ∧ ∀ x H3, J.yld i H' x H3 → g x σ' H3 fun σ2 H4 => te σ2 H4 fun v H5 => ∃ b, v = .bl b ∧ (b = z → Q (.bl z) H5) ∧ (b ≠ z → ∃ m', m' < m ∧ W (i + 1) m' σ2 H5))

section
variable {X : Cx} {pins : List (Addr × Obj)} {σ : L2.St} {H : Hp} {s : Shared} {scope : Scope} {N : List Str} {js : List (Option Nat)} {tg iter elt : Expr} {gpos : Pos} {wi : TI} {g : TG} {te : TE} {k : Nat} {c P : Addr}

theorem room_in {A : Around} {k : Nat} {cd : Code} (r : Room (k + 1) A) (h1 : cd.weight ≤ 1) (h2 : cd.cUnits ≤ 3) : Room k (A.in1.in1.over cd []) :=
  ⟨r.hd, by
    have := r.dp
    show A.depth + 0 + cd.weight + 3 * k + 5 < recursionLimit
    omega, by
    have := r.un
    show A.units + 1 + 1 + 0 + cd.cUnits + 16 * k + 200 < cLine
    omega⟩

/-- the generator stands, ready to be drained -/
theorem made_all {z : Bool} {Q : VK} {Q' : Value → Shared → Prop}
    (hr : Room (k + 1) X.A) (TB : TabB X.base X.mg c P) (hcode : X.env.code = .ref c) (S : ScopeOk X scope N js) (hi : PI X tg iter wi)
    (hb : ∀ (code : Value) (A : Around) (s : Shared) (H : Hp) (ex : List Addr), Room k A → PG (inner X scope code N A s H ex) tg g ∧ PE (inner X scope code N A s H ex) elt te)
    (hs : ∀ v, genFold iter X.env v = pure v) (I : Inv X pins σ H s) (h : tQuant z P js wi g te σ H Q)
    (hQ : ∀ (a gi : Nat) (s5 : Shared) (Y : Cx) (go : Obj) (n : Nat), Y.prog = X.prog → Y.w = X.w → s5.heap.IsGen a gi → s5.heap.NoLimit → AllBare s5.gens → (∀ h : Heap, h.get? a = some go → h.IsGen a gi) →
      (∀ s6, Idle s5 s6 → ∃ gs, s6.gens[gi]? = s5.gens[gi]? → s6.gens[gi]? = some gs ∧ gs.Goes (model X.prog X.w) X.A.in1.in1 (Ends Y a go fun H' => Q (.bl (!z)) H') (Says Y a go z fun H' => Q (.bl z) H') n (.send .none) (s6.setGen gi .running)) →
      (∀ (R : Hp → Prop) s1 s2, At Y a go R s1 → Idle s1 s2 → ∃ H', Inv X pins σ H' s2 ∧ R H') → Q' (.ref a) s5) :
    wpAny (model X.prog X.w) X.A (eval (.GeneratorExp elt [⟨tg, iter, [], 0⟩] scope gpos) X.env) Q' X.xe s := by
  refine wpAny_GeneratorExp_make S.co (closure_ok S.free) S.cell S.dot S.kind (by have := hr.dp; omega) ?_ hs
  refine thn (hi.run pins s σ H _ I h) fun xv s1 h1 => thn h1 fun itv s2 h2 => ?_
  obtain ⟨it, fp, tn, J, H2, e, I2, T, st2, f2, ⟨ps, hP, ht⟩, q⟩ := h2
  subst e
  have hPs : s2.heap.get? P = some { cls := .none, data := .fields ps } := I2.hok P _ hP
  have lim2 : s2.heap.NoLimit := I2.nolimit
  refine ⟨lim2, ?_⟩
  have fpP : ∀ b ∈ fp, b ≠ P := fun b hb e => by
    have := (f2 b hb).1
    rw [e, hP] at this
    cases this
  have cont : ∀ (code : Value) (h3 : Heap) (tk : Nat) (ps' : Array Value), Heap.ExtBut P s2.heap h3 → h3.get? P = some { cls := .none, data := .fields ps' } → (∃ more, ps' = ps ++ more) → TriplesOk ps'.toList →
      wpAny (model X.prog X.w) X.A (builtinsFor X.env.globals X.env.builtins) (fun bi s₄ =>
        ∀ h', h'.Ns s₄.heap.objs.size (fun y => if y = ".0" then some (Value.ref it) else none) → Heap.SameBut s₄.heap.objs.size (s₄.heap.push { cls := .type "frame", data := .dict #[] }) h' →
          Q' (.ref h'.objs.size) { s₄ with
            gens := s₄.gens.push (.fresh (.compStart (.GeneratorExp elt [⟨tg, iter, [], 0⟩] scope gpos) 0 (.ref it) .none (genEnv scope (caught X scope) s₄.heap.objs.size code bi X.env))),
            toks := s₄.toks + 1 + 1 + 1,
            heap := h'.push { cls := .type "generator", data := .fields #[.int s₄.gens.size 0, .str "<genexpr>" (s₄.toks + 1), .str (X.env.qual ++ "<genexpr>") (s₄.toks + 1 + 1)] } }) X.xe { s2 with heap := h3, toks := tk } := by
    intro code h3 tk ps' hx hP3 hmore ht3
    obtain ⟨more, rfl⟩ := hmore
    obtain ⟨bm, ob, e1, e2, e3, e4, e5, e6, e7, e8⟩ := TB.bm
    have keep3 : ∀ b u, b ≠ P → s2.heap.get? b = some u → h3.get? b = some u := fun b u hb e => hx b u hb e
    have I3 : Inv X pins σ (upd H2 P (.tbl (ps ++ more))) { s2 with heap := h3, toks := tk } := inv_tab (more := more) (h' := h3) (g' := s2.gens) (d' := s2.drawn) (t' := tk) I2 hP keep3 hP3 I2.bare
    refine wpAny_builtinsFor (m := X.mg) (by rw [I2.ok.glob]; exact (I2.mod.glob.keeps I2.bk).extBut hx TB.gP) e1 e2 (keep3 _ _ e4 (I2.bk _ _ e5)) e6 e7 e8 ?_
    intro h' hns' hsb
    have sz' : h'.objs.size = h3.objs.size + 1 := by rw [hsb.1, Heap.size_push]
    have kp' : ∀ b o, h3.get? b = some o → h'.get? b = some o := fun b o e => hsb.extBut b o (Nat.ne_of_lt (Heap.lt_size e)) (Heap.get?_push_of_some _ e)
    have main : ∀ (go : Obj) (nm qn : Value) (tk2 : Nat), go.cls = .type "generator" → go.data = .fields #[.int s2.gens.size 0, nm, qn] → go.slots = #[] → (∀ h : Heap, (h.push go).get? h.objs.size = some go) →
        Q' (.ref h'.objs.size) { s2 with gens := s2.gens.push (.fresh (.compStart (.GeneratorExp elt [⟨tg, iter, [], 0⟩] scope gpos) 0 (.ref it) .none (genEnv scope (caught X scope) h3.objs.size code builtinsNs X.env))), toks := tk2, heap := h'.push go } := by
      intro go nm qn tk2 hgc hgd hgs hgp
      have hgen : ∀ h : Heap, h.get? h'.objs.size = some go → h.IsGen h'.objs.size s2.gens.size := fun h e => ⟨go, nm, qn, e, hgc, hgd, hgs⟩
      have hpushed : (h'.push go).get? h'.objs.size = some go := hgp _
      have kp5 : ∀ b o, h3.get? b = some o → (h'.push go).get? b = some o := fun b o e => Heap.get?_push_of_some _ (kp' b o e)
      have hlt : ∀ b ∈ fp, b < h3.objs.size := fun b hb => by
        obtain ⟨o, eo, _⟩ := T.obj _ _ st2 b hb
        exact Heap.lt_size (keep3 b o (fpP b hb) eo)
      have f3 : ∀ b ∈ fp, FpOk X pins (upd H2 P (.tbl (ps ++ more))) b := fun b hb => ⟨by rw [upd_ne (fpP b hb)]; exact (f2 b hb).1, (f2 b hb).2⟩
      have halt : h3.objs.size < h'.objs.size := by rw [sz']; exact Nat.lt_succ_self _
      have ab5 : AllBare (s2.gens.push (.fresh (.compStart (.GeneratorExp elt [⟨tg, iter, [], 0⟩] scope gpos) 0 (.ref it) .none (genEnv scope (caught X scope) h3.objs.size code builtinsNs X.env)))) := AllBare.push I2.bare rfl
      let B : Around := X.A.in1.in1
      let cd : Code := loopOf tg iter elt scope gpos it (genEnv scope (caught X scope) h3.objs.size code builtinsNs X.env)
      let A5 : Around := B.over cd []
      let s3 : Shared := { s2 with heap := h3, toks := tk }
      have rm : Room k A5 := room_in hr (Nat.le_refl _) (Nat.le_refl _)
      have hfr : A5.frames = some (genEnv scope (caught X scope) h3.objs.size code builtinsNs X.env :: X.stack) := by
        show pushEnvs cd.envs (pushEnvs [] X.A.frames) = _
        rw [I2.ok.frames]
        rfl
      obtain ⟨hPG, hPE⟩ := hb code A5 s3 (upd H2 P (.tbl (ps ++ more))) fp rm
      let Y : Cx := inner X scope code N A5 s3 (upd H2 P (.tbl (ps ++ more))) fp
      obtain ⟨W, ⟨m0, w0⟩, turn⟩ := q _ ⟨⟨ps ++ more, upd_same, ht3⟩, fun b hb => upd_ne hb⟩
      refine hQ h'.objs.size s2.gens.size _ Y go (m0 + 1) rfl rfl (hgen _ hpushed) (lim2.extBut hx (fun e => ?_) |>.keeps kp5) ab5 hgen (fun s6 z6 => ⟨.fresh (.compStart (.GeneratorExp elt [⟨tg, iter, [], 0⟩] scope gpos) 0 (.ref it) .none (genEnv scope (caught X scope) h3.objs.size code builtinsNs X.env)), fun hsame => ?_⟩) fun R s1' s2' hAt hz => ?_
      · obtain ⟨_, hns0, _⟩ := lim2
        obtain ⟨o', es, ep, ho, hd, _⟩ := hns0
        rw [e, hPs] at ho
        cases ho
        cases hd
      · refine ⟨hsame.trans (Array.getElem?_push_size ..), rfl, ?_⟩
        have z7 : Idle { s2 with gens := s2.gens.push (.fresh (.compStart (.GeneratorExp elt [⟨tg, iter, [], 0⟩] scope gpos) 0 (.ref it) .none (genEnv scope (caught X scope) h3.objs.size code builtinsNs X.env))), toks := tk2, heap := h'.push go } (s6.setGen s2.gens.size .running) :=
          ⟨z6.os, allBare_setGen z6.bare rfl, z6.keep⟩
        have J5 : Inv Y [(h'.objs.size, go)] (begun js σ) (upd H2 P (.tbl (ps ++ more))) { s2 with gens := s2.gens.push (.fresh (.compStart (.GeneratorExp elt [⟨tg, iter, [], 0⟩] scope gpos) 0 (.ref it) .none (genEnv scope (caught X scope) h3.objs.size code builtinsNs X.env))), toks := tk2, heap := h'.push go } :=
          start_inv (s := s3) S I3 rm.hd hfr f3 hlt kp5 rfl ab5 _ (hns'.push go) halt hpushed (fun v e => by rw [hgd] at e; cases e)
        have J6 := inv_idle J5 z7
        have st6 : tn 0 (s6.setGen s2.gens.size .running).heap := T.keep _ _ _ st2 fun b hb o e => z7.keep b o (kp5 b o (keep3 b o (fpP b hb) e))
        refine seg_begin (Y := Y) (J := J) (fp := fp) (tn := tn) st6 T ?_
        exact seg_loop (Y := Y) (W := W) rfl S.co rfl rfl hPG hPE T (fun hn => start_fp (s := s3) S I3 f3 hlt halt hn) turn m0 0 (m0 + 1) _ _ _ _ (Nat.lt_succ_self _) J6 st6 (fun b hb => (f3 b hb).1) w0
      · obtain ⟨σ', H', J', r⟩ := hAt
        have J'' := inv_idle J' hz
        exact ⟨H', back_inv (s := s3) I3 f3 J'', r⟩
    exact main _ _ _ _ rfl rfl rfl fun h => Heap.get?_push_size _ rfl
  have cd : PySem.W.CodeHd s2.heap c P := TB.code.keeps fun b u e => I2.bk b u e
  cases hf : codeAmong gpos ps.toList with
  | none =>
    refine wpAny_genexprCodeX hcode (cd.code hPs ht) (cd.tab hPs) hf fun c' h' tk hx hge hlt hco' _ htab' _ => ?_
    obtain ⟨o1, vs, f1, tf, fl, tg', inF, tx, tt, op, _, _, _, _, _, _, _, _, _, htr, _⟩ := hco'
    exact cont _ h' tk _ hx htab'.2 ⟨_, rfl⟩ htr
  | some cv =>
    refine wpAny_genexprCode_hit hcode (cd.code hPs ht) hf ?_
    exact cont cv s2.heap s2.toks ps (Heap.ExtBut.refl _ _) hPs ⟨#[], by simp⟩ ht

theorem pe_allG {p pos : Pos}
    (hr : Room (k + 1) X.A) (hg : Gl X "all") (hm : X.mg "all" = none) (hbt : bootBuiltins "all" = some (.builtin "all")) (TB : TabB X.base X.mg c P) (hcode : X.env.code = .ref c) (S : ScopeOk X scope N js) (hi : PI X tg iter wi)
    (hb : ∀ (code : Value) (A : Around) (s : Shared) (H : Hp) (ex : List Addr), Room k A → PG (inner X scope code N A s H ex) tg g ∧ PE (inner X scope code N A s H ex) elt te)
    (hs : ∀ v, genFold iter X.env v = pure v)
    (he : starEach [.GeneratorExp elt [⟨tg, iter, [], 0⟩] scope gpos] X.env = (false, eval (.GeneratorExp elt [⟨tg, iter, [], 0⟩] scope gpos) X.env) :: starEach [] X.env := by rfl) :
    PE X (.Call (.Name "all" p) [.GeneratorExp elt [⟨tg, iter, [], 0⟩] scope gpos] [] pos) (tQuant false P js wi g te) := by
  refine ⟨fun pins s σ H Q I h => ?_⟩
  refine wpAny_Call_Name_kw (ld_blt I hg hm hbt ?_)
  refine PyProof.Rows.callWith_builtin1 ?_ he (by rfl)
  rw [he]
  show wpAny _ _ (spliced ((false, eval (.GeneratorExp elt [⟨tg, iter, [], 0⟩] scope gpos) X.env) :: backTo pos (starEach [] X.env))) _ _ s
  refine Calls.spliced_cons (made_all hr TB hcode S hi hb hs I h fun a gi s5 Y go n e1 e2 hgen hlim hbare hgo hgoes hback => ?_)
  refine Calls.spliced_nil ?_
  refine call_function_tree F.kind_all F.plain_all F.entry_all (F.args_all1 _) ?_
  unfold Builtin.«all»
  refine wpAny_bind (m := oneArg "all" _) (wpAny_pure ?_)
  refine wpAny_bind (wpAny_pyIter_gen hgen ?_)
  obtain ⟨gs, hgs⟩ := hgoes s5 (Idle.refl hbare)
  obtain ⟨hg1, hg2⟩ := hgs rfl
  refine wpAny_pure ⟨plainId_quiet F.plain_all_loop _, ?_⟩
  rw [← e1, ← e2] at hg2 ⊢
  refine drain_all (Y := Y) hr.hd (by have := hr.dp; omega) hgo (fun s1 s2 hAt hz => ?_) (fun s1 s2 hAt hz => ?_) n s5 hgen hlim hbare ⟨gs, hg1, hg2⟩
  · obtain ⟨H', J, q⟩ := hback _ s1 s2 hAt hz
    exact ⟨.bl true, H', J, rfl, q⟩
  · obtain ⟨H', J, q⟩ := hback _ s1 s2 hAt hz
    exact ⟨.bl false, H', J, rfl, q⟩

theorem pe_anyG {p pos : Pos}
    (hr : Room (k + 1) X.A) (hg : Gl X "any") (hm : X.mg "any" = none) (hbt : bootBuiltins "any" = some (.builtin "any")) (TB : TabB X.base X.mg c P) (hcode : X.env.code = .ref c) (S : ScopeOk X scope N js) (hi : PI X tg iter wi)
    (hb : ∀ (code : Value) (A : Around) (s : Shared) (H : Hp) (ex : List Addr), Room k A → PG (inner X scope code N A s H ex) tg g ∧ PE (inner X scope code N A s H ex) elt te)
    (hs : ∀ v, genFold iter X.env v = pure v)
    (he : starEach [.GeneratorExp elt [⟨tg, iter, [], 0⟩] scope gpos] X.env = (false, eval (.GeneratorExp elt [⟨tg, iter, [], 0⟩] scope gpos) X.env) :: starEach [] X.env := by rfl) :
    PE X (.Call (.Name "any" p) [.GeneratorExp elt [⟨tg, iter, [], 0⟩] scope gpos] [] pos) (tQuant true P js wi g te) := by
  refine ⟨fun pins s σ H Q I h => ?_⟩
  refine wpAny_Call_Name_kw (ld_blt I hg hm hbt ?_)
  refine PyProof.Rows.callWith_builtin1 ?_ he (by rfl)
  rw [he]
  show wpAny _ _ (spliced ((false, eval (.GeneratorExp elt [⟨tg, iter, [], 0⟩] scope gpos) X.env) :: backTo pos (starEach [] X.env))) _ _ s
  refine Calls.spliced_cons (made_all hr TB hcode S hi hb hs I h fun a gi s5 Y go n e1 e2 hgen hlim hbare hgo hgoes hback => ?_)
  refine Calls.spliced_nil ?_
  refine call_function_tree F.kind_any F.plain_any F.entry_any (F.args_any1 _) ?_
  unfold Builtin.«any»
  refine wpAny_bind (m := oneArg "any" _) (wpAny_pure ?_)
  refine wpAny_bind (wpAny_pyIter_gen hgen ?_)
  obtain ⟨gs, hgs⟩ := hgoes s5 (Idle.refl hbare)
  obtain ⟨hg1, hg2⟩ := hgs rfl
  refine wpAny_pure ⟨plainId_quiet F.plain_any_loop _, ?_⟩
  rw [← e1, ← e2] at hg2 ⊢
  refine drain_any (Y := Y) hr.hd (by have := hr.dp; omega) hgo (fun s1 s2 hAt hz => ?_) (fun s1 s2 hAt hz => ?_) n s5 hgen hlim hbare ⟨gs, hg1, hg2⟩
  · obtain ⟨H', J, q⟩ := hback _ s1 s2 hAt hz
    exact ⟨.bl false, H', J, rfl, q⟩
  · obtain ⟨H', J, q⟩ := hback _ s1 s2 hAt hz
    exact ⟨.bl true, H', J, rfl, q⟩
end
end Gx


set_option Elab.async false
set_option linter.all false
set_option maxRecDepth 100000
set_option maxHeartbeats 1000000
/-! Tk0: what an expression is worth, as data: EE, ET, EA; heaps that grow, tables that may change. -/
namespace Tk
open PySem PySem.Spec PyProof.Rows L2 GxR

/-- the tables that nobody but their own def writes -/
class LamTab where
  is : Addr → Prop
variable [LamTab]
/-- the heap has grown; tables of code objects may be others, but those that LamTab names stay -/
structure Le (H H' : Hp) : Prop where
  keep : ∀ a o, H a = some o → (∀ ps, o = .tbl ps → LamTab.is a) → H' a = some o
  tab : ∀ P, TabG H P → TabG H' P
  there : ∀ a, H' a = none → H a = none
theorem Le.refl (H : Hp) : Le H H := ⟨fun _ _ h _ => h, fun _ h => h, fun _ h => h⟩
theorem Le.trans {H H1 H2 : Hp} (a : Le H H1) (b : Le H1 H2) : Le H H2 :=
  ⟨fun x o h n => b.keep x o (a.keep x o h n) n, fun P h => b.tab P (a.tab P h), fun x h => a.there x (b.there x h)⟩
theorem Le.new {H : Hp} {p : Addr} {o : HO} (h : H p = none) : Le H (upd H p o) :=
  ⟨fun a u e _ => by rw [upd_ne (ne_of_none e h)]; exact e, fun P ⟨ps, e, t⟩ => ⟨ps, by rw [upd_ne (ne_of_none e h)]; exact e, t⟩,
   fun a e => by
    by_cases z : a = p
    · rw [z]; exact h
    · rw [upd_ne z] at e; exact e⟩
/-- an object that H does not know may change -/
theorem Le.mut {H H' : Hp} {p : Addr} {o : HO} (e : Le H H') (h : H p = none) : Le H (upd H' p o) :=
  ⟨fun a u q n => by rw [upd_ne (ne_of_none q h)]; exact e.keep a u q n, fun P t => by
    obtain ⟨ps, q, r⟩ := e.tab P t
    have hP : P ≠ p := by
      obtain ⟨ps0, q0, _⟩ := t
      exact ne_of_none q0 h
    exact ⟨ps, by rw [upd_ne hP]; exact q, r⟩, fun a q => by
    by_cases z : a = p
    · rw [z]; exact h
    · rw [upd_ne z] at q; exact e.there a q⟩
theorem Le.tabbed {P : Addr} {H H' : Hp} (g : TabG H P) (t : Tabbed P H H') (hs : ¬ LamTab.is P) : Le H H' := by
  obtain ⟨ps, e, _⟩ := g
  obtain ⟨t1, t2⟩ := t
  refine ⟨fun a o q n => ?_, fun Q hQ => ?_, fun a q => ?_⟩
  · rw [t2 a fun z => hs (by rw [← z]; exact n ps (by rw [z, e] at q; exact (Option.some.inj q).symm))]
    exact q
  · by_cases z : Q = P
    · rw [z]; exact t1
    · obtain ⟨ps', q, r⟩ := hQ
      exact ⟨ps', by rw [t2 Q z]; exact q, r⟩
  · by_cases z : a = P
    · rw [z] at q
      obtain ⟨ps', q', _⟩ := t1
      rw [q] at q'
      cases q'
    · rw [← t2 a z]; exact q

def Tbs (T : List Addr) (H : Hp) : Prop := ∀ P ∈ T, TabG H P ∧ ¬ LamTab.is P
theorem Tbs.le {T : List Addr} {H H' : Hp} (t : Tbs T H) (e : Le H H') : Tbs T H' := fun P hP => ⟨e.tab P (t P hP).1, (t P hP).2⟩

theorem Rd.le {H H' : Hp} {a : Addr} {u : HO} (e : Le H H') (n : ∀ ps, u ≠ .tbl ps) (h : Rd H a u) : Rd H' a u := by
  rcases h with h | ⟨o, h⟩
  · exact .inl (e.keep a _ h fun ps z => (n ps z).elim)
  · exact .inr ⟨o, e.keep a _ h fun ps z => by cases z⟩
theorem sqL_le {K : PySem.W.Frag} {H H' : Hp} {a : Addr} {xs : List V} (e : Le H H') (h : SqL K H a xs) : SqL K H' a xs := by
  rcases h with h | h
  · exact .inl (Rd.le e (fun ps z => by cases z) h)
  · exact .inr h
theorem sqT_le {K : PySem.W.Frag} {H H' : Hp} {a : Addr} {xs : List V} (e : Le H H') (h : SqT K H a xs) : SqT K H' a xs := by
  rcases h with h | h
  · exact .inl (Rd.le e (fun ps z => by cases z) h)
  · exact .inr h

/-! ### data -/
mutual
inductive Dt (K : PySem.W.Frag) (H : Hp) : V → PyData → Prop
  | non : Dt K H .non .none
  | bl (b : Bool) : Dt K H (.bl b) (.bool b)
  | int (i : Int) : Dt K H (.int i) (.int i)
  | str (x : Str) : Dt K H (.str x) (.str x)
  | lst {a : Addr} {xs : List V} {ds : List PyData} : SqL K H a xs → TyX K H (.ref a) (.type "list") → Ds K H xs ds → Dt K H (.ref a) (.list ds)
  | tup {a : Addr} {xs : List V} {ds : List PyData} : SqT K H a xs → TyX K H (.ref a) (.type "tuple") → Ds K H xs ds → Dt K H (.ref a) (.tuple ds)
  | dct {a : Addr} : H a = some (.dK []) → Dt K H (.ref a) (.dict [])
inductive Ds (K : PySem.W.Frag) (H : Hp) : List V → List PyData → Prop
  | nil : Ds K H [] []
  | cons {v : V} {vs : List V} {d : PyData} {ds : List PyData} : Dt K H v d → Ds K H vs ds → Ds K H (v :: vs) (d :: ds)
end

section
variable {K : PySem.W.Frag} {H H' : Hp}
theorem tyX_le {v : V} {t : Value} (e : Le H H') (h : TyX K H v t) : TyX K H' v t := by
  have k := fun a o (q : H a = some o) n => e.keep a o q n
  cases h with
  | base h =>
    refine .base ?_
    cases h with
    | non => exact .non
    | bl x => exact .bl x
    | int i => exact .int i
    | str x => exact .str x
    | flt x => exact .flt x
    | lst q => exact .lst (k _ _ q fun ps z => by cases z)
    | frz q => exact .frz (k _ _ q fun ps z => by cases z)
    | tup q => exact .tup (k _ _ q fun ps z => by cases z)
    | dK q => exact .dK (k _ _ q fun ps z => by cases z)
    | dT q => exact .dT (k _ _ q fun ps z => by cases z)
    | ins q a b c d f => exact .ins (k _ _ q fun ps z => by cases z) a b c d f
  | byt b => exact .byt b
  | set q => exact .set (k _ _ q fun ps z => by cases z)
  | kList a b => exact .kList a b
  | kTuple a b => exact .kTuple a b
  | kDict a b => exact .kDict a b
  | fTuple q => exact .fTuple (k _ _ q fun ps z => by cases z)
  | fDict q => exact .fDict (k _ _ q fun ps z => by cases z)
mutual
theorem Dt.le (e : Le H H') : ∀ {v : V} {d : PyData}, Dt K H v d → Dt K H' v d
  | _, _, .non => .non
  | _, _, .bl b => .bl b
  | _, _, .int i => .int i
  | _, _, .str x => .str x
  | _, _, .lst s t h => .lst (sqL_le e s) (tyX_le e t) (Ds.le e h)
  | _, _, .tup s t h => .tup (sqT_le e s) (tyX_le e t) (Ds.le e h)
  | _, _, .dct h => .dct (e.keep _ _ h fun ps z => by cases z)
theorem Ds.le (e : Le H H') : ∀ {vs : List V} {ds : List PyData}, Ds K H vs ds → Ds K H' vs ds
  | _, _, .nil => .nil
  | _, _, .cons h t => .cons (Dt.le e h) (Ds.le e t)
end
theorem Ds.length : ∀ {vs : List V} {ds : List PyData}, Ds K H vs ds → vs.length = ds.length
  | _, _, .nil => rfl
  | _, _, .cons _ t => congrArg Nat.succ t.length
theorem Ds.get : ∀ {vs : List V} {ds : List PyData}, Ds K H vs ds → ∀ {i : Nat} {d : PyData}, ds[i]? = some d → ∃ v, vs[i]? = some v ∧ Dt K H v d
  | _, _, .cons h t, 0, d, e => by
    rw [List.getElem?_cons_zero] at e
    cases e
    exact ⟨_, rfl, h⟩
  | _, _, .cons h t, i + 1, d, e => by
    rw [List.getElem?_cons_succ] at e
    obtain ⟨v, h1, h2⟩ := t.get e
    exact ⟨v, by rw [List.getElem?_cons_succ]; exact h1, h2⟩
theorem Ds.getV : ∀ {vs : List V} {ds : List PyData}, Ds K H vs ds → ∀ {i : Nat} {v : V}, vs[i]? = some v → ∃ d, ds[i]? = some d ∧ Dt K H v d
  | _, _, .cons h t, 0, d, e => by
    rw [List.getElem?_cons_zero] at e
    cases e
    exact ⟨_, rfl, h⟩
  | _, _, .cons h t, i + 1, d, e => by
    rw [List.getElem?_cons_succ] at e
    obtain ⟨v, h1, h2⟩ := t.getV e
    exact ⟨v, by rw [List.getElem?_cons_succ]; exact h1, h2⟩
theorem Ds.append : ∀ {vs ws : List V} {ds es : List PyData}, Ds K H vs ds → Ds K H ws es → Ds K H (vs ++ ws) (ds ++ es)
  | _, _, _, _, .nil, s => s
  | _, _, _, _, .cons h t, s => .cons h (t.append s)
theorem Ds.take : ∀ {vs : List V} {ds : List PyData} (n : Nat), Ds K H vs ds → Ds K H (vs.take n) (ds.take n)
  | _, _, 0, _ => by rw [List.take_zero, List.take_zero]; exact .nil
  | _, _, _ + 1, .nil => by rw [List.take_nil, List.take_nil]; exact .nil
  | _, _, n + 1, .cons h t => by rw [List.take_succ_cons, List.take_succ_cons]; exact .cons h (t.take n)
theorem Ds.drop : ∀ {vs : List V} {ds : List PyData} (n : Nat), Ds K H vs ds → Ds K H (vs.drop n) (ds.drop n)
  | _, _, 0, h => h
  | _, _, _ + 1, .nil => by rw [List.drop_nil, List.drop_nil]; exact .nil
  | _, _, n + 1, .cons h t => by rw [List.drop_succ_cons, List.drop_succ_cons]; exact t.drop n
theorem Ds.snoc {vs : List V} {ds : List PyData} {v : V} {d : PyData} (h : Ds K H vs ds) (h2 : Dt K H v d) : Ds K H (vs ++ [v]) (ds ++ [d]) := h.append (.cons h2 .nil)
theorem Dt.new_lst {a : Addr} {xs : List V} {ds : List PyData} (h : H a = some (.lst xs)) (d : Ds K H xs ds) : Dt K H (.ref a) (.list ds) := .lst (.inl (.inl h)) (.base (.lst h)) d
theorem Dt.new_tup {a : Addr} {xs : List V} {ds : List PyData} (h : H a = some (.tup xs)) (d : Ds K H xs ds) : Dt K H (.ref a) (.tuple ds) := .tup (.inl (.inl h)) (.base (.tup h)) d

mutual
def noDict : PyData → Bool
  | .dict _ => false
  | .list xs => noDicts xs
  | .tuple xs => noDicts xs
  | _ => true
def noDicts : List PyData → Bool
  | [] => true
  | x :: xs => noDict x && noDicts xs
end
mutual
theorem Dt.toDp : ∀ {v : V} {d : PyData}, Dt K H v d → noDict d = true → Dp K H v d
  | _, _, .non, _ => .non
  | _, _, .bl b, _ => .bl b
  | _, _, .int i, _ => .int i
  | _, _, .str x, _ => .str x
  | _, _, .lst s _ h, n => .lst s (Ds.toDp h n)
  | _, _, .tup s _ h, n => .tup s (Ds.toDp h n)
theorem Ds.toDp : ∀ {vs : List V} {ds : List PyData}, Ds K H vs ds → noDicts ds = true → DpAll K H vs ds
  | _, _, .nil, _ => .nil
  | _, _, .cons h t, n => by
    have n' := (Bool.and_eq_true _ _).mp n
    exact .cons (Dt.toDp h n'.1) (Ds.toDp t n'.2)
end
end

/-! ### what an expression, a test, arguments, statements do: the weakest reading -/
/-- B: the part of the heap H that data may lean on; what is made goes into both -/
structure Up (B H B2 H2 : Hp) : Prop where
  h : Le H H2
  b : Le B B2
  s : Le B2 H2
  n : ∀ a, B2 a ≠ none → B a ≠ none ∨ H a = none ∨ ((∃ ps, H a = some (.tbl ps)) ∧ ¬ LamTab.is a)
theorem Up.refl {B H : Hp} (l : Le B H) : Up B H B H := ⟨Le.refl H, Le.refl B, l, fun a h => .inl h⟩
theorem Up.trans {B H B1 H1 B2 H2 : Hp} (a : Up B H B1 H1) (b : Up B1 H1 B2 H2) : Up B H B2 H2 :=
  ⟨a.h.trans b.h, a.b.trans b.b, b.s, fun x h => by
    rcases b.n x h with z | z | ⟨⟨ps, z⟩, ny⟩
    · exact a.n x z
    · exact .inr (.inl (a.h.there x z))
    · refine .inr ?_
      cases q : H x with
      | none => exact .inl rfl
      | some o =>
        refine .inr ?_
        by_cases y : ∃ qs, o = .tbl qs
        · obtain ⟨qs, rfl⟩ := y
          exact ⟨⟨qs, rfl⟩, ny⟩
        · have e := a.h.keep x o q fun qs e => (y ⟨qs, e⟩).elim
          rw [z] at e
          exact absurd ⟨ps, (Option.some.inj e).symm⟩ y⟩
theorem Up.new {B H B1 H1 : Hp} (u : Up B H B1 H1) {p : Addr} {o : HO} (hp : H1 p = none) (ho : ∀ ps, o ≠ .tbl ps) : Up B H (upd B1 p o) (upd H1 p o) := by
  have bp : B1 p = none := u.s.there p hp
  refine ⟨u.h.trans (Le.new hp), u.b.trans (Le.new bp), ⟨fun a v q n => ?_, fun P t => ?_, fun a q => ?_⟩, fun a q => ?_⟩
  · by_cases z : a = p
    · rw [z, upd_same] at q
      rw [z, upd_same]
      exact q
    · rw [upd_ne z] at q ⊢
      exact u.s.keep a v q n
  · obtain ⟨ps, q, r⟩ := t
    by_cases z : P = p
    · rw [z, upd_same] at q
      exact absurd (Option.some.inj q) (ho ps)
    · rw [upd_ne z] at q
      obtain ⟨ps', q', r'⟩ := u.s.tab P ⟨ps, q, r⟩
      exact ⟨ps', by rw [upd_ne z]; exact q', r'⟩
  · by_cases z : a = p
    · rw [z, upd_same] at q
      cases q
    · rw [upd_ne z] at q ⊢
      exact u.s.there a q
  · by_cases z : a = p
    · rw [z]
      exact .inr (.inl (u.h.there p hp))
    · rw [upd_ne z] at q
      exact u.n a q
/-- a table of H has changed -/
theorem Up.tab {B H B1 H1 H2 : Hp} (u : Up B H B1 H1) (l : Le H1 H2) : Up B H B1 H2 := ⟨u.h.trans l, u.b, u.s.trans l, u.n⟩
/-- leaning on more -/
theorem Up.join {B B' H B2 H2 : Hp} (u : Up B H B2 H2) (l : Le B B') (l2 : Le B' H) : ∃ B3, Up B' H B3 H2 ∧ Le B2 B3 := by
  refine ⟨fun a => if B' a = none ∧ B2 a = none then none else H2 a, ⟨u.h, ⟨fun a o q n => ?_, fun P t => ?_, fun a q => ?_⟩, ⟨fun a o q n => ?_, fun P t => ?_, fun a q => ?_⟩, fun a q => ?_⟩, ⟨fun a o q n => ?_, fun P t => ?_, fun a q => ?_⟩⟩
  · show (if B' a = none ∧ B2 a = none then none else H2 a) = some o
    rw [if_neg fun z => by rw [z.1] at q; cases q]
    exact (l2.trans u.h).keep a o q n
  · obtain ⟨ps, q, r⟩ := t
    obtain ⟨ps', q', r'⟩ := (l2.trans u.h).tab P ⟨ps, q, r⟩
    refine ⟨ps', ?_, r'⟩
    show (if B' P = none ∧ B2 P = none then none else H2 P) = _
    rw [if_neg fun z => by rw [z.1] at q; cases q]
    exact q'
  · have q' : (if B' a = none ∧ B2 a = none then none else H2 a) = none := q
    by_cases z : B' a = none ∧ B2 a = none
    · exact z.1
    · rw [if_neg z] at q'
      exact (l2.trans u.h).there a q'
  · have q' : (if B' a = none ∧ B2 a = none then none else H2 a) = some o := q
    by_cases z : B' a = none ∧ B2 a = none
    · rw [if_pos z] at q'
      cases q'
    · rw [if_neg z] at q'
      exact q'
  · obtain ⟨ps, q, r⟩ := t
    have q' : (if B' P = none ∧ B2 P = none then none else H2 P) = _ := q
    by_cases z : B' P = none ∧ B2 P = none
    · rw [if_pos z] at q'
      cases q'
    · rw [if_neg z] at q'
      exact ⟨ps, q', r⟩
  · show (if B' a = none ∧ B2 a = none then none else H2 a) = none
    rw [q]
    exact ite_self _
  · have q' : (if B' a = none ∧ B2 a = none then none else H2 a) ≠ none := q
    by_cases z : B' a = none
    · by_cases z2 : B2 a = none
      · rw [if_pos ⟨z, z2⟩] at q'
        exact absurd rfl q'
      · rcases u.n a z2 with y | y
        · exact absurd (l.there a z) y
        · exact .inr y
    · exact .inl z
  · show (if B' a = none ∧ B2 a = none then none else H2 a) = some o
    rw [if_neg fun z => by rw [z.2] at q; cases q]
    exact u.s.keep a o q n
  · obtain ⟨ps, q, r⟩ := t
    obtain ⟨ps', q', r'⟩ := u.s.tab P ⟨ps, q, r⟩
    refine ⟨ps', ?_, r'⟩
    show (if B' P = none ∧ B2 P = none then none else H2 P) = _
    rw [if_neg fun z => by rw [z.2] at q; cases q]
    exact q'
  · have q' : (if B' a = none ∧ B2 a = none then none else H2 a) = none := q
    by_cases z : B' a = none ∧ B2 a = none
    · exact z.2
    · rw [if_neg z] at q'
      exact u.s.there a q'

section
variable (X : Cx)
def WE (e : Expr) : TE := fun σ H Q => ∃ t, PE X e t ∧ t σ H Q
def WT (e : Expr) : TT := fun σ H Q => ∃ t, PT X e t ∧ t σ H Q
def WA (es : List Expr) : TA := fun σ H Q => ∃ t, PA X es t ∧ t σ H Q
def WG (g : Expr) : TG := fun v σ H Q => ∃ t, PG X g t ∧ t v σ H Q
def WI (tg iter : Expr) : TI := fun σ H R => ∃ t, PI X tg iter t ∧ t σ H R
def WS (st : Stmt) : TS := fun D σ H => ∃ t, PS X st t ∧ t D σ H
def WB (sts : List Stmt) : TS := fun D σ H => ∃ t, PSs X sts t ∧ t D σ H
def WW (e : Expr) : TT := fun σ H Q => ∃ t, PW X e t ∧ t σ H Q
def EE (e : Expr) (σ : L2.St) (B : Hp) (d : PyData) : Prop := ∀ H1, Le B H1 → ∀ Q : VK, (∀ v B2 H2, Up B H1 B2 H2 → Dt X.K B2 v d → Q v H2) → WE X e σ H1 Q
def ET (e : Expr) (σ : L2.St) (B : Hp) (b : Bool) : Prop := ∀ H1, Le B H1 → ∀ Q : Bool → Hp → Prop, (∀ H2, Le H1 H2 → Q b H2) → WT X e σ H1 Q
def EW (e : Expr) (σ : L2.St) (B : Hp) (b : Bool) : Prop := ∀ H1, Le B H1 → ∀ Q : Bool → Hp → Prop, (∀ H2, Le H1 H2 → Q b H2) → WW X e σ H1 Q
def EA (es : List Expr) (σ : L2.St) (B : Hp) (ds : List PyData) : Prop := ∀ H1, Le B H1 → ∀ Q : List V → Hp → Prop, (∀ vs B2 H2, Up B H1 B2 H2 → Ds X.K B2 vs ds → Q vs H2) → WA X es σ H1 Q
end
section
variable {X : Cx} {e a b c : Expr} {es : List Expr} {σ : L2.St} {H H' : Hp} {d d1 d2 d3 : PyData} {ds : List PyData}
theorem pe_w : PE X e (WE X e) := ⟨fun pins s σ H Q I ⟨t, h, q⟩ => h.run pins s σ H Q I q⟩
theorem pt_w : PT X e (WT X e) := ⟨fun pins s σ H Q I ⟨t, h, q⟩ => h.run pins s σ H Q I q⟩
theorem pa_w : PA X es (WA X es) := ⟨fun pos pins s σ H Q I ⟨t, h, q⟩ => h.run pos pins s σ H Q I q⟩
theorem pg_w : PG X e (WG X e) := ⟨fun pins s σ H v u Q I r ⟨t, h, q⟩ => h.run pins s σ H v u Q I r q⟩
theorem pi_w {tg : Expr} : PI X tg e (WI X tg e) := ⟨fun pins s σ H R I ⟨t, h, q⟩ => h.run pins s σ H R I q⟩
theorem ps_w {st : Stmt} : PS X st (WS X st) := ⟨fun pins s σ H D I ⟨t, h, q⟩ => h.run pins s σ H D I q⟩
theorem pss_w {sts : List Stmt} : PSs X sts (WB X sts) := ⟨fun pins s σ H D I ⟨t, h, q⟩ => h.run pins s σ H D I q⟩
theorem pw_w : PW X e (WW X e) := ⟨fun wh pins s σ H Q I ⟨t, h, q⟩ => h.run wh pins s σ H Q I q⟩
theorem EE.mono (h : EE X e σ H d) (l : Le H H') : EE X e σ H' d := fun H1 e1 Q q => h H1 (l.trans e1) Q fun v B2 H2 u dv => by
  obtain ⟨B3, u3, l3⟩ := u.join l e1
  exact q v B3 H2 u3 (Dt.le l3 dv)
theorem ET.mono {k : Bool} (h : ET X e σ H k) (l : Le H H') : ET X e σ H' k := fun H1 e1 Q q => h H1 (l.trans e1) Q q
theorem EA.mono (h : EA X es σ H ds) (l : Le H H') : EA X es σ H' ds := fun H1 e1 Q q => h H1 (l.trans e1) Q fun v B2 H2 u dv => by
  obtain ⟨B3, u3, l3⟩ := u.join l e1
  exact q v B3 H2 u3 (Ds.le l3 dv)
theorem EE.cast (h : EE X e σ H d) (q : d = d1) : EE X e σ H d1 := q ▸ h
theorem ET.cast {k k' : Bool} (h : ET X e σ H k) (q : k = k') : ET X e σ H k' := q ▸ h

/-! constants, names -/
theorem ee_v {v : V} (h : PE X e (tC v)) (hd : ∀ H', Dt X.K H' v d) : EE X e σ H d := fun H1 l Q q => ⟨_, h, q v H H1 (Up.refl l) (hd H)⟩
theorem ee_int {i : Int} {j : Nat} {pos : Pos} : EE X (.Constant (.int i) j pos) σ H (.int i) := ee_v pe_int fun _ => .int i
theorem ee_str {x : Str} {j : Nat} {pos : Pos} : EE X (.Constant (.str x) j pos) σ H (.str x) := ee_v pe_str fun _ => .str x
theorem ee_bl {k : Bool} {j : Nat} {pos : Pos} : EE X (.Constant (.bool k) j pos) σ H (.bool k) := ee_v pe_bl fun _ => .bl k
theorem ee_non {j : Nat} {pos : Pos} : EE X (.Constant .none j pos) σ H .none := ee_v pe_non fun _ => .non
theorem ee_var {v : V} {i : Nat} {x : Str} {pos : Pos} (hσ : σ[i]? = some (some v)) (hd : Dt X.K H v d) (hN : X.N[i]? = some x := by rfl) (hv : Vis X.env.scope x := by first | exact Or.inl rfl | exact Or.inr (Or.inl rfl) | exact Or.inr (Or.inr rfl))
    (hdb : (x == ("__debug__" : Str)) = false := by decide) (hcd : (x == ("__classdict__" : Str)) = false := by decide) : EE X (.Name x pos) σ H d := fun H1 l Q q =>
  ⟨_, pe_var hN hv hdb hcd, ⟨v, hσ, q v H H1 (Up.refl l) hd⟩⟩
theorem ee_glob {x : Str} {v : V} {u : Value} {pos : Pos} (hg : Gl X x) (hm : X.mg x = some u) (hr : RelV v u) (hd : ∀ H', Dt X.K H' v d) (hdb : (x == ("__debug__" : Str)) = false := by decide) : EE X (.Name x pos) σ H d := ee_v (pe_glob hg hm hr hdb) hd

/-! two operands -/
def RR (K : PySem.W.Frag) (r : R2) (H : Hp) (d1 d2 d3 : PyData) : Prop := ∀ B H1, Le H B → Le B H1 → ∀ x y, Dt K B x d1 → Dt K B y d2 → ∀ Q : VK, (∀ v B2 H2, Up B H1 B2 H2 → Dt K B2 v d3 → Q v H2) → r x y H1 Q
theorem two {r : R2} (hr : RR X.K r H d1 d2 d3) (ha : EE X a σ H d1) (hb : EE X b σ H d2) {H1 : Hp} (l : Le H H1) {Q : VK} (q : ∀ v B2 H2, Up H H1 B2 H2 → Dt X.K B2 v d3 → Q v H2) : tOp r (WE X a) (WE X b) σ H1 Q :=
  ha H1 l _ fun x B2 H2 u2 dx => hb.mono u2.b H2 u2.s _ fun y B3 H3 u3 dy => hr B3 H3 (u2.b.trans u3.b) u3.s x y (Dt.le u3.b dx) dy Q fun v B4 H4 u4 dv => q v B4 H4 ((u2.trans u3).trans u4) dv
theorem ee_op {op : Operator} {r : R2} {pos : Pos} (o : OpR X (binaryOp op) r) (hr : RR X.K r H d1 d2 d3) (ha : EE X a σ H d1) (hb : EE X b σ H d2) : EE X (.BinOp a op b pos) σ H d3 := fun H1 l Q q =>
  ⟨_, pe_op o pe_w pe_w, two hr ha hb l q⟩
theorem ee_cmp {op : CmpOp} {r : R2} {pos : Pos} (o : OpR X (compareOp op) r) (hr : RR X.K r H d1 d2 d3) (ha : EE X a σ H d1) (hb : EE X b σ H d2) (hm : behindInMarks op b = false := by rfl) : EE X (.Compare a [op] [b] pos) σ H d3 := fun H1 l Q q =>
  ⟨_, pe_cmpR o pe_w pe_w hm, two hr ha hb l q⟩
theorem ee_ix {r : R2} {pos : Pos} (o : IxR X r) (hr : RR X.K r H d1 d2 d3) (ha : EE X a σ H d1) (hb : EE X b σ H d2) (hp : PlainIx b := by intro _ _; rfl) : EE X (.Subscript a b pos) σ H d3 := fun H1 l Q q =>
  ⟨_, pe_ix o pe_w pe_w hp, two hr ha hb l q⟩
theorem ee_chain {op op' : CmpOp} {r r' : R2} {pos : Pos} {k1 k2 : Bool} (o : OpR X (compareOp op) r) (o' : OpR X (compareOp op') r') (hr : RR X.K r H d1 d2 (.bool k1)) (hr' : k1 = true → RR X.K r' H d2 d3 (.bool k2))
    (ha : EE X a σ H d1) (hb : EE X b σ H d2) (hc : k1 = true → EE X c σ H d3) (hm : lastMarks [op, op'] [b, c] = false := by rfl) : EE X (.Compare a [op, op'] [b, c] pos) σ H (.bool (k1 && k2)) := fun H1 l Q q =>
  ⟨_, pe_chain o o' pe_w pe_w pe_w hm, ha H1 l _ fun x B2 H2 u2 dx => hb.mono u2.b H2 u2.s _ fun y B3 H3 u3 dy => hr B3 H3 (u2.b.trans u3.b) u3.s x y (Dt.le u3.b dx) dy _ fun z B4 H4 u4 dz => by
    cases dz
    refine ⟨k1, rfl, ?_⟩
    have u := (u2.trans u3).trans u4
    cases k1 with
    | true =>
      rw [if_pos rfl]
      exact (hc rfl).mono u.b H4 u.s _ fun t B5 H5 u5 dt => hr' rfl B5 H5 (u.b.trans u5.b) u5.s y t (Dt.le (u4.b.trans u5.b) dy) dt Q fun v B6 H6 u6 dv => q v B6 H6 ((u.trans u5).trans u6) dv
    | false =>
      rw [if_neg Bool.false_ne_true]
      exact q _ B4 H4 u (.bl false)⟩

/-! truths -/
theorem ee_and {pos : Pos} {rest : List Expr} {p q : Bool} (ha : EE X a σ H (.bool p)) (hb : p = true → EE X (.BoolOp .And (b :: rest) pos) σ H (.bool q)) : EE X (.BoolOp .And (a :: b :: rest) pos) σ H (.bool (p && q)) := fun H1 l Q k =>
  ⟨_, pe_and pe_w pe_w, ha H1 l _ fun x B2 H2 u2 dx => by
    cases dx
    refine ⟨p, rfl, ?_⟩
    cases p with
    | true =>
      rw [if_pos rfl]
      exact (hb rfl).mono u2.b H2 u2.s Q fun v B3 H3 u3 dv => k v B3 H3 (u2.trans u3) dv
    | false =>
      rw [if_neg Bool.false_ne_true]
      exact k _ B2 H2 u2 (.bl false)⟩
theorem ee_or {pos : Pos} {rest : List Expr} {p q : Bool} (ha : EE X a σ H (.bool p)) (hb : p = false → EE X (.BoolOp .Or (b :: rest) pos) σ H (.bool q)) : EE X (.BoolOp .Or (a :: b :: rest) pos) σ H (.bool (p || q)) := fun H1 l Q k =>
  ⟨_, pe_or pe_w pe_w, ha H1 l _ fun x B2 H2 u2 dx => by
    cases dx
    refine ⟨p, rfl, ?_⟩
    cases p with
    | false =>
      rw [if_neg Bool.false_ne_true]
      exact (hb rfl).mono u2.b H2 u2.s Q fun v B3 H3 u3 dv => k v B3 H3 (u2.trans u3) dv
    | true =>
      rw [if_pos rfl]
      exact k _ B2 H2 u2 (.bl true)⟩
theorem ee_one {pos : Pos} {op : BoolOp} (ha : EE X a σ H d) : EE X (.BoolOp op [a] pos) σ H d := fun H1 l Q k => ⟨_, pe_one pe_w, ha H1 l Q k⟩
theorem ee_not {pos : Pos} {p : Bool} (ha : EE X a σ H (.bool p)) : EE X (.UnaryOp .Not a pos) σ H (.bool (!p)) := fun H1 l Q k =>
  ⟨_, pe_not pe_w, ha H1 l _ fun x B2 H2 u2 dx => by
    cases dx
    exact ⟨p, rfl, k _ B2 H2 u2 (.bl _)⟩⟩

/-! tests -/
theorem et_val {p : Bool} (ha : EE X e σ H (.bool p)) (hs : ∀ whole : Sem Value, PySem.isTrue e X.env whole = (do let v ← whole; standAt e.pos; holding [v] (truthy v)) := by intro _; rfl) : ET X e σ H p := fun H1 l Q k =>
  ⟨_, pt_val pe_w hs, ha H1 l _ fun x B2 H2 u2 dx => by
    cases dx
    exact ⟨p, rfl, k _ u2.h⟩⟩
theorem et_not {pos : Pos} {p : Bool} (ha : ET X a σ H p) : ET X (.UnaryOp .Not a pos) σ H (!p) := fun H1 l Q k => ⟨_, pt_not pt_w, ha H1 l _ fun H2 l2 => k _ l2⟩
theorem ew_one1 {pos : Pos} {p : Bool} (ha : ET X a σ H p) : EW X (.BoolOp .And [a] pos) σ H p := fun H1 l Q k => ⟨_, pw_and1 pt_w, ha H1 l Q k⟩
theorem ew_one2 {pos : Pos} {p : Bool} (ha : ET X a σ H p) : EW X (.BoolOp .Or [a] pos) σ H p := fun H1 l Q k => ⟨_, pw_or1 pt_w, ha H1 l Q k⟩
theorem ew_and {pos : Pos} {rest : List Expr} {p q : Bool} (ha : ET X a σ H p) (hb : p = true → EW X (.BoolOp .And (b :: rest) pos) σ H q) : EW X (.BoolOp .And (a :: b :: rest) pos) σ H (p && q) := fun H1 l Q k =>
  ⟨_, pw_and pt_w pw_w, ha H1 l _ fun H2 l2 => by
    cases p with
    | true =>
      rw [if_pos rfl]
      exact hb rfl H2 (l.trans l2) Q fun H3 l3 => k H3 (l2.trans l3)
    | false =>
      rw [if_neg Bool.false_ne_true]
      exact k _ l2⟩
theorem ew_or {pos : Pos} {rest : List Expr} {p q : Bool} (ha : ET X a σ H p) (hb : p = false → EW X (.BoolOp .Or (b :: rest) pos) σ H q) : EW X (.BoolOp .Or (a :: b :: rest) pos) σ H (p || q) := fun H1 l Q k =>
  ⟨_, pw_or pt_w pw_w, ha H1 l _ fun H2 l2 => by
    cases p with
    | false =>
      rw [if_neg Bool.false_ne_true]
      exact hb rfl H2 (l.trans l2) Q fun H3 l3 => k H3 (l2.trans l3)
    | true =>
      rw [if_pos rfl]
      exact k _ l2⟩
theorem et_w {p : Bool} (h : EW X e σ H p) : ET X e σ H p := fun H1 l Q k => by
  obtain ⟨t, h1, h2⟩ := h H1 l Q k
  exact ⟨t, PW.pt h1, h2⟩

/-! arguments -/
theorem ea_nil : EA X [] σ H [] := fun H1 l Q k => ⟨_, pa_nil, k [] H H1 (Up.refl l) .nil⟩
theorem ea_cons (ha : EE X e σ H d) (hb : EA X es σ H ds) (hs : starEach (e :: es) X.env = (false, eval e X.env) :: starEach es X.env := by rfl) : EA X (e :: es) σ H (d :: ds) := fun H1 l Q k =>
  ⟨_, pa_cons pe_w pa_w hs, ha H1 l _ fun v B2 H2 u2 dv => hb.mono u2.b H2 u2.s _ fun vs B3 H3 u3 dvs => k _ B3 H3 (u2.trans u3) (.cons (Dt.le u3.b dv) dvs)⟩

/-! displays -/
theorem ee_tup {pos : Pos} {n : Nat} (ha : EA X es σ H ds) (hl : ds.length ≤ sizeLine) : EE X (.Tuple es n pos) σ H (.tuple ds) := fun H1 l Q k =>
  ⟨_, pe_tup pa_w, ha H1 l _ fun vs B2 H2 u2 dv => ⟨by rw [dv.length]; exact hl, fun p hp => k _ _ _ (u2.new hp fun ps z => by cases z) (.new_tup upd_same (Ds.le (Le.new (u2.s.there p hp)) dv))⟩⟩
theorem ee_lst {pos : Pos} (ha : EA X es σ H ds) (hl : ds.length ≤ sizeLine) : EE X (.List es pos) σ H (.list ds) := fun H1 l Q k =>
  ⟨_, pe_lst pa_w, ha H1 l _ fun vs B2 H2 u2 dv => ⟨by rw [dv.length]; exact hl, fun p hp => k _ _ _ (u2.new hp fun ps z => by cases z) (.new_lst upd_same (Ds.le (Le.new (u2.s.there p hp)) dv))⟩⟩
theorem ee_if {pos : Pos} {p : Bool} (hc : ET X c σ H p) (h1 : p = true → EE X a σ H d) (h2 : p = false → EE X b σ H d) : EE X (.IfExp c a b pos) σ H d := fun H1 l Q k =>
  ⟨_, pe_ifExp pt_w pe_w pe_w, hc H1 l _ fun H2 l2 => by
    cases p with
    | true =>
      rw [if_pos rfl]
      exact h1 rfl H2 (l.trans l2) Q fun v B3 H3 u3 dv => k v B3 H3 ⟨l2.trans u3.h, u3.b, u3.s, fun a z => (Up.trans (Up.refl l) (⟨l2, Le.refl _, l.trans l2, fun a h => .inl h⟩ : Up H H1 H H2) |>.trans u3).n a z⟩ dv
    | false =>
      rw [if_neg Bool.false_ne_true]
      exact h2 rfl H2 (l.trans l2) Q fun v B3 H3 u3 dv => k v B3 H3 ⟨l2.trans u3.h, u3.b, u3.s, fun a z => (Up.trans (Up.refl l) (⟨l2, Le.refl _, l.trans l2, fun a h => .inl h⟩ : Up H H1 H H2) |>.trans u3).n a z⟩ dv⟩

/-! calls of built-ins -/
def RC1 (K : PySem.W.Frag) (r : List V → Hp → VK → Prop) (H : Hp) (ds : List PyData) (d : PyData) : Prop := ∀ B H1, Le H B → Le B H1 → ∀ vs, Ds K B vs ds → ∀ Q : VK, (∀ v B2 H2, Up B H1 B2 H2 → Dt K B2 v d → Q v H2) → r vs H1 Q
theorem ee_callB {x : Str} {p pos : Pos} {id : String} {r : List V → Hp → VK → Prop} (hc : CallR X (.builtin id) r) (hg : Gl X x) (hm : X.mg x = none) (hv : bootBuiltins x = some (.builtin id)) (hr : RC1 X.K r H ds d) (ha : EA X (e :: es) σ H ds)
    (h1 : x ≠ "__name__" := by decide) (h2 : (x == ("__debug__" : Str)) = false := by decide) (he : starEach (e :: es) X.env = (false, eval e X.env) :: starEach es X.env := by rfl) (hpl : (backTo pos (starEach es X.env)).any (·.1) = false := by rfl) :
    EE X (.Call (.Name x p) (e :: es) [] pos) σ H d := fun H1 l Q k =>
  ⟨_, pe_callB hc hg hm hv pa_w h1 h2 he hpl, ha H1 l _ fun vs B2 H2 u2 dv => hr B2 H2 u2.b u2.s vs dv Q fun v B3 H3 u3 d3 => k v B3 H3 (u2.trans u3) d3⟩
theorem ee_callTy {x : Str} {p pos : Pos} {T : String} {r : List V → Hp → VK → Prop} (hc : CallR X (.type T) r) (hg : Gl X x) (hm : X.mg x = none) (hv : bootBuiltins x = some (.type T)) (hr : RC1 X.K r H ds d) (ha : EA X (e :: es) σ H ds)
    (h1 : x ≠ "__name__" := by decide) (h2 : (x == ("__debug__" : Str)) = false := by decide) (he : starEach (e :: es) X.env = (false, eval e X.env) :: starEach es X.env := by rfl) (hpl : (backTo pos (starEach es X.env)).any (·.1) = false := by rfl) :
    EE X (.Call (.Name x p) (e :: es) [] pos) σ H d := fun H1 l Q k =>
  ⟨_, pe_callTy hc hg hm hv pa_w h1 h2 he hpl, ha H1 l _ fun vs B2 H2 u2 dv => hr B2 H2 u2.b u2.s vs dv Q fun v B3 H3 u3 d3 => k v B3 H3 (u2.trans u3) d3⟩
end
end Tk


set_option Elab.async false
set_option linter.all false
set_option maxRecDepth 100000
set_option maxHeartbeats 1000000
/-! Tk1: operators on data, statements, defs and their calls. -/
namespace Tk
open PySem PySem.Spec PyProof.Rows L2 GxR
variable [LamTab]

/-! ### kinds -/
def tyName : PyData → String
  | .none => "NoneType"
  | .bool _ => "bool"
  | .int _ => "int"
  | .str _ => "str"
  | .list _ => "list"
  | .tuple _ => "tuple"
  | .dict _ => "dict"
def isInt : PyData → Bool
  | .int _ => true
  | .bool _ => true
  | _ => false
def isBool : PyData → Bool
  | .bool _ => true
  | _ => false
def isStr : PyData → Bool
  | .str _ => true
  | _ => false
def isTup : PyData → Bool
  | .tuple _ => true
  | _ => false
def isLst : PyData → Bool
  | .list _ => true
  | _ => false
def isDct : PyData → Bool
  | .dict _ => true
  | _ => false
theorem kit_int : ∀ d : PyData, kitB (tyName d) "int" = some (isInt d)
  | .none => by decide +kernel
  | .bool _ => by show kitB "bool" "int" = some true; decide +kernel
  | .int _ => by show kitB "int" "int" = some true; decide +kernel
  | .str _ => by show kitB "str" "int" = some false; decide +kernel
  | .list _ => by show kitB "list" "int" = some false; decide +kernel
  | .tuple _ => by show kitB "tuple" "int" = some false; decide +kernel
  | .dict _ => by show kitB "dict" "int" = some false; decide +kernel
theorem kit_bool : ∀ d : PyData, kitB (tyName d) "bool" = some (isBool d)
  | .none => by decide +kernel
  | .bool _ => by show kitB "bool" "bool" = some true; decide +kernel
  | .int _ => by show kitB "int" "bool" = some false; decide +kernel
  | .str _ => by show kitB "str" "bool" = some false; decide +kernel
  | .list _ => by show kitB "list" "bool" = some false; decide +kernel
  | .tuple _ => by show kitB "tuple" "bool" = some false; decide +kernel
  | .dict _ => by show kitB "dict" "bool" = some false; decide +kernel
theorem kit_str : ∀ d : PyData, kitB (tyName d) "str" = some (isStr d)
  | .none => by decide +kernel
  | .bool _ => by show kitB "bool" "str" = some false; decide +kernel
  | .int _ => by show kitB "int" "str" = some false; decide +kernel
  | .str _ => by show kitB "str" "str" = some true; decide +kernel
  | .list _ => by show kitB "list" "str" = some false; decide +kernel
  | .tuple _ => by show kitB "tuple" "str" = some false; decide +kernel
  | .dict _ => by show kitB "dict" "str" = some false; decide +kernel
theorem kit_tup : ∀ d : PyData, kitB (tyName d) "tuple" = some (isTup d)
  | .none => by decide +kernel
  | .bool _ => by show kitB "bool" "tuple" = some false; decide +kernel
  | .int _ => by show kitB "int" "tuple" = some false; decide +kernel
  | .str _ => by show kitB "str" "tuple" = some false; decide +kernel
  | .list _ => by show kitB "list" "tuple" = some false; decide +kernel
  | .tuple _ => by show kitB "tuple" "tuple" = some true; decide +kernel
  | .dict _ => by show kitB "dict" "tuple" = some false; decide +kernel

section
variable {K : PySem.W.Frag} {H H' : Hp}
theorem Dt.ty : ∀ {v : V} {d : PyData}, Dt K H v d → TyX K H v (.type (tyName d))
  | _, _, .non => .base .non
  | _, _, .bl b => .base (.bl b)
  | _, _, .int i => .base (.int i)
  | _, _, .str x => .base (.str x)
  | _, _, .lst _ t _ => t
  | _, _, .tup _ t _ => t
  | _, _, .dct h => .base (.dK h)
/-! ### operators -/
theorem rr_lt {i j : Int} : RR K (rI0 fun i j => .bl (decide (i < j))) H (.int i) (.int j) (.bool (decide (i < j))) := fun B H1 l l1 x y hx hy Q q => by
  cases hx
  cases hy
  exact ⟨i, j, rfl, rfl, q _ B H1 (Up.refl l1) (.bl _)⟩
theorem rr_le {i j : Int} : RR K (rI0 fun i j => .bl (decide (i ≤ j))) H (.int i) (.int j) (.bool (decide (i ≤ j))) := fun B H1 l l1 x y hx hy Q q => by
  cases hx
  cases hy
  exact ⟨i, j, rfl, rfl, q _ B H1 (Up.refl l1) (.bl _)⟩
theorem rr_gt {i j : Int} : RR K (rI0 fun i j => .bl (decide (i > j))) H (.int i) (.int j) (.bool (decide (i > j))) := fun B H1 l l1 x y hx hy Q q => by
  cases hx
  cases hy
  exact ⟨i, j, rfl, rfl, q _ B H1 (Up.refl l1) (.bl _)⟩
theorem rr_add {i j : Int} : RR K (rI0 fun i j => .int (i + j)) H (.int i) (.int j) (.int (i + j)) := fun B H1 l l1 x y hx hy Q q => by
  cases hx
  cases hy
  exact ⟨i, j, rfl, rfl, q _ B H1 (Up.refl l1) (.int _)⟩
theorem rr_sub {i j : Int} : RR K (rI0 fun i j => .int (i - j)) H (.int i) (.int j) (.int (i - j)) := fun B H1 l l1 x y hx hy Q q => by
  cases hx
  cases hy
  exact ⟨i, j, rfl, rfl, q _ B H1 (Up.refl l1) (.int _)⟩
theorem rr_I {C : Int → Int → Prop} {f : Int → Int → Int} {i j : Int} (c : C i j) : RR K (rI C fun i j => .int (f i j)) H (.int i) (.int j) (.int (f i j)) := fun B H1 l l1 x y hx hy Q q => by
  cases hx
  cases hy
  exact ⟨i, j, rfl, rfl, c, q _ B H1 (Up.refl l1) (.int _)⟩
theorem rr_I0 {f : Int → Int → Int} {i j : Int} : RR K (rI0 fun i j => .int (f i j)) H (.int i) (.int j) (.int (f i j)) := fun B H1 l l1 x y hx hy Q q => by
  cases hx
  cases hy
  exact ⟨i, j, rfl, rfl, q _ B H1 (Up.refl l1) (.int _)⟩
def rLtS : R2 := fun x y H Q => ∃ i j, x = .str i ∧ y = .str j ∧ Q (.bl (decide (i.cps.toList < j.cps.toList))) H
def rLeS : R2 := fun x y H Q => ∃ i j, x = .str i ∧ y = .str j ∧ Q (.bl (!decide (j.cps.toList < i.cps.toList))) H
theorem o_ltS {X : Cx} : OpR X (compareOp .Lt) rLtS := op_lt_str
theorem o_leS {X : Cx} : OpR X (compareOp .LtE) rLeS := op_le_str
theorem rr_ltS {i j : Str} : RR K rLtS H (.str i) (.str j) (.bool (decide (i.cps.toList < j.cps.toList))) := fun B H1 l l1 x y hx hy Q q => by
  cases hx
  cases hy
  exact ⟨i, j, rfl, rfl, q _ B H1 (Up.refl l1) (.bl _)⟩
theorem rr_leS {i j : Str} : RR K rLeS H (.str i) (.str j) (.bool (!decide (j.cps.toList < i.cps.toList))) := fun B H1 l l1 x y hx hy Q q => by
  cases hx
  cases hy
  exact ⟨i, j, rfl, rfl, q _ B H1 (Up.refl l1) (.bl _)⟩
theorem rr_eqI {i j : Int} : RR K rEq H (.int i) (.int j) (.bool (decide (i = j))) := fun B H1 l l1 x y hx hy Q q => by
  cases hx
  cases hy
  refine ⟨rfl, ?_⟩
  have e : decide (V.int i = V.int j) = decide (i = j) := by
    by_cases h : i = j
    · rw [h, decide_eq_true rfl, decide_eq_true rfl]
    · rw [decide_eq_false h, decide_eq_false fun z => h (by cases z; rfl)]
  rw [e]
  exact q _ B H1 (Up.refl l1) (.bl _)
theorem rr_eqS {i j : Str} : RR K rEq H (.str i) (.str j) (.bool (decide (i = j))) := fun B H1 l l1 x y hx hy Q q => by
  cases hx
  cases hy
  refine ⟨rfl, ?_⟩
  have e : decide (V.str i = V.str j) = decide (i = j) := by
    by_cases h : i = j
    · rw [h, decide_eq_true rfl, decide_eq_true rfl]
    · rw [decide_eq_false h, decide_eq_false fun z => h (by cases z; rfl)]
  rw [e]
  exact q _ B H1 (Up.refl l1) (.bl _)
theorem rr_neS {i j : Str} : RR K rNe H (.str i) (.str j) (.bool (!decide (i = j))) := fun B H1 l l1 x y hx hy Q q => by
  cases hx
  cases hy
  refine ⟨rfl, ?_⟩
  have e : decide (V.str i = V.str j) = decide (i = j) := by
    by_cases h : i = j
    · rw [h, decide_eq_true rfl, decide_eq_true rfl]
    · rw [decide_eq_false h, decide_eq_false fun z => h (by cases z; rfl)]
  rw [e]
  exact q _ B H1 (Up.refl l1) (.bl _)
theorem rr_neI {i j : Int} : RR K rNe H (.int i) (.int j) (.bool (!decide (i = j))) := fun B H1 l l1 x y hx hy Q q => by
  cases hx
  cases hy
  refine ⟨rfl, ?_⟩
  have e : decide (V.int i = V.int j) = decide (i = j) := by
    by_cases h : i = j
    · rw [h, decide_eq_true rfl, decide_eq_true rfl]
    · rw [decide_eq_false h, decide_eq_false fun z => h (by cases z; rfl)]
  rw [e]
  exact q _ B H1 (Up.refl l1) (.bl _)
theorem rr_eqD {d e : PyData} (n1 : noDict d = true) (n2 : noDict e = true) (s1 : SeqAt.shaped d = true) (s2 : SeqAt.shaped e = true) : RR K (rEqD K) H d e (.bool (PyData.eqv d e)) := fun B H1 l l1 x y hx hy Q q =>
  ⟨d, e, (Dt.le l1 hx).toDp n1, (Dt.le l1 hy).toDp n2, s1, s2, q _ B H1 (Up.refl l1) (.bl _)⟩
theorem rr_neD {d e : PyData} (n1 : noDict d = true) (n2 : noDict e = true) (s1 : SeqAt.shaped d = true) (s2 : SeqAt.shaped e = true) : RR K (rNeD K) H d e (.bool (!PyData.eqv d e)) := fun B H1 l l1 x y hx hy Q q =>
  ⟨d, e, (Dt.le l1 hx).toDp n1, (Dt.le l1 hy).toDp n2, s1, s2, q _ B H1 (Up.refl l1) (.bl _)⟩

/-! items -/
theorem rr_ixT {ds : List PyData} {i : Int} {d : PyData} (h : atI ds i = some d) : RR K (rIxT K) H (.tuple ds) (.int i) d := fun B H1 l l1 x y hx hy Q q => by
  cases hy
  cases hx with
  | tup s t h0 =>
    rename_i a xs
    unfold atI at h
    have el := h0.length
    cases e : ixN ds.length i with
    | none => rw [e] at h; cases h
    | some j =>
      rw [e] at h
      obtain ⟨v, h1, h2⟩ := h0.get (show ds[j]? = some d from h)
      refine ⟨a, xs, i, v, rfl, rfl, sqT_le l1 s, ?_, q _ B H1 (Up.refl l1) h2⟩
      unfold atI
      rw [el, e]
      exact h1
theorem rr_ixL {ds : List PyData} {i : Int} {d : PyData} (h : atI ds i = some d) : RR K (rIxL K) H (.list ds) (.int i) d := fun B H1 l l1 x y hx hy Q q => by
  cases hy
  cases hx with
  | lst s t h0 =>
    rename_i a xs
    unfold atI at h
    have el := h0.length
    cases e : ixN ds.length i with
    | none => rw [e] at h; cases h
    | some j =>
      rw [e] at h
      obtain ⟨v, h1, h2⟩ := h0.get (show ds[j]? = some d from h)
      refine ⟨a, xs, i, v, rfl, rfl, sqL_le l1 s, ?_, q _ B H1 (Up.refl l1) h2⟩
      unfold atI
      rw [el, e]
      exact h1

/-! membership -/
def rInT (K : PySem.W.Frag) : R2 := fun x y H Q => ∃ d ds, Dp K H x d ∧ Dp K H y (.tuple ds) ∧ SeqAt.shaped d = true ∧ SeqAt.shaped (.tuple ds) = true ∧ Q (.bl (ds.any fun z => PyData.eqv z d)) H
def rNotInT (K : PySem.W.Frag) : R2 := fun x y H Q => ∃ d ds, Dp K H x d ∧ Dp K H y (.tuple ds) ∧ SeqAt.shaped d = true ∧ SeqAt.shaped (.tuple ds) = true ∧ Q (.bl (!ds.any fun z => PyData.eqv z d)) H
theorem room_tup {A : Around} {ds : List PyData} {d : PyData} (h : SeqAt.shaped d = true) (hu : A.units + 65 < cLine) : A.units + 1 + min (PyData.depthAll ds) d.depth < cLine := by
  have h1 := SeqAt.depth_of_shaped h
  have h2 : min (PyData.depthAll ds) d.depth ≤ d.depth := Nat.min_le_right _ _
  omega
theorem o_inT {X : Cx} (hu : X.A.units + 65 < cLine) : OpR X (compareOp .In) (rInT X.K) := by
  intro pins s σ H x y v u Q I rx ry h
  obtain ⟨d, ds, hd, he, sd, se, q⟩ := h
  obtain ⟨as, r1⟩ := Dp.reads I d x v hd rx
  obtain ⟨bs, r2⟩ := Dp.reads I (.tuple ds) y u he ry
  exact SeqAt.in_tuple_reads r2 r1 (SeqAt.canLay_of_shaped se) (SeqAt.canLay_of_shaped sd) (room_tup sd hu) ⟨.bl _, H, I, rfl, q⟩
theorem o_notInT {X : Cx} (hu : X.A.units + 65 < cLine) : OpR X (compareOp .NotIn) (rNotInT X.K) := by
  intro pins s σ H x y v u Q I rx ry h
  obtain ⟨d, ds, hd, he, sd, se, q⟩ := h
  obtain ⟨as, r1⟩ := Dp.reads I d x v hd rx
  obtain ⟨bs, r2⟩ := Dp.reads I (.tuple ds) y u he ry
  exact SeqAt.notIn_tuple_reads r2 r1 (SeqAt.canLay_of_shaped se) (SeqAt.canLay_of_shaped sd) (room_tup sd hu) ⟨.bl _, H, I, rfl, q⟩
theorem rr_inT {d : PyData} {ds : List PyData} (n1 : noDict d = true) (n2 : noDicts ds = true) (s1 : SeqAt.shaped d = true) (s2 : SeqAt.shaped (.tuple ds) = true) : RR K (rInT K) H d (.tuple ds) (.bool (ds.any fun z => PyData.eqv z d)) := fun B H1 l l1 x y hx hy Q q =>
  ⟨d, ds, (Dt.le l1 hx).toDp n1, (Dt.le l1 hy).toDp n2, s1, s2, q _ B H1 (Up.refl l1) (.bl _)⟩
theorem rr_notInT {d : PyData} {ds : List PyData} (n1 : noDict d = true) (n2 : noDicts ds = true) (s1 : SeqAt.shaped d = true) (s2 : SeqAt.shaped (.tuple ds) = true) : RR K (rNotInT K) H d (.tuple ds) (.bool (!ds.any fun z => PyData.eqv z d)) := fun B H1 l l1 x y hx hy Q q =>
  ⟨d, ds, (Dt.le l1 hx).toDp n1, (Dt.le l1 hy).toDp n2, s1, s2, q _ B H1 (Up.refl l1) (.bl _)⟩

/-! length -/
def dlen : PyData → Option Nat
  | .str x => some x.length
  | .list xs => some xs.length
  | .tuple xs => some xs.length
  | _ => none
def rLenD (K : PySem.W.Frag) : List V → Hp → VK → Prop := fun xs H Q => ∃ x n, xs = [x] ∧ LenV K x H n ∧ Q (.int (n : Int)) H
theorem c_len {X : Cx} : CallR X (.builtin "len") (rLenD X.K) := call_len
theorem rc_len {d : PyData} {n : Nat} (h : dlen d = some n) (hs : ∀ x, d = .str x → x.length ≤ sizeLine) : RC1 K (rLenD K) H [d] (.int (n : Int)) := fun B H1 l l1 vs hv Q q => by
  cases hv with
  | cons hx ht =>
    cases ht
    cases hx with
    | str x => cases h; exact ⟨_, _, rfl, ⟨hs x rfl, rfl⟩, q _ B H1 (Up.refl l1) (.int _)⟩
    | lst s t h0 => cases h; exact ⟨_, _, rfl, .inl ⟨_, sqL_le l1 s, h0.length.symm⟩, q _ B H1 (Up.refl l1) (.int _)⟩
    | tup s t h0 => cases h; exact ⟨_, _, rfl, .inr ⟨_, sqT_le l1 s, h0.length.symm⟩, q _ B H1 (Up.refl l1) (.int _)⟩
    | non => cases h
    | bl b => cases h
    | int i => cases h
    | dct h0 => cases h
/-! tuple(list), tuple(tuple), list(..) -/
def rTupD (K : PySem.W.Frag) : List V → Hp → VK → Prop := fun xs H Q => ∃ p ys, xs = [V.ref p] ∧ ((SqL K H p ys ∧ ∀ (l : Addr), H l = none → Q (.ref l) (upd H l (.tup ys))) ∨ SqT K H p ys ∧ Q (.ref p) H)
theorem c_tup {X : Cx} : CallR X (.type "tuple") (rTupD X.K) := call_tuple_of
theorem rc_tup {ds : List PyData} : RC1 K (rTupD K) H [.list ds] (.tuple ds) := fun B H1 l l1 vs hv Q q => by
  cases hv with
  | cons hx ht =>
    cases ht
    cases hx with
    | lst s t h0 => exact ⟨_, _, rfl, .inl ⟨sqL_le l1 s, fun p hp => q _ _ _ ((Up.refl l1).new hp fun ps z => by cases z) (.new_tup upd_same (Ds.le (Le.new (l1.there p hp)) h0))⟩⟩
theorem rc_tupT {ds : List PyData} : RC1 K (rTupD K) H [.tuple ds] (.tuple ds) := fun B H1 l l1 vs hv Q q => by
  cases hv with
  | cons hx ht =>
    cases ht
    cases hx with
    | tup s t h0 => exact ⟨_, _, rfl, .inr ⟨sqT_le l1 s, q _ B H1 (Up.refl l1) (.tup s t h0)⟩⟩
end

/-! ### the built-in names -/
structure Blt (mg : Str → Option Value) : Prop where
  isinstance : mg "isinstance" = none
  int : mg "int" = none
  bool : mg "bool" = none
  str : mg "str" = none
  tuple : mg "tuple" = none
  list : mg "list" = none
  dict : mg "dict" = none
  len : mg "len" = none
  all : mg "all" = none
  any : mg "any" = none
  range : mg "range" = none
  enumerate : mg "enumerate" = none
theorem boot_isi : bootBuiltins "isinstance" = some (.builtin "isinstance") := by decide +kernel
theorem boot_len' : bootBuiltins "len" = some (.builtin "len") := by decide +kernel
theorem boot_all' : bootBuiltins "all" = some (.builtin "all") := by decide +kernel
theorem boot_any' : bootBuiltins "any" = some (.builtin "any") := by decide +kernel
theorem boot_int' : bootBuiltins "int" = some (.type "int") := by decide +kernel
theorem boot_bool' : bootBuiltins "bool" = some (.type "bool") := by decide +kernel
theorem boot_str' : bootBuiltins "str" = some (.type "str") := by decide +kernel
theorem boot_tuple' : bootBuiltins "tuple" = some (.type "tuple") := by decide +kernel
theorem boot_list' : bootBuiltins "list" = some (.type "list") := by decide +kernel
theorem boot_dict' : bootBuiltins "dict" = some (.type "dict") := by decide +kernel

section
variable {X : Cx} {e a b c : Expr} {es : List Expr} {σ : L2.St} {H H' : Hp} {d d1 d2 d3 : PyData} {ds : List PyData}
theorem ee_isi {T : String} {xT : Str} {k : Bool} {p p2 pos : Pos} (B : Blt X.mg) (ha : EE X e σ H d) (hk : kitB (tyName d) T = some k) (hT : X.mg xT = none) (hb : bootBuiltins xT = some (.type T)) (hg : Gl X "isinstance" := by rfl) (hg2 : Gl X xT := by rfl)
    (h1 : xT ≠ "__name__" := by decide) (h2 : (xT == ("__debug__" : Str)) = false := by decide)
    (he : starEach [e, .Name xT p2] X.env = (false, eval e X.env) :: starEach [.Name xT p2] X.env := by rfl) (he2 : starEach [.Name xT p2] X.env = (false, eval (.Name xT p2) X.env) :: starEach [] X.env := by rfl)
    (hpl : (backTo pos (starEach [.Name xT p2] X.env)).any (·.1) = false := by rfl) : EE X (.Call (.Name "isinstance" p) [e, .Name xT p2] [] pos) σ H (.bool k) := fun H1 l Q q =>
  ⟨_, pe_callB call_isi hg B.isinstance boot_isi (pa_cons pe_w (pa_cons (pe_bltn (v := .ty T) hg2 hT hb rfl h1 h2) pa_nil he2) he) (by decide) (by decide) he hpl,
    ha H1 l _ fun x B2 H2 u2 dx => ⟨x, .ty T, .type (tyName d), .type T, k, rfl, .ty T, (Dt.le u2.s dx).ty, kit_ty hk, q _ B2 H2 u2 (.bl _)⟩⟩
theorem ee_isInt {p p2 pos : Pos} (B : Blt X.mg) (ha : EE X e σ H d) (hg : Gl X "isinstance" := by rfl) (hg2 : Gl X "int" := by rfl) (he : starEach [e, .Name "int" p2] X.env = (false, eval e X.env) :: starEach [.Name "int" p2] X.env := by rfl) :
    EE X (.Call (.Name "isinstance" p) [e, .Name "int" p2] [] pos) σ H (.bool (isInt d)) := ee_isi B ha (kit_int d) B.int boot_int' hg hg2 (by decide) (by decide) he rfl rfl
theorem ee_isBool {p p2 pos : Pos} (B : Blt X.mg) (ha : EE X e σ H d) (hg : Gl X "isinstance" := by rfl) (hg2 : Gl X "bool" := by rfl) (he : starEach [e, .Name "bool" p2] X.env = (false, eval e X.env) :: starEach [.Name "bool" p2] X.env := by rfl) :
    EE X (.Call (.Name "isinstance" p) [e, .Name "bool" p2] [] pos) σ H (.bool (isBool d)) := ee_isi B ha (kit_bool d) B.bool boot_bool' hg hg2 (by decide) (by decide) he rfl rfl
theorem ee_isStr {p p2 pos : Pos} (B : Blt X.mg) (ha : EE X e σ H d) (hg : Gl X "isinstance" := by rfl) (hg2 : Gl X "str" := by rfl) (he : starEach [e, .Name "str" p2] X.env = (false, eval e X.env) :: starEach [.Name "str" p2] X.env := by rfl) :
    EE X (.Call (.Name "isinstance" p) [e, .Name "str" p2] [] pos) σ H (.bool (isStr d)) := ee_isi B ha (kit_str d) B.str boot_str' hg hg2 (by decide) (by decide) he rfl rfl
theorem ee_isTup {p p2 pos : Pos} (B : Blt X.mg) (ha : EE X e σ H d) (hg : Gl X "isinstance" := by rfl) (hg2 : Gl X "tuple" := by rfl) (he : starEach [e, .Name "tuple" p2] X.env = (false, eval e X.env) :: starEach [.Name "tuple" p2] X.env := by rfl) :
    EE X (.Call (.Name "isinstance" p) [e, .Name "tuple" p2] [] pos) σ H (.bool (isTup d)) := ee_isi B ha (kit_tup d) B.tuple boot_tuple' hg hg2 (by decide) (by decide) he rfl rfl
theorem ee_len {p pos : Pos} {n : Nat} (B : Blt X.mg) (ha : EE X e σ H d) (h : dlen d = some n) (hs : ∀ x, d = .str x → x.length ≤ sizeLine) (hg : Gl X "len" := by rfl) (he : starEach [e] X.env = (false, eval e X.env) :: starEach [] X.env := by rfl) :
    EE X (.Call (.Name "len" p) [e] [] pos) σ H (.int (n : Int)) := ee_callB c_len hg B.len boot_len' (rc_len h hs) (ea_cons ha ea_nil he) (by decide) (by decide) he rfl
theorem ee_tuple {p pos : Pos} (B : Blt X.mg) (ha : EE X e σ H (.list ds)) (hg : Gl X "tuple" := by rfl) (he : starEach [e] X.env = (false, eval e X.env) :: starEach [] X.env := by rfl) :
    EE X (.Call (.Name "tuple" p) [e] [] pos) σ H (.tuple ds) := ee_callTy c_tup hg B.tuple boot_tuple' rc_tup (ea_cons ha ea_nil he) (by decide) (by decide) he rfl

/-! ### statements: B, what data leans on; H, the heap -/
variable {D : L2.Ends} {B : Hp}
theorem wb_nil (h : D.nx σ H) : WB X [] D σ H := ⟨_, pss_nil, h⟩
theorem wb_cons {st : Stmt} {rest : List Stmt} (h : WS X st { D with nx := fun σ' H' => WB X rest D σ' H' } σ H) : WB X (st :: rest) D σ H := ⟨_, pss_cons ps_w pss_w, h⟩
theorem wb_one {st : Stmt} (h : WS X st D σ H) : WB X [st] D σ H := ⟨_, pss_one ps_w, h⟩
theorem ws_ret {pos : Pos} (l : Le B H) (h : EE X e σ B d) (q : ∀ v B' H', Up B H B' H' → Dt X.K B' v d → D.rt v H') : WS X (.Return (some e) pos) D σ H := ⟨_, ps_ret pe_w, h H l _ fun v B' H' u dv => q v B' H' u dv⟩
theorem ws_if {pos : Pos} {sa sb : List Stmt} {k : Bool} (l : Le B H) (h : ET X c σ B k) (h1 : k = true → ∀ H', Le H H' → WB X sa D σ H') (h2 : k = false → ∀ H', Le H H' → WB X sb D σ H') : WS X (.If c sa sb pos) D σ H :=
  ⟨_, ps_if pt_w pss_w pss_w, h H l _ fun H' l => by
    cases k with
    | true =>
      show (if true = true then WB X sa D σ H' else _)
      rw [if_pos rfl]
      exact h1 rfl H' l
    | false =>
      show (if false = true then _ else WB X sb D σ H')
      rw [if_neg Bool.false_ne_true]
      exact h2 rfl H' l⟩
theorem ws_set {pos pos' : Pos} {i : Nat} {x : Str} (l : Le B H) (h : EE X e σ B d) (q : ∀ v B' H', Up B H B' H' → Dt X.K B' v d → D.nx (σ.set i (some v)) H') (nd : X.N.Nodup) (hN : X.N[i]? = some x := by rfl) (hx : L2.Loc X.env.scope x := by first | exact Or.inl rfl | exact Or.inr rfl)
    (hs : swapsWith e (some (.Name x pos')) pos.line X.env = pure false := by rfl) (hf : X.fn x = true ∨ X.env.scope.names.lookup x = some .local := by first | exact Or.inl rfl | exact Or.inr rfl) : WS X (.Assign [.Name x pos'] e pos) D σ H :=
  ⟨_, ps_set nd hN hx pe_w hs hf, h H l _ fun v B' H' u dv => q v B' H' u dv⟩
end

/-! ### defs -/
/-- a def that changes nothing but tables: what it asks of its arguments, what it is worth -/
def spF (K : PySem.W.Frag) (T : List Addr) (n : Nat) (pre : List PyData → Prop) (f : List PyData → PyData) : Sp := fun vs H Q _ => vs.length = n ∧ Tbs T H ∧ ∃ B ds, Le B H ∧ Ds K B vs ds ∧ pre ds ∧ ∀ v B' H', Up B H B' H' → Dt K B' v (f ds) → Q v H'
structure Kn (P : Program) (w : World) (K : PySem.W.Frag) (mg : Str → Option Value) (base : Heap) (k : Nat) (x : Str) (ps : List Str) (sp : Sp) : Prop where
  ex : ∃ (f : Addr) (fd : FuncData), mg x = some (.ref f) ∧ PySem.W.keepIn K (.ref f) = true ∧ FnOk P w K mg base CX0 k f fd ps sp ∧ Binds K fd ps []
section
variable {X : Cx} {e : Expr} {es : List Expr} {σ : L2.St} {H H' : Hp} {ds : List PyData} {T : List Addr} {n k : Nat} {pre : List PyData → Prop} {f : List PyData → PyData} {x : Str} {ps : List Str}
theorem ee_call {P : Program} {w : World} {K : PySem.W.Frag} {mg : Str → Option Value} {base : Heap} {p pos : Pos} {j : Nat} (F : Kn P w K mg base k x ps (spF K T n pre f)) (hr : Room j X.A) (hk : k ≤ j) (t : Tbs T H) (ha : EA X (e :: es) σ H ds) (hp : pre ds) {d : PyData} (hd : f ds = d := by rfl) (hl : ds.length = n := by rfl) (eP : X.prog = P := by rfl) (ew : X.w = w := by rfl) (eK : X.K = K := by rfl) (em : X.mg = mg := by rfl) (eb : X.base = base := by rfl) (hg : Gl X x := by rfl)
    (hdb : (x == ("__debug__" : Str)) = false := by decide) (he : starEach (e :: es) X.env = (false, eval e X.env) :: starEach es X.env := by rfl) (hpl : (backTo pos (starEach es X.env)).any (·.1) = false := by rfl) :
    EE X (.Call (.Name x p) (e :: es) [] pos) σ H d := fun H1 l Q q => by
  subst hd eP ew eK em eb
  obtain ⟨fa, fd, m1, m2, G, bi⟩ := F.ex
  refine ⟨_, pe_call (E := L2.E0) G (hr.mono hk) hg m1 m2 bi .nil pass0 pa_w hdb he hpl, ha H1 l _ fun vs B2 H2 u2 dv => ?_⟩
  rw [List.append_nil]
  exact ⟨by rw [dv.length, hl], (t.le l).le u2.h, B2, ds, u2.s, dv, hp, fun v B3 H3 u3 d3 => q v B3 H3 (u2.trans u3) d3⟩
end
/-- the part B and the tables T of H -/
theorem with_tables {T : List Addr} {B H : Hp} (t : Tbs T H) (l : Le B H) : ∃ B', Le B B' ∧ Le B' H ∧ Tbs T B' ∧ ∀ {B2 H2 : Hp}, Up B' H B2 H2 → Up B H B2 H2 := by
  have l1 : Le B (fun a => if B a = none ∧ a ∉ T then none else H a) := by
    refine ⟨fun a o q n => ?_, fun P tg => ?_, fun a q => ?_⟩
    · show (if B a = none ∧ a ∉ T then none else H a) = some o
      rw [if_neg fun z => by rw [z.1] at q; cases q]
      exact l.keep a o q n
    · obtain ⟨ps, q, r⟩ := tg
      obtain ⟨ps', q', r'⟩ := l.tab P ⟨ps, q, r⟩
      refine ⟨ps', ?_, r'⟩
      show (if B P = none ∧ P ∉ T then none else H P) = _
      rw [if_neg fun z => by rw [z.1] at q; cases q]
      exact q'
    · have q' : (if B a = none ∧ a ∉ T then none else H a) = none := q
      by_cases z : B a = none ∧ a ∉ T
      · exact z.1
      · rw [if_neg z] at q'
        exact l.there a q'
  have l2 : Le (fun a => if B a = none ∧ a ∉ T then none else H a) H := by
    refine ⟨fun a o q n => ?_, fun P tg => ?_, fun a q => ?_⟩
    · have q' : (if B a = none ∧ a ∉ T then none else H a) = some o := q
      by_cases z : B a = none ∧ a ∉ T
      · rw [if_pos z] at q'
        cases q'
      · rw [if_neg z] at q'
        exact q'
    · obtain ⟨ps, q, r⟩ := tg
      have q' : (if B P = none ∧ P ∉ T then none else H P) = _ := q
      by_cases z : B P = none ∧ P ∉ T
      · rw [if_pos z] at q'
        cases q'
      · rw [if_neg z] at q'
        exact ⟨ps, q', r⟩
    · show (if B a = none ∧ a ∉ T then none else H a) = none
      rw [q]
      exact ite_self _
  refine ⟨_, l1, l2, fun P hP => ?_, fun {B2 H2} u => ⟨u.h, l1.trans u.b, u.s, fun a h => ?_⟩⟩
  · obtain ⟨⟨ps, q, r⟩, ns⟩ := t P hP
    refine ⟨⟨ps, ?_, r⟩, ns⟩
    show (if B P = none ∧ P ∉ T then none else H P) = _
    rw [if_neg fun z => z.2 hP]
    exact q
  · rcases u.n a h with z | z | z
    · have z' : (if B a = none ∧ a ∉ T then none else H a) ≠ none := z
      by_cases y : B a = none
      · by_cases x : a ∈ T
        · obtain ⟨⟨ps, q, _⟩, ns⟩ := t a x
          exact .inr (.inr ⟨⟨ps, q⟩, ns⟩)
        · rw [if_pos ⟨y, x⟩] at z'
          exact absurd rfl z'
      · exact .inl y
    · exact .inr (.inl z)
    · exact .inr (.inr z)
/-- the rule for such a def -/
theorem fn_pure {P : Program} {w : World} {K : PySem.W.Frag} {mg : Str → Option Value} {base : Heap} {x qual : Str} {st : Stmt} {fa : Addr} {fd : FuncData} {N ps : List Str} {k n : Nat} {T : List Addr} {pre : List PyData → Prop} {f : List PyData → PyData}
    (F : L2.Fun K x qual st fa fd) (S : FnScope N ps (defScope st)) (hn : n = ps.length)
    (hbody : ∀ (cdv : Value) (A : Around) (outer : List Env) (s : Shared) (H : Hp) (vs : List V) (B : Hp) (ds : List PyData) (Q : VK) (E : XK), Room k (A.deeper (envOfC qual (defScope st) s.heap.objs.size fa cdv)) → fd.code = cdv → Tbs T B → Le B H → Ds K B vs ds → vs.length = n → pre ds →
      (∀ v B' H', Up B H B' H' → Dt K B' v (f ds) → Q v H') → WB (cxOf CX0 P w K mg base N qual (defScope st) fa cdv A outer s H E).nox (defBody st) { nx := fun _ H' => Q .non H', rt := Q } (start N vs) H) :
    FnOk P w K mg base CX0 (k + 1) fa fd ps (spF K T n pre f) := by
  obtain ⟨oc, od, kV, doc, pm, an, cdv, ct, osl, rfl, lk, hcd⟩ := F.ex
  refine fn_of lk hcd S (fun vs H Q E h => by rw [h.1, hn]) fun A outer s H vs Q E hr h => ?_
  obtain ⟨h1, h2, B, ds, l, h3, h4, h5⟩ := h
  obtain ⟨B', l1, l2, t', up⟩ := with_tables h2 l
  obtain ⟨t, t1, t2⟩ := hbody cdv A outer s H vs B' ds Q E hr rfl t' l2 (Ds.le l1 h3) h1 h4 fun v B2 H2 u dv => h5 v B2 H2 (up u) dv
  exact ⟨t, t1.nox, t2⟩
theorem Kn.mk' {P : Program} {w : World} {K : PySem.W.Frag} {mg : Str → Option Value} {base : Heap} {k : Nat} {x qual : Str} {st : Stmt} {fa : Addr} {fd : FuncData} {ps : List Str} {sp : Sp} (F : L2.Fun K x qual st fa fd) (m : mg x = some (.ref fa)) (G : FnOk P w K mg base CX0 k fa fd ps sp) (b : Binds K fd ps []) : Kn P w K mg base k x ps sp :=
  ⟨fa, fd, m, F.kp, G, b⟩
end Tk


set_option Elab.async false
set_option linter.all false
set_option maxRecDepth 100000
set_option maxHeartbeats 1000000
/-! Tk2: what is walked, targets, all and any of a generator expression, list comprehensions. -/
namespace Tk
open PySem PySem.Spec PyProof.Rows L2 GxR Gx
variable [LamTab]

/-! ### what is walked -/
def Walk (K : PySem.W.Frag) (J : It) (B : Hp) (ds : List PyData) : Prop := ∀ B' H', Le B B' → Le B' H' →
  (∀ i, i < ds.length → J.go i H') ∧ J.stop ds.length H' ∧ ∀ i x H'', i < ds.length → J.yld i H' x H'' → ∃ B'' d, Up B' H' B'' H'' ∧ ds[i]? = some d ∧ Dt K B'' x d
def EI (X : Cx) (tg iter : Expr) (σ : L2.St) (B : Hp) (ds : List PyData) : Prop := ∀ H1, Le B H1 → ∀ R : It → Hp → Prop, (∀ J B2 H2, Up B H1 B2 H2 → Walk X.K J B2 ds → R J H2) → WI X tg iter σ H1 R
section
variable {X : Cx} {tg e : Expr} {σ : L2.St} {B : Hp} {ds : List PyData}
theorem ei_tup (h : EE X e σ B (.tuple ds)) : EI X tg e σ B ds := fun H1 l R q => ⟨_, pi_tup pe_w, h H1 l _ fun v B2 H2 u dv => by
  cases dv with
  | tup s t h0 =>
    refine ⟨_, rfl, ⟨_, sqT_le u.s s⟩, q _ B2 H2 u fun B' H' l1 l2 => ⟨fun i hi => ?_, ⟨_, sqT_le (l1.trans l2) s, Nat.le_of_eq h0.length⟩, fun i x H'' hi hy => ?_⟩⟩
    · obtain ⟨v, h1, _⟩ := h0.get (List.getElem?_eq_getElem hi)
      exact ⟨_, v, sqT_le (l1.trans l2) s, h1⟩
    · obtain ⟨e1, hy⟩ := hy
      subst e1
      obtain ⟨d, h1, h2⟩ := h0.getV (hy _ (sqT_le (l1.trans l2) s))
      exact ⟨B', d, Up.refl l2, h1, Dt.le l1 h2⟩⟩
theorem ei_lst (h : EE X e σ B (.list ds)) : EI X tg e σ B ds := fun H1 l R q => ⟨_, pi_list pe_w, h H1 l _ fun v B2 H2 u dv => by
  cases dv with
  | lst s t h0 =>
    refine ⟨_, rfl, ⟨_, sqL_le u.s s⟩, q _ B2 H2 u fun B' H' l1 l2 => ⟨fun i hi => ?_, ⟨_, sqL_le (l1.trans l2) s, Nat.le_of_eq h0.length⟩, fun i x H'' hi hy => ?_⟩⟩
    · obtain ⟨v, h1, _⟩ := h0.get (List.getElem?_eq_getElem hi)
      exact ⟨_, v, sqL_le (l1.trans l2) s, h1⟩
    · obtain ⟨e1, hy⟩ := hy
      subst e1
      obtain ⟨d, h1, h2⟩ := h0.getV (hy _ (sqL_le (l1.trans l2) s))
      exact ⟨B', d, Up.refl l2, h1, Dt.le l1 h2⟩⟩
/-- the signs of a text -/
def signs (x : Str) : List PyData := x.cps.toList.map fun c => .str ⟨#[c]⟩
theorem signs_len (x : Str) : (signs x).length = x.cps.size := by unfold signs; rw [List.length_map]; simp
theorem ei_str {x : Str} (h : EE X e σ B (.str x)) : EI X tg e σ B (signs x) := fun H1 l R q => ⟨_, pi_str pe_w, h H1 l _ fun v B2 H2 u dv => by
  cases dv
  refine ⟨x, rfl, q _ B2 H2 u fun B' H' l1 l2 => ⟨fun i hi => ?_, ?_, fun i y H'' hi hy => ?_⟩⟩
  · have := signs_len x
    show i < x.cps.size
    omega
  · show x.cps.size ≤ _
    rw [signs_len]
    exact Nat.le_refl _
  · obtain ⟨e1, c, h1, h2⟩ := hy
    subst e1 h2
    refine ⟨B', _, Up.refl l2, ?_, .str _⟩
    unfold signs
    rw [List.getElem?_map, Array.getElem?_toList, h1]
    rfl⟩
def upto (n : Nat) : List PyData := (List.range n).map fun (i : Nat) => PyData.int (Int.ofNat i)
theorem ei_range {p pos : Pos} {a : Expr} {n : Int} (BL : X.mg "range" = none) (h : EE X a σ B (.int n)) (h0 : -(2 ^ 62) ≤ n) (h1 : n < 2 ^ 62) (hg : Gl X "range" := by rfl) (hs : starEach [a] X.env = [(false, eval a X.env)] := by rfl)
    (hs2 : starEach [a] X.env = (false, eval a X.env) :: starEach [] X.env := by rfl) : EI X tg (.Call (.Name "range" p) [a] [] pos) σ B (upto n.toNat) := fun H1 l R q => ⟨_, pi_range1 hg BL (pa_cons pe_w pa_nil hs2) hs, h H1 l _ fun v B2 H2 u dv => by
  cases dv
  refine ⟨n, rfl, h0, h1, q _ B2 H2 u fun B' H' l1 l2 => ⟨fun i hi => ?_, ?_, fun i y H'' hi hy => ?_⟩⟩
  · unfold upto at hi
    rw [List.length_map, List.length_range] at hi
    exact hi
  · unfold upto
    rw [List.length_map, List.length_range]
    exact Nat.le_refl _
  · obtain ⟨e1, h2⟩ := hy
    subst e1 h2
    refine ⟨B', _, Up.refl l2, ?_, .int _⟩
    unfold upto at hi ⊢
    rw [List.length_map, List.length_range] at hi
    rw [List.getElem?_map, List.getElem?_range hi, Int.zero_add]
    rfl⟩
end

/-! ### targets -/
def setsS : L2.St → List Nat → List V → L2.St
  | σ, j :: js, v :: vs => setsS (σ.set j (some v)) js vs
  | σ, _, _ => σ
theorem setsS_set : ∀ {js : List Nat} {vs : List V} {σ : L2.St} {j : Nat} {o : Option V}, j ∉ js → setsS (σ.set j o) js vs = (setsS σ js vs).set j o
  | [], _, _, _, _, _ => rfl
  | _ :: _, [], _, _, _, _ => rfl
  | i :: js, v :: vs, σ, j, o, h => by
    have hij : j ≠ i := fun z => h (by rw [z]; exact List.mem_cons_self)
    show setsS ((σ.set j o).set i (some v)) js vs = (setsS (σ.set i (some v)) js vs).set j o
    rw [List.set_comm o (some v) hij]
    exact setsS_set fun z => h (List.mem_cons_of_mem _ z)
theorem setsS_over : ∀ {js : List Nat} {vs ws : List V} {σ : L2.St}, js.Nodup → vs.length = js.length → ws.length = js.length → setsS (setsS σ js vs) js ws = setsS σ js ws
  | [], _, _, _, _, _, _ => rfl
  | i :: js, v :: vs, u :: ws, σ, nd, h1, h2 => by
    obtain ⟨hi, nd⟩ := List.nodup_cons.mp nd
    show setsS ((setsS (σ.set i (some v)) js vs).set i (some u)) js ws = setsS (σ.set i (some u)) js ws
    rw [setsS_set hi, setsS_over nd (Nat.succ.inj h1) (Nat.succ.inj h2), ← setsS_set hi, List.set_set]
  | _ :: _, [], _, _, _, h1, _ => by cases h1
  | _ :: _, _ :: _, [], _, _, _, h2 => by cases h2
def EG (X : Cx) (tg : Expr) (tjs : List Nat) (pat : PyData → Option (List PyData)) : Prop :=
  ∀ (v : V) (d : PyData) (es : List PyData) (σ : L2.St) (B H : Hp), Le B H → Dt X.K B v d → pat d = some es → ∀ Q : L2.St → Hp → Prop, (∀ vs, Ds X.K B vs es → Q (setsS σ tjs vs) H) → WG X tg v σ H Q
def patN : PyData → Option (List PyData) := fun d => some [d]
theorem eg_name {X : Cx} {x : Str} {pos : Pos} {j : Nat} (nd : X.N.Nodup) (hN : X.N[j]? = some x := by rfl) (hx : L2.Loc X.env.scope x := by first | exact Or.inl rfl | exact Or.inr rfl)
    (hf : X.fn x = true ∨ X.env.scope.names.lookup x = some .local := by first | exact Or.inl rfl | exact Or.inr rfl) : EG X (.Name x pos) [j] patN := fun v d es σ B H l dv hp Q q => by
  cases hp
  exact ⟨_, pg_name nd hN hx hf, q [v] (.cons dv .nil)⟩
/-- (a, b, ..), all names -/
def patT (n : Nat) : PyData → Option (List PyData)
  | .tuple es => if es.length = n then some es else none
  | _ => none
theorem patT_some {n : Nat} {d : PyData} {es : List PyData} (h : patT n d = some es) : d = .tuple es ∧ es.length = n := by
  cases d with
  | tuple xs =>
    have h' : (if xs.length = n then some xs else none) = some es := h
    by_cases z : xs.length = n
    · rw [if_pos z] at h'
      cases h'
      exact ⟨rfl, z⟩
    · rw [if_neg z] at h'
      cases h'
  | _ => cases h
/-- the names of a tuple target, set one by one -/
def SetsTo (X : Cx) (es : List Expr) (tjs : List Nat) : Prop := ∃ t, PGs X es t ∧ ∀ (vs : List V) (σ : L2.St) (H : Hp) (Q : L2.St → Hp → Prop), vs.length = tjs.length → Q (setsS σ tjs vs) H → t vs σ H Q
theorem st_nil {X : Cx} : SetsTo X [] [] := ⟨_, pgs_nil, fun vs σ H Q hl q => by
  cases vs with
  | nil => exact ⟨rfl, q⟩
  | cons v vs => cases hl⟩
theorem st_cons {X : Cx} {x : Str} {pos : Pos} {j : Nat} {es : List Expr} {tjs : List Nat} (h : SetsTo X es tjs) (nd : X.N.Nodup) (hN : X.N[j]? = some x := by rfl) (hx : L2.Loc X.env.scope x := by first | exact Or.inl rfl | exact Or.inr rfl)
    (hf : X.fn x = true ∨ X.env.scope.names.lookup x = some .local := by first | exact Or.inl rfl | exact Or.inr rfl)
    (ha : (assignEach (.Name x pos :: es) X.env).map (·.2) = assign (.Name x pos) X.env :: (assignEach es X.env).map (·.2) := by rfl) : SetsTo X (.Name x pos :: es) (j :: tjs) := by
  obtain ⟨t, h1, h2⟩ := h
  refine ⟨_, pgs_cons (pg_name nd hN hx hf) h1 ha, fun vs σ H Q hl q => ?_⟩
  cases vs with
  | nil => cases hl
  | cons v vs => exact ⟨v, vs, rfl, h2 vs _ H Q (Nat.succ.inj hl) q⟩
theorem eg_tup {X : Cx} {es : List Expr} {tjs : List Nat} {k : Nat} {pos : Pos} (hc : X.calm = true) (h : SetsTo X es tjs) (h1 : (assignEach es X.env).length = tjs.length := by rfl) (h2 : (assignEach es X.env).findIdx? (fun x => x.1) = none := by rfl) :
    EG X (.Tuple es k pos) tjs (patT tjs.length) := fun v d es' σ B H l dv hp Q q => by
  obtain ⟨rfl, hl⟩ := patT_some hp
  obtain ⟨t, g1, g2⟩ := h
  cases dv with
  | tup s ty h0 => exact ⟨_, pg_tup hc g1 h1 h2, _, _, rfl, sqT_le l s, by rw [h0.length, hl], g2 _ _ _ _ (by rw [h0.length, hl]) (q _ h0)⟩

/-! ### all, any -/
section
variable {X : Cx} {tg iter elt : Expr} {σ : L2.St} {B : Hp} {ds : List PyData} {scope : Scope} {N : List Str} {js : List (Option Nat)} {gpos p0 pos : Pos} {k : Nat} {c P : Addr} {T : List Addr} {tjs : List Nat} {pat : PyData → Option (List PyData)}
def gIn (X : Cx) (scope : Scope) (N : List Str) (k : Nat) (tg : Expr) : TG := fun v σ H Q => ∀ code A s H0 ex, Room k A → WG (inner X scope code N A s H0 ex) tg v σ H Q
def tIn (X : Cx) (scope : Scope) (N : List Str) (k : Nat) (elt : Expr) : TE := fun σ H Q => ∀ code A s H0 ex, Room k A → WE (inner X scope code N A s H0 ex) elt σ H Q
theorem quant_read {z : Bool} (p : PyData → Bool) (hP : P ∈ T) (t : Tbs T B) (hi : EI X tg iter σ B ds)
    (hg : ∀ code A s H0 ex, Room k A → EG (inner X scope code N A s H0 ex) tg tjs pat) (nd : tjs.Nodup) (hpat : ∀ d ∈ ds, ∃ es, pat d = some es ∧ es.length = tjs.length)
    (body : ∀ B' d es vs, Le B B' → d ∈ ds → pat d = some es → Ds X.K B' vs es → ∀ code A s H0 ex, Room k A → EE (inner X scope code N A s H0 ex) elt (setsS (begun js σ) tjs vs) B' (.bool (p d)))
    {H1 : Hp} (l : Le B H1) {Q : VK} (q : ∀ v B2 H2, Up B H1 B2 H2 → Dt X.K B2 v (.bool (if z then ds.any p else ds.all p)) → Q v H2) : tQuant z P js (WI X tg iter) (gIn X scope N k tg) (tIn X scope N k elt) σ H1 Q := by
  refine hi H1 l _ fun J B2 H2 u2 wk => ⟨((t.le (l.trans u2.h)) P hP).1, fun H3 tb => ?_⟩
  have l3 : Le H2 H3 := Le.tabbed ((t.le (l.trans u2.h)) P hP).1 tb ((t.le (l.trans u2.h)) P hP).2
  have u3 : Up B H1 B2 H3 := u2.tab l3
  refine ⟨fun i m σ' H' => m = ds.length - i ∧ i ≤ ds.length ∧ (∃ B', Le B2 B' ∧ Up B H1 B' H') ∧ (∀ vs : List V, vs.length = tjs.length → setsS σ' tjs vs = setsS (begun js σ) tjs vs) ∧ ∀ d ∈ ds.take i, p d = !z, ⟨ds.length, rfl, Nat.zero_le _, ⟨B2, Le.refl _, u3⟩, fun _ _ => rfl, fun d hd => by rw [List.take_zero] at hd; cases hd⟩, ?_⟩
  rintro i m σ' H' ⟨rfl, hi', ⟨B', lb, u'⟩, hσ, hall⟩
  obtain ⟨w1, w2, w3⟩ := wk B' H' lb u'.s
  by_cases hlt : i < ds.length
  · refine .inr ⟨w1 i hlt, fun x H4 hy => ?_⟩
    obtain ⟨B4, d, u4, hd, dx⟩ := w3 i x H4 hlt hy
    have hmem : d ∈ ds := List.mem_of_getElem? hd
    obtain ⟨es, hes, hel⟩ := hpat d hmem
    intro code A s H0 ex hr
    refine hg code A s H0 ex hr x d es σ' B4 H4 u4.s dx hes _ fun vs dvs => ?_
    have hvl : vs.length = tjs.length := by rw [dvs.length, hel]
    intro code A s H0 ex hr
    rw [hσ vs hvl]
    refine body B4 d es vs ((u2.b.trans lb).trans u4.b) hmem hes dvs code A s H0 ex hr H4 u4.s _ fun v B5 H5 u5 dv => ?_
    cases dv
    have u6 : Up B H1 B5 H5 := (u'.trans u4).trans u5
    refine ⟨p d, rfl, fun e => ?_, fun e => ?_⟩
    · refine q _ B5 H5 u6 ?_
      have e2 : (if z then ds.any p else ds.all p) = z := by
        cases z with
        | true => exact List.any_eq_true.mpr ⟨d, hmem, e⟩
        | false =>
          cases h : ds.all p with
          | false => rfl
          | true =>
            rw [List.all_eq_true.mp h d hmem] at e
            cases e
      rw [e2]
      exact .bl z
    · refine ⟨ds.length - (i + 1), by omega, rfl, hlt, ⟨B5, (lb.trans u4.b).trans u5.b, u6⟩, fun ws hw => setsS_over nd hvl hw, fun d' hd' => ?_⟩
      rw [List.take_add_one, hd] at hd'
      rcases List.mem_append.mp hd' with y | y
      · exact hall d' y
      · have y' : d' = d := by simpa using y
        rw [y']
        cases h : p d <;> cases z <;> first | rfl | exact absurd h e
  · have ei : i = ds.length := by omega
    subst ei
    rw [List.take_length] at hall
    refine .inl ⟨w2, q _ B' H' u' ?_⟩
    have e2 : (if z then ds.any p else ds.all p) = !z := by
      cases z with
      | true =>
        cases h : ds.any p with
        | false => rfl
        | true =>
          obtain ⟨d, hd, hp⟩ := List.any_eq_true.mp h
          rw [hall d hd] at hp
          cases hp
      | false => exact List.all_eq_true.mpr hall
    rw [e2]
    exact .bl _
theorem hb_in : ∀ (code : Value) (A : Around) (s : Shared) (H : Hp) (ex : List Addr), Room k A → PG (inner X scope code N A s H ex) tg (gIn X scope N k tg) ∧ PE (inner X scope code N A s H ex) elt (tIn X scope N k elt) := fun code A s H0 ex hr =>
  ⟨⟨fun pins s' σ H v u Q I r h => pg_w.run pins s' σ H v u Q I r (h code A s H0 ex hr)⟩, ⟨fun pins s' σ H Q I h => pe_w.run pins s' σ H Q I (h code A s H0 ex hr)⟩⟩
theorem ee_all (p : PyData → Bool) (hr : Room (k + 1) X.A) (BL : X.mg "all" = none) (TB : TabB X.base X.mg c P) (hcode : X.env.code = .ref c) (S : ScopeOk X scope N js) (hP : P ∈ T) (t : Tbs T B) (hi : EI X tg iter σ B ds)
    (hg : ∀ code A s H0 ex, Room k A → EG (inner X scope code N A s H0 ex) tg tjs pat) (nd : tjs.Nodup) (hpat : ∀ d ∈ ds, ∃ es, pat d = some es ∧ es.length = tjs.length)
    (body : ∀ B' d es vs, Le B B' → d ∈ ds → pat d = some es → Ds X.K B' vs es → ∀ code A s H0 ex, Room k A → EE (inner X scope code N A s H0 ex) elt (setsS (begun js σ) tjs vs) B' (.bool (p d)))
    (hgl : Gl X "all" := by rfl) (hs : ∀ v, genFold iter X.env v = pure v := by intro _; rfl)
    (he : starEach [.GeneratorExp elt [⟨tg, iter, [], 0⟩] scope gpos] X.env = (false, eval (.GeneratorExp elt [⟨tg, iter, [], 0⟩] scope gpos) X.env) :: starEach [] X.env := by rfl) :
    EE X (.Call (.Name "all" p0) [.GeneratorExp elt [⟨tg, iter, [], 0⟩] scope gpos] [] pos) σ B (.bool (ds.all p)) := fun H1 l Q q =>
  ⟨_, pe_allG hr hgl BL boot_all' TB hcode S pi_w hb_in hs he, quant_read (z := false) p hP t hi hg nd hpat body l q⟩
theorem ee_any (p : PyData → Bool) (hr : Room (k + 1) X.A) (BL : X.mg "any" = none) (TB : TabB X.base X.mg c P) (hcode : X.env.code = .ref c) (S : ScopeOk X scope N js) (hP : P ∈ T) (t : Tbs T B) (hi : EI X tg iter σ B ds)
    (hg : ∀ code A s H0 ex, Room k A → EG (inner X scope code N A s H0 ex) tg tjs pat) (nd : tjs.Nodup) (hpat : ∀ d ∈ ds, ∃ es, pat d = some es ∧ es.length = tjs.length)
    (body : ∀ B' d es vs, Le B B' → d ∈ ds → pat d = some es → Ds X.K B' vs es → ∀ code A s H0 ex, Room k A → EE (inner X scope code N A s H0 ex) elt (setsS (begun js σ) tjs vs) B' (.bool (p d)))
    (hgl : Gl X "any" := by rfl) (hs : ∀ v, genFold iter X.env v = pure v := by intro _; rfl)
    (he : starEach [.GeneratorExp elt [⟨tg, iter, [], 0⟩] scope gpos] X.env = (false, eval (.GeneratorExp elt [⟨tg, iter, [], 0⟩] scope gpos) X.env) :: starEach [] X.env := by rfl) :
    EE X (.Call (.Name "any" p0) [.GeneratorExp elt [⟨tg, iter, [], 0⟩] scope gpos] [] pos) σ B (.bool (ds.any p)) := fun H1 l Q q =>
  ⟨_, pe_anyG hr hgl BL boot_any' TB hcode S pi_w hb_in hs he, quant_read (z := true) p hP t hi hg nd hpat body l q⟩
end

/-! ### list comprehensions -/
section
variable {X : Cx} {tg iter elt : Expr} {ifs : List Expr} {σ : L2.St} {B : Hp} {ds : List PyData} {scope : Scope} {own : List (Str × Nat)} {pos : Pos} {tjs : List Nat} {pat : PyData → Option (List PyData)}
abbrev blkX (X : Cx) (s : Shared) (H : Hp) (scope : Scope) (C : Addr) (cl : List (Str × Addr)) (fp : List Addr) : Cx := X.blk s H scope (compEnvC scope cl C X.env) fp
def WTs (X : Cx) (ifs : List Expr) : TT := fun σ H Q => ∃ t, PTs X ifs t ∧ t σ H Q
theorem pts_w : PTs X ifs (WTs X ifs) := ⟨fun pins s σ H Q I ⟨t, h, q⟩ => h.run pins s σ H Q I q⟩
def ETs (X : Cx) (ifs : List Expr) (σ : L2.St) (B : Hp) (b : Bool) : Prop := ∀ H1, Le B H1 → ∀ Q : Bool → Hp → Prop, (∀ H2, Le H1 H2 → Q b H2) → WTs X ifs σ H1 Q
theorem ets_nil : ETs X [] σ B true := fun H1 l Q q => ⟨_, pts_nil, q H1 (Le.refl _)⟩
theorem ets_one {c : Expr} {b : Bool} (h : ET X c σ B b) : ETs X [c] σ B b := fun H1 l Q q => ⟨_, pts_one pt_w, h H1 l Q q⟩
theorem lc_read (p : PyData → Bool) (f : PyData → PyData) (hc : X.calm = true) (nd : X.N.Nodup) (hi : EI X tg iter σ B ds)
    (hg : ∀ s H C cl fp, EG (blkX X s H scope C cl fp) tg tjs pat) (hpat : ∀ d ∈ ds, ∃ es, pat d = some es ∧ es.length = tjs.length)
    (hw : ∀ vs : List V, vs.length = tjs.length → wipe (setsS (wipe σ (own.map (·.2))) tjs vs) (own.map (·.2)) = wipe σ (own.map (·.2)))
    (test : ∀ B' d es vs, Le B B' → d ∈ ds → pat d = some es → Ds X.K B' vs es → ∀ s H C cl fp, ETs (blkX X s H scope C cl fp) ifs (setsS (wipe σ (own.map (·.2))) tjs vs) B' (p d))
    (body : ∀ B' d es vs, Le B B' → d ∈ ds → p d = true → pat d = some es → Ds X.K B' vs es → ∀ s H C cl fp, EE (blkX X s H scope C cl fp) elt (setsS (wipe σ (own.map (·.2))) tjs vs) B' (f d))
    (hsz : ds.length < sizeLine) :
    ∀ H1, Le B H1 → ∀ Q : VK, (∀ D acc B2 H2, H1 D = none → Up B H1 B2 H2 → B2 D = some (.lst acc) → H2 D = some (.lst acc) → Ds X.K B2 acc ((ds.filter p).map f) → Q (.ref D) H2) → tLc (WI X tg iter) (fun v σ H Q => ∀ s H0 C cl fp, WG (blkX X s H0 scope C cl fp) tg v σ H Q) (fun σ H Q => ∀ s H0 C cl fp, WTs (blkX X s H0 scope C cl fp) ifs σ H Q) (fun σ H Q => ∀ s H0 C cl fp, WE (blkX X s H0 scope C cl fp) elt σ H Q) (own.map (·.2)) σ H1 Q := fun H1 l Q q => by
  refine hi H1 l _ fun J B2 H2 u2 wk D hD => ?_
  have hD1 : H1 D = none := u2.h.there D hD
  refine ⟨fun i m H' => m = ds.length - i ∧ i ≤ ds.length ∧ ∃ B' acc, Le B2 B' ∧ Up B H1 B' H' ∧ B' D = none ∧ H' D = some (.lst acc) ∧ Ds X.K B' acc (((ds.take i).filter p).map f), ⟨ds.length, rfl, Nat.zero_le _, B2, [], Le.refl _, ⟨u2.h.trans (Le.new hD), u2.b, u2.s.trans (Le.new hD), u2.n⟩, u2.s.there D hD, upd_same, by rw [List.take_zero]; exact .nil⟩, ?_⟩
  rintro i m H' ⟨rfl, hi', B', acc, lb, u', hBD, hacc, dacc⟩
  obtain ⟨w1, w2, w3⟩ := wk B' H' lb u'.s
  by_cases hlt : i < ds.length
  · refine .inr ⟨w1 i hlt, fun H'' => ∃ B'' acc', Le B2 B'' ∧ Up B H1 B'' H'' ∧ B'' D = none ∧ H'' D = some (.lst acc') ∧ Ds X.K B'' acc' (((ds.take (i + 1)).filter p).map f), fun H'' h => ⟨ds.length - (i + 1), by omega, rfl, hlt, h⟩, fun x H4 hy => ?_⟩
    obtain ⟨B4, d, u4, hd, dx⟩ := w3 i x H4 hlt hy
    have hmem : d ∈ ds := List.mem_of_getElem? hd
    obtain ⟨es, hes, hel⟩ := hpat d hmem
    have hB4D : B4 D = none := by
      cases h : B4 D with
      | none => rfl
      | some o =>
        rcases u4.n D (by rw [h]; simp) with y | y | ⟨⟨ps, y⟩, _⟩
        · exact absurd hBD y
        · rw [hacc] at y; cases y
        · rw [hacc] at y; cases y
    have hH4D : H4 D = some (.lst acc) := u4.h.keep D _ hacc fun ps z => by cases z
    intro s H0 C cl fp
    refine hg s H0 C cl fp x d es _ B4 H4 u4.s dx hes _ fun vs dvs => ?_
    have hvl : vs.length = tjs.length := by rw [dvs.length, hel]
    refine ⟨hw vs hvl, fun s H0 C cl fp => test B4 d es vs ((u2.b.trans lb).trans u4.b) hmem hes dvs s H0 C cl fp H4 u4.s _ fun H5 l5 => ?_⟩
    have ta : ds.take (i + 1) = ds.take i ++ [d] := by rw [List.take_add_one, hd]; rfl
    have hH5D : H5 D = some (.lst acc) := l5.keep D _ hH4D fun ps z => by cases z
    have u5 : Up B H1 B4 H5 := (u'.trans u4).tab l5
    cases hpd : p d with
    | true =>
      rw [if_pos rfl]
      intro s H0 C cl fp
      refine body B4 d es vs ((u2.b.trans lb).trans u4.b) hmem hpd hes dvs s H0 C cl fp H5 u5.s _ fun v B6 H6 u6 dv => ?_
      have hB6D : B6 D = none := by
        cases h : B6 D with
        | none => rfl
        | some o =>
          rcases u6.n D (by rw [h]; simp) with y | y | ⟨⟨ps, y⟩, _⟩
          · exact absurd hB4D y
          · rw [hH5D] at y; cases y
          · rw [hH5D] at y; cases y
      have hlen : acc.length < sizeLine := by
        have e1 := dacc.length
        rw [List.length_map] at e1
        have e2 := List.length_filter_le p (ds.take i)
        have e3 : (ds.take i).length ≤ ds.length := by rw [List.length_take]; exact Nat.min_le_right _ _
        omega
      refine ⟨acc, u6.h.keep D _ hH5D (fun ps z => by cases z), hlen, B6, acc ++ [v], (lb.trans u4.b).trans u6.b, ?_, hB6D, upd_same, ?_⟩
      · have u7 := u5.trans u6
        exact ⟨u7.h.mut hD1, u7.b, u7.s.mut hB6D, u7.n⟩
      · rw [ta, List.filter_append, List.map_append, List.filter_cons, if_pos hpd]
        exact (Ds.le (u4.b.trans u6.b) dacc).snoc dv
    | false =>
      rw [if_neg Bool.false_ne_true]
      refine ⟨B4, acc, lb.trans u4.b, u5, hB4D, hH5D, ?_⟩
      rw [ta, List.filter_append, List.map_append, List.filter_cons, if_neg (by rw [hpd]; exact Bool.false_ne_true)]
      have := Ds.le u4.b dacc
      simpa using this
  · have ei : i = ds.length := by omega
    subst ei
    rw [List.take_length] at dacc
    refine .inl ⟨w2, ?_⟩
    have hDn : ∀ ps, HO.lst acc ≠ .tbl ps := fun ps z => by cases z
    have u8 : Up B H1 (upd B' D (.lst acc)) H' := by
      refine ⟨u'.h, u'.b.trans (Le.new hBD), ⟨fun a o qa n => ?_, fun P' t => ?_, fun a qa => ?_⟩, fun a qa => ?_⟩
      · by_cases z : a = D
        · rw [z, upd_same] at qa
          rw [z, hacc]
          exact qa
        · rw [upd_ne z] at qa
          exact u'.s.keep a o qa n
      · obtain ⟨ps, q1, q2⟩ := t
        by_cases z : P' = D
        · rw [z, upd_same] at q1
          cases q1
        · rw [upd_ne z] at q1
          exact u'.s.tab P' ⟨ps, q1, q2⟩
      · by_cases z : a = D
        · rw [z, hacc] at qa
          cases qa
        · rw [upd_ne z]
          exact u'.s.there a qa
      · by_cases z : a = D
        · rw [z]
          exact .inr (.inl hD1)
        · rw [upd_ne z] at qa
          exact u'.n a qa
    exact q D acc _ _ hD1 u8 upd_same hacc (Ds.le (Le.new hBD) dacc)
theorem ee_lcR (p : PyData → Bool) (f : PyData → PyData) (hc : X.calm = true) (nd : X.N.Nodup) (hi : EI X tg iter σ B ds) (hb : BlkOk X.N X.env.scope scope own)
    (hg : ∀ s H C cl fp, EG (blkX X s H scope C cl fp) tg tjs pat) (hpat : ∀ d ∈ ds, ∃ es, pat d = some es ∧ es.length = tjs.length)
    (hw : ∀ vs : List V, vs.length = tjs.length → wipe (setsS (wipe σ (own.map (·.2))) tjs vs) (own.map (·.2)) = wipe σ (own.map (·.2)))
    (test : ∀ B' d es vs, Le B B' → d ∈ ds → pat d = some es → Ds X.K B' vs es → ∀ s H C cl fp, ETs (blkX X s H scope C cl fp) ifs (setsS (wipe σ (own.map (·.2))) tjs vs) B' (p d))
    (body : ∀ B' d es vs, Le B B' → d ∈ ds → p d = true → pat d = some es → Ds X.K B' vs es → ∀ s H C cl fp, EE (blkX X s H scope C cl fp) elt (setsS (wipe σ (own.map (·.2))) tjs vs) B' (f d))
    (hsz : ds.length < sizeLine) (hs : ∀ x, foldedSetIterable iter X.env x = pure x := by intro _; rfl) :
    ∀ H1, Le B H1 → ∀ Q : VK, (∀ D acc B2 H2, H1 D = none → Up B H1 B2 H2 → B2 D = some (.lst acc) → H2 D = some (.lst acc) → Ds X.K B2 acc ((ds.filter p).map f) → Q (.ref D) H2) → WE X (.ListComp elt [⟨tg, iter, ifs, 0⟩] scope pos) σ H1 Q := fun H1 l Q q =>
  ⟨_, pe_lc (wi := WI X tg iter) (g := fun v σ H Q => ∀ s H0 C cl fp, WG (blkX X s H0 scope C cl fp) tg v σ H Q) (tt := fun σ H Q => ∀ s H0 C cl fp, WTs (blkX X s H0 scope C cl fp) ifs σ H Q) (te := fun σ H Q => ∀ s H0 C cl fp, WE (blkX X s H0 scope C cl fp) elt σ H Q) hc nd pi_w hb
    (fun s H C cl fp => ⟨fun pins s' σ H' v u Q I r h => pg_w.run pins s' σ H' v u Q I r (h s H C cl fp)⟩) (fun s H C cl fp => ⟨fun pins s' σ H' Q I h => pts_w.run pins s' σ H' Q I (h s H C cl fp)⟩) (fun s H C cl fp => ⟨fun pins s' σ H' Q I h => pe_w.run pins s' σ H' Q I (h s H C cl fp)⟩) hs, lc_read p f hc nd hi hg hpat hw test body hsz H1 l Q q⟩
theorem ee_lc (p : PyData → Bool) (f : PyData → PyData) (hc : X.calm = true) (nd : X.N.Nodup) (hi : EI X tg iter σ B ds) (hb : BlkOk X.N X.env.scope scope own)
    (hg : ∀ s H C cl fp, EG (blkX X s H scope C cl fp) tg tjs pat) (hpat : ∀ d ∈ ds, ∃ es, pat d = some es ∧ es.length = tjs.length)
    (hw : ∀ vs : List V, vs.length = tjs.length → wipe (setsS (wipe σ (own.map (·.2))) tjs vs) (own.map (·.2)) = wipe σ (own.map (·.2)))
    (test : ∀ B' d es vs, Le B B' → d ∈ ds → pat d = some es → Ds X.K B' vs es → ∀ s H C cl fp, ETs (blkX X s H scope C cl fp) ifs (setsS (wipe σ (own.map (·.2))) tjs vs) B' (p d))
    (body : ∀ B' d es vs, Le B B' → d ∈ ds → p d = true → pat d = some es → Ds X.K B' vs es → ∀ s H C cl fp, EE (blkX X s H scope C cl fp) elt (setsS (wipe σ (own.map (·.2))) tjs vs) B' (f d))
    (hsz : ds.length < sizeLine) (hs : ∀ x, foldedSetIterable iter X.env x = pure x := by intro _; rfl) :
    EE X (.ListComp elt [⟨tg, iter, ifs, 0⟩] scope pos) σ B (.list ((ds.filter p).map f)) := fun H1 l Q q =>
  ee_lcR p f hc nd hi hb hg hpat hw test body hsz hs H1 l Q fun D acc B2 H2 _ u e _ dv => q _ B2 H2 u (.new_lst e dv)
/-- y = [..] -/
theorem ws_setLc {D : L2.Ends} {H : Hp} {y : Str} {py spos : Pos} {i : Nat} (p : PyData → Bool) (f : PyData → PyData) (l : Le B H) (hc : X.calm = true) (nd : X.N.Nodup) (hi : EI X tg iter σ B ds) (hb : BlkOk X.N X.env.scope scope own)
    (hg : ∀ s H C cl fp, EG (blkX X s H scope C cl fp) tg tjs pat) (hpat : ∀ d ∈ ds, ∃ es, pat d = some es ∧ es.length = tjs.length)
    (hw : ∀ vs : List V, vs.length = tjs.length → wipe (setsS (wipe σ (own.map (·.2))) tjs vs) (own.map (·.2)) = wipe σ (own.map (·.2)))
    (test : ∀ B' d es vs, Le B B' → d ∈ ds → pat d = some es → Ds X.K B' vs es → ∀ s H C cl fp, ETs (blkX X s H scope C cl fp) ifs (setsS (wipe σ (own.map (·.2))) tjs vs) B' (p d))
    (body : ∀ B' d es vs, Le B B' → d ∈ ds → p d = true → pat d = some es → Ds X.K B' vs es → ∀ s H C cl fp, EE (blkX X s H scope C cl fp) elt (setsS (wipe σ (own.map (·.2))) tjs vs) B' (f d))
    (hsz : ds.length < sizeLine) (q : ∀ A acc B2 H2, H A = none → Up B H B2 H2 → B2 A = some (.lst acc) → H2 A = some (.lst acc) → Ds X.K B2 acc ((ds.filter p).map f) → D.nx (σ.set i (some (.ref A))) H2)
    (hsw : swapsWith (.ListComp elt [⟨tg, iter, ifs, 0⟩] scope pos) (some (.Name y py)) spos.line X.env = pure true) (hy : X.N[i]? = some y := by rfl) (hyl : X.env.scope.names.lookup y = some .local := by rfl) (hs : ∀ x, foldedSetIterable iter X.env x = pure x := by intro _; rfl) :
    WS X (.Assign [.Name y py] (.ListComp elt [⟨tg, iter, ifs, 0⟩] scope pos) spos) D σ H :=
  ⟨_, ps_setLc (wi := WI X tg iter) (g := fun v σ H Q => ∀ s H0 C cl fp, WG (blkX X s H0 scope C cl fp) tg v σ H Q) (tt := fun σ H Q => ∀ s H0 C cl fp, WTs (blkX X s H0 scope C cl fp) ifs σ H Q) (te := fun σ H Q => ∀ s H0 C cl fp, WE (blkX X s H0 scope C cl fp) elt σ H Q) hc nd hy hyl hsw pi_w hb
    (fun s H C cl fp => ⟨fun pins s' σ H' v u Q I r h => pg_w.run pins s' σ H' v u Q I r (h s H C cl fp)⟩) (fun s H C cl fp => ⟨fun pins s' σ H' Q I h => pts_w.run pins s' σ H' Q I (h s H C cl fp)⟩) (fun s H C cl fp => ⟨fun pins s' σ H' Q I h => pe_w.run pins s' σ H' Q I (h s H C cl fp)⟩) hs, lc_read p f hc nd hi hg hpat hw test body hsz H l _ fun A acc B2 H2 h u e1 e2 dv => q A acc B2 H2 h u e1 e2 dv⟩
end
end Tk


set_option Elab.async false
set_option linter.all false
set_option maxRecDepth 100000
set_option maxHeartbeats 1000000
/-! Tk3: enumerate of a tuple. -/
namespace Tk
open PySem PySem.Spec PyProof.Rows L2 GxR Gx
variable [LamTab]

theorem enum_new1 {v : Value} {o : Obj} {Hb : Heap → Prop} (B : Begins v o Hb) :
    Meets (Builtin.«enumerate.__new__» ⟨[.type "enumerate", v], []⟩) (fun _ R s => Hb s.heap ∧
      R (.ok (.ret (.ref (s.heap.push o).objs.size))) { s with heap := (s.heap.push o).push { cls := .type "enumerate", data := .fields #[.none, .bool false, .ref s.heap.objs.size, rawInt 0, .none, .none] } }) :=
  .of_wp fun prog w A R s h => by
    obtain ⟨hp, g, d, tk, os⟩ := s; obtain ⟨h1, h⟩ := h
    have hsub := sub_enumerate
    have q1 : ∀ {A' : Around} {E : Value → Shared → Prop} {Q : Value → Shared → Prop}, Q (.ref hp.objs.size) ⟨hp.push o, g, d, tk, os⟩ → wpAny (model prog w) A' (pyIter v) Q E ⟨hp, g, d, tk, os⟩ :=
      fun q => B.iter prog w _ _ ⟨hp, g, d, tk, os⟩ _ h1 q
    wp_walk using q1
    refine wpAny_stack_any fun st => wpAny_pure ?_
    split
    · rename_i c _ _ _ _ _
      cases (c == Value.type "enumerate")
      · wp_walk using q1
        exact ⟨_, rfl, h⟩
      · wp_walk using q1
        exact ⟨_, rfl, h⟩
    · wp_walk using q1
      exact ⟨_, rfl, h⟩

section
variable {prog : Program} {w : World} {A : Around} {E : Value → Shared → Prop} {s : Shared}
theorem call_enum1 {v : Value} {o : Obj} {Hb : Heap → Prop} {Q : Value → Shared → Prop} (B : Begins v o Hb) (h1 : Hb s.heap)
    (h : ∀ h', IsEnum h' (s.heap.objs.size + 1) s.heap.objs.size 0 .none → h'.get? s.heap.objs.size = some o → h'.objs.size = s.heap.objs.size + 2 →
      (∀ b o, s.heap.get? b = some o → h'.get? b = some o) → Q (.ref (s.heap.objs.size + 1)) { s with heap := h' }) :
    wpAny (model prog w) A (call (.type "enumerate") [v]) Q E s := by
  refine callType_new F.called_enumerate (by decide) (F.typeCall_enumerate_1 _) (F.newCall_enumerate_1 _) (fun obj => F.args_object_init_2 obj _) F.entry_enumerate_new (enum_new1 B) ⟨h1, ?_⟩
  have hz : (s.heap.push o).objs.size = s.heap.objs.size + 1 := Heap.size_push ..
  show _ ∧ _
  rw [hz]
  have he : IsEnum ((s.heap.push o).push { cls := .type "enumerate", data := .fields #[.none, .bool false, .ref s.heap.objs.size, rawInt 0, .none, .none] }) (s.heap.objs.size + 1) s.heap.objs.size 0 .none := by
    have := Heap.get?_push_size (s.heap.push o) (o := { cls := .type "enumerate", data := .fields #[.none, .bool false, .ref s.heap.objs.size, rawInt 0, .none, .none] }) rfl
    rw [hz] at this; exact this
  refine ⟨⟨_, he, rfl⟩, h _ he (Heap.get?_push_of_some _ (Heap.get?_push_size _ B.free)) (by rw [Heap.size_push, hz]) fun b o x => Heap.get?_push_of_some _ (Heap.get?_push_of_some _ x)⟩
end

section
variable {prog : Program} {w : World} {A : Around} {E : Value → Shared → Prop} {s : Shared}
theorem enum_endT {e it l : Addr} {i : Nat} {items : Array Value} {old : Value} {Q : Option Value → Shared → Prop} (hh : A.handled = none) (he : IsEnum s.heap e it i old) (hit : s.heap.IsTupleIter it l i) (hl : s.heap.IsTuple l items) (hx : items[i]? = none)
    (hQ : ∀ h', Heap.ExtBut it s.heap h' → Q none { s with heap := h' }) : wpAny (model prog w) A (pyNext (.ref e)) Q E s := by
  have hT : s.TypeIs (.ref e) "enumerate" := ⟨_, he, rfl⟩
  unfold pyNext
  refine wpAny_bind (wpAny_attempt (wpAny_callSpecial?_slot (name := Str.ofString "__next__") hT F.slot_enumerate_next
    (wpAny_call_entry F.slot_enumerate_next hT F.entry_enumerate_next ?_ (F.args_enumerate_next_1 _))))
  show wpAny _ _ (field (.ref e) 2 >>= _) _ _ _
  refine wpAny_bind (wpAny_field he rfl (x := .ref it) rfl ?_)
  refine wpAny_bind (wpAny_nextOf_tuple_end hh hit hl hx fun h' x he' hx' => ?_)
  obtain ⟨o, ho, hc⟩ := hx'
  refine wpAny_bind (wpAny_isInstance (T := "StopIteration") (b := true) ⟨o, ho, hc⟩ isSubtype_stop ?_)
  exact wpAny_pure (hQ _ he')
end

def ItT (K : PySem.W.Frag) (a : Addr) : It :=
  ⟨fun i H => ∃ xs x, SqT K H a xs ∧ xs[i]? = some x, fun i H v H' => ∃ t x, v = .ref t ∧ H t = none ∧ H' = upd H t (.tup [.int (i : Int), x]) ∧ ∀ xs, SqT K H a xs → xs[i]? = some x, fun i H => ∃ xs, SqT K H a xs ∧ xs.length ≤ i⟩
theorem turn_enumT {P : Program} {w : World} {K : PySem.W.Frag} {elts : List Expr} {kk : Nat} {tpos : Pos} (a e it : Addr) :
    Turn P w K (.Tuple elts kk tpos) (ItT K a) [e, it] e (fun i h => (∃ old, IsEnum h e it ((i : Nat) : Int) old) ∧ h.IsTupleIter it a i ∧ e ≠ it) where
  mem := by simp
  obj := fun i h st b hb => by
    obtain ⟨⟨old, he⟩, ⟨o, ho, hc, hd⟩, _⟩ := st
    have e' : b = e ∨ b = it := by simpa using hb
    rcases e' with z | z
    · rw [z]; exact ⟨_, he, fun v q => nomatch q⟩
    · rw [z]; exact ⟨o, ho, fun v q => by rw [hd] at q; cases q⟩
  keep := fun i h h' st k => let ⟨⟨old, he⟩, hi, hne⟩ := st; ⟨⟨old, k e (by simp) _ he⟩, hi.at fun o q => k it (by simp) o q, hne⟩
  item := by
    intro X hP hw hK hc i pins s σ H E I hf st hg
    subst hP hw hK
    obtain ⟨⟨old, he⟩, hit, hne⟩ := st
    obtain ⟨xs, x, hq, hx⟩ := hg
    obtain ⟨its, rv, p, hz⟩ := I.tuple hq
    obtain ⟨u, hu, ru⟩ := rv.get hx
    have hel : e < s.heap.objs.size := Heap.lt_size he
    have hil : it < s.heap.objs.size := by obtain ⟨_, q, _⟩ := hit; exact Heap.lt_size q
    have hT0 : s.heap.IsTuple a its.toArray := p
    have hai : a ≠ it := fun z => by
      obtain ⟨o1, q1, c1, _⟩ := hit
      obtain ⟨o2, q2, c2, _⟩ := hT0
      rw [z, q1] at q2
      cases q2
      rw [c1] at c2
      exact absurd c2 (by decide)
    have hae : e ∉ [it, a] := fun z => by
      have z' : e = it ∨ e = a := by simpa using z
      rcases z' with y | y
      · exact hne y
      · obtain ⟨o2, q2, c2, _⟩ := hT0
        have he2 := he
        unfold IsEnum at he2
        rw [y, q2] at he2
        cases he2
        have c3 : Value.type "enumerate" = Value.type "tuple" := c2
        exact absurd c3 (by decide)
    have hlen : i < its.toArray.size := by
      have := (List.getElem?_eq_some_iff.mp hu).1
      simpa using this
    refine wpAny_pyNext_enum_itemC (Draws.tuple (prog := X.prog) (w := X.w) (A := X.A.in1) (I.ok.hd hc) it a hai its.toArray) he ⟨hit, hT0⟩ hlen hne hae fun v h' tk hv ho hst' hT hsz hk => ?_
    have ev : v = u := by
      have hv' : its.toArray[i]? = some v := hv
      have hu' : its.toArray[i]? = some u := by simpa using hu
      rw [hv'] at hu'
      exact Option.some.inj hu'
    subst ev
    refine ⟨_, rfl, wpAny_letOwnedTupleGo_enum (s := { s with heap := h', toks := tk + 1 }) ho fun h'' he' sb => ?_⟩
    have hT2 : h''.get? s.heap.objs.size = some { cls := .type "tuple", data := .seq #[.int i tk, v] } := (sb.2 _ (Nat.ne_of_gt hel)).trans hT
    have new : ObjOk X.prog X.w (upd H s.heap.objs.size (.tup [.int (i : Nat), x])) h'' s.heap.objs.size (.tup [.int (i : Nat), x]) :=
      ⟨by show 2 ≤ sizeLine; decide, [.int i tk, v], .cons ⟨_, rfl⟩ (.cons ru .nil), ⟨_, hT2, rfl, _, rfl⟩⟩
    have I1 : Inv X pins σ (upd H s.heap.objs.size (.tup [.int (i : Nat), x])) { s with heap := h'', toks := tk + 1 } :=
      I.turnedNew (ch := [e, it]) (fun b ob hb q => (sb.2 b (fun z => hb (by simp [z]))).trans (hk b ob (fun z => hb (by simp [z])) (fun z => hb (by simp [z])) q)) hf (Nat.le_refl _) new
    refine ⟨.ref s.heap.objs.size, _, I1, rfl, ⟨_, x, rfl, I.hok.fresh (Nat.le_refl _), rfl, fun ys hy => by rw [I.tuple_inj hy hq]; exact hx⟩, ⟨⟨v, ?_⟩, hst'.1.at fun o q => (sb.2 it (Ne.symm hne)).trans q, hne⟩, fun b hb => ?_⟩
    · have e1 : ((i + 1 : Nat) : Int) = (i : Int) + 1 := by omega
      rw [e1]; exact he'
    · have hb' : b < s.heap.objs.size := by
        have e' : b = e ∨ b = it := by simpa using hb
        rcases e' with z | z
        · rw [z]; exact hel
        · rw [z]; exact hil
      rw [upd_ne (Nat.ne_of_lt hb')]
      exact (hf b hb).1
  done := by
    intro X hP hw hK hc i pins s σ H E I hf st hg
    subst hP hw hK
    obtain ⟨⟨old, he⟩, hit, hne⟩ := st
    obtain ⟨xs, hq, hx⟩ := hg
    obtain ⟨its, rv, p, hz⟩ := I.tuple hq
    obtain ⟨f0, f1, f2, f3, f4, f5⟩ := hf it (by simp)
    have hT0 : s.heap.IsTuple a its.toArray := p
    have hai : a ≠ it := fun z => by
      obtain ⟨o1, q1, c1, _⟩ := hit
      obtain ⟨o2, q2, c2, _⟩ := hT0
      rw [z, q1] at q2
      cases q2
      rw [c1] at c2
      exact absurd c2 (by decide)
    have hl := rv.length
    exact enum_endT (I.ok.hd hc) he hit hT0 (by simp; omega) fun h' eb => ⟨rfl, I.turned (t' := s.toks) (fun b o hb q => eb b o hb q) f0 f1 f3 f4 f5⟩
  self := fun A i s Q E st h => let ⟨⟨_, he⟩, _⟩ := st; wpAny_pyIter_enum he h

def iEnumT (K : PySem.W.Frag) (ta : TA) : TI := fun σ H R => ta σ H fun vs H1 => ∃ a xs, vs = [.ref a] ∧ SqT K H1 a xs ∧ R (ItT K a) H1
theorem pi_enumT {X : Cx} {e : Expr} {ta : TA} {p pos tpos : Pos} {elts : List Expr} {kk : Nat} (hg : Gl X "enumerate") (hm : X.mg "enumerate" = none) (ha : PA X [e] ta) (hs : starEach [e] X.env = [(false, eval e X.env)] := by rfl) :
    PI X (.Tuple elts kk tpos) (.Call (.Name "enumerate" p) [e] [] pos) (iEnumT X.K ta) := by
  refine ⟨fun pins s σ H R I h => ?_⟩
  refine Call_ (ld_blt I hg hm boot_enumerate (PyProof.Rows.callWith_type1 (thn (ha.run pos pins s σ H _ I h) fun us s1 ⟨vs, H1, I1, r1, q1⟩ => ?_) hs rfl))
  obtain ⟨a, xs, ex, hq, q⟩ := q1
  subst ex
  cases r1 with
  | cons r rr =>
    cases rr
    cases r
    obtain ⟨its, rv, p', hz⟩ := I1.tuple hq
    refine call_enum1 (begins_tuple a its.toArray) p' fun h' he hit hsz hk => wpAny_pyIter_enum he ?_
    have I2 : Inv X pins σ H1 { s1 with heap := h' } := I1.kept (t' := s1.toks) hk
    refine ⟨s1.heap.objs.size + 1, [s1.heap.objs.size + 1, s1.heap.objs.size], _, _, H1, rfl, I2, turn_enumT a (s1.heap.objs.size + 1) s1.heap.objs.size, ⟨⟨.none, he⟩, ⟨_, hit, rfl, rfl⟩, Nat.succ_ne_self _⟩, fun b hb => ?_, q⟩
    have e' : b = s1.heap.objs.size + 1 ∨ b = s1.heap.objs.size := by simpa using hb
    have hle : s1.heap.objs.size ≤ b := by
      rcases e' with z | z
      · rw [z]; exact Nat.le_add_right _ _
      · rw [z]; exact Nat.le_refl _
    exact I1.fpOk hle (I1.hok.fresh hle)

/-- (0, x), (1, y), .. -/
def nums (k : Nat) : List PyData → List PyData
  | [] => []
  | d :: ds => .tuple [.int (Int.ofNat k), d] :: nums (k + 1) ds
theorem nums_get : ∀ {ds : List PyData} {k i : Nat}, (nums k ds)[i]? = (ds[i]?).map fun d => .tuple [.int (Int.ofNat (k + i)), d]
  | [], _, _ => by simp [nums]
  | d :: ds, k, 0 => by simp [nums]
  | d :: ds, k, i + 1 => by
    have h := nums_get (ds := ds) (k := k + 1) (i := i)
    have e : k + 1 + i = k + (i + 1) := by omega
    rw [e] at h
    simpa [nums] using h
theorem nums_len : ∀ {ds : List PyData} {k : Nat}, (nums k ds).length = ds.length
  | [], _ => rfl
  | d :: ds, k => congrArg Nat.succ nums_len
theorem ei_enumT {X : Cx} {e : Expr} {σ : L2.St} {B : Hp} {ds : List PyData} {p pos tpos : Pos} {elts : List Expr} {kk : Nat} (BL : X.mg "enumerate" = none) (h : EE X e σ B (.tuple ds)) (hg : Gl X "enumerate" := by rfl) (hs : starEach [e] X.env = [(false, eval e X.env)] := by rfl)
    (hs2 : starEach [e] X.env = (false, eval e X.env) :: starEach [] X.env := by rfl) : EI X (.Tuple elts kk tpos) (.Call (.Name "enumerate" p) [e] [] pos) σ B (nums 0 ds) := fun H1 l R q => ⟨_, pi_enumT hg BL (pa_cons pe_w pa_nil hs2) hs, h H1 l _ fun v B2 H2 u dv => by
  cases dv with
  | tup s t h0 =>
    refine ⟨_, _, rfl, sqT_le u.s s, q _ B2 H2 u fun B' H' l1 l2 => ⟨fun i hi => ?_, ⟨_, sqT_le (l1.trans l2) s, by rw [nums_len]; exact Nat.le_of_eq h0.length⟩, fun i x H'' hi hy => ?_⟩⟩
    · rw [nums_len] at hi
      obtain ⟨v, h1, _⟩ := h0.get (List.getElem?_eq_getElem hi)
      exact ⟨_, v, sqT_le (l1.trans l2) s, h1⟩
    · obtain ⟨t', y, e1, e2, e3, hy⟩ := hy
      subst e1 e3
      obtain ⟨d, h1, h2⟩ := h0.getV (hy _ (sqT_le (l1.trans l2) s))
      have hb : B' t' = none := l2.there _ e2
      refine ⟨upd B' t' (.tup [.int (i : Int), y]), .tuple [.int (Int.ofNat i), d], (Up.refl l2).new e2 (fun ps z => by cases z), ?_, .new_tup upd_same (.cons (.int _) (.cons (Dt.le (l1.trans (Le.new hb)) h2) .nil))⟩
      rw [nums_get, h1, Nat.zero_add]
      rfl⟩
end Tk


set_option Elab.async false
set_option linter.all false
set_option maxRecDepth 100000
set_option maxHeartbeats 1000000
/-! Tk4: scopes by a check, truths of ints, data that is small. -/
namespace Tk
open PySem PySem.Spec PyProof.Rows L2 GxR Gx
variable [LamTab]

theorem ds1 {K : PySem.W.Frag} {B : Hp} {vs : List V} {a : PyData} (h : Ds K B vs [a]) : ∃ x, vs = [x] ∧ Dt K B x a := by
  cases h with
  | cons h1 h => cases h; exact ⟨_, rfl, h1⟩
theorem ds2 {K : PySem.W.Frag} {B : Hp} {vs : List V} {a b : PyData} (h : Ds K B vs [a, b]) : ∃ x y, vs = [x, y] ∧ Dt K B x a ∧ Dt K B y b := by
  cases h with
  | cons h1 h =>
    obtain ⟨y, rfl, h2⟩ := ds1 h
    exact ⟨_, y, rfl, h1, h2⟩
theorem ds3 {K : PySem.W.Frag} {B : Hp} {vs : List V} {a b c : PyData} (h : Ds K B vs [a, b, c]) : ∃ x y z, vs = [x, y, z] ∧ Dt K B x a ∧ Dt K B y b ∧ Dt K B z c := by
  cases h with
  | cons h1 h =>
    obtain ⟨y, z, rfl, h2, h3⟩ := ds2 h
    exact ⟨_, y, z, rfl, h1, h2, h3⟩

/-- the scope of a generator expression, by a look -/
def gsB (Nx N : List Str) (sc scope : Scope) (js : List (Option Nat)) : Bool :=
  decide (scope.kind = .function) && !scope.isCoroutine && (scope.names.all fun y => !decide (y.2 = .cell) && (!decide (y.2 = .free) || decide (sc.names.lookup y.1 = some .cell))) && decide (scope.names.lookup (".0" : Str) = some .local) && decide (js.length = N.length) &&
  (List.range js.length).all fun i => match js[i]? with
    | some (some j) => match N[i]? with
      | some x => decide (Nx[j]? = some x) && decide (scope.names.lookup x = some .free) && decide (sc.names.lookup x = some .cell)
      | none => false
    | _ => true
theorem scope_by {X : Cx} {scope : Scope} {N : List Str} {js : List (Option Nat)} {n : Nat} (hc : X.env.cells = cellsFrom n X.env.scope.names []) (h : gsB X.N N X.env.scope scope js = true) : ScopeOk X scope N js := by
  unfold gsB at h
  simp only [Bool.and_eq_true, Bool.or_eq_true, Bool.not_eq_true', decide_eq_true_eq, decide_eq_false_iff_not, List.all_eq_true] at h
  obtain ⟨⟨⟨⟨⟨h1, h2⟩, h3⟩, h4⟩, h5⟩, h6⟩ := h
  refine ⟨h1, h2, fun y hy => (h3 y hy).1, h4, fun y hy e => ?_, h5, fun i j hij => ?_⟩
  · rcases (h3 y hy).2 with z | z
    · exact absurd e z
    · rw [hc]
      exact cell_has z
  · have hi : i < js.length := (List.getElem?_eq_some_iff.mp hij).1
    have q := h6 i (List.mem_range.mpr hi)
    rw [hij] at q
    cases hN : N[i]? with
    | none => rw [hN] at q; simp at q
    | some x =>
      rw [hN] at q
      simp only [Bool.and_eq_true, decide_eq_true_eq] at q
      exact ⟨x, rfl, q.1.1, q.1.2, .inl q.2⟩

section
variable {X : Cx} {e : Expr} {σ : L2.St} {B : Hp}
theorem et_int {i : Int} (ha : EE X e σ B (.int i)) (hs : ∀ whole : Sem Value, PySem.isTrue e X.env whole = (do let v ← whole; standAt e.pos; holding [v] (truthy v)) := by intro _; rfl) : ET X e σ B (i != 0) := fun H1 l Q k =>
  ⟨_, pt_truth pe_w hs, ha H1 l _ fun x B2 H2 u2 dx => by
    cases dx
    exact ⟨i != 0, rfl, k _ u2.h⟩⟩
end

theorem Up.le {B H H' : Hp} (l : Le B H) (k : Le H H') : Up B H B H' := (Up.refl l).tab k
theorem hu65 {A : Around} {k : Nat} (r : Room k A) : A.units + 65 < cLine := by
  have := r.un
  omega
theorem hu64 {A : Around} {k : Nat} (r : Room k A) : A.units + 64 < cLine := by
  have := r.un
  omega
section
variable {X : Cx} {a b c : Expr} {σ : L2.St} {H : Hp} {d1 d2 d3 : PyData}
theorem et_cmp {op : CmpOp} {r : R2} {pos : Pos} {k : Bool} (o : OpR X (compareOp op) r) (hr : RR X.K r H d1 d2 (.bool k)) (ha : EE X a σ H d1) (hb : EE X b σ H d2) (hm : behindInMarks op b = false := by rfl) : ET X (.Compare a [op] [b] pos) σ H k := fun H1 l Q q =>
  ⟨_, pt_cmpR o pe_w pe_w hm, two hr ha hb l fun v B2 H2 u dv => by
    cases dv
    exact ⟨k, rfl, q H2 u.h⟩⟩
theorem et_chain {op op' : CmpOp} {r r' : R2} {pos : Pos} {k1 k2 : Bool} (o : OpR X (compareOp op) r) (o' : OpR X (compareOp op') r') (hr : RR X.K r H d1 d2 (.bool k1)) (hr' : k1 = true → RR X.K r' H d2 d3 (.bool k2))
    (ha : EE X a σ H d1) (hb : EE X b σ H d2) (hc : k1 = true → EE X c σ H d3) (hm : lastMarks [op, op'] [b, c] = false := by rfl) : ET X (.Compare a [op, op'] [b, c] pos) σ H (k1 && k2) := fun H1 l Q q =>
  ⟨_, pt_chain o o' pe_w pe_w pe_w hm, ha H1 l _ fun x B2 H2 u2 dx => hb.mono u2.b H2 u2.s _ fun y B3 H3 u3 dy => hr B3 H3 (u2.b.trans u3.b) u3.s x y (Dt.le u3.b dx) dy _ fun z B4 H4 u4 dz => by
    cases dz
    refine ⟨k1, rfl, ?_⟩
    have u := (u2.trans u3).trans u4
    cases k1 with
    | true =>
      rw [if_pos rfl]
      exact (hc rfl).mono u.b H4 u.s _ fun t B5 H5 u5 dt => hr' rfl B5 H5 (u.b.trans u5.b) u5.s y t (Dt.le (u4.b.trans u5.b) dy) dt _ fun v B6 H6 u6 dv => by
        cases dv
        exact ⟨k2, rfl, q H6 ((u.trans u5).trans u6).h⟩
    | false =>
      rw [if_neg Bool.false_ne_true]
      exact ⟨false, rfl, q H4 u.h⟩⟩
theorem ee_globD {x : Str} {v : V} {u : Value} {pos : Pos} {d : PyData} (hm : X.mg x = some u) (hr : RelV v u) (hd : ∀ H', Dt X.K H' v d) (hg : Gl X x := by rfl) (hdb : (x == ("__debug__" : Str)) = false := by decide) : EE X (.Name x pos) σ H d := ee_v (pe_glob hg hm hr hdb) hd
end
theorem at0 {α : Type} {x : α} {xs : List α} : atI (x :: xs) 0 = some x := atI_nat (j := 0) rfl
theorem at1 {α : Type} {x y : α} {xs : List α} : atI (x :: y :: xs) 1 = some y := atI_nat (j := 1) rfl
theorem at2 {α : Type} {x y z : α} {xs : List α} : atI (x :: y :: z :: xs) 2 = some z := atI_nat (j := 2) rfl
theorem atD {xs : List PyData} {i : Nat} (h : i < xs.length) : atI xs (Int.ofNat i) = some (xs.getD i .none) := atI_nat (j := i) (by rw [List.getD_eq_getElem?_getD, List.getElem?_eq_getElem h]; rfl)
/-! every text and every tuple in it is of a size that the machine takes -/
mutual
def okD : PyData → Bool
  | .str x => x.cps.all (· < 0x110000) && decide (x.length ≤ 100000)
  | .list xs => decide (xs.length ≤ 100000) && okDs xs
  | .tuple xs => decide (xs.length ≤ 100000) && okDs xs
  | .dict kvs => decide (kvs.length = 0)
  | _ => true
def okDs : List PyData → Bool
  | [] => true
  | x :: xs => okD x && okDs xs
end
theorem okDs_mem : ∀ {xs : List PyData} {d : PyData}, okDs xs = true → d ∈ xs → okD d = true
  | x :: xs, d, h, m => by
    have h' := (Bool.and_eq_true _ _).mp h
    rcases List.mem_cons.mp m with z | z
    · rw [z]; exact h'.1
    · exact okDs_mem h'.2 z
theorem okD_str {x : Str} (h : okD (.str x) = true) : x.length ≤ sizeLine := by
  have h' := (Bool.and_eq_true _ _).mp h
  exact Nat.le_trans (of_decide_eq_true h'.2) (by decide)
theorem okD_tup {xs : List PyData} (h : okD (.tuple xs) = true) : xs.length ≤ 100000 ∧ okDs xs = true := by
  have h' := (Bool.and_eq_true _ _).mp h
  exact ⟨of_decide_eq_true h'.1, h'.2⟩
mutual
theorem okD_lay : ∀ {d : PyData}, okD d = true → noDict d = true → d.canLay0 = true
  | .none, _, _ => by simp only [PyData.canLay0]
  | .bool _, _, _ => by simp only [PyData.canLay0]
  | .int _, _, _ => by simp only [PyData.canLay0]
  | .str x, h, _ => by
    simp only [PyData.canLay0]
    exact ((Bool.and_eq_true _ _).mp h).1
  | .list xs, h, n => by
    simp only [PyData.canLay0]
    exact okDs_lay ((Bool.and_eq_true _ _).mp h).2 n
  | .tuple xs, h, n => by
    simp only [PyData.canLay0]
    exact okDs_lay ((Bool.and_eq_true _ _).mp h).2 n
theorem okDs_lay : ∀ {xs : List PyData}, okDs xs = true → noDicts xs = true → PyData.canLayAll0 xs = true
  | [], _, _ => by simp only [PyData.canLayAll0]
  | x :: xs, h, n => by
    have h' := (Bool.and_eq_true _ _).mp h
    have n' := (Bool.and_eq_true _ _).mp n
    simp only [PyData.canLayAll0, Bool.and_eq_true]
    exact ⟨okD_lay h'.1 n'.1, okDs_lay h'.2 n'.2⟩
end
theorem depthAll_le : ∀ {xs : List PyData} {n : Nat}, (∀ x ∈ xs, x.depth ≤ n) → PyData.depthAll xs ≤ n
  | [], n, _ => by simp [PyData.depthAll]
  | x :: xs, n, h => by
    have h1 := h x List.mem_cons_self
    have h2 := depthAll_le fun y hy => h y (List.mem_cons_of_mem _ hy)
    simp only [PyData.depthAll]
    omega
theorem noDicts_of : ∀ {xs : List PyData}, (∀ x ∈ xs, noDict x = true) → noDicts xs = true
  | [], _ => rfl
  | x :: xs, h => by
    show (noDict x && noDicts xs) = true
    rw [h x List.mem_cons_self, noDicts_of fun y hy => h y (List.mem_cons_of_mem _ hy)]
    rfl
theorem okDs_of : ∀ {xs : List PyData}, (∀ x ∈ xs, okD x = true) → okDs xs = true
  | [], _ => rfl
  | x :: xs, h => by
    show (okD x && okDs xs) = true
    rw [h x List.mem_cons_self, okDs_of fun y hy => h y (List.mem_cons_of_mem _ hy)]
    rfl
/-- flat: texts, numbers .. -/
def flatD : PyData → Bool
  | .list _ => false
  | .tuple _ => false
  | .dict _ => false
  | _ => true
theorem flat_noDict {d : PyData} (h : flatD d = true) : noDict d = true := by
  cases d <;> first | rfl | cases h
theorem flat_shaped {d : PyData} (h : flatD d = true) (k : okD d = true) : SeqAt.shaped d = true := by
  cases d with
  | str x =>
    have h' := (Bool.and_eq_true _ _).mp k
    unfold SeqAt.shaped
    rw [Bool.and_eq_true]
    exact ⟨by simp only [PyData.canLay0]; exact h'.1, by simp [PyData.depth]⟩
  | none => decide
  | bool b => cases b <;> decide
  | int i =>
    unfold SeqAt.shaped
    rw [Bool.and_eq_true]
    exact ⟨by simp only [PyData.canLay0], by simp [PyData.depth]⟩
  | _ => cases h
theorem flat_depth {d : PyData} (h : flatD d = true) : d.depth = 0 := by
  cases d <;> first | (simp [PyData.depth]; done) | cases h
theorem str_flat {d : PyData} (h : isStr d = true) : flatD d = true := by
  cases d <;> first | rfl | cases h
/-- a tuple of flat things -/
theorem tupF_shaped {xs : List PyData} (h : ∀ x ∈ xs, flatD x = true) (k : okD (.tuple xs) = true) : noDict (.tuple xs) = true ∧ SeqAt.shaped (.tuple xs) = true ∧ (PyData.tuple xs).depth ≤ 1 := by
  have n : noDicts xs = true := noDicts_of fun x hx => flat_noDict (h x hx)
  have dp : PyData.depthAll xs ≤ 0 := depthAll_le fun x hx => Nat.le_of_eq (flat_depth (h x hx))
  have dd : (PyData.tuple xs).depth ≤ 1 := by
    simp only [PyData.depth]
    omega
  refine ⟨n, ?_, dd⟩
  unfold SeqAt.shaped
  rw [Bool.and_eq_true]
  exact ⟨okD_lay k n, decide_eq_true (by omega)⟩
/-- a tuple of tuples of flat things -/
theorem tupT_shaped {xs : List PyData} (h : ∀ x ∈ xs, noDict x = true ∧ x.depth ≤ 1) (k : okD (.tuple xs) = true) : noDicts xs = true ∧ SeqAt.shaped (.tuple xs) = true := by
  have n : noDicts xs = true := noDicts_of fun x hx => (h x hx).1
  have dp : PyData.depthAll xs ≤ 1 := depthAll_le fun x hx => (h x hx).2
  have dd : (PyData.tuple xs).depth ≤ 2 := by
    simp only [PyData.depth]
    omega
  refine ⟨n, ?_⟩
  unfold SeqAt.shaped
  rw [Bool.and_eq_true]
  exact ⟨okD_lay (d := .tuple xs) k n, decide_eq_true (by omega)⟩

/-! ### unpacking -/
section
variable {X : Cx} {e tg : Expr} {σ : L2.St} {B H : Hp} {d : PyData} {es : List PyData} {D : L2.Ends} {tjs : List Nat} {pat : PyData → Option (List PyData)}
theorem ws_tgt {pos : Pos} (l : Le B H) (h : EE X e σ B d) (hg : EG X tg tjs pat) (hp : pat d = some es) (q : ∀ vs B' H', Up B H B' H' → Ds X.K B' vs es → D.nx (setsS σ tjs vs) H')
    (h1 : swapsWithSole [tg] e pos.line X.env = pure false := by rfl) (h2 : swappedStores [tg] e X.env = pure none := by rfl) (h3 : (assignEach [tg] X.env).map (fun x => x.2) = [assign tg X.env] := by rfl) : WS X (.Assign [tg] e pos) D σ H :=
  ⟨_, ps_asg pe_w pg_w h1 h2 h3, h H l _ fun v B' H' u dv => hg v d es σ B' H' u.s dv hp _ fun vs dvs => q vs B' H' u dvs⟩
end
end Tk


set_option Elab.async false
set_option linter.all false
set_option maxRecDepth 100000
set_option maxHeartbeats 1000000
/-! Tk5: the same where cells at D change: J m, m more steps are allowed. -/
namespace Tk
open PySem PySem.Spec PyProof.Rows L2 GxR Gx
variable [LamTab]

/-- all but the cells at D stays -/
structure LeX (D : List Addr) (H H' : Hp) : Prop where
  keep : ∀ a o, a ∉ D → H a = some o → (∀ ps, o = .tbl ps → LamTab.is a) → H' a = some o
  tab : ∀ P, TabG H P → TabG H' P
  there : ∀ a, H' a = none → H a = none
theorem LeX.of {D : List Addr} {H H' : Hp} (l : Le H H') : LeX D H H' := ⟨fun a o _ h n => l.keep a o h n, l.tab, l.there⟩
theorem LeX.trans {D : List Addr} {H H1 H2 : Hp} (a : LeX D H H1) (b : LeX D H1 H2) : LeX D H H2 :=
  ⟨fun x o d h n => b.keep x o d (a.keep x o d h n) n, fun P h => b.tab P (a.tab P h), fun x h => a.there x (b.there x h)⟩
/-- what is held of the changing cells -/
structure Cells (D : List Addr) (J : Nat → Hp → Prop) : Prop where
  at_ : ∀ n H, J n H → ∀ a ∈ D, ∃ o, H a = some o ∧ ∀ ps, o ≠ .tbl ps
  le : ∀ n H H', J n H → Le H H' → J n H'
  less : ∀ n m H, J n H → m ≤ n → J m H
/-- B leans on no changing cell -/
def Apt (D : List Addr) (B : Hp) : Prop := ∀ a ∈ D, B a = none
structure UpX (D : List Addr) (B H B2 H2 : Hp) : Prop where
  h : LeX D H H2
  b : Le B B2
  s : Le B2 H2
  n : ∀ a, B2 a ≠ none → B a ≠ none ∨ H a = none ∨ ((∃ ps, H a = some (.tbl ps)) ∧ ¬ LamTab.is a)
section
variable {D : List Addr} {J : Nat → Hp → Prop} {B H B1 H1 B2 H2 : Hp}
theorem UpX.of (u : Up B H B2 H2) : UpX D B H B2 H2 := ⟨.of u.h, u.b, u.s, u.n⟩
theorem UpX.refl (l : Le B H) : UpX D B H B H := .of (Up.refl l)
theorem UpX.trans (C : Cells D J) {m : Nat} (j : J m H1) (a : UpX D B H B1 H1) (b : UpX D B1 H1 B2 H2) : UpX D B H B2 H2 :=
  ⟨a.h.trans b.h, a.b.trans b.b, b.s, fun x h => by
    rcases b.n x h with z | z | ⟨⟨ps, z⟩, ny⟩
    · exact a.n x z
    · exact .inr (.inl (a.h.there x z))
    · by_cases hx : x ∈ D
      · obtain ⟨o, e, n⟩ := C.at_ m H1 j x hx
        rw [e] at z
        exact absurd (Option.some.inj z) (n ps)
      · refine .inr ?_
        cases q : H x with
        | none => exact .inl rfl
        | some o =>
          refine .inr ?_
          by_cases y : ∃ qs, o = .tbl qs
          · obtain ⟨qs, rfl⟩ := y
            exact ⟨⟨qs, rfl⟩, ny⟩
          · have e := a.h.keep x o hx q fun qs e => (y ⟨qs, e⟩).elim
            rw [z] at e
            exact absurd ⟨ps, (Option.some.inj e).symm⟩ y⟩
theorem UpX.apt (C : Cells D J) {m : Nat} (j : J m H) (p : Apt D B) (u : UpX D B H B2 H2) : Apt D B2 := fun a ha => by
  cases q : B2 a with
  | none => rfl
  | some o =>
    obtain ⟨o', e, n⟩ := C.at_ m H j a ha
    rcases u.n a (by rw [q]; simp) with z | z | ⟨⟨ps, z⟩, _⟩
    · exact absurd (p a ha) z
    · rw [e] at z; cases z
    · rw [e] at z; exact absurd (Option.some.inj z) (n ps)
theorem UpX.new (u : UpX D B H B1 H1) {p : Addr} {o : HO} (hp : H1 p = none) (ho : ∀ ps, o ≠ .tbl ps) : UpX D B H (upd B1 p o) (upd H1 p o) := by
  have w := (Up.refl u.s).new hp ho
  refine ⟨u.h.trans (.of w.h), u.b.trans w.b, w.s, fun a q => ?_⟩
  by_cases z : a = p
  · rw [z]
    exact .inr (.inl (u.h.there p hp))
  · rw [upd_ne z] at q
    exact u.n a q
end

section
variable (X : Cx) (D : List Addr) (J : Nat → Hp → Prop)
/-- within n steps it is worth some d of which R d -/
def EJ (e : Expr) (σ : L2.St) (B : Hp) (n : Nat) (R : PyData → Prop) : Prop := ∀ m H1, Le B H1 → Apt D B → J (m + n) H1 → ∀ Q : VK, (∀ v d B2 H2, UpX D B H1 B2 H2 → J m H2 → Dt X.K B2 v d → R d → Q v H2) → WE X e σ H1 Q
def EAJ (es : List Expr) (σ : L2.St) (B : Hp) (n : Nat) (R : List PyData → Prop) : Prop := ∀ m H1, Le B H1 → Apt D B → J (m + n) H1 → ∀ Q : List V → Hp → Prop, (∀ vs ds B2 H2, UpX D B H1 B2 H2 → J m H2 → Ds X.K B2 vs ds → R ds → Q vs H2) → WA X es σ H1 Q
def ETJ (e : Expr) (σ : L2.St) (B : Hp) (n : Nat) (R : Bool → Prop) : Prop := ∀ m H1, Le B H1 → Apt D B → J (m + n) H1 → ∀ Q : Bool → Hp → Prop, (∀ b H2, LeX D H1 H2 → Le B H2 → J m H2 → R b → Q b H2) → WT X e σ H1 Q
end
section
variable {X : Cx} {D : List Addr} {J : Nat → Hp → Prop} {e a b : Expr} {es : List Expr} {σ : L2.St} {B B' : Hp} {n n1 n2 : Nat} {R Ra Rb : PyData → Prop} {RA : List PyData → Prop}
theorem EJ.mono (h : EJ X D J e σ B n R) (l : Le B B') : EJ X D J e σ B' n R := fun m H1 e1 ap j Q q => h m H1 (l.trans e1) (fun x hx => l.there x (ap x hx)) j Q fun v d B2 H2 u jj dv r => by
  -- leaning on more
  have l2 : Le B' (fun x => if B' x = none ∧ B2 x = none then none else H2 x) := by
    refine ⟨fun x o qx nx => ?_, fun P t => ?_, fun x qx => ?_⟩
    · show (if B' x = none ∧ B2 x = none then none else H2 x) = some o
      rw [if_neg fun z => by rw [z.1] at qx; cases qx]
      refine u.h.keep x o (fun hx => ?_) (e1.keep x o qx nx) nx
      rw [ap x hx] at qx
      cases qx
    · obtain ⟨ps, q1, r1⟩ := t
      obtain ⟨ps', q2, r2⟩ := u.h.tab P (e1.tab P ⟨ps, q1, r1⟩)
      refine ⟨ps', ?_, r2⟩
      show (if B' P = none ∧ B2 P = none then none else H2 P) = _
      rw [if_neg fun z => by rw [z.1] at q1; cases q1]
      exact q2
    · have q' : (if B' x = none ∧ B2 x = none then none else H2 x) = none := qx
      by_cases z : B' x = none ∧ B2 x = none
      · exact z.1
      · rw [if_neg z] at q'
        exact e1.there x (u.h.there x q')
  have l3 : Le B2 (fun x => if B' x = none ∧ B2 x = none then none else H2 x) := by
    refine ⟨fun x o qx nx => ?_, fun P t => ?_, fun x qx => ?_⟩
    · show (if B' x = none ∧ B2 x = none then none else H2 x) = some o
      rw [if_neg fun z => by rw [z.2] at qx; cases qx]
      exact u.s.keep x o qx nx
    · obtain ⟨ps, q1, r1⟩ := t
      obtain ⟨ps', q2, r2⟩ := u.s.tab P ⟨ps, q1, r1⟩
      refine ⟨ps', ?_, r2⟩
      show (if B' P = none ∧ B2 P = none then none else H2 P) = _
      rw [if_neg fun z => by rw [z.2] at q1; cases q1]
      exact q2
    · have q' : (if B' x = none ∧ B2 x = none then none else H2 x) = none := qx
      by_cases z : B' x = none ∧ B2 x = none
      · exact z.2
      · rw [if_neg z] at q'
        exact u.s.there x q'
  have l4 : Le (fun x => if B' x = none ∧ B2 x = none then none else H2 x) H2 := by
    refine ⟨fun x o qx nx => ?_, fun P t => ?_, fun x qx => ?_⟩
    · have q' : (if B' x = none ∧ B2 x = none then none else H2 x) = some o := qx
      by_cases z : B' x = none ∧ B2 x = none
      · rw [if_pos z] at q'; cases q'
      · rw [if_neg z] at q'; exact q'
    · obtain ⟨ps, q1, r1⟩ := t
      have q' : (if B' P = none ∧ B2 P = none then none else H2 P) = _ := q1
      by_cases z : B' P = none ∧ B2 P = none
      · rw [if_pos z] at q'; cases q'
      · rw [if_neg z] at q'; exact ⟨ps, q', r1⟩
    · show (if B' x = none ∧ B2 x = none then none else H2 x) = none
      rw [qx]
      exact ite_self _
  refine q v d _ H2 ⟨u.h, l2, l4, fun x qx => ?_⟩ jj (Dt.le l3 dv) r
  have q' : (if B' x = none ∧ B2 x = none then none else H2 x) ≠ none := qx
  by_cases z : B' x = none
  · by_cases z2 : B2 x = none
    · rw [if_pos ⟨z, z2⟩] at q'
      exact absurd rfl q'
    · rcases u.n x z2 with y | y
      · exact absurd (l.there x z) y
      · exact .inr y
  · exact .inl z
/-- what changes nothing -/
theorem ej_pure (C : Cells D J) {d : PyData} (h : EE X e σ B d) (r : R d) : EJ X D J e σ B 0 R := fun m H1 l ap j Q q => h H1 l Q fun v B2 H2 u dv => q v d B2 H2 (.of u) (C.le _ _ _ j u.h) dv r
theorem EJ.weak (C : Cells D J) (h : EJ X D J e σ B n R) (k : ∀ d, R d → Ra d) (hn : n ≤ n1) : EJ X D J e σ B n1 Ra := fun m H1 l ap j Q q =>
  h (m + (n1 - n)) H1 l ap (by rw [show m + (n1 - n) + n = m + n1 by omega]; exact j) Q fun v d B2 H2 u jj dv r => q v d B2 H2 u (C.less _ _ _ jj (by omega)) dv (k d r)
theorem eaj_nil : EAJ X D J [] σ B 0 (· = []) := fun m H1 l ap j Q k => ⟨_, pa_nil, k [] [] B H1 (.refl l) j .nil rfl⟩
theorem eaj_cons (C : Cells D J) (ha : EJ X D J e σ B n1 R) (hb : ∀ B', Le B B' → EAJ X D J es σ B' n2 RA) (hs : starEach (e :: es) X.env = (false, eval e X.env) :: starEach es X.env := by rfl) :
    EAJ X D J (e :: es) σ B (n1 + n2) (fun ds => ∃ d r, ds = d :: r ∧ R d ∧ RA r) := fun m H1 l ap j Q k =>
  ⟨_, pa_cons pe_w pa_w hs, ha (m + n2) H1 l ap (by rw [show m + n2 + n1 = m + (n1 + n2) by omega]; exact j) _ fun v d B2 H2 u2 j2 dv r => hb B2 u2.b m H2 u2.s (u2.apt C j ap) j2 _ fun vs ds B3 H3 u3 j3 dvs rs =>
    k _ _ B3 H3 (u2.trans C j2 u3) j3 (.cons (Dt.le u3.b dv) dvs) ⟨d, ds, rfl, r, rs⟩⟩
theorem ej_tup {pos : Pos} {k : Nat} (C : Cells D J) (ha : EAJ X D J es σ B n RA) (hl : ∀ ds, RA ds → ds.length ≤ sizeLine) : EJ X D J (.Tuple es k pos) σ B n (fun d => ∃ ds, d = .tuple ds ∧ RA ds) := fun m H1 l ap j Q q =>
  ⟨_, pe_tup pa_w, ha m H1 l ap j _ fun vs ds B2 H2 u2 j2 dv r => ⟨by rw [dv.length]; exact hl ds r, fun p hp => q _ _ _ _ (u2.new hp fun ps z => by cases z) (C.le _ _ _ j2 (Le.new hp)) (.new_tup upd_same (Ds.le (Le.new (u2.s.there p hp)) dv)) ⟨ds, rfl, r⟩⟩⟩
/-- two operands, the left one first -/
def RJ (K : PySem.W.Frag) (r : R2) (B : Hp) (Ra Rb R3 : PyData → Prop) : Prop := ∀ B1 H1, Le B B1 → Le B1 H1 → ∀ x y d1 d2, Dt K B1 x d1 → Dt K B1 y d2 → Ra d1 → Rb d2 → ∀ Q : VK, (∀ v d B2 H2, Up B1 H1 B2 H2 → Dt K B2 v d → R3 d → Q v H2) → r x y H1 Q
theorem twoJ {r : R2} {R3 : PyData → Prop} (C : Cells D J) (hr : RJ X.K r B Ra Rb R3) (ha : EJ X D J a σ B n1 Ra) (hb : EJ X D J b σ B n2 Rb) {m : Nat} {H1 : Hp} (l : Le B H1) (ap : Apt D B) (j : J (m + (n1 + n2)) H1) {Q : VK}
    (q : ∀ v d B2 H2, UpX D B H1 B2 H2 → J m H2 → Dt X.K B2 v d → R3 d → Q v H2) : tOp r (WE X a) (WE X b) σ H1 Q :=
  ha (m + n2) H1 l ap (by rw [show m + n2 + n1 = m + (n1 + n2) by omega]; exact j) _ fun x d1 B2 H2 u2 j2 dx r1 => hb.mono u2.b m H2 u2.s (u2.apt C j ap) j2 _ fun y d2 B3 H3 u3 j3 dy r2 =>
    hr B3 H3 (u2.b.trans u3.b) u3.s x y d1 d2 (Dt.le u3.b dx) dy r1 r2 Q fun v d B4 H4 u4 dv r3 => q v d B4 H4 ((u2.trans C j2 u3).trans C j3 (.of u4)) (C.le _ _ _ j3 u4.h) dv r3
theorem ej_op {op : Operator} {r : R2} {pos : Pos} {R3 : PyData → Prop} (C : Cells D J) (o : OpR X (binaryOp op) r) (hr : RJ X.K r B Ra Rb R3) (ha : EJ X D J a σ B n1 Ra) (hb : EJ X D J b σ B n2 Rb) : EJ X D J (.BinOp a op b pos) σ B (n1 + n2) R3 := fun m H1 l ap j Q q =>
  ⟨_, pe_op o pe_w pe_w, twoJ C hr ha hb l ap j q⟩
theorem ej_ix {r : R2} {pos : Pos} {R3 : PyData → Prop} (C : Cells D J) (o : IxR X r) (hr : RJ X.K r B Ra Rb R3) (ha : EJ X D J a σ B n1 Ra) (hb : EJ X D J b σ B n2 Rb) (hp : PlainIx b := by intro _ _; rfl) : EJ X D J (.Subscript a b pos) σ B (n1 + n2) R3 := fun m H1 l ap j Q q =>
  ⟨_, pe_ix o pe_w pe_w hp, twoJ C hr ha hb l ap j q⟩
theorem etj_cmp {op : CmpOp} {r : R2} {pos : Pos} {RB : Bool → Prop} (C : Cells D J) (o : OpR X (compareOp op) r) (hr : RJ X.K r B Ra Rb (fun d => ∃ b, d = .bool b ∧ RB b)) (ha : EJ X D J a σ B n1 Ra) (hb : EJ X D J b σ B n2 Rb) (hm : behindInMarks op b = false := by rfl) : ETJ X D J (.Compare a [op] [b] pos) σ B (n1 + n2) RB := fun m H1 l ap j Q q =>
  ⟨_, pt_cmpR o pe_w pe_w hm, twoJ C hr ha hb l ap j fun v d B2 H2 u jj dv r => by
    obtain ⟨k, rfl, rk⟩ := r
    cases dv
    exact ⟨k, rfl, q k H2 u.h (u.b.trans u.s) jj rk⟩⟩
theorem rj_of {K : PySem.W.Frag} {r : R2} {R3 : PyData → Prop} (h : ∀ d1 d2, Ra d1 → Rb d2 → ∃ d3, RR K r B d1 d2 d3 ∧ R3 d3) : RJ K r B Ra Rb R3 := fun B1 H1 l l1 x y d1 d2 hx hy r1 r2 Q q => by
  obtain ⟨d3, hr, r3⟩ := h d1 d2 r1 r2
  exact hr B1 H1 l l1 x y hx hy Q fun v B2 H2 u dv => q v d3 B2 H2 u dv r3

/-! ### statements -/
variable {Dn : L2.Ends} {H : Hp} {m : Nat}
theorem ws_retJ {pos : Pos} (l : Le B H) (ap : Apt D B) (j : J (m + n) H) (h : EJ X D J e σ B n R) (q : ∀ v d B' H', UpX D B H B' H' → J m H' → Dt X.K B' v d → R d → Dn.rt v H') : WS X (.Return (some e) pos) Dn σ H := ⟨_, ps_ret pe_w, h m H l ap j _ q⟩
theorem ws_setJ {pos pos' : Pos} {i : Nat} {x : Str} (l : Le B H) (ap : Apt D B) (j : J (m + n) H) (h : EJ X D J e σ B n R) (q : ∀ v d B' H', UpX D B H B' H' → J m H' → Dt X.K B' v d → R d → Dn.nx (σ.set i (some v)) H') (nd : X.N.Nodup) (hN : X.N[i]? = some x := by rfl) (hx : L2.Loc X.env.scope x := by first | exact Or.inl rfl | exact Or.inr rfl)
    (hs : swapsWith e (some (.Name x pos')) pos.line X.env = pure false := by rfl) (hf : X.fn x = true ∨ X.env.scope.names.lookup x = some .local := by first | exact Or.inl rfl | exact Or.inr rfl) : WS X (.Assign [.Name x pos'] e pos) Dn σ H :=
  ⟨_, ps_set nd hN hx pe_w hs hf, h m H l ap j _ q⟩
theorem ws_ifJ {pos : Pos} {c : Expr} {sa sb : List Stmt} {RB : Bool → Prop} (l : Le B H) (ap : Apt D B) (j : J (m + n) H) (h : ETJ X D J c σ B n RB) (q : ∀ k H', LeX D H H' → Le B H' → J m H' → RB k → WB X (if k then sa else sb) Dn σ H') : WS X (.If c sa sb pos) Dn σ H :=
  ⟨_, ps_if pt_w pss_w pss_w, h m H l ap j _ fun k H' l1 l2 j2 r => by
    have g := q k H' l1 l2 j2 r
    cases k with
    | true =>
      show (if true = true then WB X sa Dn σ H' else _)
      rw [if_pos rfl]
      exact g
    | false =>
      show (if false = true then _ else WB X sb Dn σ H')
      rw [if_neg Bool.false_ne_true]
      exact g⟩
end

/-! ### defs: the first argument is the thing that changes -/
def spJ (K : PySem.W.Frag) (T : List Addr) (D : List Addr) (J : Nat → Hp → Prop) (dr : V) (k n : Nat) (pre : List PyData → Prop) (R : List PyData → PyData → Prop) : Sp := fun vs H Q _ => ∃ ws B ds m, vs = dr :: ws ∧ ws.length = k ∧ Tbs T H ∧ Le B H ∧ Apt D B ∧ J (m + n) H ∧ Ds K B ws ds ∧ pre ds ∧
  ∀ v d B' H', UpX D B H B' H' → J m H' → Dt K B' v d → R ds d → Q v H'
section
variable {X : Cx} {D : List Addr} {J : Nat → Hp → Prop} {a : Expr} {es : List Expr} {σ : L2.St} {B : Hp} {n1 n : Nat} {T : List Addr} {k lv : Nat} {pre : List PyData → Prop} {R : List PyData → PyData → Prop} {RA : List PyData → Prop} {x y : Str} {ps : List Str} {dr : V}
theorem ej_call {P : Program} {w : World} {K : PySem.W.Frag} {mg : Str → Option Value} {base : Heap} {p p2 pos : Pos} {j i : Nat} (C : Cells D J) (F : Kn P w K mg base lv x ps (spJ K T D J dr k n pre R)) (hr : Room j X.A) (hk : lv ≤ j) (t : Tbs T B) (hσ : σ[i]? = some (some dr))
    (ha : EAJ X D J es σ B n1 RA) (hp : ∀ ds, RA ds → pre ds ∧ ds.length = k) (eP : X.prog = P := by rfl) (ew : X.w = w := by rfl) (eK : X.K = K := by rfl) (em : X.mg = mg := by rfl) (eb : X.base = base := by rfl) (hg : Gl X x := by rfl)
    (hN : X.N[i]? = some y := by rfl) (hv : Vis X.env.scope y := by first | exact Or.inl rfl | exact Or.inr (Or.inl rfl) | exact Or.inr (Or.inr rfl)) (hdy : (y == ("__debug__" : Str)) = false := by decide) (hcy : (y == ("__classdict__" : Str)) = false := by decide)
    (hdb : (x == ("__debug__" : Str)) = false := by decide) (he : starEach (.Name y p2 :: es) X.env = (false, eval (.Name y p2) X.env) :: starEach es X.env := by rfl) (hpl : (backTo pos (starEach es X.env)).any (·.1) = false := by rfl) :
    EJ X D J (.Call (.Name x p) (.Name y p2 :: es) [] pos) σ B (n1 + n) (fun d => ∃ ds, RA ds ∧ R ds d) := fun m H1 l ap jj Q q => by
  subst eP ew eK em eb
  obtain ⟨fa, fd, m1, m2, G, bi⟩ := F.ex
  refine ⟨_, pe_call (E := L2.E0) G (hr.mono hk) hg m1 m2 bi .nil pass0 (pa_cons (pe_var hN hv hdy hcy) pa_w he) hdb he hpl, dr, hσ, ha (m + n) H1 l ap (by rw [show m + n + n1 = m + (n1 + n) by omega]; exact jj) _ fun vs ds B2 H2 u2 j2 dv r => ?_⟩
  simp only [List.append_nil]
  obtain ⟨h1, h2⟩ := hp ds r
  have t2 : Tbs T H2 := fun P hP => ⟨u2.h.tab P ((t.le l) P hP).1, ((t.le l) P hP).2⟩
  exact ⟨vs, B2, ds, m, rfl, by rw [dv.length, h2], t2, u2.s, u2.apt C jj ap, j2, dv, h1, fun v d B3 H3 u3 j3 d3 r3 => q v d B3 H3 (u2.trans C j2 u3) j3 d3 ⟨ds, r, r3⟩⟩
end
theorem fn_draw {P : Program} {w : World} {K : PySem.W.Frag} {mg : Str → Option Value} {base : Heap} {x qual : Str} {st : Stmt} {fa : Addr} {fd : FuncData} {N ps : List Str} {lv k n : Nat} {T D : List Addr} {J : Nat → Hp → Prop} {dr : V} {pre : List PyData → Prop} {R : List PyData → PyData → Prop}
    (hTD : ∀ a ∈ D, a ∉ T) (F : L2.Fun K x qual st fa fd) (S : FnScope N ps (defScope st)) (hn : k + 1 = ps.length)
    (hbody : ∀ (cdv : Value) (A : Around) (outer : List Env) (s : Shared) (H : Hp) (ws : List V) (B : Hp) (ds : List PyData) (m : Nat) (Q : VK) (E : XK), Room lv (A.deeper (envOfC qual (defScope st) s.heap.objs.size fa cdv)) → fd.code = cdv → Tbs T B → Le B H → Apt D B → J (m + n) H → Ds K B ws ds → ws.length = k → pre ds →
      (∀ v d B' H', UpX D B H B' H' → J m H' → Dt K B' v d → R ds d → Q v H') → WB (cxOf CX0 P w K mg base N qual (defScope st) fa cdv A outer s H E).nox (defBody st) { nx := fun _ H' => Q .non H', rt := Q } (start N (dr :: ws)) H) :
    FnOk P w K mg base CX0 (lv + 1) fa fd ps (spJ K T D J dr k n pre R) := by
  obtain ⟨oc, od, kV, doc, pm, an, cdv, ct, osl, rfl, lk, hcd⟩ := F.ex
  refine fn_of lk hcd S (fun vs H Q E h => ?_) fun A outer s H vs Q E hr h => ?_
  · obtain ⟨ws, B, ds, m, rfl, h1, _⟩ := h
    rw [List.length_cons, h1, hn]
  obtain ⟨ws, B, ds, m, rfl, h1, h2, l, ap, j, h3, h4, h5⟩ := h
  have l1 : Le B (fun a => if B a = none ∧ a ∉ T then none else H a) := by
    refine ⟨fun a o q nn => ?_, fun P' tg => ?_, fun a q => ?_⟩
    · show (if B a = none ∧ a ∉ T then none else H a) = some o
      rw [if_neg fun z => by rw [z.1] at q; cases q]
      exact l.keep a o q nn
    · obtain ⟨ps', q, r⟩ := tg
      obtain ⟨ps2, q', r'⟩ := l.tab P' ⟨ps', q, r⟩
      refine ⟨ps2, ?_, r'⟩
      show (if B P' = none ∧ P' ∉ T then none else H P') = _
      rw [if_neg fun z => by rw [z.1] at q; cases q]
      exact q'
    · have q' : (if B a = none ∧ a ∉ T then none else H a) = none := q
      by_cases z : B a = none ∧ a ∉ T
      · exact z.1
      · rw [if_neg z] at q'
        exact l.there a q'
  have l2 : Le (fun a => if B a = none ∧ a ∉ T then none else H a) H := by
    refine ⟨fun a o q nn => ?_, fun P' tg => ?_, fun a q => ?_⟩
    · have q' : (if B a = none ∧ a ∉ T then none else H a) = some o := q
      by_cases z : B a = none ∧ a ∉ T
      · rw [if_pos z] at q'; cases q'
      · rw [if_neg z] at q'; exact q'
    · obtain ⟨ps', q, r⟩ := tg
      have q' : (if B P' = none ∧ P' ∉ T then none else H P') = _ := q
      by_cases z : B P' = none ∧ P' ∉ T
      · rw [if_pos z] at q'; cases q'
      · rw [if_neg z] at q'; exact ⟨ps', q', r⟩
    · show (if B a = none ∧ a ∉ T then none else H a) = none
      rw [q]
      exact ite_self _
  have tB : Tbs T (fun a => if B a = none ∧ a ∉ T then none else H a) := fun P' hP => by
    obtain ⟨⟨ps', q, r⟩, ns⟩ := h2 P' hP
    refine ⟨⟨ps', ?_, r⟩, ns⟩
    show (if B P' = none ∧ P' ∉ T then none else H P') = _
    rw [if_neg fun z => z.2 hP]
    exact q
  have aB : Apt D (fun a => if B a = none ∧ a ∉ T then none else H a) := fun a ha => if_pos ⟨ap a ha, hTD a ha⟩
  obtain ⟨t, t1, t2⟩ := hbody cdv A outer s H ws _ ds m Q E hr rfl tB l2 aB j (Ds.le l1 h3) h1 h4 fun v d B2 H2 u jj dv r => h5 v d B2 H2 ⟨u.h, l1.trans u.b, u.s, fun a h => by
    rcases u.n a h with z | z | z
    · have z' : (if B a = none ∧ a ∉ T then none else H a) ≠ none := z
      by_cases y : B a = none
      · by_cases x : a ∈ T
        · obtain ⟨⟨ps', q, _⟩, ns⟩ := h2 a x
          exact .inr (.inr ⟨⟨ps', q⟩, ns⟩)
        · rw [if_pos ⟨y, x⟩] at z'
          exact absurd rfl z'
      · exact .inl y
    · exact .inr (.inl z)
    · exact .inr (.inr z)⟩ jj dv r
  exact ⟨t, t1.nox, t2⟩
end Tk


set_option Elab.async false
set_option linter.all false
set_option maxRecDepth 100000
set_option maxHeartbeats 1000000
/-! Tk6: for, sums of lists and of tuples, list(..), parts of tuples. -/
namespace Tk
open PySem PySem.Spec PyProof.Rows L2 GxR Gx
variable [LamTab]
section
variable {X : Cx} {tg iter : Expr} {body : List Stmt} {σ : L2.St} {B H : Hp} {ds : List PyData} {D : L2.Ends} {tjs : List Nat} {pat : PyData → Option (List PyData)}
theorem ws_for {pos : Pos} (l : Le B H) (hi : EI X tg iter σ B ds) (hg : EG X tg tjs pat) (hpat : ∀ d ∈ ds, ∃ es, pat d = some es) (hp : PassesOwn (model X.prog X.w) X.A X.env X.xe) (hc : X.calm = true)
    (Inv : Nat → L2.St → Hp → Hp → Prop) (h0 : ∀ B' H', Up B H B' H' → Inv 0 σ B' H')
    (hs : ∀ i d es vs σ' B' H' B'' H'', i < ds.length → ds[i]? = some d → Le B B' → Inv i σ' B' H' → Up B' H' B'' H'' → pat d = some es → Ds X.K B'' vs es →
      ∀ N : L2.St → Hp → Prop, (∀ σ2 B3 H2, Le B'' B3 → Le B3 H2 → Inv (i + 1) σ2 B3 H2 → N σ2 H2) → WB X body { D with nx := N, ct := N, bk := D.nx } (setsS σ' tjs vs) H'')
    (hd : ∀ σ' B' H', Le B B' → Le B' H' → Inv ds.length σ' B' H' → D.nx σ' H')
    (hf : ∀ x, foldedSetIterable iter X.env x = pure x := by intro _; rfl) : WS X (.For tg iter body [] pos) D σ H := by
  refine ⟨_, ps_for hp hc pi_w pg_w pss_w hf, hi H l _ fun J B2 H2 u2 wk => ?_⟩
  refine ⟨fun i m σ' H' => m = ds.length - i ∧ i ≤ ds.length ∧ ∃ B', Le B2 B' ∧ Le B' H' ∧ Inv i σ' B' H', ⟨ds.length, rfl, Nat.zero_le _, B2, Le.refl _, u2.s, h0 B2 H2 u2⟩, ?_⟩
  rintro i m σ' H' ⟨rfl, hi', B', lb, ls, hI⟩
  obtain ⟨w1, w2, w3⟩ := wk B' H' lb ls
  by_cases hlt : i < ds.length
  · refine .inr ⟨w1 i hlt, fun σ2 H2 => ∃ B3, Le B2 B3 ∧ Le B3 H2 ∧ Inv (i + 1) σ2 B3 H2, fun σ2 H2 h => ⟨ds.length - (i + 1), by omega, rfl, hlt, h⟩, fun x H4 hy => ?_⟩
    obtain ⟨B4, d, u4, hd', dx⟩ := w3 i x H4 hlt hy
    obtain ⟨es, hes⟩ := hpat d (List.mem_of_getElem? hd')
    refine hg x d es σ' B4 H4 u4.s dx hes _ fun vs dvs => ?_
    exact hs i d es vs σ' B' H' B4 H4 hlt hd' (u2.b.trans lb) hI u4 hes dvs _ fun σ2 B3 H2 a b c => ⟨B3, (lb.trans u4.b).trans a, b, c⟩
  · have ei : i = ds.length := by omega
    subst ei
    exact .inl ⟨w2, hd σ' B' H' (u2.b.trans lb) ls hI⟩
end
section
variable {X : Cx}
def rCatL (K : PySem.W.Frag) : R2 := fun x y H Q => ∃ l b xs zs, x = .ref l ∧ y = .ref b ∧ SqL K H l xs ∧ SqL K H b zs ∧ xs.length + zs.length ≤ sizeLine ∧ ∀ p, H p = none → Q (.ref p) (upd H p (.lst (xs ++ zs)))
theorem op_catL : OpR X (binaryOp .Add) (rCatL X.K) := by
  intro pins s σ H x y v u Q I rx ry h
  obtain ⟨l, b, xs, zs, rfl, rfl, hH, hB, hz, q⟩ := h
  cases rx
  cases ry
  obtain ⟨its, r, hl, _⟩ := I.list hH
  obtain ⟨its2, r2, hb, _⟩ := I.list hB
  obtain ⟨⟨cls, dd, data, sl⟩, ho, hc, n, hd⟩ := id hl.isList
  obtain ⟨⟨cls2, dd2, data2, sl2⟩, ho2, hc2, n2, hd2⟩ := id hb.isList
  simp only at hc hd hc2 hd2
  subst hc hd hc2 hd2
  have e1 := r.length
  have e2 := r2.length
  have e : its.toArray ++ its2.toArray = (its ++ its2).toArray := by simp
  refine concat_meets ⟨_, ho, rfl⟩ ⟨_, ho2, rfl⟩ noFill_list_add seq_list_add PySem.F.slot_list_add PySem.F.entry_list_add (PySem.F.args_list_add_2 _ _) (list_addW l b its.toArray its2.toArray n n2 dd dd2 sl sl2 (by rw [List.size_toArray, List.size_toArray]; omega)) ⟨ho, ho2, ?_⟩
  rw [e]
  exact ⟨.ref _, _, I.lnew (t' := s.toks) (r.append r2) (by rw [List.length_append]; omega), rfl, q _ I.fresh⟩
variable {K : PySem.W.Frag} {H : Hp} {xs ys : List PyData}
theorem rr_catL (h : xs.length + ys.length ≤ sizeLine) : RR K (rCatL K) H (.list xs) (.list ys) (.list (xs ++ ys)) := fun B H1 l l1 x y hx hy Q q => by
  cases hx with
  | lst s1 t1 h1 =>
    cases hy with
    | lst s2 t2 h2 => exact ⟨_, _, _, _, rfl, rfl, sqL_le l1 s1, sqL_le l1 s2, by rw [h1.length, h2.length]; exact h, fun p hp => q _ _ _ ((Up.refl l1).new hp fun ps z => by cases z) (.new_lst upd_same ((Ds.le (Le.new (l1.there p hp)) h1).append (Ds.le (Le.new (l1.there p hp)) h2)))⟩
theorem rr_catT (h : xs.length + ys.length ≤ sizeLine) : RR K (rCatA K) H (.tuple xs) (.tuple ys) (.tuple (xs ++ ys)) := fun B H1 l l1 x y hx hy Q q => by
  cases hx with
  | tup s1 t1 h1 =>
    cases hy with
    | tup s2 t2 h2 =>
      refine ⟨_, _, _, _, rfl, rfl, sqT_le l1 s1, sqT_le l1 s2, by rw [h1.length, h2.length]; exact h, fun e => ?_, fun _ e => ?_, fun _ _ p hp => q _ _ _ ((Up.refl l1).new hp fun ps z => by cases z) (.new_tup upd_same ((Ds.le (Le.new (l1.there p hp)) h1).append (Ds.le (Le.new (l1.there p hp)) h2)))⟩
      · subst e
        cases h1
        exact q _ B H1 (Up.refl l1) (.tup s2 t2 h2)
      · subst e
        cases h2
        rw [List.append_nil] at q
        exact q _ B H1 (Up.refl l1) (.tup s1 t1 h1)
def rListD (K : PySem.W.Frag) : List V → Hp → VK → Prop := fun xs H Q => ∃ p ys, xs = [V.ref p] ∧ (SqL K H p ys ∨ SqT K H p ys) ∧ ∀ l, H l = none → Q (.ref l) (upd H l (.lst ys))
theorem c_list {X : Cx} : CallR X (.type "list") (rListD X.K) := call_list_of
theorem rc_list : RC1 K (rListD K) H [.tuple xs] (.list xs) := fun B H1 l l1 vs hv Q q => by
  obtain ⟨v, rfl, h⟩ := ds1 hv
  cases h with
  | tup s t h1 => exact ⟨_, _, rfl, .inr (sqT_le l1 s), fun p hp => q _ _ _ ((Up.refl l1).new hp fun ps z => by cases z) (.new_lst upd_same (Ds.le (Le.new (l1.there p hp)) h1))⟩
theorem rc_listL : RC1 K (rListD K) H [.list xs] (.list xs) := fun B H1 l l1 vs hv Q q => by
  obtain ⟨v, rfl, h⟩ := ds1 hv
  cases h with
  | lst s t h1 => exact ⟨_, _, rfl, .inl (sqL_le l1 s), fun p hp => q _ _ _ ((Up.refl l1).new hp fun ps z => by cases z) (.new_lst upd_same (Ds.le (Le.new (l1.there p hp)) h1))⟩
end
section
variable {X : Cx} {e a b : Expr} {es : List Expr} {σ : L2.St} {H : Hp} {xs : List PyData}
theorem ee_list {p pos : Pos} (BL : X.mg "list" = none) (ha : EE X e σ H (.tuple xs)) (hg : Gl X "list" := by rfl) (he : starEach [e] X.env = (false, eval e X.env) :: starEach [] X.env := by rfl) :
    EE X (.Call (.Name "list" p) [e] [] pos) σ H (.list xs) := ee_callTy c_list hg BL boot_list' rc_list (ea_cons ha ea_nil he) (by decide) (by decide) he rfl
/-- parts of a tuple -/
def cutD (xs : List PyData) (lo hi : Option Int) : List PyData := (xs.drop (HT.sIx xs.length 0 lo)).take (HT.sIx xs.length xs.length hi - HT.sIx xs.length 0 lo)
/-- an end of a part: left out, or a number -/
def EO (X : Cx) (e : Option Expr) (σ : L2.St) (B : Hp) (o : Option Int) : Prop := ∀ H1, Le B H1 → ∀ Q : Option Int → Hp → Prop, (∀ H2, Le H1 H2 → Q o H2) → ∃ t, PO X e t ∧ t σ H1 Q
theorem eo_no : EO X none σ H none := fun H1 l Q q => ⟨_, po_none, q H1 (Le.refl _)⟩
theorem eo_some {i : Int} (h : EE X e σ H (.int i)) : EO X (some e) σ H (some i) := fun H1 l Q q => ⟨_, po_some pe_w, h H1 l _ fun v B2 H2 u dv => by
  cases dv
  exact ⟨i, rfl, q H2 u.h⟩⟩
def WO (X : Cx) (e : Option Expr) : TO := fun σ H Q => ∃ t, PO X e t ∧ t σ H Q
theorem po_w {o : Option Expr} : PO X o (WO X o) := ⟨fun pins s σ H Q I ⟨t, h, q⟩ => h.run pins s σ H Q I q⟩
theorem ee_cut {lo hi : Option Expr} {i j : Option Int} {pos p2 : Pos} (ha : EE X e σ H (.tuple xs)) (h1 : EO X lo σ H i) (h2 : EO X hi σ H j) : EE X (.Subscript e (.Slice lo hi none p2) pos) σ H (.tuple (cutD xs i j)) := fun H1 l Q q =>
  ⟨_, pe_slice sl_tupA pe_w po_w po_w, ha H1 l _ fun v B2 H2 u dv => h1 H2 ((u.b.trans u.s)) _ fun H3 l3 => h2 H3 ((u.b.trans u.s).trans l3) _ fun H4 l4 => by
    have u4 := (u.tab l3).tab l4
    cases dv with
    | tup s t h0 =>
      refine ⟨_, _, rfl, sqT_le u4.s s, fun hw => ?_, fun hw p hp => q _ _ _ (u4.new hp fun ps z => by cases z) (.new_tup upd_same ?_)⟩
      · have e2 : cutD xs i j = xs := by
          rw [h0.length] at hw
          unfold cutD
          rw [hw.1, hw.2]
          simp
        rw [e2] at q
        exact q _ B2 H4 u4 (.tup s t h0)
      · unfold cutV cutD
        rw [h0.length]
        exact ((Ds.le (Le.new (u4.s.there p hp)) h0).drop _).take _⟩
theorem cutD_take {xs : List PyData} {n : Nat} (h : n ≤ xs.length) : cutD xs none (some (n : Int)) = xs.take n := by
  unfold cutD
  rw [HT.sIx_none, HT.sIx_nat, Nat.min_eq_left h]
  simp
theorem cutD_drop {xs : List PyData} {n : Nat} (h : n ≤ xs.length) : cutD xs (some (n : Int)) none = xs.drop n := by
  unfold cutD
  rw [HT.sIx_none, HT.sIx_nat, Nat.min_eq_left h]
  exact List.take_of_length_le (by rw [List.length_drop]; omega)
theorem cutD_mid {xs : List PyData} {n m : Nat} : cutD xs (some (n : Int)) (some (m : Int)) = (xs.drop (min n xs.length)).take (min m xs.length - min n xs.length) := by
  unfold cutD
  rw [HT.sIx_nat, HT.sIx_nat]
end
end Tk


set_option Elab.async false
set_option linter.all false
set_option maxRecDepth 100000
set_option maxHeartbeats 1000000
/-! Tk7: int(..), dicts that are read, stores in a cell. -/
namespace Tk
open PySem PySem.Spec PyProof.Rows L2 GxR Gx
variable [LamTab]
def rInt1 : List V → Hp → VK → Prop := fun xs H Q => (∃ i, xs = [V.int i] ∧ Q (.int i) H) ∨ ∃ k, xs = [V.bl k] ∧ Q (.int (if k = true then 1 else 0)) H
theorem c_int1 {X : Cx} : CallR X (.type "int") rInt1 := call_int1
theorem rc_int1 {K : PySem.W.Frag} {H : Hp} {i : Int} : RC1 K rInt1 H [.int i] (.int i) := fun B H1 l l1 vs hv Q q => by
  obtain ⟨v, rfl, h⟩ := ds1 hv
  cases h
  exact .inl ⟨i, rfl, q _ B H1 (Up.refl l1) (.int i)⟩
section
variable {X : Cx} {e a b : Expr} {es : List Expr} {σ : L2.St} {H : Hp} {d : PyData}
theorem ee_int1 {p pos : Pos} {i : Int} (BL : Blt X.mg) (ha : EE X e σ H (.int i)) (hg : Gl X "int" := by rfl) (he : starEach [e] X.env = (false, eval e X.env) :: starEach [] X.env := by rfl) :
    EE X (.Call (.Name "int" p) [e] [] pos) σ H (.int i) := ee_callTy c_int1 hg BL.int boot_int' rc_int1 (ea_cons ha ea_nil he) (by decide) (by decide) he rfl
/-- d["k"] -/
theorem ee_dget {A : Addr} {i : Nat} {x k : Str} {kvs : List (Key × V)} {v : V} {p1 p2 pos : Pos} {j : Nat} (hu : X.A.units + 64 < cLine) (hσ : σ[i]? = some (some (.ref A))) (hA : H A = some (.dK kvs)) (hk : valV kvs (.inr k) = some v) (hd : Dt X.K H v d) (hN : X.N[i]? = some x := by rfl) (hv : Vis X.env.scope x := by first | exact Or.inl rfl | exact Or.inr (Or.inl rfl) | exact Or.inr (Or.inr rfl)) (h1 : (x == ("__debug__" : Str)) = false := by decide) (h2 : (x == ("__classdict__" : Str)) = false := by decide) :
    EE X (.Subscript (.Name x p1) (.Constant (.str k) j p2) pos) σ H d := fun H1 l Q q => by
  have e : H1 A = some (.dK kvs) := l.keep A _ hA fun ps z => by cases z
  have g : DGet H1 A (kV (.inr k)) (some v) := by rw [← hk]; exact DGet.k e
  exact ⟨_, pe_dget (by omega) (pe_var hN hv h1 h2) pe_str (fun _ _ => rfl), _, hσ, A, v, rfl, g, q v H H1 (Up.refl l) hd⟩
end
theorem LeX.put {D : List Addr} {H H1 : Hp} {a : Addr} {o o0 : HO} (l : LeX D H H1) (ha : a ∈ D) (h0 : H1 a = some o0) (hn : ∀ ps, o0 ≠ .tbl ps) : LeX D H (upd H1 a o) :=
  ⟨fun x o' hx q n => by
    rw [upd_ne fun z => hx (by rw [z]; exact ha)]
    exact l.keep x o' hx q n, fun P t => by
    obtain ⟨ps, q1, q2⟩ := l.tab P t
    refine ⟨ps, ?_, q2⟩
    rw [upd_ne fun z => by rw [z, h0] at q1; exact hn ps (Option.some.inj q1)]
    exact q1, fun x q => by
    by_cases z : x = a
    · rw [z, upd_same] at q
      cases q
    · rw [upd_ne z] at q
      exact l.there x q⟩
theorem UpX.self {D : List Addr} {B H H' : Hp} (a : LeX D H H') (b : Le B H') : UpX D B H B H' := ⟨a, Le.refl B, b, fun x h => .inl h⟩
end Tk


set_option Elab.async false
set_option linter.all false
set_option maxRecDepth 100000
set_option maxHeartbeats 1000000
/-! Tk8: list comprehensions whose elements draw. -/
namespace Tk
open PySem PySem.Spec PyProof.Rows L2 GxR Gx
variable [LamTab]
theorem Le.add {B H : Hp} {p : Addr} {o : HO} (l : Le B H) (h : H p = some o) (n : ∀ ps, o ≠ .tbl ps) : Le (upd B p o) H :=
  ⟨fun a u q k => by
    by_cases z : a = p
    · rw [z, upd_same] at q
      rw [z, h]
      exact q
    · rw [upd_ne z] at q
      exact l.keep a u q k, fun P t => by
    obtain ⟨ps, q1, q2⟩ := t
    by_cases z : P = p
    · rw [z, upd_same] at q1
      exact absurd (Option.some.inj q1) (n ps)
    · rw [upd_ne z] at q1
      exact l.tab P ⟨ps, q1, q2⟩, fun a q => by
    by_cases z : a = p
    · rw [z, h] at q
      cases q
    · rw [upd_ne z]
      exact l.there a q⟩
theorem LeX.mut {D : List Addr} {H H1 : Hp} {p : Addr} {o : HO} (l : LeX D H H1) (h : H p = none) : LeX D H (upd H1 p o) :=
  ⟨fun a u hx q n => by
    rw [upd_ne fun z => by rw [z, h] at q; cases q]
    exact l.keep a u hx q n, fun P t => by
    obtain ⟨ps, q1, q2⟩ := l.tab P t
    refine ⟨ps, ?_, q2⟩
    obtain ⟨ps0, r1, _⟩ := t
    rw [upd_ne fun z => by rw [z, h] at r1; cases r1]
    exact q1, fun a q => by
    by_cases z : a = p
    · rw [z, upd_same] at q
      cases q
    · rw [upd_ne z] at q
      exact l.there a q⟩
theorem yes_read {σ : L2.St} {H : Hp} {Q : Bool → Hp → Prop} (h : Q true H) : tYes σ H Q := h
def Off (D : List Addr) (J : Nat → Hp → Prop) : Prop := ∀ n H p o, J n H → p ∉ D → J n (upd H p o)
section
variable {X : Cx} {tg iter elt : Expr} {scope : Scope} {own : List (Str × Nat)} {pos : Pos} {σ : L2.St} {B : Hp} {tjs : List Nat} {pat : PyData → Option (List PyData)} {D : List Addr} {J : Nat → Hp → Prop}
/-- a walk that may draw -/
def EIJ (X : Cx) (D : List Addr) (J : Nat → Hp → Prop) (tg iter : Expr) (σ : L2.St) (B : Hp) (n : Nat) (RI : List PyData → Prop) : Prop := ∀ m H1, Le B H1 → Apt D B → J (m + n) H1 → ∀ R : It → Hp → Prop, (∀ Jt B2 H2 ds, UpX D B H1 B2 H2 → J m H2 → Walk X.K Jt B2 ds → RI ds → R Jt H2) → WI X tg iter σ H1 R
theorem eij_pure (C : Cells D J) {ds : List PyData} (h : EI X tg iter σ B ds) : EIJ X D J tg iter σ B 0 (· = ds) := fun m H1 l ap j R q => h H1 l R fun Jt B2 H2 u w => q Jt B2 H2 ds (.of u) (C.le _ _ _ j u.h) w rfl
theorem eij_lst {n : Nat} {R : List PyData → Prop} (h : EJ X D J iter σ B n (fun d => ∃ ds, d = .list ds ∧ R ds)) : EIJ X D J tg iter σ B n R := fun m H1 l ap j R' q => ⟨_, pi_list pe_w, h m H1 l ap j _ fun v d B2 H2 u jj dv r => by
  obtain ⟨ds, rfl, r⟩ := r
  cases dv with
  | lst s t h0 =>
    refine ⟨_, rfl, ⟨_, sqL_le u.s s⟩, q _ B2 H2 ds u jj (fun B' H' l1 l2 => ⟨fun i hi => ?_, ⟨_, sqL_le (l1.trans l2) s, Nat.le_of_eq h0.length⟩, fun i x H'' hi hy => ?_⟩) r⟩
    · obtain ⟨v, h1, _⟩ := h0.get (List.getElem?_eq_getElem hi)
      exact ⟨_, v, sqL_le (l1.trans l2) s, h1⟩
    · obtain ⟨e1, hy⟩ := hy
      subst e1
      obtain ⟨d, h1, h2⟩ := h0.getV (hy _ (sqL_le (l1.trans l2) s))
      exact ⟨B', d, Up.refl l2, h1, Dt.le l1 h2⟩⟩
/-- each of both lists -/
inductive Both (R : PyData → PyData → Prop) : List PyData → List PyData → Prop
  | nil : Both R [] []
  | cons {a b as bs} : R a b → Both R as bs → Both R (a :: as) (b :: bs)
theorem Both.snoc {R : PyData → PyData → Prop} : ∀ {as bs : List PyData} {a b : PyData}, Both R as bs → R a b → Both R (as ++ [a]) (bs ++ [b])
  | _, _, _, _, .nil, h => .cons h .nil
  | _, _, _, _, .cons r t, h => .cons r (t.snoc h)
theorem Both.length {R : PyData → PyData → Prop} : ∀ {as bs : List PyData}, Both R as bs → as.length = bs.length
  | _, _, .nil => rfl
  | _, _, .cons _ t => by rw [List.length_cons, List.length_cons, t.length]
theorem Both.mem {R : PyData → PyData → Prop} : ∀ {as bs : List PyData} {b : PyData}, Both R as bs → b ∈ bs → ∃ a ∈ as, R a b
  | _, _, _, .nil, h => by cases h
  | _, _, _, .cons r t, h => by
    rcases List.mem_cons.mp h with z | z
    · rw [z]; exact ⟨_, List.mem_cons_self, r⟩
    · obtain ⟨a, ha, hr⟩ := t.mem z
      exact ⟨a, List.mem_cons_of_mem _ ha, hr⟩
abbrev tokJ (X : Cx) (tg iter elt : Expr) (scope : Scope) (own : List (Str × Nat)) : TE := tLc (WI X tg iter) (fun v σ H Q => ∀ s H0 C cl fp, WG (blkX X s H0 scope C cl fp) tg v σ H Q) (fun σ H Q => ∀ s H0 C cl fp, WTs (blkX X s H0 scope C cl fp) [] σ H Q) (fun σ H Q => ∀ s H0 C cl fp, WE (blkX X s H0 scope C cl fp) elt σ H Q) (own.map (·.2))
theorem lcJ_read {n1 n2 k : Nat} {RI : List PyData → Prop} {RE : PyData → PyData → Prop} (C : Cells D J) (O : Off D J) (hc : X.calm = true) (nd : X.N.Nodup) (hi : EIJ X D J tg iter σ B n1 RI) (hk : ∀ ds, RI ds → ds.length ≤ k) (hks : k < sizeLine)
    (hg : ∀ s H C cl fp, EG (blkX X s H scope C cl fp) tg tjs pat) (hpat : ∀ ds, RI ds → ∀ d ∈ ds, ∃ es, pat d = some es ∧ es.length = tjs.length)
    (hw : ∀ vs : List V, vs.length = tjs.length → wipe (setsS (wipe σ (own.map (·.2))) tjs vs) (own.map (·.2)) = wipe σ (own.map (·.2)))
    (body : ∀ B' ds d es vs, Le B B' → RI ds → d ∈ ds → pat d = some es → Ds X.K B' vs es → ∀ s H C cl fp, EJ (blkX X s H scope C cl fp) D J elt (setsS (wipe σ (own.map (·.2))) tjs vs) B' n2 (RE d)) :
    ∀ m H1, Le B H1 → Apt D B → J (m + (n1 + k * n2)) H1 → ∀ Q : VK, (∀ A acc B2 H2 ds rs, H1 A = none → UpX D B H1 B2 H2 → J m H2 → B2 A = some (.lst acc) → H2 A = some (.lst acc) → Ds X.K B2 acc rs → RI ds → Both RE ds rs → Q (.ref A) H2) → tokJ X tg iter elt scope own σ H1 Q := fun m H1 l ap j Q q => by
  refine hi (m + k * n2) H1 l ap (by rw [show m + k * n2 + n1 = m + (n1 + k * n2) by omega]; exact j) _ fun Jt B2 H2 ds u2 j2 wk ri A hA => ?_
  have hlen := hk ds ri
  have hA1 : H1 A = none := u2.h.there A hA
  have hAD : A ∉ D := fun z => by
    obtain ⟨o, e, _⟩ := C.at_ _ H2 j2 A z
    rw [hA] at e
    cases e
  have hB2A : B2 A = none := u2.s.there A hA
  refine ⟨fun i mm H' => mm = ds.length - i ∧ i ≤ ds.length ∧ ∃ B' acc rs, Le B2 B' ∧ UpX D B H1 B' H' ∧ J (m + (k - i) * n2) H' ∧ B' A = none ∧ H' A = some (.lst acc) ∧ Ds X.K B' acc rs ∧ Both RE (ds.take i) rs, ⟨ds.length, rfl, Nat.zero_le _, B2, [], [], Le.refl _, ⟨u2.h.trans (.of (Le.new hA)), u2.b, u2.s.trans (Le.new hA), u2.n⟩, C.le _ _ _ j2 (Le.new hA), hB2A, upd_same, .nil, by rw [List.take_zero]; exact .nil⟩, ?_⟩
  rintro i mm H' ⟨rfl, hi', B', acc, rs, lb, u', jj, hBA, hacc, dacc, rr⟩
  obtain ⟨w1, w2, w3⟩ := wk B' H' lb u'.s
  by_cases hlt : i < ds.length
  · refine .inr ⟨w1 i hlt, fun H'' => ∃ B'' acc' rs', Le B2 B'' ∧ UpX D B H1 B'' H'' ∧ J (m + (k - (i + 1)) * n2) H'' ∧ B'' A = none ∧ H'' A = some (.lst acc') ∧ Ds X.K B'' acc' rs' ∧ Both RE (ds.take (i + 1)) rs', fun H'' h => ⟨ds.length - (i + 1), by omega, rfl, hlt, h⟩, fun x H4 hy => ?_⟩
    obtain ⟨B4, d, u4, hd, dx⟩ := w3 i x H4 hlt hy
    have hmem : d ∈ ds := List.mem_of_getElem? hd
    obtain ⟨es, hes, hel⟩ := hpat ds ri d hmem
    have hB4A : B4 A = none := by
      cases h : B4 A with
      | none => rfl
      | some o =>
        rcases u4.n A (by rw [h]; simp) with y | y | ⟨⟨ps, y⟩, _⟩
        · exact absurd hBA y
        · rw [hacc] at y; cases y
        · rw [hacc] at y; cases y
    have hH4A : H4 A = some (.lst acc) := u4.h.keep A _ hacc fun ps z => by cases z
    intro s H0 C' cl fp
    refine hg s H0 C' cl fp x d es _ B4 H4 u4.s dx hes _ fun vs dvs => ?_
    have hvl : vs.length = tjs.length := by rw [dvs.length, hel]
    refine ⟨hw vs hvl, fun s H0 C' cl fp => ⟨_, pts_nil, ?_⟩⟩
    have ta : ds.take (i + 1) = ds.take i ++ [d] := by rw [List.take_add_one, hd]; rfl
    have j4 := C.le _ _ _ jj u4.h
    have u5 : UpX D B H1 B4 H4 := u'.trans C jj (.of u4)
    refine yes_read ((if_pos rfl).mpr ?_)
    intro s H0 C' cl fp
    have lb4 : Le B B4 := u5.b
    have ap4 : Apt D B4 := u5.apt C j ap
    have kk : k - i = (k - (i + 1)) + 1 := by omega
    refine body B4 ds d es vs lb4 ri hmem hes dvs s H0 C' cl fp (m + (k - (i + 1)) * n2) H4 u5.s ap4 (by rw [kk, Nat.add_mul, Nat.one_mul, ← Nat.add_assoc] at j4; exact j4) _ fun v r B6 H6 u6 j6 dv re => ?_
    have hB6A : B6 A = none := by
      cases h : B6 A with
      | none => rfl
      | some o =>
        rcases u6.n A (by rw [h]; simp) with y | y | ⟨⟨ps, y⟩, _⟩
        · exact absurd hB4A y
        · rw [hH4A] at y; cases y
        · rw [hH4A] at y; cases y
    have hlen2 : acc.length < sizeLine := by
      have e1 := dacc.length
      have e2 := rr.length
      rw [List.length_take] at e2
      omega
    have u7 := u5.trans C j4 u6
    refine ⟨acc, u6.h.keep A _ hAD hH4A (fun ps z => by cases z), hlen2, B6, acc ++ [v], rs ++ [r], (lb.trans u4.b).trans u6.b, ⟨u7.h.mut hA1, u7.b, u7.s.mut hB6A, u7.n⟩, O _ _ _ _ j6 hAD, hB6A, upd_same, (Ds.le (u4.b.trans u6.b) dacc).snoc dv, ?_⟩
    rw [ta]
    exact rr.snoc re
  · have ei : i = ds.length := by omega
    subst ei
    rw [List.take_length] at rr
    refine .inl ⟨w2, ?_⟩
    have hs8 : Le (upd B' A (.lst acc)) H' := u'.s.add hacc (fun ps z => by cases z)
    have u8 : UpX D B H1 (upd B' A (.lst acc)) H' := ⟨u'.h, u'.b.trans (Le.new hBA), hs8, fun a qa => by
      by_cases z : a = A
      · rw [z]
        exact .inr (.inl hA1)
      · rw [upd_ne z] at qa
        exact u'.n a qa⟩
    exact q A acc _ _ ds rs hA1 u8 (C.less _ _ _ jj (by omega)) upd_same hacc (Ds.le (Le.new hBA) dacc) ri rr
theorem ej_lc {n1 n2 k : Nat} {RI : List PyData → Prop} {RE : PyData → PyData → Prop} (C : Cells D J) (O : Off D J) (hc : X.calm = true) (nd : X.N.Nodup) (hi : EIJ X D J tg iter σ B n1 RI) (hk : ∀ ds, RI ds → ds.length ≤ k) (hks : k < sizeLine) (hb : BlkOk X.N X.env.scope scope own)
    (hg : ∀ s H C cl fp, EG (blkX X s H scope C cl fp) tg tjs pat) (hpat : ∀ ds, RI ds → ∀ d ∈ ds, ∃ es, pat d = some es ∧ es.length = tjs.length)
    (hw : ∀ vs : List V, vs.length = tjs.length → wipe (setsS (wipe σ (own.map (·.2))) tjs vs) (own.map (·.2)) = wipe σ (own.map (·.2)))
    (body : ∀ B' ds d es vs, Le B B' → RI ds → d ∈ ds → pat d = some es → Ds X.K B' vs es → ∀ s H C cl fp, EJ (blkX X s H scope C cl fp) D J elt (setsS (wipe σ (own.map (·.2))) tjs vs) B' n2 (RE d)) (hs : ∀ x, foldedSetIterable iter X.env x = pure x := by intro _; rfl) :
    EJ X D J (.ListComp elt [⟨tg, iter, [], 0⟩] scope pos) σ B (n1 + k * n2) (fun d => ∃ ds rs, d = .list rs ∧ RI ds ∧ Both RE ds rs) := fun m H1 l ap j Q q =>
  ⟨_, pe_lc (wi := WI X tg iter) (g := fun v σ H Q => ∀ s H0 C cl fp, WG (blkX X s H0 scope C cl fp) tg v σ H Q) (tt := fun σ H Q => ∀ s H0 C cl fp, WTs (blkX X s H0 scope C cl fp) [] σ H Q) (te := fun σ H Q => ∀ s H0 C cl fp, WE (blkX X s H0 scope C cl fp) elt σ H Q) hc nd pi_w hb
    (fun s H C cl fp => ⟨fun pins s' σ H' v u Q I r h => pg_w.run pins s' σ H' v u Q I r (h s H C cl fp)⟩) (fun s H C cl fp => ⟨fun pins s' σ H' Q I h => pts_w.run pins s' σ H' Q I (h s H C cl fp)⟩) (fun s H C cl fp => ⟨fun pins s' σ H' Q I h => pe_w.run pins s' σ H' Q I (h s H C cl fp)⟩) hs,
    lcJ_read C O hc nd hi hk hks hg hpat hw body m H1 l ap j Q fun A acc B2 H2 ds rs _ u jj e _ dv ri rr => q _ _ B2 H2 u jj (.new_lst e dv) ⟨ds, rs, rfl, ri, rr⟩⟩
end
end Tk


set_option Elab.async false
set_option linter.all false
set_option maxRecDepth 100000
set_option maxHeartbeats 1000000
namespace Tk
open PySem PySem.Spec PyProof.Rows L2 GxR Gx
variable [LamTab]
/-- a call of one that draws, with one more argument -/
theorem ej_call1 {X : Cx} {D : List Addr} {J : Nat → Hp → Prop} {a : Expr} {σ : L2.St} {B : Hp} {n : Nat} {T : List Addr} {lv : Nat} {pre : List PyData → Prop} {R : List PyData → PyData → Prop} {x y : Str} {ps : List Str} {dr : V} {d1 : PyData}
    {P : Program} {w : World} {K : PySem.W.Frag} {mg : Str → Option Value} {base : Heap} {p p2 pos : Pos} {j i : Nat} (C : Cells D J) (F : Kn P w K mg base lv x ps (spJ K T D J dr 1 n pre R)) (hr : Room j X.A) (hk : lv ≤ j) (t : Tbs T B) (hσ : σ[i]? = some (some dr))
    (ha : EE X a σ B d1) (hp : pre [d1]) (eP : X.prog = P := by rfl) (ew : X.w = w := by rfl) (eK : X.K = K := by rfl) (em : X.mg = mg := by rfl) (eb : X.base = base := by rfl) (hg : Gl X x := by rfl)
    (hN : X.N[i]? = some y := by rfl) (hv : Vis X.env.scope y := by first | exact Or.inl rfl | exact Or.inr (Or.inl rfl) | exact Or.inr (Or.inr rfl)) (hdy : (y == ("__debug__" : Str)) = false := by decide) (hcy : (y == ("__classdict__" : Str)) = false := by decide)
    (hdb : (x == ("__debug__" : Str)) = false := by decide) (he : starEach [.Name y p2, a] X.env = (false, eval (.Name y p2) X.env) :: starEach [a] X.env := by rfl) (he2 : starEach [a] X.env = (false, eval a X.env) :: starEach [] X.env := by rfl) (hpl : (backTo pos (starEach [a] X.env)).any (·.1) = false := by rfl) :
    EJ X D J (.Call (.Name x p) [.Name y p2, a] [] pos) σ B n (R [d1]) := by
  have := ej_call (p := p) (pos := pos) (p2 := p2) (i := i) C F hr hk t hσ (eaj_cons C (ej_pure (R := (· = d1)) C ha rfl) (fun B' l => eaj_nil) he2) (fun ds h => by
    obtain ⟨e, r, rfl, rfl, rfl⟩ := h
    exact ⟨hp, rfl⟩) eP ew eK em eb hg hN hv hdy hcy hdb he hpl
  refine this.weak C (fun e h => ?_) (by omega)
  obtain ⟨ds, ⟨e1, r, rfl, rfl, rfl⟩, hx⟩ := h
  exact hx
end Tk


set_option Elab.async false
set_option linter.all false
set_option maxRecDepth 100000
set_option maxHeartbeats 4000000
namespace K0
open PySem PySem.Spec PyProof.Rows L2 GxR Tk
variable [LamTab]
def top (i : Nat) : Stmt := PySem.Challenge.pw_allboughs_k09_whole_plays_drawn_to_rows.main.body.getD i (.Pass ⟨0, 0, 0, 0⟩)
abbrev sNum : Stmt := top 1
abbrev sHead : Stmt := top 2
abbrev sRow : Stmt := top 3
abbrev sAsc : Stmt := top 4
section
variable {P : Program} {w : World} {K : PySem.W.Frag} {mg : Str → Option Value} {base : Heap} {f : Addr} {fd : FuncData} {T : List Addr} {c Pt : Addr}

def numB (d : PyData) (m : Int) : Bool := isInt d && (!isBool d && match d with | .int i => decide (0 ≤ i) && decide (i < m) | _ => false)
def numF : List PyData → PyData
  | [d, .int m] => .bool (numB d m)
  | _ => .none
def numP (ds : List PyData) : Prop := ∃ d m, ds = [d, .int m]
theorem scNum : FnScope ["thing", "limit"] ["thing", "limit"] (defScope sNum) := ⟨rfl, rfl, rfl, by decide +kernel, rfl, by decide +kernel, by decide +kernel⟩
theorem ok_num (BL : Blt mg) (F : L2.Fun K "is_number" "is_number" sNum f fd) : FnOk P w K mg base CX0 1 f fd ["thing", "limit"] (spF K T 2 numP numF) := by
  refine fn_pure F scNum rfl fun cdv A outer s H vs B ds Q E hr hcd t l hd hl hp q => ?_
  obtain ⟨d, m, rfl⟩ := hp
  obtain ⟨v1, v2, rfl, h1, h2⟩ := ds2 hd
  cases h2
  refine wb_one (ws_ret (d := .bool (numB d m)) l ?_ q)
  refine ee_and (ee_isInt BL (ee_var (i := 0) rfl h1)) fun e1 => ?_
  refine ee_and (ee_not (ee_isBool BL (ee_var (i := 0) rfl h1))) fun e2 => ?_
  refine ee_one ?_
  cases d with
  | int i => exact ee_chain op_le op_lt rr_le (fun _ => rr_lt) ee_int (ee_var (i := 0) rfl h1) fun _ => ee_var (i := 1) rfl (.int m)
  | bool b => cases e2
  | none => cases e1
  | str x => cases e1
  | list x => cases e1
  | tuple x => cases e1
  | dict x => cases e1

def rowB (d : PyData) (lo hi : Int) : Bool := isTup d && match d with | .tuple xs => decide (lo ≤ (xs.length : Int)) && decide ((xs.length : Int) ≤ hi) | _ => false
def rowF : List PyData → PyData
  | [d, .int lo, .int hi] => .bool (rowB d lo hi)
  | _ => .none
def rowP (ds : List PyData) : Prop := ∃ d lo hi, ds = [d, .int lo, .int hi]
theorem scRow : FnScope ["thing", "least", "most"] ["thing", "least", "most"] (defScope sRow) := ⟨rfl, rfl, rfl, by decide +kernel, rfl, by decide +kernel, by decide +kernel⟩
theorem ok_row (BL : Blt mg) (F : L2.Fun K "is_row" "is_row" sRow f fd) : FnOk P w K mg base CX0 1 f fd ["thing", "least", "most"] (spF K T 3 rowP rowF) := by
  refine fn_pure F scRow rfl fun cdv A outer s H vs B ds Q E hr hcd t l hd hl hp q => ?_
  obtain ⟨d, lo, hi, rfl⟩ := hp
  obtain ⟨v1, v2, v3, rfl, h1, h2, h3⟩ := ds3 hd
  cases h2
  cases h3
  refine wb_one (ws_ret (d := .bool (rowB d lo hi)) l ?_ q)
  refine ee_and (ee_isTup BL (ee_var (i := 0) rfl h1)) fun e1 => ?_
  refine ee_one ?_
  cases d with
  | tuple xs => exact ee_chain op_le op_le rr_le (fun _ => rr_le) (ee_var (i := 1) rfl (.int lo)) (ee_len BL (ee_var (i := 0) rfl h1) rfl fun x z => by cases z) fun _ => ee_var (i := 2) rfl (.int hi)
  | _ => cases e1

def headB (d : PyData) (wd : Str) (n : Int) : Bool := isTup d && match d with
  | .tuple xs => decide ((xs.length : Int) = n) && match xs with
    | x :: _ => isStr x && match x with
      | .str z => decide (z = wd)
      | _ => false
    | [] => false
  | _ => false
def headF : List PyData → PyData
  | [d, .str wd, .int n] => .bool (headB d wd n)
  | _ => .none
def headP (ds : List PyData) : Prop := ∃ d wd n, ds = [d, .str wd, .int n] ∧ 0 < n
theorem scHead : FnScope ["thing", "word", "size"] ["thing", "word", "size"] (defScope sHead) := ⟨rfl, rfl, rfl, by decide +kernel, rfl, by decide +kernel, by decide +kernel⟩
theorem ok_head (BL : Blt mg) (F : L2.Fun K "is_headed" "is_headed" sHead f fd) : FnOk P w K mg base CX0 1 f fd ["thing", "word", "size"] (spF K T 3 headP headF) := by
  refine fn_pure F scHead rfl fun cdv A outer s H vs B ds Q E hr hcd t l hd hl hp q => ?_
  obtain ⟨d, wd, n, rfl, hn⟩ := hp
  obtain ⟨v1, v2, v3, rfl, h1, h2, h3⟩ := ds3 hd
  cases h2
  cases h3
  refine wb_one (ws_ret (d := .bool (headB d wd n)) l ?_ q)
  refine ee_and (ee_isTup BL (ee_var (i := 0) rfl h1)) fun e1 => ?_
  cases d with
  | tuple xs =>
    refine ee_and (ee_cmp op_eq rr_eqI (ee_len BL (ee_var (i := 0) rfl h1) rfl fun x z => by cases z) (ee_var (i := 2) rfl (.int n))) fun e2 => ?_
    have e2 : (xs.length : Int) = n := of_decide_eq_true e2
    cases xs with
    | nil =>
      have e3 : ((0 : Nat) : Int) = n := e2
      omega
    | cons x xs =>
      refine ee_and (ee_isStr BL (ee_ix ix_tup (rr_ixT at0) (ee_var (i := 0) rfl h1) ee_int)) fun e3 => ?_
      refine ee_one ?_
      cases x with
      | str z => exact ee_cmp op_eq rr_eqS (ee_ix ix_tup (rr_ixT at0) (ee_var (i := 0) rfl h1) ee_int) (ee_var (i := 1) rfl (.str wd))
      | _ => cases e3
  | _ => cases e1

/-- less, of texts and of numbers -/
def ltD : PyData → PyData → Bool
  | .str a, .str b => decide (a.cps.toList < b.cps.toList)
  | .int a, .int b => decide (a < b)
  | _, _ => false
def ascB (xs : List PyData) : Bool := (upto ((xs.length : Int) - 1).toNat).all fun d => match d with
  | .int i => ltD (xs.getD i.toNat .none) (xs.getD (i + 1).toNat .none)
  | _ => false
def ascF : List PyData → PyData
  | [.tuple xs] => .bool (ascB xs)
  | _ => .none
def ascP (ds : List PyData) : Prop := ∃ xs, ds = [.tuple xs] ∧ xs.length ≤ 100000 ∧ ((∀ d ∈ xs, isStr d = true) ∨ ∀ d ∈ xs, ∃ i, d = .int i)
theorem scAsc : FnScope ["items"] ["items"] (defScope sAsc) := ⟨rfl, rfl, rfl, by decide +kernel, rfl, by decide +kernel, by decide +kernel⟩
theorem mem_upto {n : Nat} {d : PyData} (h : d ∈ upto n) : ∃ i : Nat, i < n ∧ d = .int (Int.ofNat i) := by
  unfold upto at h
  obtain ⟨i, hi, e⟩ := List.mem_map.mp h
  exact ⟨i, List.mem_range.mp hi, e.symm⟩
theorem ok_asc (BL : Blt mg) (F : L2.Fun K "ascends" "ascends" sAsc f fd) (hc : fd.code = .ref c) (TB : TabB base mg c Pt) (hP : Pt ∈ T) : FnOk P w K mg base CX0 2 f fd ["items"] (spF K T 1 ascP ascF) := by
  refine fn_pure F scAsc rfl fun cdv A outer s H vs B ds Q E hr hcd t l hd hl hp q => ?_
  obtain ⟨xs, rfl, hn, hk⟩ := hp
  obtain ⟨v1, rfl, h1⟩ := ds1 hd
  subst hcd
  refine wb_one (ws_ret (d := .bool (ascB xs)) l ?_ q)
  refine ee_all (k := 0) (N := ["at", "items"]) (js := [none, some 0]) (tjs := [0]) (pat := patN) _ hr BL.all TB hc (scope_by (n := s.heap.objs.size + 1) rfl (show gsB ["items"] ["at", "items"] (defScope sAsc) _ [none, some 0] = true by decide +kernel)) hP t
    (ei_range (n := (xs.length : Int) - 1) BL.range (ee_op op_sub rr_sub (ee_len BL (ee_var (i := 0) rfl h1) rfl fun x z => by cases z) ee_int) (by omega) (by omega)) (fun code A s H0 ex hr => eg_name (show List.Nodup (["at", "items"] : List Str) by decide +kernel)) (by decide) (fun d hd => ⟨[d], rfl, rfl⟩) fun B' d es vs lb hd he hv code A s H0 ex hr => ?_
  obtain ⟨i, hi, rfl⟩ := mem_upto hd
  cases he
  obtain ⟨x, rfl, hx⟩ := ds1 (K := K) hv
  have hi1 : i < xs.length := by omega
  have hi2 : i + 1 < xs.length := by omega
  have e2 : (Int.ofNat i + 1 : Int) = Int.ofNat (i + 1) := rfl
  have g1 : xs.getD i .none ∈ xs := by rw [List.getD_eq_getElem?_getD, List.getElem?_eq_getElem hi1]; exact List.getElem_mem hi1
  have g2 : xs.getD (i + 1) .none ∈ xs := by rw [List.getD_eq_getElem?_getD, List.getElem?_eq_getElem hi2]; exact List.getElem_mem hi2
  rcases hk with hk | hk
  · have k1 := hk _ g1
    have k2 := hk _ g2
    have a1 := atD hi1
    have a2 := atD hi2
    refine EE.cast (d := .bool (ltD (xs.getD i .none) (xs.getD (i + 1) .none))) ?_ rfl
    generalize xs.getD i .none = y1 at *
    generalize xs.getD (i + 1) .none = y2 at *
    cases y1 with
    | str z1 =>
      cases y2 with
      | str z2 => exact ee_cmp o_ltS rr_ltS (ee_ix ix_tup (rr_ixT a1) (ee_var (i := 1) rfl (Dt.le lb h1)) (ee_var (i := 0) rfl hx)) (ee_ix ix_tup (rr_ixT a2) (ee_var (i := 1) rfl (Dt.le lb h1)) (ee_op op_add rr_add (ee_var (i := 0) rfl hx) ee_int))
      | _ => cases k2
    | _ => cases k1
  · obtain ⟨j1, k1⟩ := hk _ g1
    obtain ⟨j2, k2⟩ := hk _ g2
    have a1 := atD hi1
    have a2 := atD hi2
    refine EE.cast (d := .bool (ltD (xs.getD i .none) (xs.getD (i + 1) .none))) ?_ rfl
    rw [k1] at a1 ⊢
    rw [k2] at a2 ⊢
    exact ee_cmp op_lt rr_lt (ee_ix ix_tup (rr_ixT a1) (ee_var (i := 1) rfl (Dt.le lb h1)) (ee_var (i := 0) rfl hx)) (ee_ix ix_tup (rr_ixT a2) (ee_var (i := 1) rfl (Dt.le lb h1)) (ee_op op_add rr_add (ee_var (i := 0) rfl hx) ee_int))

end
end K0


set_option Elab.async false
set_option linter.all false
set_option maxRecDepth 100000
set_option maxHeartbeats 4000000
namespace K0
open PySem PySem.Spec PyProof.Rows L2 GxR Tk
variable [LamTab]
abbrev sMix : Stmt := top 25
def drK (lw lc : Addr) (r t : Int) : List (Key × V) := [(.inr "wide", .ref lw), (.inr "cells", .ref lc), (.inr "rest", .int r), (.inr "turn", .int t)]
def DJ (d lw lc : Addr) (n : Nat) (H : Hp) : Prop := ∃ (ws cs : List Int) (r t : Int), H d = some (.dK (drK lw lc r t)) ∧ H lw = some (.lst (ws.map V.int)) ∧ H lc = some (.lst (cs.map V.int)) ∧ 0 ≤ t ∧ t + n ≤ 2 ^ 40
theorem put_turn {lw lc : Addr} {r t t' : Int} : putK (drK lw lc r t) (.inr "turn") (.int t') = drK lw lc r t' := by rfl
theorem put_rest {lw lc : Addr} {r t r' : Int} : putK (drK lw lc r t) (.inr "rest") (.int r') = drK lw lc r' t := by rfl
theorem get_turn {lw lc : Addr} {r t : Int} : valV (drK lw lc r t) (.inr "turn") = some (.int t) := by rfl
theorem get_rest {lw lc : Addr} {r t : Int} : valV (drK lw lc r t) (.inr "rest") = some (.int r) := by rfl
theorem get_cells {lw lc : Addr} {r t : Int} : valV (drK lw lc r t) (.inr "cells") = some (.ref lc) := by rfl
theorem get_wide {lw lc : Addr} {r t : Int} : valV (drK lw lc r t) (.inr "wide") = some (.ref lw) := by rfl
theorem cells_DJ {d lw lc : Addr} : Cells [d, lw, lc] (DJ d lw lc) where
  at_ := fun n H ⟨ws, cs, r, t, h1, h2, h3, _⟩ a ha => by
    rcases List.mem_cons.mp ha with z | z
    · rw [z]; exact ⟨_, h1, fun ps z => by cases z⟩
    rcases List.mem_cons.mp z with z | z
    · rw [z]; exact ⟨_, h2, fun ps z => by cases z⟩
    · rw [List.mem_singleton.mp z]; exact ⟨_, h3, fun ps z => by cases z⟩
  le := fun n H H' ⟨ws, cs, r, t, h1, h2, h3, h4, h5⟩ l => ⟨ws, cs, r, t, l.keep d _ h1 (fun ps z => by cases z), l.keep lw _ h2 (fun ps z => by cases z), l.keep lc _ h3 (fun ps z => by cases z), h4, h5⟩
  less := fun n m H ⟨ws, cs, r, t, h1, h2, h3, h4, h5⟩ hm => ⟨ws, cs, r, t, h1, h2, h3, h4, by omega⟩
theorem hu1 {A : Around} {k : Nat} (r : Room k A) : A.units + 1 < cLine := by
  have := r.un
  omega
theorem ints_ds {K : PySem.W.Frag} {H : Hp} : ∀ cs : List Int, Ds K H (cs.map V.int) (cs.map PyData.int)
  | [] => .nil
  | c :: cs => .cons (.int c) (ints_ds cs)
section
variable {P : Program} {w : World} {K : PySem.W.Frag} {mg : Str → Option Value} {base : Heap} {f : Addr} {fd : FuncData} {T : List Addr} {d lw lc : Addr}
theorem scMix : FnScope ["draw", "turn", "found", "prime", "blend", "grain"] ["draw"] (defScope sMix) := ⟨rfl, rfl, rfl, by decide +kernel, rfl, by decide +kernel, by decide +kernel⟩
theorem ndMix : List.Nodup (["draw", "turn", "found", "prime", "blend", "grain"] : List Str) := by decide +kernel
theorem prime_of {i : Nat} {x : PyData} (h : ([.int 2147483647, .int 2147483629, .int 2147483587, .int 2147483579] : List PyData)[i]? = some x) : ∃ p : Int, x = .int p ∧ 0 < p ∧ p < 2147483648 := by
  have m := List.mem_of_getElem? h
  simp only [List.mem_cons, List.not_mem_nil, or_false] at m
  rcases m with rfl | rfl | rfl | rfl
  · exact ⟨_, rfl, by decide, by decide⟩
  · exact ⟨_, rfl, by decide, by decide⟩
  · exact ⟨_, rfl, by decide, by decide⟩
  · exact ⟨_, rfl, by decide, by decide⟩
theorem ok_mix (BL : Blt mg) (hTD : ∀ a ∈ [d, lw, lc], a ∉ T) (F : L2.Fun K "_law_mixed" "_law_mixed" sMix f fd) : FnOk P w K mg base CX0 1 f fd ["draw"] (spJ K T [d, lw, lc] (DJ d lw lc) (.ref d) 0 1 (· = []) (fun _ r => ∃ i, r = .int i)) := by
  refine fn_draw hTD F scMix rfl fun cdv A outer s H vs B ds m Q E hr hcd t l ap j hd hl hp q => ?_
  have e0 : vs = [] := List.eq_nil_of_length_eq_zero hl
  subst e0
  obtain ⟨ws, cs, r, t0, hH, hw, hc, h0, hb⟩ := j
  have hu := hu64 hr
  refine wb_cons ⟨_, ps_par (i := 1) (j := 2) rfl ndMix rfl rfl (by decide) rfl rfl pa_w rfl, ?_⟩
  refine (ea_cons (ee_op op_add rr_add (ee_dget (i := 0) hu rfl hH get_turn (.int t0)) ee_int) (ea_cons ee_int ea_nil)) H (Le.refl H) _ fun us B1 H1 u1 dus => ?_
  obtain ⟨x, y, rfl, dx, dy⟩ := ds2 (K := K) dus
  cases dx
  cases dy
  refine ⟨_, _, rfl, ?_⟩
  refine wb_cons ⟨_, ps_dput (hu1 hr) (pe_var (i := 0) rfl (Or.inl rfl)) pe_str (pe_var (i := 1) rfl (Or.inl rfl)) rfl, _, rfl, _, rfl, d, _, rfl, DPut.k (k := .inr "turn") (u1.h.keep d _ hH (fun ps z => by cases z)) (by show 4 < sizeLine; decide), ?_⟩
  rw [put_turn]
  have hHd : H1 d = some (.dK (drK lw lc r t0)) := u1.h.keep d _ hH (fun ps z => by cases z)
  have hdD : d ∈ [d, lw, lc] := List.mem_cons_self
  have lx : LeX [d, lw, lc] H (upd H1 d (.dK (drK lw lc r (t0 + 1)))) := LeX.put (.of u1.h) hdD hHd fun ps z => by cases z
  have lb : Le B (upd H1 d (.dK (drK lw lc r (t0 + 1)))) := (l.trans u1.h).mut (ap d hdD)
  have hlw : lw ≠ d := ne_of (H := H) hw hH (by intro z; cases z)
  have hlc : lc ≠ d := ne_of (H := H) hc hH (by intro z; cases z)
  have hw4 : (upd H1 d (.dK (drK lw lc r (t0 + 1)))) lw = some (.lst (ws.map V.int)) := by rw [upd_ne hlw]; exact u1.h.keep lw _ hw (fun ps z => by cases z)
  have hc4 : (upd H1 d (.dK (drK lw lc r (t0 + 1)))) lc = some (.lst (cs.map V.int)) := by rw [upd_ne hlc]; exact u1.h.keep lc _ hc (fun ps z => by cases z)
  have hd4 : (upd H1 d (.dK (drK lw lc r (t0 + 1)))) d = some (.dK (drK lw lc r (t0 + 1))) := upd_same
  have j4 : DJ d lw lc m (upd H1 d (.dK (drK lw lc r (t0 + 1)))) := ⟨ws, cs, r, t0 + 1, hd4, hw4, hc4, by omega, by omega⟩
  generalize upd H1 d (.dK (drK lw lc r (t0 + 1))) = H4 at lx lb hw4 hc4 hd4 j4 ⊢
  have ht : 0 ≤ t0 + 1 ∧ t0 + 1 ≤ 2 ^ 40 := by omega
  generalize t0 + 1 = t1 at hd4 ht ⊢
  refine wb_cons (ws_for (B := H4) (tjs := [3]) (pat := patN) (ds := [.int 2147483647, .int 2147483629, .int 2147483587, .int 2147483579]) (Le.refl H4) (ei_lst (ee_lst (ea_cons ee_int (ea_cons ee_int (ea_cons ee_int (ea_cons ee_int ea_nil)))) (by show 4 ≤ sizeLine; decide))) (eg_name ndMix) (fun d hd => ⟨[d], rfl⟩) PassesOwn.never rfl
    (fun i σ' B' H' => ∃ g a b c, σ' = [some (.ref d), some (.int t1), some (.int g), a, b, c]) (fun B' H' u => ⟨0, _, _, _, rfl⟩) (fun i e es vs σ' B' H' B'' H'' hi hd' lb' hI u4 he dvs N hN => ?_) fun σ' B' H' lb' ls hI => ?_)
  · obtain ⟨g, a, b, c, rfl⟩ := hI
    obtain ⟨p, rfl, p1, p2⟩ := prime_of hd'
    cases he
    obtain ⟨x, rfl, hx⟩ := ds1 (K := K) dvs
    cases hx
    have lb2 := lb'.trans u4.b
    refine wb_cons (ws_set (i := 4) (d := .int (48271 * t1 + p / 37)) u4.s (ee_op op_add rr_add (ee_op op_mul (rr_I (.inl ⟨by decide, by decide⟩)) ee_int (ee_var (i := 1) rfl (.int t1))) (ee_op op_fdiv (rr_I ⟨by decide, by decide⟩) (ee_var (i := 3) rfl (.int p)) ee_int)) (fun v5 B5 H5 u5 d5 => ?_) ndMix)
    cases d5
    have lb5 := lb2.trans u5.b
    have k0 : 0 ≤ 48271 * t1 + p / 37 ∧ 48271 * t1 + p / 37 < 2 ^ 60 := by omega
    refine wb_cons (ws_for (B := B5) (tjs := [5]) (pat := patN) (ds := cs.map PyData.int) u5.s (ei_lst (ee_dget (i := 0) hu rfl (lb5.keep d _ hd4 (fun ps z => by cases z)) get_cells (.new_lst (lb5.keep lc _ hc4 (fun ps z => by cases z)) (ints_ds cs)))) (eg_name ndMix) (fun d hd => ⟨[d], rfl⟩) PassesOwn.never rfl
      (fun i σ' B' H' => ∃ z c, σ' = [some (.ref d), some (.int t1), some (.int g), some (.int p), some (.int z), c] ∧ 0 ≤ z ∧ z < 2 ^ 60) (fun B' H' u => ⟨_, _, rfl, k0.1, k0.2⟩) (fun i e es vs σ' B' H' B'' H'' hi hd' lb' hI u4 he dvs N hN => ?_) fun σ' B' H' lb' ls hI => ?_)
    · obtain ⟨z, c, rfl, z1, z2⟩ := hI
      obtain ⟨y, hy, rfl⟩ := List.mem_map.mp (List.mem_of_getElem? hd')
      cases he
      obtain ⟨x, rfl, hx⟩ := ds1 (K := K) dvs
      cases hx
      refine wb_one (ws_set (i := 4) (d := .int ((z * 69621 + y + t1) % p)) u4.s (ee_op op_mod (rr_I p1) (ee_int1 BL (ee_op op_add rr_add (ee_op op_add rr_add (ee_op op_mul (rr_I (.inr ⟨by decide, by decide⟩)) (ee_var (i := 4) rfl (.int z)) ee_int) (ee_var (i := 5) rfl (.int y))) (ee_var (i := 1) rfl (.int t1)))) (ee_var (i := 3) rfl (.int p))) (fun v6 B6 H6 u6 d6 => ?_) ndMix)
      cases d6
      refine hN _ B6 H6 u6.b u6.s ⟨_, _, rfl, Int.emod_nonneg _ (by omega), ?_⟩
      have := Int.emod_lt_of_pos (z * 69621 + y + t1) p1
      omega
    · obtain ⟨z, c, rfl, z1, z2⟩ := hI
      have lb6 := lb5.trans lb'
      refine wb_one (ws_set (i := 2) (d := .int (g * 2147483647 + z ^ (5 : Int).toNat % p)) ls (ee_op op_add rr_add (ee_op op_mul (rr_I (.inr ⟨by decide, by decide⟩)) (ee_var (i := 2) rfl (.int g)) ee_int) (ee_op op_mod (rr_I p1) (ee_int1 BL (ee_op op_pow (rr_I ⟨by decide, by decide, by omega⟩) (ee_var (i := 4) rfl (.int z)) ee_int)) (ee_var (i := 3) rfl (.int p)))) (fun v7 B7 H7 u7 d7 => ?_) ndMix)
      cases d7
      exact hN _ B7 H7 ((u5.b.trans lb').trans u7.b) u7.s ⟨_, _, _, _, rfl⟩
  · obtain ⟨g, a, b, c, rfl⟩ := hI
    refine wb_one (ws_ret (d := .int g) ls (ee_var (i := 2) rfl (.int g)) fun v B3 H3 u3 d3 => ?_)
    have e4 : Le H4 H3 := ((lb'.trans u3.b).trans u3.s)
    exact q v (.int g) B H3 (UpX.self (lx.trans (.of e4)) (lb.trans e4)) (cells_DJ.le m _ _ j4 e4) (by cases d3; exact .int g) ⟨g, rfl⟩
end
end K0


set_option Elab.async false
set_option linter.all false
set_option maxRecDepth 100000
set_option maxHeartbeats 4000000
namespace K0
open PySem PySem.Spec PyProof.Rows L2 GxR Tk
variable [LamTab]
abbrev sTake : Stmt := top 26
theorem ints_lay : ∀ cs : List Int, PyData.canLayAll0 (cs.map PyData.int) = true
  | [] => by simp only [List.map_nil, PyData.canLayAll0]
  | c :: cs => by
    simp only [List.map_cons, PyData.canLayAll0, PyData.canLay0, Bool.true_and]
    exact ints_lay cs
theorem ints_depth : ∀ cs : List Int, PyData.depthAll (cs.map PyData.int) = 0
  | [] => by simp only [List.map_nil, PyData.depthAll]
  | c :: cs => by
    simp only [List.map_cons, PyData.depthAll, PyData.depth, ints_depth cs]
    rfl
theorem ints_shaped (cs : List Int) : SeqAt.shaped (.list (cs.map PyData.int)) = true := by
  unfold SeqAt.shaped
  rw [Bool.and_eq_true]
  refine ⟨?_, ?_⟩
  · simp only [PyData.canLay0]
    exact ints_lay cs
  · simp only [PyData.depth, ints_depth cs]
    decide
theorem ints_noDicts : ∀ cs : List Int, noDicts (cs.map PyData.int) = true
  | [] => rfl
  | c :: cs => by
    show (noDict (PyData.int c) && noDicts (cs.map PyData.int)) = true
    rw [ints_noDicts cs]
    rfl
/-- what is drawn -/
def takeP (ds : List PyData) : Prop := ∃ m : Int, ds = [.int m] ∧ 0 < m ∧ m < 1000000
def takeR (ds : List PyData) (r : PyData) : Prop := ∃ m i : Int, ds = [.int m] ∧ r = .int i ∧ 0 ≤ i ∧ i < m
section
variable {P : Program} {w : World} {K : PySem.W.Frag} {mg : Str → Option Value} {base : Heap} {f : Addr} {fd : FuncData} {T : List Addr} {d lw lc : Addr}
abbrev KnJ (P : Program) (w : World) (K : PySem.W.Frag) (mg : Str → Option Value) (base : Heap) (lv : Nat) (x : Str) (ps : List Str) (T : List Addr) (d lw lc : Addr) (k n : Nat) (pre : List PyData → Prop) (R : List PyData → PyData → Prop) : Prop :=
  Kn P w K mg base lv x ps (spJ K T [d, lw, lc] (DJ d lw lc) (.ref d) k n pre R)
theorem scTake : FnScope ["draw", "many", "found"] ["draw", "many"] (defScope sTake) := ⟨rfl, rfl, rfl, by decide +kernel, rfl, by decide +kernel, by decide +kernel⟩
theorem ndTake : List.Nodup (["draw", "many", "found"] : List Str) := by decide +kernel
theorem dj_put {m : Nat} {H H1 : Hp} {ws cs : List Int} {r t r' : Int} (h1 : H1 d = some (.dK (drK lw lc r t))) (h2 : H1 lw = some (.lst (ws.map V.int))) (h3 : H1 lc = some (.lst (cs.map V.int))) (h4 : 0 ≤ t) (h5 : t + m ≤ 2 ^ 40) (hx : LeX [d, lw, lc] H H1) {B : Hp} (lb : Le B H1) (ap : Apt [d, lw, lc] B) :
    LeX [d, lw, lc] H (upd H1 d (.dK (drK lw lc r' t))) ∧ Le B (upd H1 d (.dK (drK lw lc r' t))) ∧ DJ d lw lc m (upd H1 d (.dK (drK lw lc r' t))) := by
  refine ⟨hx.put List.mem_cons_self h1 (fun ps z => by cases z), lb.mut (ap d List.mem_cons_self), ws, cs, r', t, upd_same, ?_, ?_, h4, h5⟩
  · rw [upd_ne (ne_of (H := H1) h2 h1 (by intro z; cases z))]
    exact h2
  · rw [upd_ne (ne_of (H := H1) h3 h1 (by intro z; cases z))]
    exact h3
theorem ok_take (BL : Blt mg) (hTD : ∀ a ∈ [d, lw, lc], a ∉ T) (hne : lw ≠ lc) (Fmix : KnJ P w K mg base 1 "_law_mixed" ["draw"] T d lw lc 0 1 (· = []) (fun _ r => ∃ i, r = .int i)) (F : L2.Fun K "_law_take" "_law_take" sTake f fd) :
    FnOk P w K mg base CX0 2 f fd ["draw", "many"] (spJ K T [d, lw, lc] (DJ d lw lc) (.ref d) 1 1 takeP takeR) := by
  refine fn_draw hTD F scTake rfl fun cdv A outer s H vs B ds m Q E hr hcd t l ap j hd hl hp q => ?_
  obtain ⟨many, rfl, hm0, hm1⟩ := hp
  obtain ⟨v1, rfl, h1⟩ := ds1 (K := K) hd
  cases h1
  have hu := hu64 hr
  have rest : ∀ H', LeX [d, lw, lc] H H' → Le B H' → DJ d lw lc m H' → WB (cxOf CX0 P w K mg base ["draw", "many", "found"] "_law_take" (defScope sTake) f cdv A outer s H E).nox ((defBody sTake).drop 1) { nx := fun _ H' => Q .non H', rt := Q } (start ["draw", "many", "found"] [.ref d, .int many]) H' := fun H' lx lb j' => by
    obtain ⟨ws, cs, r, t0, hH, hw, hc, h0, hb⟩ := id j'
    refine wb_cons (ws_set (i := 2) (d := .int (r % many)) (Le.refl H') (ee_op op_mod (rr_I hm0) (ee_int1 BL (ee_dget (i := 0) hu rfl hH get_rest (.int r))) (ee_var (i := 1) rfl (.int many))) (fun v5 B5 H5 u5 d5 => ?_) ndTake)
    cases d5
    have hH5 : H5 d = some (.dK (drK lw lc r t0)) := u5.h.keep d _ hH (fun ps z => by cases z)
    refine wb_cons ⟨_, ps_dput (hu1 hr) (pe_var (i := 0) rfl (Or.inl rfl)) pe_str pe_w rfl, (ee_op op_fdiv (rr_I ⟨hm0, by omega⟩) (ee_dget (i := 0) hu rfl hH5 get_rest (.int r)) (ee_var (i := 1) rfl (.int many))) H5 (Le.refl _) _ fun v6 B6 H6 u6 d6 => ⟨_, rfl, d, _, rfl, DPut.k (k := .inr "rest") (u6.h.keep d _ hH5 (fun ps z => by cases z)) (by show 4 < sizeLine; decide), ?_⟩⟩
    cases d6
    rw [put_rest]
    have k6 : ∀ {a : Addr} {xs : List V}, H' a = some (.lst xs) → H6 a = some (.lst xs) := fun e => (u5.h.trans u6.h).keep _ _ e (fun ps z => by cases z)
    obtain ⟨x1, x2, x3⟩ := dj_put (m := m) (r' := r / many) (u6.h.keep d _ hH5 (fun ps z => by cases z)) (k6 hw) (k6 hc) h0 hb (lx.trans (.of (u5.h.trans u6.h))) (lb.trans (u5.h.trans u6.h)) ap
    generalize upd H6 d (.dK (drK lw lc (r / many) t0)) = H7 at x1 x2 x3 ⊢
    refine wb_one (ws_ret (B := B) (d := .int (r % many)) x2 (ee_var (i := 2) rfl (.int _)) fun v B3 H3 u3 d3 => q v _ B3 H3 ((UpX.self x1 x2).trans cells_DJ x3 (.of u3)) (cells_DJ.le m _ _ x3 u3.h) d3 ⟨many, _, rfl, rfl, Int.emod_nonneg _ (by omega), Int.emod_lt_of_pos _ hm0⟩)
  obtain ⟨ws, cs, r, t0, hH, hw, hc, h0, hb⟩ := id j
  refine wb_cons (ws_if (B := H) (k := decide (r = 0)) (Le.refl H) (et_cmp op_eq rr_eqI (ee_dget (i := 0) hu rfl hH get_rest (.int r)) ee_int) (fun _ H1 l1 => ?_) fun _ H1 l1 => wb_nil (rest H1 (.of l1) (l.trans l1) (cells_DJ.less _ _ _ (cells_DJ.le _ _ _ j l1) (by omega))))
  have hH1 : H1 d = some (.dK (drK lw lc r t0)) := l1.keep d _ hH (fun ps z => by cases z)
  have hw1 : H1 lw = some (.lst (ws.map V.int)) := l1.keep lw _ hw (fun ps z => by cases z)
  have hc1 : H1 lc = some (.lst (cs.map V.int)) := l1.keep lc _ hc (fun ps z => by cases z)
  refine wb_one ⟨_, ps_dput (hu1 hr) (pe_var (i := 0) rfl (Or.inl rfl)) pe_str (pe_ifExp pt_w pe_w pe_w) rfl, ?_⟩
  refine (et_cmp (op_neD hu) (rr_neD (d := .list (ws.map PyData.int)) (e := .list []) (ints_noDicts ws) rfl (ints_shaped ws) (by decide)) (ee_dget (i := 0) hu rfl hH1 get_wide (.new_lst hw1 (ints_ds ws))) (ee_lst ea_nil (by decide))) H1 (Le.refl _) _ fun H2 l2 => ?_
  have j2 : DJ d lw lc (m + (0 + 1)) H2 := cells_DJ.le _ _ _ j (l1.trans l2)
  have hH2 : H2 d = some (.dK (drK lw lc r t0)) := l2.keep d _ hH1 (fun ps z => by cases z)
  have hw2 : H2 lw = some (.lst (ws.map V.int)) := l2.keep lw _ hw1 (fun ps z => by cases z)
  have hc2 : H2 lc = some (.lst (cs.map V.int)) := l2.keep lc _ hc1 (fun ps z => by cases z)
  have lb2 : Le B H2 := l.trans (l1.trans l2)
  have lx2 : LeX [d, lw, lc] H H2 := .of (l1.trans l2)
  split
  · rename_i hk
    cases ws with
    | nil => exact absurd hk (by decide)
    | cons w0 ws' =>
      refine ⟨_, pe_bm PySem.F.plainAttrs_list PySem.F.slot_list_pop PySem.F.type_list_pop mt_popAt (pe_dget (hu1 hr) (pe_var (i := 0) rfl (Or.inl rfl)) pe_str (fun _ _ => rfl)) (pa_cons pe_int pa_nil), _, rfl, d, .ref lw, rfl, ?_, .inl ⟨rfl, _, SqL.of hw2⟩, lw, _, 0, 0, .int w0, rfl, rfl, hw2, by decide, by decide, (by rw [List.length_map, List.length_cons]; unfold seqIndex?; simp), rfl, ?_⟩
      · have := DGet.k (k := .inr "wide") hH2
        rw [get_wide] at this
        exact this
      have lx3 : LeX [d, lw, lc] H (upd H2 lw (.lst (((w0 :: ws').map V.int).eraseIdx 0))) := lx2.put (List.mem_cons_of_mem _ List.mem_cons_self) hw2 fun ps z => by cases z
      have lb3 : Le B (upd H2 lw (.lst (((w0 :: ws').map V.int).eraseIdx 0))) := lb2.mut (ap lw (List.mem_cons_of_mem _ List.mem_cons_self))
      have hw3 : (upd H2 lw (.lst (((w0 :: ws').map V.int).eraseIdx 0))) lw = some (.lst (ws'.map V.int)) := upd_same
      have hH3 : (upd H2 lw (.lst (((w0 :: ws').map V.int).eraseIdx 0))) d = some (.dK (drK lw lc r t0)) := by rw [upd_ne (ne_of (H := H2) hH2 hw2 (by intro z; cases z))]; exact hH2
      have hc3 : (upd H2 lw (.lst (((w0 :: ws').map V.int).eraseIdx 0))) lc = some (.lst (cs.map V.int)) := by rw [upd_ne (fun z => hne z.symm)]; exact hc2
      generalize upd H2 lw (.lst (((w0 :: ws').map V.int).eraseIdx 0)) = H3 at lx3 lb3 hw3 hH3 hc3 ⊢
      refine ⟨_, rfl, d, _, rfl, DPut.k (k := .inr "rest") hH3 (by show 4 < sizeLine; decide), ?_⟩
      rw [put_rest]
      obtain ⟨x1, x2, x3⟩ := dj_put (m := m) (r' := w0) hH3 hw3 hc3 h0 (by omega) lx3 lb3 ap
      exact rest _ x1 x2 x3
  · refine (ej_call cells_DJ Fmix hr (by decide) t (i := 0) rfl eaj_nil (fun ds h => ⟨h, by rw [h]; rfl⟩)) m H2 lb2 ap j2 _ fun v e B3 H3 u3 j3 dv re => ?_
    obtain ⟨_, _, i, rfl⟩ := re
    cases dv
    obtain ⟨ws3, cs3, r3, t3, g1, g2, g3, g4, g5⟩ := id j3
    refine ⟨_, rfl, d, _, rfl, DPut.k (k := .inr "rest") g1 (by show 4 < sizeLine; decide), ?_⟩
    rw [put_rest]
    obtain ⟨x1, x2, x3⟩ := dj_put (m := m) (r' := i) g1 g2 g3 g4 g5 (lx2.trans u3.h) (u3.b.trans u3.s) ap
    exact rest _ x1 x2 x3
end
end K0


set_option Elab.async false
set_option linter.all false
set_option maxRecDepth 100000
set_option maxHeartbeats 4000000
namespace K0
open PySem PySem.Spec PyProof.Rows L2 GxR Tk
variable [LamTab]
abbrev sPick : Stmt := top 27
abbrev sShuf : Stmt := top 28
section
variable {P : Program} {w : World} {K : PySem.W.Frag} {mg : Str → Option Value} {base : Heap} {f : Addr} {fd : FuncData} {T : List Addr} {d lw lc : Addr}
abbrev KnTake (P : Program) (w : World) (K : PySem.W.Frag) (mg : Str → Option Value) (base : Heap) (T : List Addr) (d lw lc : Addr) : Prop := KnJ P w K mg base 2 "_law_take" ["draw", "many"] T d lw lc 1 1 takeP takeR
def pickP (ds : List PyData) : Prop := ∃ xs, ds = [.list xs] ∧ 0 < xs.length ∧ xs.length < 1000000
def pickR (ds : List PyData) (r : PyData) : Prop := ∃ xs, ds = [.list xs] ∧ r ∈ xs
theorem scPick : FnScope ["draw", "some"] ["draw", "some"] (defScope sPick) := ⟨rfl, rfl, rfl, by decide +kernel, rfl, by decide +kernel, by decide +kernel⟩
/-- take of what a pure expression is worth -/
theorem ej_take {X : Cx} {σ : L2.St} {B : Hp} {many : Int} {a : Expr} {p p2 pos : Pos} {j i : Nat} {y : Str} (F : KnTake P w K mg base T d lw lc) (hr : Room j X.A) (hk : 2 ≤ j) (t : Tbs T B) (hσ : σ[i]? = some (some (.ref d))) (ha : EE X a σ B (.int many)) (h0 : 0 < many) (h1 : many < 1000000)
    (eP : X.prog = P := by rfl) (ew : X.w = w := by rfl) (eK : X.K = K := by rfl) (em : X.mg = mg := by rfl) (eb : X.base = base := by rfl) (hg : Gl X "_law_take" := by rfl)
    (hN : X.N[i]? = some y := by rfl) (hv : Vis X.env.scope y := by first | exact Or.inl rfl | exact Or.inr (Or.inl rfl) | exact Or.inr (Or.inr rfl)) (hdy : (y == ("__debug__" : Str)) = false := by decide) (hcy : (y == ("__classdict__" : Str)) = false := by decide)
    (he : starEach [.Name y p2, a] X.env = (false, eval (.Name y p2) X.env) :: starEach [a] X.env := by rfl) (he2 : starEach [a] X.env = (false, eval a X.env) :: starEach [] X.env := by rfl) (hpl : (backTo pos (starEach [a] X.env)).any (·.1) = false := by rfl) :
    EJ X [d, lw, lc] (DJ d lw lc) (.Call (.Name "_law_take" p) [.Name y p2, a] [] pos) σ B 1 (fun r => ∃ i : Int, r = .int i ∧ 0 ≤ i ∧ i < many) := by
  have := ej_call (p := p) (pos := pos) (p2 := p2) (i := i) cells_DJ F hr hk t hσ (eaj_cons cells_DJ (ej_pure (R := (· = .int many)) cells_DJ ha rfl) (fun B' l => eaj_nil) he2) (fun ds h => by
    obtain ⟨e, r, rfl, rfl, rfl⟩ := h
    exact ⟨⟨many, rfl, h0, h1⟩, rfl⟩) eP ew eK em eb hg hN hv hdy hcy (by decide) he hpl
  refine this.weak cells_DJ (fun e h => ?_) (by omega)
  obtain ⟨ds, ⟨e1, r, rfl, rfl, rfl⟩, m, i, e2, rfl, i0, i1⟩ := h
  cases e2
  exact ⟨i, rfl, i0, i1⟩
theorem atI_mem {xs : List PyData} {i : Int} (h0 : 0 ≤ i) (h1 : i < xs.length) : ∃ x, atI xs i = some x ∧ x ∈ xs := by
  have hi : i.toNat < xs.length := by omega
  have e : Int.ofNat i.toNat = i := Int.toNat_of_nonneg h0
  have g := atI_nat (j := i.toNat) (List.getElem?_eq_getElem hi)
  refine ⟨xs[i.toNat], ?_, List.getElem_mem hi⟩
  exact (congrArg (atI xs) e).symm.trans g
theorem ok_pick (BL : Blt mg) (hTD : ∀ a ∈ [d, lw, lc], a ∉ T) (Ft : KnTake P w K mg base T d lw lc) (F : L2.Fun K "_law_pick" "_law_pick" sPick f fd) :
    FnOk P w K mg base CX0 3 f fd ["draw", "some"] (spJ K T [d, lw, lc] (DJ d lw lc) (.ref d) 1 1 pickP pickR) := by
  refine fn_draw hTD F scPick rfl fun cdv A outer s H vs B ds m Q E hr hcd t l ap j hd hl hp q => ?_
  obtain ⟨xs, rfl, n0, n1⟩ := hp
  obtain ⟨v1, rfl, h1⟩ := ds1 (K := K) hd
  refine wb_one (ws_retJ (n := 1) (R := (· ∈ xs)) l ap j ?_ fun v e B' H' u jj dv r => q v e B' H' u jj dv ⟨xs, rfl, r⟩)
  refine (ej_ix (n1 := 0) (n2 := 1) (R3 := (· ∈ xs)) cells_DJ ix_list ?_ (ej_pure (R := (· = .list xs)) cells_DJ (ee_var (i := 1) rfl h1) rfl) (ej_take Ft hr (by decide) t (i := 0) rfl (ee_len BL (ee_var (i := 1) rfl h1) rfl fun x z => by cases z) (by omega) (by omega))).weak cells_DJ (fun _ h => h) (by omega)
  refine rj_of fun d1 d2 h1 h2 => ?_
  obtain ⟨i, rfl, i0, i1⟩ := h2
  subst h1
  obtain ⟨x, e, hx⟩ := atI_mem i0 i1
  exact ⟨x, rr_ixL e, hx⟩
theorem seqIx {i : Int} {n : Nat} (h0 : 0 ≤ i) (h1 : i < n) : seqIndex? i n = some i.toNat := by
  have e : ¬ i < 0 := by omega
  unfold seqIndex?
  rw [if_neg e]
  have e2 : (decide (0 ≤ i) && decide (i < (n : Int))) = true := by rw [decide_eq_true h0, decide_eq_true h1]; rfl
  exact if_pos e2
/-- in another order -/
def shufP (ds : List PyData) : Prop := ∃ xs, ds = [.list xs] ∧ xs.length ≤ 90 ∧ (∀ x ∈ xs, flatD x = true ∧ okD x = true)
def shufR (ds : List PyData) (r : PyData) : Prop := ∃ xs ys, ds = [.list xs] ∧ r = .list ys ∧ ys.Perm xs
theorem scShuf : FnScope ["draw", "some", "left", "found"] ["draw", "some"] (defScope sShuf) := ⟨rfl, rfl, rfl, by decide +kernel, rfl, by decide +kernel, by decide +kernel⟩
theorem ndShuf : List.Nodup (["draw", "some", "left", "found"] : List Str) := by decide +kernel
theorem flats_shaped {xs : List PyData} (h : ∀ x ∈ xs, flatD x = true ∧ okD x = true) : noDict (.list xs) = true ∧ SeqAt.shaped (.list xs) = true := by
  have n : noDicts xs = true := noDicts_of fun x hx => flat_noDict (h x hx).1
  have o : okDs xs = true := okDs_of fun x hx => (h x hx).2
  refine ⟨n, ?_⟩
  have dp : PyData.depthAll xs ≤ 0 := depthAll_le fun x hx => Nat.le_of_eq (flat_depth (h x hx).1)
  unfold SeqAt.shaped
  rw [Bool.and_eq_true]
  refine ⟨?_, decide_eq_true ?_⟩
  · simp only [PyData.canLay0]
    exact okDs_lay o n
  · simp only [PyData.depth]
    omega
theorem eqv_cons_nil {x : PyData} {xs : List PyData} : PyData.eqv (.list (x :: xs)) (.list []) = false := by
  simp [PyData.eqv, PyData.eqvAll]
theorem erase_split : ∀ {xs : List PyData} {i : Nat} {x : PyData}, xs[i]? = some x → xs.Perm (x :: xs.eraseIdx i)
  | y :: xs, 0, x, h => by cases h; exact List.Perm.refl _
  | y :: xs, i + 1, x, h => by
    have p := erase_split (xs := xs) (i := i) (x := x) h
    exact (p.cons y).trans (List.Perm.swap x y _)
theorem ds_erase {H : Hp} : ∀ {vs : List V} {ds : List PyData} (i : Nat), Ds K H vs ds → Ds K H (vs.eraseIdx i) (ds.eraseIdx i)
  | _, _, _, .nil => by simp only [List.eraseIdx_nil]; exact .nil
  | _, _, 0, .cons h t => t
  | _, _, i + 1, .cons h t => .cons h (ds_erase i t)
theorem ok_shuf (BL : Blt mg) (hTD : ∀ a ∈ [d, lw, lc], a ∉ T) (Ft : KnTake P w K mg base T d lw lc) (F : L2.Fun K "_law_shuffled" "_law_shuffled" sShuf f fd) :
    FnOk P w K mg base CX0 3 f fd ["draw", "some"] (spJ K T [d, lw, lc] (DJ d lw lc) (.ref d) 1 90 shufP shufR) := by
  refine fn_draw hTD F scShuf rfl fun cdv A outer s H vs B ds m Q E hr hcd t l ap j hd hl hp q => ?_
  obtain ⟨xs, rfl, hn, hs⟩ := hp
  obtain ⟨v1, rfl, h1⟩ := ds1 (K := K) hd
  have hu := hu64 hr
  refine wb_cons ⟨_, ps_par (i := 2) (j := 3) rfl ndShuf rfl rfl (by decide) rfl rfl pa_w rfl, ?_⟩
  -- left, a new list
  refine ⟨_, pa_cons (pe_callTy c_list rfl BL.list boot_list' (pa_cons (pe_var (i := 1) rfl (Or.inl rfl)) pa_nil) (by decide) (by decide) rfl rfl) (pa_cons (pe_lst pa_nil) pa_nil) rfl, _, rfl, ?_⟩
  cases h1 with
  | lst s1 t1 hds =>
  rename_i a us
  refine ⟨a, us, rfl, .inl (sqL_le l s1), fun ll hll => ⟨by decide, fun lf hlf => ⟨_, _, rfl, ?_⟩⟩⟩
  have hlf0 : H lf = none := (Le.new hll).there lf hlf
  have hne : lf ≠ ll := fun z => by rw [z, upd_same] at hlf; cases hlf
  have e1 : (upd (upd H ll (.lst us)) lf (.lst [])) ll = some (.lst us) := by rw [upd_ne (fun z => hne z.symm)]; exact upd_same
  have e2 : (upd (upd H ll (.lst us)) lf (.lst [])) lf = some (.lst []) := upd_same
  have l2 : Le H (upd (upd H ll (.lst us)) lf (.lst [])) := (Le.new hll).trans (Le.new hlf)
  have hBl : B ll = none := l.there ll hll
  have hBf : B lf = none := l.there lf hlf0
  have hDl : ll ∉ [d, lw, lc] := fun z => by
    obtain ⟨o, e, _⟩ := (cells_DJ (d := d) (lw := lw) (lc := lc)).at_ _ H j ll z
    rw [hll] at e
    cases e
  have hDf : lf ∉ [d, lw, lc] := fun z => by
    obtain ⟨o, e, _⟩ := (cells_DJ (d := d) (lw := lw) (lc := lc)).at_ _ H j lf z
    rw [hlf0] at e
    cases e
  have lx0 : LeX [d, lw, lc] H (upd (upd H ll (.lst us)) lf (.lst [])) := .of l2
  have lb0 : Le B (upd (upd H ll (.lst us)) lf (.lst [])) := l.trans l2
  have j0 : DJ d lw lc (m + xs.length) (upd (upd H ll (.lst us)) lf (.lst [])) := cells_DJ.le _ _ _ (cells_DJ.less _ _ _ j (by omega)) l2
  generalize upd (upd H ll (.lst us)) lf (.lst []) = H0 at e1 e2 lx0 lb0 j0 ⊢
  refine wb_cons ⟨_, ps_while PassesOwn.never pt_w pss_w, ?_⟩
  refine ⟨fun k σ' H' => ∃ (ls fs : List PyData) (lv fv : List V), σ' = [some (.ref d), some (.ref a), some (.ref ll), some (.ref lf)] ∧ k = ls.length ∧ H' ll = some (.lst lv) ∧ H' lf = some (.lst fv) ∧ LeX [d, lw, lc] H H' ∧ Le B H' ∧ Ds K B lv ls ∧ Ds K B fv fs ∧ (fs ++ ls).Perm xs ∧ DJ d lw lc (m + ls.length) H',
    ⟨xs.length, xs, [], us, [], rfl, rfl, e1, e2, lx0, lb0, hds, .nil, by rw [List.nil_append], j0⟩, ?_⟩
  rintro k σ' H' ⟨ls, fs, lv, fv, rfl, rfl, hl1, hf1, lx1, lb1, dl, df, pm, j1⟩
  have hls : ∀ x ∈ ls, flatD x = true ∧ okD x = true := fun x hx => hs x (pm.mem_iff.mp (List.mem_append_right _ hx))
  obtain ⟨nd, sh⟩ := flats_shaped hls
  have lenp := pm.length_eq
  rw [List.length_append] at lenp
  refine (et_cmp (k := !PyData.eqv (.list ls) (.list [])) (op_neD hu) (rr_neD nd rfl sh (by decide)) (ee_var (i := 2) rfl (.new_lst hl1 (Ds.le lb1 dl))) (ee_lst ea_nil (by decide))) H' (Le.refl _) _ fun H2 l2 => ?_
  have hl2 : H2 ll = some (.lst lv) := l2.keep ll _ hl1 (fun ps z => by cases z)
  have hf2 : H2 lf = some (.lst fv) := l2.keep lf _ hf1 (fun ps z => by cases z)
  have lx2 : LeX [d, lw, lc] H H2 := lx1.trans (.of l2)
  have lb2 : Le B H2 := lb1.trans l2
  have j2 := cells_DJ.le _ _ _ j1 l2
  cases ls with
  | nil =>
    refine (if_neg (by decide)).mpr ?_
    rw [List.append_nil] at pm
    have hs2 : Le (upd B lf (.lst fv)) H2 := lb2.add hf2 (fun ps z => by cases z)
    refine wb_one (ws_ret (B := upd B lf (.lst fv)) (d := .list fs) hs2 (ee_var (i := 3) rfl (.new_lst upd_same (Ds.le (Le.new hBf) df))) fun v B3 H3 u3 d3 => ?_)
    have ux : UpX [d, lw, lc] B H (upd B lf (.lst fv)) H2 := ⟨lx2, Le.new hBf, hs2, fun x hx => by
      by_cases z : x = lf
      · rw [z]; exact .inr (.inl hlf0)
      · rw [upd_ne z] at hx; exact .inl hx⟩
    exact q v _ B3 H3 (ux.trans cells_DJ j2 (.of u3)) (cells_DJ.le m _ _ (cells_DJ.less _ _ _ j2 (by omega)) u3.h) d3 ⟨xs, fs, rfl, rfl, pm⟩
  | cons y ls =>
    rw [eqv_cons_nil]
    refine (if_pos rfl).mpr ?_
    have hk : Le (upd B ll (.lst lv)) H2 := lb2.add hl2 (fun ps z => by cases z)
    have apk : Apt [d, lw, lc] (upd B ll (.lst lv)) := fun x hx => by
      rw [upd_ne fun z => hDl (by rw [← z]; exact hx)]
      exact ap x hx
    have tk : Tbs T (upd B ll (.lst lv)) := t.le (Le.new hBl)
    have jk : DJ d lw lc ((m + ls.length) + 1) H2 := by
      rw [List.length_cons] at j2
      exact cells_DJ.less _ _ _ j2 (by omega)
    have len8 : (y :: ls).length ≤ 90 := by omega
    refine ⟨fun σ2 H5 => ∃ (ls' fs : List PyData) (lv fv : List V), ls'.length = ls.length ∧ σ2 = [some (.ref d), some (.ref a), some (.ref ll), some (.ref lf)] ∧ H5 ll = some (.lst lv) ∧ H5 lf = some (.lst fv) ∧ LeX [d, lw, lc] H H5 ∧ Le B H5 ∧ Ds K B lv ls' ∧ Ds K B fv fs ∧ (fs ++ ls').Perm xs ∧ DJ d lw lc (m + ls'.length) H5,
      fun σ2 H5 ⟨ls', fs, lv, fv, z0, z⟩ => ⟨ls'.length, by rw [z0, List.length_cons]; omega, ls', fs, lv, fv, z.1, rfl, z.2⟩, ?_⟩
    refine wb_one ⟨_, ps_expr (pe_bm PySem.F.plainAttrs_list PySem.F.slot_list_append PySem.F.type_list_append mt_append (pe_var (i := 3) rfl (Or.inl rfl)) (pa_cons (pe_bm PySem.F.plainAttrs_list PySem.F.slot_list_pop PySem.F.type_list_pop mt_popAt (pe_var (i := 2) rfl (Or.inl rfl)) (pa_cons pe_w pa_nil)) pa_nil)),
      _, rfl, .inl ⟨rfl, _, SqL.of hf2⟩, _, rfl, .inl ⟨rfl, _, SqL.of hl2⟩, ?_⟩
    refine (ej_take (B := upd B ll (.lst lv)) (many := ((y :: ls).length : Int)) Ft hr (by decide) tk (i := 0) rfl (ee_len BL (ee_var (i := 2) rfl (.new_lst upd_same (Ds.le (Le.new hBl) dl))) rfl fun x z => by cases z) (by rw [List.length_cons]; omega) (by omega)) (m + ls.length) H2 hk apk jk _ fun v e B3 H3 u3 j3 dv re => ?_
    obtain ⟨i, rfl, i0, i1⟩ := re
    cases dv
    have hl3 : H3 ll = some (.lst lv) := u3.h.keep ll _ hDl hl2 (fun ps z => by cases z)
    have hf3 : H3 lf = some (.lst fv) := u3.h.keep lf _ hDf hf2 (fun ps z => by cases z)
    have ix : i.toNat < (y :: ls).length := by omega
    obtain ⟨x, hx1, hx2⟩ := dl.get (List.getElem?_eq_getElem ix)
    have lvl := dl.length
    refine ⟨ll, lv, i, i.toNat, x, rfl, rfl, hl3, by omega, by omega, seqIx i0 (by rw [lvl]; exact i1), hx1, ?_⟩
    refine ⟨lf, fv, x, rfl, rfl, by rw [upd_ne hne]; exact hf3, ?_, ?_⟩
    · rw [df.length]
      exact Nat.lt_of_le_of_lt (show fs.length ≤ 90 by omega) (by decide)
    have pe := erase_split (List.getElem?_eq_getElem ix)
    have el : ((y :: ls).eraseIdx i.toNat).length = ls.length := by
      have := pe.length_eq
      simp only [List.length_cons] at this ⊢
      omega
    have lx4 : LeX [d, lw, lc] H (upd (upd H3 ll (.lst (lv.eraseIdx i.toNat))) lf (.lst (fv ++ [x]))) := ((lx2.trans u3.h).mut hll).mut hlf0
    have lb4 : Le B (upd (upd H3 ll (.lst (lv.eraseIdx i.toNat))) lf (.lst (fv ++ [x]))) := (((Le.new hBl).trans (u3.b.trans u3.s)).mut hBl).mut hBf
    obtain ⟨ws, cs, r, t0, g1, g2, g3, g4, g5⟩ := j3
    have off : ∀ {b : Addr} {o : HO}, b ∈ [d, lw, lc] → H3 b = some o → (upd (upd H3 ll (.lst (lv.eraseIdx i.toNat))) lf (.lst (fv ++ [x]))) b = some o := fun {b o} hb e => by
      rw [upd_ne fun z => hDf (by rw [← z]; exact hb), upd_ne fun z => hDl (by rw [← z]; exact hb)]
      exact e
    refine ⟨(y :: ls).eraseIdx i.toNat, fs ++ [(y :: ls)[i.toNat]], lv.eraseIdx i.toNat, fv ++ [x], el, rfl, by rw [upd_ne (fun z => hne z.symm)]; exact upd_same, upd_same, lx4, lb4, ds_erase _ dl, df.snoc hx2, ?_, ?_⟩
    · refine List.Perm.trans ?_ pm
      rw [List.append_assoc]
      exact List.Perm.append_left fs pe.symm
    · rw [el]
      exact ⟨ws, cs, r, t0, off List.mem_cons_self g1, off (List.mem_cons_of_mem _ List.mem_cons_self) g2, off (List.mem_cons_of_mem _ (List.mem_cons_of_mem _ List.mem_cons_self)) g3, g4, g5⟩
end
end K0


set_option Elab.async false
set_option linter.all false
set_option maxRecDepth 100000
set_option maxHeartbeats 4000000
namespace K0
open PySem PySem.Spec PyProof.Rows L2 GxR Tk
variable [LamTab]
theorem rr_ge {K : PySem.W.Frag} {H : Hp} {i j : Int} : RR K (rI0 fun i j => .bl (decide (j ≤ i))) H (.int i) (.int j) (.bool (decide (j ≤ i))) := fun B H1 l l1 x y hx hy Q q => by
  cases hx
  cases hy
  exact ⟨i, j, rfl, rfl, q _ B H1 (Up.refl l1) (.bl _)⟩
def rAbs : List V → Hp → VK → Prop := fun xs H Q => ∃ i, xs = [V.int i] ∧ Q (.int (if i < 0 then -i else i)) H
theorem c_abs {X : Cx} : CallR X (.builtin "abs") rAbs := call_abs
theorem boot_abs' : bootBuiltins "abs" = some (.builtin "abs") := by decide +kernel
theorem ee_abs {X : Cx} {e : Expr} {σ : L2.St} {H : Hp} {i : Int} {p pos : Pos} (BL : X.mg "abs" = none) (ha : EE X e σ H (.int i)) (hg : Gl X "abs" := by rfl) (he : starEach [e] X.env = (false, eval e X.env) :: starEach [] X.env := by rfl) :
    EE X (.Call (.Name "abs" p) [e] [] pos) σ H (.int (if i < 0 then -i else i)) := ee_callB c_abs hg BL boot_abs' (fun B H1 l l1 vs hv Q q => by
      obtain ⟨v, rfl, h⟩ := ds1 hv
      cases h
      exact ⟨i, rfl, q _ B H1 (Up.refl l1) (.int _)⟩) (ea_cons ha ea_nil he) (by decide) (by decide) he rfl
/-- a def of any promise -/
theorem fn_any {P : Program} {w : World} {K : PySem.W.Frag} {mg : Str → Option Value} {base : Heap} {x qual : Str} {st : Stmt} {fa : Addr} {fd : FuncData} {N ps : List Str} {lv : Nat} {sp : Sp}
    (F : L2.Fun K x qual st fa fd) (S : FnScope N ps (defScope st)) (hn : ∀ vs H Q E, sp vs H Q E → vs.length = ps.length)
    (hbody : ∀ (cdv : Value) (A : Around) (outer : List Env) (s : Shared) (H : Hp) (vs : List V) (Q : VK) (E : XK), Room lv (A.deeper (envOfC qual (defScope st) s.heap.objs.size fa cdv)) → fd.code = cdv → sp vs H Q E →
      WB (cxOf CX0 P w K mg base N qual (defScope st) fa cdv A outer s H E).nox (defBody st) { nx := fun _ H' => Q .non H', rt := Q } (start N vs) H) :
    FnOk P w K mg base CX0 (lv + 1) fa fd ps sp := by
  obtain ⟨oc, od, kV, doc, pm, an, cdv, ct, osl, rfl, lk, hcd⟩ := F.ex
  refine fn_of lk hcd S (fun vs H Q E h => hn vs H Q E h) fun A outer s H vs Q E hr h => ?_
  obtain ⟨t, t1, t2⟩ := hbody cdv A outer s H vs Q E hr rfl h
  exact ⟨t, t1.nox, t2⟩
abbrev sBegun : Stmt := top 24
def spBegun (K : PySem.W.Frag) : Sp := fun vs H Q _ => ∃ (a : Addr) (B : Hp) (xs : List Int), vs = [.ref a] ∧ Le B H ∧ Dt K B (.ref a) (.list (xs.map PyData.int)) ∧ xs.length ≤ 1000 ∧
  ∀ (d lw lc : Addr) (H' : Hp), Le H H' → H d = none → H lw = none → H lc = none → lw ≠ lc → DJ d lw lc (2 ^ 40) H' → Q (.ref d) H'
def absI (i : Int) : Int := if i < 0 then -i else i
def wideB : PyData → Bool
  | .int i => decide ((10 : Int) ^ (18 : Int).toNat ≤ absI i)
  | _ => false
def wideD : PyData → PyData
  | .int i => .int (absI i - (10 : Int) ^ (18 : Int).toNat)
  | _ => .none
def cellD : PyData → PyData
  | .int i => .int (absI i % 2147483629)
  | _ => .none
theorem ints_map {xs : List Int} {p : PyData → Bool} {f : PyData → PyData} (g : Int → Int) (h : ∀ i, f (.int i) = .int (g i)) : ∃ ys : List Int, ((xs.map PyData.int).filter p).map f = ys.map PyData.int := by
  induction xs with
  | nil => exact ⟨[], rfl⟩
  | cons x xs ih =>
    obtain ⟨ys, e⟩ := ih
    rw [List.map_cons, List.filter_cons]
    split
    · exact ⟨g x :: ys, by rw [List.map_cons, e, h]; rfl⟩
    · exact ⟨ys, e⟩
theorem ds_ints {K : PySem.W.Frag} {H : Hp} : ∀ {ys : List Int} {vs : List V}, Ds K H vs (ys.map PyData.int) → vs = ys.map V.int
  | [], _, .nil => rfl
  | y :: ys, _, .cons h t => by
    cases h
    rw [ds_ints t]
    rfl
section
variable {P : Program} {w : World} {K : PySem.W.Frag} {mg : Str → Option Value} {base : Heap} {f : Addr} {fd : FuncData} {T : List Addr} {d lw lc : Addr}
theorem scBegun : FnScope ["script", "wide", "grain"] ["script"] (defScope sBegun) := ⟨rfl, rfl, rfl, by decide +kernel, rfl, by decide +kernel, by decide +kernel⟩
theorem ndBegun : List.Nodup (["script", "wide", "grain"] : List Str) := by decide +kernel
theorem ok_begun (BL : Blt mg) (habs : mg "abs" = none) (F : L2.Fun K "_law_begun" "_law_begun" sBegun f fd) : FnOk P w K mg base CX0 1 f fd ["script"] (spBegun K) := by
  refine fn_any F scBegun (fun vs H Q E h => by obtain ⟨a, B, xs, rfl, _⟩ := h; rfl) fun cdv A outer s H vs Q E hr hcd h => ?_
  obtain ⟨a, B, xs, rfl, l, dv, hn, q⟩ := h
  have t0 : ∀ i : Int, ∀ {X : Cx} {σ : L2.St} {B' : Hp} {e : Expr} {pos pos2 : Pos}, X.mg = mg → Gl X "abs" → EE X e σ B' (.int i) → starEach [e] X.env = (false, eval e X.env) :: starEach [] X.env → EE X (.Call (.Name "abs" pos) [e] [] pos2) σ B' (.int (absI i)) := fun i X σ B' e pos pos2 hm hg he hs => ee_abs (by rw [hm]; exact habs) he hg hs
  refine wb_cons (ws_setLc (own := [("grain", 2)]) (tjs := [2]) (pat := patN) (i := 1) wideB wideD l rfl ndBegun (ei_lst (ee_var (i := 0) rfl dv))
    (blkOk_by (show blkC ["script", "wide", "grain"] (defScope sBegun) _ [("grain", 2)] = true by decide +kernel)) (fun s H C cl fp => eg_name ndBegun) (fun d hd => ⟨[d], rfl, rfl⟩) (fun vs hv => ?_)
    (fun B' e es vs lb hd he hv s H C cl fp => ?_) (fun B' e es vs lb hd hb he hv s H C cl fp => ?_) ?_ (fun lw wl B1 H1 n1 u1 e1 e2 dw => ?_) (sw_true rfl rfl rfl (by decide +kernel)))
  · match vs, hv with
    | [a], _ => rfl
  · obtain ⟨i, _, rfl⟩ := List.mem_map.mp hd
    cases he
    obtain ⟨v, rfl, hx⟩ := ds1 (K := K) hv
    exact ets_one (et_cmp op_ge rr_ge (t0 i rfl rfl (ee_var (i := 2) rfl hx) rfl) (ee_op op_pow (rr_I ⟨by decide, by decide, by decide⟩) ee_int ee_int))
  · obtain ⟨i, _, rfl⟩ := List.mem_map.mp hd
    cases he
    obtain ⟨v, rfl, hx⟩ := ds1 (K := K) hv
    exact ee_op op_sub rr_sub (t0 i rfl rfl (ee_var (i := 2) rfl hx) rfl) (ee_op op_pow (rr_I ⟨by decide, by decide, by decide⟩) ee_int ee_int)
  · rw [List.length_map]
    exact Nat.lt_of_le_of_lt hn (by decide)
  obtain ⟨ws, hws⟩ := ints_map (xs := xs) (p := wideB) (f := wideD) (fun i => absI i - (10 : Int) ^ (18 : Int).toNat) fun _ => rfl
  rw [hws] at dw
  have ewl := ds_ints dw
  subst ewl
  refine wb_one ⟨_, ps_ret (pe_disp (pps_cons pe_str (pe_var (i := 1) rfl (Or.inl rfl)) (pps_cons pe_str pe_w (pps_cons pe_str pe_int (pps_cons pe_str pe_int pps_nil)))) (by rfl) (by rfl) (fun z => by cases z) (by decide)), fun p hp => ⟨_, rfl, ?_⟩⟩
  have hB1p : B1 p = none := u1.s.there p hp
  have dv1 : Dt K B1 (.ref a) (.list (xs.map PyData.int)) := Dt.le u1.b dv
  refine ee_lcR (own := [("grain", 2)]) (tjs := [2]) (pat := patN) (fun _ => true) cellD rfl ndBegun (ei_lst (ee_var (i := 0) rfl dv1))
    (blkOk_by (show blkC ["script", "wide", "grain"] (defScope sBegun) _ [("grain", 2)] = true by decide +kernel)) (fun s H C cl fp => eg_name ndBegun) (fun d hd => ⟨[d], rfl, rfl⟩) (fun vs hv => ?_)
    (fun B' e es vs lb hd he hv s H C cl fp => ets_nil) (fun B' e es vs lb hd hb he hv s H C cl fp => ?_) ?_ (fun _ => rfl) _ (u1.s.trans (Le.new hp)) _ fun lc cl B2 H2 n2 u2 e3 e4 dc => ?_
  · match vs, hv with
    | [a], _ => rfl
  · obtain ⟨i, _, rfl⟩ := List.mem_map.mp hd
    cases he
    obtain ⟨v, rfl, hx⟩ := ds1 (K := K) hv
    exact ee_op op_mod (rr_I (by decide)) (ee_int1 BL (t0 i rfl rfl (ee_var (i := 2) rfl hx) rfl)) ee_int
  · rw [List.length_map]
    exact Nat.lt_of_le_of_lt hn (by decide)
  obtain ⟨cs, hcs⟩ := ints_map (xs := xs) (p := fun _ => true) (f := cellD) (fun i => absI i % 2147483629) fun _ => rfl
  rw [hcs] at dc
  have ecl := ds_ints dc
  subst ecl
  have hp2 : H2 p = some (.dK []) := u2.h.keep p _ upd_same (fun ps z => by cases z)
  have hlp : lw ≠ p := fun z => by rw [z, hp] at e2; cases e2
  have hcp : lc ≠ p := fun z => by rw [z, upd_same] at n2; cases n2
  have hlw1 : (upd H1 p (.dK [])) lw = some (.lst (ws.map V.int)) := by rw [upd_ne hlp]; exact e2
  have hlc : lw ≠ lc := fun z => by rw [z, n2] at hlw1; cases hlw1
  have hlw2 : H2 lw = some (.lst (ws.map V.int)) := u2.h.keep lw _ hlw1 (fun ps z => by cases z)
  refine ⟨hp2, [(.inr "wide", .ref lw), (.inr "cells", .ref lc), (.inr "rest", .int 0), (.inr "turn", .int 0)], rfl, (by show 4 ≤ 15; decide), ?_⟩
  have em : mergeK [] [(.inr "wide", .ref lw), (.inr "cells", .ref lc), (.inr "rest", .int 0), (.inr "turn", .int 0)] = drK lw lc 0 0 := by rfl
  rw [em]
  have hHp : H p = none := u1.h.there p hp
  have l2 : Le H H2 := (u1.h.trans (Le.new hp)).trans u2.h
  refine q p lw lc _ (l2.mut hHp) hHp n1 ?_ hlc ⟨ws, cs, 0, 0, upd_same, by rw [upd_ne hlp]; exact hlw2, by rw [upd_ne hcp]; exact e4, by decide, by decide⟩
  exact u1.h.there lc ((Le.new hp).there lc n2)
end
end K0


set_option Elab.async false
set_option linter.all false
set_option maxRecDepth 100000
set_option maxHeartbeats 4000000
namespace K0
open PySem PySem.Spec PyProof.Rows L2 GxR Tk
variable [LamTab]
theorem off_DJ {d lw lc : Addr} : Off [d, lw, lc] (DJ d lw lc) := fun n H p o ⟨ws, cs, r, t, h1, h2, h3, h4, h5⟩ hp => by
  have k : ∀ {b : Addr}, b ∈ [d, lw, lc] → b ≠ p := fun hb z => hp (z ▸ hb)
  exact ⟨ws, cs, r, t, by rw [upd_ne (k List.mem_cons_self)]; exact h1, by rw [upd_ne (k (List.mem_cons_of_mem _ List.mem_cons_self))]; exact h2, by rw [upd_ne (k (List.mem_cons_of_mem _ (List.mem_cons_of_mem _ List.mem_cons_self)))]; exact h3, h4, h5⟩
/-- a list's part -/
theorem ej_cutL {X : Cx} {D : List Addr} {J : Nat → Hp → Prop} {e : Expr} {σ : L2.St} {B : Hp} {n : Nat} {R : List PyData → Prop} {hi : Option Expr} {j : Option Int} {pos p2 : Pos} (C : Cells D J) (ha : EJ X D J e σ B n (fun d => ∃ ds, d = .list ds ∧ R ds)) (h2 : EO X hi σ B j) :
    EJ X D J (.Subscript e (.Slice none hi none p2) pos) σ B n (fun d => ∃ ds, d = .list (Tk.cutD ds none j) ∧ R ds) := fun m H1 l ap jj Q q =>
  ⟨_, pe_slice sl_list pe_w po_none po_w, ha m H1 l ap jj _ fun v d B2 H2 u j2 dv r => h2 H2 (u.b.trans u.s) _ fun H4 l4 => by
    obtain ⟨ds, rfl, r⟩ := r
    have u4 := u.trans C j2 (.of (Up.le u.s l4))
    cases dv with
    | lst s t h0 =>
      refine ⟨_, _, rfl, sqL_le u4.s s, fun p hp => q _ _ _ _ (u4.new hp fun ps z => by cases z) (C.le _ _ _ (C.le _ _ _ j2 l4) (Le.new hp)) (.new_lst upd_same ?_) ⟨ds, rfl, r⟩⟩
      unfold cutV Tk.cutD
      rw [h0.length]
      exact ((Ds.le (Le.new (u4.s.there p hp)) h0).drop _).take _⟩
section
variable {P : Program} {w : World} {K : PySem.W.Frag} {mg : Str → Option Value} {base : Heap} {f : Addr} {fd : FuncData} {T : List Addr} {d lw lc : Addr}
abbrev KnShuf (P : Program) (w : World) (K : PySem.W.Frag) (mg : Str → Option Value) (base : Heap) (T : List Addr) (d lw lc : Addr) : Prop := KnJ P w K mg base 3 "_law_shuffled" ["draw", "some"] T d lw lc 1 90 shufP shufR
abbrev KnPick (P : Program) (w : World) (K : PySem.W.Frag) (mg : Str → Option Value) (base : Heap) (T : List Addr) (d lw lc : Addr) : Prop := KnJ P w K mg base 3 "_law_pick" ["draw", "some"] T d lw lc 1 1 pickP pickR
/-- pick of a list that is known -/
theorem ej_pick {X : Cx} {σ : L2.St} {B : Hp} {xs : List PyData} {a : Expr} {p p2 pos : Pos} {j i : Nat} {y : Str} (F : KnPick P w K mg base T d lw lc) (hr : Room j X.A) (hk : 3 ≤ j) (t : Tbs T B) (hσ : σ[i]? = some (some (.ref d))) (ha : EE X a σ B (.list xs)) (h0 : 0 < xs.length) (h1 : xs.length < 1000000)
    (eP : X.prog = P := by rfl) (ew : X.w = w := by rfl) (eK : X.K = K := by rfl) (em : X.mg = mg := by rfl) (eb : X.base = base := by rfl) (hg : Gl X "_law_pick" := by rfl)
    (hN : X.N[i]? = some y := by rfl) (hv : Vis X.env.scope y := by first | exact Or.inl rfl | exact Or.inr (Or.inl rfl) | exact Or.inr (Or.inr rfl)) (hdy : (y == ("__debug__" : Str)) = false := by decide) (hcy : (y == ("__classdict__" : Str)) = false := by decide)
    (he : starEach [.Name y p2, a] X.env = (false, eval (.Name y p2) X.env) :: starEach [a] X.env := by rfl) (he2 : starEach [a] X.env = (false, eval a X.env) :: starEach [] X.env := by rfl) (hpl : (backTo pos (starEach [a] X.env)).any (·.1) = false := by rfl) :
    EJ X [d, lw, lc] (DJ d lw lc) (.Call (.Name "_law_pick" p) [.Name y p2, a] [] pos) σ B 1 (· ∈ xs) := by
  have := ej_call (p := p) (pos := pos) (p2 := p2) (i := i) cells_DJ F hr hk t hσ (eaj_cons cells_DJ (ej_pure (R := (· = .list xs)) cells_DJ ha rfl) (fun B' l => eaj_nil) he2) (fun ds h => by
    obtain ⟨e, r, rfl, rfl, rfl⟩ := h
    exact ⟨⟨xs, rfl, h0, h1⟩, rfl⟩) eP ew eK em eb hg hN hv hdy hcy (by decide) he hpl
  refine this.weak cells_DJ (fun e h => ?_) (by omega)
  obtain ⟨ds, ⟨e1, r, rfl, rfl, rfl⟩, xs', e2, hx⟩ := h
  cases e2
  exact hx
end
end K0
namespace Tk
open PySem PySem.Spec PyProof.Rows L2 GxR Gx
variable [LamTab]
/-- a built-in's answer, of one argument -/
def RCJ (K : PySem.W.Frag) (r : List V → Hp → VK → Prop) (B : Hp) (R R' : PyData → Prop) : Prop := ∀ B1 H1, Le B B1 → Le B1 H1 → ∀ x d, Dt K B1 x d → R d → ∀ Q : VK, (∀ v d' B2 H2, Up B1 H1 B2 H2 → Dt K B2 v d' → R' d' → Q v H2) → r [x] H1 Q
theorem rcj_of {K : PySem.W.Frag} {r : List V → Hp → VK → Prop} {B : Hp} {R R' : PyData → Prop} (h : ∀ d, R d → ∃ d', RC1 K r B [d] d' ∧ R' d') : RCJ K r B R R' := fun B1 H1 l l1 x d dx rd Q q => by
  obtain ⟨d', hr, r'⟩ := h d rd
  exact hr B1 H1 l l1 [x] (.cons dx .nil) Q fun v B2 H2 u dv => q v d' B2 H2 u dv r'
section
variable {X : Cx} {D : List Addr} {J : Nat → Hp → Prop} {e : Expr} {σ : L2.St} {B : Hp} {n : Nat} {R R' : PyData → Prop}
theorem ej_b1 {x : Str} {p pos : Pos} {id : String} {r : List V → Hp → VK → Prop} (C : Cells D J) (hc : CallR X (.builtin id) r) (hm : X.mg x = none) (hv : bootBuiltins x = some (.builtin id)) (hr : RCJ X.K r B R R') (ha : EJ X D J e σ B n R) (hg : Gl X x := by rfl)
    (h1 : x ≠ "__name__" := by decide) (h2 : (x == ("__debug__" : Str)) = false := by decide) (he : starEach [e] X.env = (false, eval e X.env) :: starEach [] X.env := by rfl) :
    EJ X D J (.Call (.Name x p) [e] [] pos) σ B n R' := fun m H1 l ap j Q q =>
  ⟨_, pe_callB hc hg hm hv (pa_cons pe_w pa_nil he) h1 h2 he rfl, ha m H1 l ap j _ fun v d B2 H2 u jj dv rd => hr B2 H2 u.b u.s v d dv rd Q fun v' d' B3 H3 u3 d3 r3 => q v' d' B3 H3 (u.trans C jj (.of u3)) (C.le _ _ _ jj u3.h) d3 r3⟩
theorem ej_t1 {x : Str} {p pos : Pos} {T : String} {r : List V → Hp → VK → Prop} (C : Cells D J) (hc : CallR X (.type T) r) (hm : X.mg x = none) (hv : bootBuiltins x = some (.type T)) (hr : RCJ X.K r B R R') (ha : EJ X D J e σ B n R) (hg : Gl X x := by rfl)
    (h1 : x ≠ "__name__" := by decide) (h2 : (x == ("__debug__" : Str)) = false := by decide) (he : starEach [e] X.env = (false, eval e X.env) :: starEach [] X.env := by rfl) :
    EJ X D J (.Call (.Name x p) [e] [] pos) σ B n R' := fun m H1 l ap j Q q =>
  ⟨_, pe_callTy hc hg hm hv (pa_cons pe_w pa_nil he) h1 h2 he rfl, ha m H1 l ap j _ fun v d B2 H2 u jj dv rd => hr B2 H2 u.b u.s v d dv rd Q fun v' d' B3 H3 u3 d3 r3 => q v' d' B3 H3 (u.trans C jj (.of u3)) (C.le _ _ _ jj u3.h) d3 r3⟩
end
theorem boot_sorted' : bootBuiltins "sorted" = some (.builtin "sorted") := by decide +kernel
theorem ds_strs {K : PySem.W.Frag} {H : Hp} : ∀ {ys : List Str} {vs : List V}, Ds K H vs (ys.map PyData.str) → vs = ys.map V.str
  | [], _, .nil => rfl
  | y :: ys, _, .cons h t => by
    cases h
    rw [ds_strs t]
    rfl
theorem strs_ds {K : PySem.W.Frag} {H : Hp} : ∀ ys : List Str, Ds K H (ys.map V.str) (ys.map PyData.str)
  | [] => .nil
  | y :: ys => .cons (.str y) (strs_ds ys)
end Tk
namespace Tk
open PySem PySem.Spec PyProof.Rows L2 GxR Gx
variable [LamTab]
section
variable {X : Cx} {tg iter elt : Expr} {scope : Scope} {own : List (Str × Nat)} {pos : Pos} {σ : L2.St} {B : Hp} {tjs : List Nat} {pat : PyData → Option (List PyData)} {D : List Addr} {J : Nat → Hp → Prop}
theorem ws_setLcJ {Dn : L2.Ends} {H : Hp} {m : Nat} {y : Str} {py spos : Pos} {i : Nat} {n1 n2 k : Nat} {RI : List PyData → Prop} {RE : PyData → PyData → Prop} (l : Le B H) (ap : Apt D B) (j : J (m + (n1 + k * n2)) H) (C : Cells D J) (O : Off D J) (hc : X.calm = true) (nd : X.N.Nodup) (hi : EIJ X D J tg iter σ B n1 RI) (hk : ∀ ds, RI ds → ds.length ≤ k) (hks : k < sizeLine) (hb : BlkOk X.N X.env.scope scope own)
    (hg : ∀ s H C cl fp, EG (blkX X s H scope C cl fp) tg tjs pat) (hpat : ∀ ds, RI ds → ∀ d ∈ ds, ∃ es, pat d = some es ∧ es.length = tjs.length)
    (hw : ∀ vs : List V, vs.length = tjs.length → wipe (setsS (wipe σ (own.map (·.2))) tjs vs) (own.map (·.2)) = wipe σ (own.map (·.2)))
    (body : ∀ B' ds d es vs, Le B B' → RI ds → d ∈ ds → pat d = some es → Ds X.K B' vs es → ∀ s H C cl fp, EJ (blkX X s H scope C cl fp) D J elt (setsS (wipe σ (own.map (·.2))) tjs vs) B' n2 (RE d))
    (q : ∀ A acc B2 H2 ds rs, H A = none → UpX D B H B2 H2 → J m H2 → B2 A = some (.lst acc) → H2 A = some (.lst acc) → Ds X.K B2 acc rs → RI ds → Both RE ds rs → Dn.nx (σ.set i (some (.ref A))) H2)
    (hsw : swapsWith (.ListComp elt [⟨tg, iter, [], 0⟩] scope pos) (some (.Name y py)) spos.line X.env = pure true) (hy : X.N[i]? = some y := by rfl) (hyl : X.env.scope.names.lookup y = some .local := by rfl) (hs : ∀ x, foldedSetIterable iter X.env x = pure x := by intro _; rfl) :
    WS X (.Assign [.Name y py] (.ListComp elt [⟨tg, iter, [], 0⟩] scope pos) spos) Dn σ H :=
  ⟨_, ps_setLc (wi := WI X tg iter) (g := fun v σ H Q => ∀ s H0 C cl fp, WG (blkX X s H0 scope C cl fp) tg v σ H Q) (tt := fun σ H Q => ∀ s H0 C cl fp, WTs (blkX X s H0 scope C cl fp) [] σ H Q) (te := fun σ H Q => ∀ s H0 C cl fp, WE (blkX X s H0 scope C cl fp) elt σ H Q) hc nd hy hyl hsw pi_w hb
    (fun s H C cl fp => ⟨fun pins s' σ H' v u Q I r h => pg_w.run pins s' σ H' v u Q I r (h s H C cl fp)⟩) (fun s H C cl fp => ⟨fun pins s' σ H' Q I h => pts_w.run pins s' σ H' Q I (h s H C cl fp)⟩) (fun s H C cl fp => ⟨fun pins s' σ H' Q I h => pe_w.run pins s' σ H' Q I (h s H C cl fp)⟩) hs,
    lcJ_read C O hc nd hi hk hks hg hpat hw body m H l ap j _ fun A acc B2 H2 ds rs h u jj e1 e2 dv ri rr => q A acc B2 H2 ds rs h u jj e1 e2 dv ri rr⟩
theorem ws_tgtJ {Dn : L2.Ends} {H : Hp} {m n : Nat} {e : Expr} {R : PyData → Prop} (l : Le B H) (ap : Apt D B) (j : J (m + n) H) (h : EJ X D J e σ B n R) (hg : EG X tg tjs pat) (hp : ∀ d, R d → ∃ es, pat d = some es) (q : ∀ vs es d B' H', UpX D B H B' H' → J m H' → pat d = some es → R d → Ds X.K B' vs es → Dn.nx (setsS σ tjs vs) H')
    (h1 : swapsWithSole [tg] e pos.line X.env = pure false := by rfl) (h2 : swappedStores [tg] e X.env = pure none := by rfl) (h3 : (assignEach [tg] X.env).map (fun x => x.2) = [assign tg X.env] := by rfl) : WS X (.Assign [tg] e pos) Dn σ H :=
  ⟨_, ps_asg pe_w pg_w h1 h2 h3, h m H l ap j _ fun v d B' H' u jj dv r => by
    obtain ⟨es, he⟩ := hp d r
    exact hg v d es σ B' H' u.s dv he _ fun vs dvs => q vs es d B' H' u jj he r dvs⟩
end
end Tk
namespace Tk
open PySem PySem.Spec PyProof.Rows L2 GxR Gx
variable [LamTab]
theorem ee_neg {X : Cx} {e : Expr} {σ : L2.St} {B : Hp} {i : Int} {pos : Pos} (ha : EE X e σ B (.int i)) : EE X (.UnaryOp .USub e pos) σ B (.int (-i)) := fun H1 l Q q =>
  ⟨_, pe_un un_neg pe_w, ha H1 l _ fun v B2 H2 u dv => by
    cases dv
    exact ⟨i, rfl, q _ B2 H2 u (.int _)⟩⟩
end Tk
namespace Tk
open PySem PySem.Spec PyProof.Rows L2 GxR Gx
variable [LamTab]
/-- range of what is drawn -/
theorem eij_range {X : Cx} {tg a : Expr} {σ : L2.St} {B : Hp} {D : List Addr} {J : Nat → Hp → Prop} {n : Nat} {b : Int} {p pos : Pos} (BL : X.mg "range" = none) (h : EJ X D J a σ B n (fun d => ∃ i : Int, d = .int i ∧ 0 ≤ i ∧ i < b)) (hb : b < 2 ^ 62) (hg : Gl X "range" := by rfl) (hs : starEach [a] X.env = [(false, eval a X.env)] := by rfl)
    (hs2 : starEach [a] X.env = (false, eval a X.env) :: starEach [] X.env := by rfl) : EIJ X D J tg (.Call (.Name "range" p) [a] [] pos) σ B n (fun ds => ∃ i : Int, ds = upto i.toNat ∧ 0 ≤ i ∧ i < b) := fun m H1 l ap j R q => ⟨_, pi_range1 hg BL (pa_cons pe_w pa_nil hs2) hs, h m H1 l ap j _ fun v d B2 H2 u jj dv r => by
  obtain ⟨k, rfl, k0, k1⟩ := r
  cases dv
  refine ⟨k, rfl, by omega, by omega, q _ B2 H2 (upto k.toNat) u jj (fun B' H' l1 l2 => ⟨fun i hi => ?_, ?_, fun i y H'' hi hy => ?_⟩) ⟨k, rfl, k0, k1⟩⟩
  · unfold upto at hi
    rw [List.length_map, List.length_range] at hi
    exact hi
  · unfold upto
    rw [List.length_map, List.length_range]
    exact Nat.le_refl _
  · obtain ⟨e1, h2⟩ := hy
    subst e1 h2
    refine ⟨B', _, Up.refl l2, ?_, .int _⟩
    unfold upto at hi ⊢
    rw [List.length_map, List.length_range] at hi
    rw [List.getElem?_map, List.getElem?_range hi, Int.zero_add]
    rfl⟩
end Tk


set_option Elab.async false
set_option linter.all false
set_option maxRecDepth 100000
set_option maxHeartbeats 4000000
namespace K0
open PySem PySem.Spec PyProof.Rows L2 GxR Tk
variable [LamTab]
def iv (o : List Nat) : List V := o.map fun (k : Nat) => V.int (k : Int)
def idD (o : List Nat) : List PyData := o.map fun (k : Nat) => PyData.int (k : Int)
theorem ds_iv {K : PySem.W.Frag} {H : Hp} : ∀ o : List Nat, Ds K H (iv o) (idD o)
  | [] => .nil
  | k :: o => .cons (.int _) (ds_iv o)
theorem iv_app (o : List Nat) (g : Nat) : iv (o ++ [g]) = iv o ++ [V.int (g : Int)] := by
  unfold iv
  rw [List.map_append]
  rfl
theorem at_id {o : List Nat} {i k : Nat} (h : o[i]? = some k) : atI (idD o) (i : Int) = some (.int (k : Int)) := atI_nat (j := i) (by unfold idD; rw [List.getElem?_map, h]; rfl)
theorem up_none {B H B2 H2 : Hp} {a : Addr} {o : HO} (u : Up B H B2 H2) (hB : B a = none) (hH : H a = some o) (ho : ∀ ps, o ≠ .tbl ps) : B2 a = none := by
  cases q : B2 a with
  | none => rfl
  | some x =>
    rcases u.n a (by rw [q]; simp) with y | y | ⟨⟨ps, y⟩, _⟩
    · exact absurd hB y
    · rw [hH] at y; cases y
    · rw [hH] at y; exact absurd (Option.some.inj y) (ho ps)
theorem tbl_back {H H' : Hp} {a : Addr} {ps : Array Value} (l : Le H H') (h : H' a = some (.tbl ps)) : H a = none ∨ ∃ qs, H a = some (.tbl qs) := by
  cases q : H a with
  | none => exact .inl rfl
  | some o =>
    refine .inr ?_
    by_cases y : ∃ qs, o = .tbl qs
    · obtain ⟨qs, rfl⟩ := y
      exact ⟨qs, rfl⟩
    · have e := l.keep a o q fun qs e => (y ⟨qs, e⟩).elim
      rw [h] at e
      exact absurd ⟨ps, (Option.some.inj e).symm⟩ y
/-- t[e] where t leans on less than e -/
theorem ix_two {X : Cx} {a b : Expr} {σ : L2.St} {B Hf H1 : Hp} {ds : List PyData} {i : Int} {d : PyData} {pos : Pos} (h : atI ds i = some d) (ha : EE X a σ B (.tuple ds)) (hb : EE X b σ Hf (.int i)) (lB : Le B Hf) (l : Le Hf H1) {Q : VK}
    (q : ∀ v B2 H2, Up B H1 B2 H2 → Dt X.K B2 v d → Q v H2) (hp : PlainIx b := by intro _ _; rfl) : WE X (.Subscript a b pos) σ H1 Q :=
  ⟨_, pe_ix ix_tup pe_w pe_w hp, ha H1 (lB.trans l) _ fun x B2 H2 u2 dx => hb H2 (l.trans u2.h) _ fun y B3 H3 u3 dy => by
    cases dy
    exact rr_ixT (H := B2) h B2 H3 (Le.refl _) (u2.s.trans u3.h) x _ dx (.int _) Q fun v B4 H4 u4 dv => q v B4 H4 ((u2.tab u3.h).trans u4) dv⟩
theorem up_mut {B H B2 H2 : Hp} {p : Addr} {o : HO} (u : Up B H B2 H2) (h : H p = none) (b : B2 p = none) : Up B H B2 (upd H2 p o) := ⟨u.h.mut h, u.b, u.s.mut b, u.n⟩
/-- the names of a tuple, of what leans on less -/
theorem ws_tgtW {X : Cx} {tg e : Expr} {tjs : List Nat} {pat : PyData → Option (List PyData)} {σ : L2.St} {B H : Hp} {d : PyData} {es : List PyData} {D : L2.Ends} {pos : Pos} (h : ∀ Q : VK, (∀ v B' H', Up B H B' H' → Dt X.K B' v d → Q v H') → WE X e σ H Q) (hg : EG X tg tjs pat) (hp : pat d = some es)
    (q : ∀ vs B' H', Up B H B' H' → Ds X.K B' vs es → D.nx (setsS σ tjs vs) H') (h1 : swapsWithSole [tg] e pos.line X.env = pure false := by rfl) (h2 : swappedStores [tg] e X.env = pure none := by rfl) (h3 : (assignEach [tg] X.env).map (fun x => x.2) = [assign tg X.env] := by rfl) : WS X (.Assign [tg] e pos) D σ H :=
  ⟨_, ps_asg pe_w pg_w h1 h2 h3, h _ fun v B' H' u dv => hg v d es σ B' H' u.s dv hp _ fun vs dvs => q vs B' H' u dvs⟩
theorem up_back {B H H1 B2 H2 : Hp} (l : Le H H1) (u : Up B H1 B2 H2) : Up B H B2 H2 := ⟨l.trans u.h, u.b, u.s, fun x hx => by
  rcases u.n x hx with z | z | ⟨⟨qs, z⟩, nz⟩
  · exact .inl z
  · exact .inr (.inl (l.there x z))
  · rcases tbl_back l z with y | y
    · exact .inr (.inl y)
    · exact .inr (.inr ⟨y, nz⟩)⟩
theorem upd_non {H : Hp} {a b : Addr} {o : HO} (h : upd H a o b = none) : b ≠ a ∧ H b = none := by
  by_cases z : b = a
  · rw [z, upd_same] at h; cases h
  · rw [upd_ne z] at h; exact ⟨z, h⟩
theorem up_add {B H B2 H2 : Hp} {a : Addr} {o : HO} (u : Up B H B2 H2) (h : H a = none) (b : B2 a = none) (e : H2 a = some o) (ho : ∀ ps, o ≠ .tbl ps) : Up B H (upd B2 a o) H2 :=
  ⟨u.h, u.b.trans (Le.new b), u.s.add e ho, fun x hx => by
    by_cases z : x = a
    · rw [z]; exact .inr (.inl h)
    · rw [upd_ne z] at hx; exact u.n x hx⟩
theorem bno {b : Bool} (h : (!b) = true) : b = false := by cases b; rfl; cases h
theorem bys {b : Bool} (h : (!b) = false) : b = true := by cases b; cases h; rfl
/-- a def that may raise, told of its code -/
theorem fn_anyX {P : Program} {w : World} {K : PySem.W.Frag} {mg : Str → Option Value} {base : Heap} {x qual : Str} {st : Stmt} {fa : Addr} {fd : FuncData} {N ps : List Str} {lv : Nat} {sp : Sp}
    (F : L2.Fun K x qual st fa fd) (S : FnScope N ps (defScope st)) (hn : ∀ vs H Q E, sp vs H Q E → vs.length = ps.length)
    (hbody : ∀ (cdv : Value) (A : Around) (outer : List Env) (s : Shared) (H : Hp) (vs : List V) (Q : VK) (E : XK), Room lv (A.deeper (envOfC qual (defScope st) s.heap.objs.size fa cdv)) → fd.code = cdv → sp vs H Q E →
      WB (cxOf (L2.CX P w) P w K mg base N qual (defScope st) fa cdv A outer s H E) (defBody st) { nx := fun _ H' => Q .non H', rt := Q } (start N vs) H) :
    FnOk P w K mg base (L2.CX P w) (lv + 1) fa fd ps sp := by
  obtain ⟨oc, od, kV, doc, pm, an, cdv, ct, osl, rfl, lk, hcd⟩ := F.ex
  exact fn_of lk hcd S (fun vs H Q E h => hn vs H Q E h) fun A outer s H vs Q E hr h => hbody cdv A outer s H vs Q E hr rfl h
/-- a look that raises -/
def spChk (K : PySem.W.Frag) (T : List Addr) (okB : PyData → Bool) (C : Addr) : Sp := fun vs H Q E => vs.length = 1 ∧ Tbs T H ∧ ∃ B d, Le B H ∧ Ds K B vs [d] ∧ okD d = true ∧ (okB d = true → ∀ H', Le H H' → Q .non H') ∧ (okB d = false → ∀ H', Le H H' → E (.ref C) none H')
end K0


set_option Elab.async false
set_option linter.all false
set_option maxRecDepth 100000
set_option maxHeartbeats 4000000
/-! G1: len(set(a tuple of ints)). -/
namespace Tk
open PySem PySem.Spec PyProof.Rows L2 GxR
variable [LamTab]
/-- each once -/
def dd : List Int → List Int
  | [] => []
  | a :: r => if a ∈ dd r then dd r else a :: dd r
theorem dd_mem : ∀ {xs : List Int} {a : Int}, a ∈ dd xs ↔ a ∈ xs
  | [], a => by simp [dd]
  | b :: r, a => by
    have ih := dd_mem (xs := r) (a := a)
    have ihb := dd_mem (xs := r) (a := b)
    unfold dd
    by_cases h : b ∈ dd r
    · rw [if_pos h, List.mem_cons, ih]
      exact ⟨.inr, fun z => by
        rcases z with z | z
        · rw [z]; exact ihb.mp h
        · exact z⟩
    · rw [if_neg h, List.mem_cons, List.mem_cons, ih]
theorem dd_nodup : ∀ {xs : List Int}, (dd xs).Nodup
  | [] => List.nodup_nil
  | b :: r => by
    unfold dd
    by_cases h : b ∈ dd r
    · rw [if_pos h]; exact dd_nodup
    · rw [if_neg h]; exact List.nodup_cons.mpr ⟨h, dd_nodup⟩
theorem dd_len : ∀ xs : List Int, (dd xs).length ≤ xs.length
  | [] => Nat.le_refl _
  | b :: r => by
    have := dd_len r
    unfold dd
    split
    · rw [List.length_cons]; omega
    · rw [List.length_cons, List.length_cons]; omega
theorem dd_iff : ∀ xs : List Int, (dd xs).length = xs.length ↔ xs.Nodup
  | [] => by simp [dd]
  | b :: r => by
    have ih := dd_iff r
    have hl := dd_len r
    have hm := dd_mem (xs := r) (a := b)
    have e : dd (b :: r) = if b ∈ dd r then dd r else b :: dd r := rfl
    rw [List.nodup_cons, ← ih, e]
    by_cases h : b ∈ dd r
    · rw [if_pos h, List.length_cons]
      exact ⟨fun z => by omega, fun z => absurd (hm.mp h) z.1⟩
    · rw [if_neg h, List.length_cons, List.length_cons]
      exact ⟨fun z => ⟨fun w => h (hm.mpr w), by omega⟩, fun z => by omega⟩
def tLenSetT (K : PySem.W.Frag) (ta : TE) : TE := fun σ H Q => ta σ H fun x H1 => ∃ (l : Addr) (ns : List Int), x = .ref l ∧ SqT K H1 l (ns.map V.int) ∧ ns.length ≤ 4000 ∧ Q (.int ((dd ns).length : Nat)) H1
theorem pe_lenSetT {X : Cx} {a : Expr} {ta : TE} {p p2 q pos : Pos} (hg : Gl X "len") (hm : X.mg "len" = none) (hg2 : Gl X "set") (hm2 : X.mg "set" = none) (ha : PE X a ta) (hc : X.calm = true := by rfl)
    (na : starEach [a] X.env = (false, eval a X.env) :: starEach [] X.env := by rfl) : PE X (.Call (.Name "len" p) [.Call (.Name "set" p2) [a] [] q] [] pos) (tLenSetT X.K ta) := by
  refine ⟨fun pins s σ H Q I h => ?_⟩
  refine Call_ (ld_blt I hg hm boot_len ?_)
  refine PyProof.Rows.callWith_builtin1 (PyProof.Rows.args_cons ?_ rfl) rfl rfl
  refine Call_ (ld_blt I hg2 hm2 boot_set ?_)
  refine PyProof.Rows.callWith_type1 (PyProof.Rows.args_cons (thn (ha.run pins s σ H _ I h) fun v s1 ⟨x, H1, I1, r1, q1⟩ => PyProof.Rows.args_nil ?_) na) na rfl
  obtain ⟨l, ns, rfl, hq, hl, q1⟩ := q1
  cases r1
  obtain ⟨its, r, pl, hz⟩ := I1.tuple hq
  have hlen : its.toArray.size = ns.length := by rw [List.size_toArray, ← r.length, List.length_map]
  obtain ⟨o0, ho0, hcl0, n0, hd0⟩ := pl
  refine call_set_tupI (l := l) (items := its.toArray) ns (I1.ok.hd hc) ⟨o0, ho0, hcl0, n0, hd0⟩ (by simpa using RZ.intsAre_vals r) (by unfold scanBound; omega) fun h' tk c hS hcc hk => ?_
  refine PyProof.Rows.args_nil ?_
  obtain ⟨o, es, ep, t, ho, hex, hd, _, hnd, hmem, _, hf, hn, _⟩ := hS
  have I2 : Inv X pins σ H1 { s1 with heap := h', toks := tk } := I1.kept hk
  have ec : es.size = (dd ns).length := by
    have e1 : (es.toList.map keyOf).length = es.size := by rw [List.length_map, Array.length_toList]
    have m : ∀ k, k ∈ es.toList.map keyOf ↔ k ∈ dd ns := fun k => by
      rw [← hmem k, dd_mem]
      exact decide_eq_true_iff
    have a1 := List.Nodup.length_le_of_subset hnd fun k hk => (m k).mp hk
    have a2 := List.Nodup.length_le_of_subset (dd_nodup (xs := ns)) fun k hk => (m k).mpr hk
    omega
  have := dd_len ns
  exact call_len_set ho hex hd hf (by rw [ec] <;> omega) ⟨.int (dd ns).length, H1, I2.tok _, ⟨_, by rw [ec]⟩, q1⟩
theorem ds_ints0 {K : PySem.W.Frag} {H : Hp} : ∀ {ys : List Int} {vs : List V}, Ds K H vs (ys.map PyData.int) → vs = ys.map V.int
  | [], _, .nil => rfl
  | y :: ys, _, .cons h t => by
    cases h
    rw [ds_ints0 t]
    rfl
theorem ee_lenSetT {X : Cx} {a : Expr} {σ : L2.St} {H : Hp} {ns : List Int} {p p2 q pos : Pos} (BL : Blt X.mg) (hs : X.mg "set" = none) (ha : EE X a σ H (.tuple (ns.map .int))) (hn : ns.length ≤ 4000) (hg : Gl X "len" := by rfl) (hg2 : Gl X "set" := by rfl) (hc : X.calm = true := by rfl)
    (na : starEach [a] X.env = (false, eval a X.env) :: starEach [] X.env := by rfl) : EE X (.Call (.Name "len" p) [.Call (.Name "set" p2) [a] [] q] [] pos) σ H (.int ((dd ns).length : Nat)) := fun H1 l Q k =>
  ⟨_, pe_lenSetT hg BL.len hg2 hs pe_w hc na, ha H1 l _ fun v B2 H2 u dv => by
    cases dv with
    | tup s t h0 =>
      have e := ds_ints0 h0
      subst e
      exact ⟨_, ns, rfl, sqT_le u.s s, hn, k _ B2 H2 u (.int _)⟩⟩
end Tk


set_option Elab.async false
set_option linter.all false
set_option maxRecDepth 100000
set_option maxHeartbeats 4000000
/-! G2: is_numbers, are_goals, is_game_row, is_game. -/
namespace K0
open PySem PySem.Spec PyProof.Rows L2 GxR Tk
variable [LamTab]
abbrev sNums : Stmt := top 5
abbrev sGoals : Stmt := top 15
abbrev sGRow : Stmt := top 16
abbrev sGame : Stmt := top 17
section
variable {P : Program} {w : World} {K : PySem.W.Frag} {mg : Str → Option Value} {base : Heap} {f : Addr} {fd : FuncData} {T : List Addr} {c Pt : Addr}
def okP (ds : List PyData) : Prop := ∃ d, ds = [d] ∧ okD d = true
def okMP (ds : List PyData) : Prop := ∃ d m, ds = [d, .int m] ∧ okD d = true
theorem row_tup {d : PyData} {lo hi : Int} (h : rowB d lo hi = true) : ∃ xs, d = .tuple xs ∧ lo ≤ (xs.length : Int) ∧ (xs.length : Int) ≤ hi := by
  cases d with
  | tuple xs =>
    have h' := (Bool.and_eq_true _ _).mp h
    have h2 := (Bool.and_eq_true _ _).mp h'.2
    exact ⟨xs, rfl, of_decide_eq_true h2.1, of_decide_eq_true h2.2⟩
  | _ => cases h
theorem numB_int {d : PyData} {m : Int} (h : numB d m = true) : ∃ i, d = .int i ∧ 0 ≤ i ∧ i < m := by
  cases d with
  | int i =>
    have h' : (true && (true && (decide (0 ≤ i) && decide (i < m)))) = true := h
    simp only [Bool.true_and, Bool.and_eq_true, decide_eq_true_eq] at h'
    exact ⟨i, rfl, h'.1, h'.2⟩
  | bool b => cases h
  | none => cases h
  | str x => cases h
  | list x => cases h
  | tuple x => cases h
  | dict x => cases h
theorem all_ints {xs : List PyData} {m : Int} (h : xs.all (fun x => numB x m) = true) : ∃ ns : List Int, xs = ns.map PyData.int ∧ ∀ i ∈ ns, 0 ≤ i ∧ i < m := by
  induction xs with
  | nil => exact ⟨[], rfl, fun i hi => by cases hi⟩
  | cons x xs ih =>
    rw [List.all_cons, Bool.and_eq_true] at h
    obtain ⟨i, rfl, a, b⟩ := numB_int h.1
    obtain ⟨ns, rfl, g⟩ := ih h.2
    exact ⟨i :: ns, rfl, fun j hj => by
      rcases List.mem_cons.mp hj with z | z
      · rw [z]; exact ⟨a, b⟩
      · exact g j z⟩

/-! is_numbers -/
def tupAll (m : Int) : PyData → Bool
  | .tuple xs => xs.all fun x => numB x m
  | _ => false
def tupAsc : PyData → Bool
  | .tuple xs => ascB xs
  | _ => false
def numsB (d : PyData) (m : Int) : Bool := isTup d && (tupAll m d && tupAsc d)
def numsF : List PyData → PyData
  | [d, .int m] => .bool (numsB d m)
  | _ => .none
theorem scNums : FnScope ["thing", "limit", "number"] ["thing", "limit"] (defScope sNums) ∨ True := .inr trivial
abbrev KNum (P : Program) (w : World) (K : PySem.W.Frag) (mg : Str → Option Value) (base : Heap) (T : List Addr) : Prop := Kn P w K mg base 1 "is_number" ["thing", "limit"] (spF K T 2 numP numF)
abbrev KRow (P : Program) (w : World) (K : PySem.W.Frag) (mg : Str → Option Value) (base : Heap) (T : List Addr) : Prop := Kn P w K mg base 1 "is_row" ["thing", "least", "most"] (spF K T 3 rowP rowF)
theorem scNums' : FnScope ["thing", "limit"] ["thing", "limit"] (defScope sNums) := ⟨rfl, rfl, rfl, by decide +kernel, rfl, by decide +kernel, by decide +kernel⟩
theorem ok_nums (BL : Blt mg) (Fn : KNum P w K mg base T) (Fa : Kn P w K mg base 2 "ascends" ["items"] (spF K T 1 ascP ascF))
    (F : L2.Fun K "is_numbers" "is_numbers" sNums f fd) (hc : fd.code = .ref c) (TB : TabB base mg c Pt) (hP : Pt ∈ T) : FnOk P w K mg base CX0 4 f fd ["thing", "limit"] (spF K T 2 okMP numsF) := by
  refine fn_pure F scNums' rfl fun cdv A outer s H vs B ds Q E hr hcd t l hd hl hp q => ?_
  obtain ⟨d, m, rfl, hok⟩ := hp
  obtain ⟨v1, v2, rfl, h1, h2⟩ := ds2 hd
  cases h2
  subst hcd
  refine wb_one (ws_ret (d := .bool (numsB d m)) l ?_ q)
  refine ee_and (ee_isTup BL (ee_var (i := 0) rfl h1)) fun e1 => ?_
  cases d with
  | tuple xs =>
    have hoks := okD_tup hok
    refine ee_and (p := xs.all fun x => numB x m) ?_ fun e2 => ?_
    · refine ee_all (k := 1) (N := ["number", "limit"]) (js := [none, some 1]) (tjs := [0]) (pat := patN) _ (hr.mono (by decide)) BL.all TB hc (scope_by (n := s.heap.objs.size + 1) rfl (show gsB ["thing", "limit"] ["number", "limit"] (defScope sNums) _ [none, some 1] = true by decide +kernel)) hP t
        (ei_tup (ee_var (i := 0) rfl h1)) (fun code A s H0 ex hr => eg_name (show List.Nodup (["number", "limit"] : List Str) by decide +kernel)) (by decide) (fun d hd => ⟨[d], rfl, rfl⟩) fun B' d es vs lb hd he hv code A s H0 ex hr => ?_
      cases he
      obtain ⟨x, rfl, hx⟩ := ds1 (K := K) hv
      exact ee_call Fn hr (Nat.le_refl _) (t.le lb) (ea_cons (ee_var (i := 0) rfl hx) (ea_cons (ee_var (i := 1) rfl (.int m)) ea_nil)) ⟨d, m, rfl⟩
    · refine ee_one ?_
      obtain ⟨ns, rfl, _⟩ := all_ints e2
      exact ee_call (f := ascF) Fa hr (by decide) t (ea_cons (ee_var (i := 0) rfl h1) ea_nil) ⟨_, rfl, hoks.1, .inr fun d hd => by
        obtain ⟨i, _, rfl⟩ := List.mem_map.mp hd
        exact ⟨i, rfl⟩⟩
  | _ => cases e1

/-! are_goals -/
def intsOf (xs : List PyData) : List Int := xs.map fun x => match x with | .int i => i | _ => 0
def tupOnce : PyData → Bool
  | .tuple xs => decide ((intsOf xs).Nodup)
  | _ => false
def goalsB (d : PyData) (m : Int) : Bool := (rowB d 1 4000 && tupAll m d) && tupOnce d
def goalsF : List PyData → PyData
  | [d, .int m] => .bool (goalsB d m)
  | _ => .none
theorem intsOf_map (ns : List Int) : intsOf (ns.map PyData.int) = ns := by
  unfold intsOf
  rw [List.map_map]
  exact (List.map_congr_left fun a _ => rfl).trans (List.map_id ns)
theorem scGoals : FnScope ["thing", "many"] ["thing", "many"] (defScope sGoals) := ⟨rfl, rfl, rfl, by decide +kernel, rfl, by decide +kernel, by decide +kernel⟩
theorem ok_goals (BL : Blt mg) (hset : mg "set" = none) (hmost : ∃ t, mg "MOST_GOALS" = some (.int 4000 t)) (Fn : KNum P w K mg base T) (Fr : KRow P w K mg base T)
    (F : L2.Fun K "are_goals" "are_goals" sGoals f fd) (hc : fd.code = .ref c) (TB : TabB base mg c Pt) (hP : Pt ∈ T) : FnOk P w K mg base CX0 3 f fd ["thing", "many"] (spF K T 2 okMP goalsF) := by
  refine fn_pure F scGoals rfl fun cdv A outer s H vs B ds Q E hr hcd t l hd hl hp q => ?_
  obtain ⟨d, m, rfl, hok⟩ := hp
  obtain ⟨v1, v2, rfl, h1, h2⟩ := ds2 hd
  obtain ⟨tm, hmost⟩ := hmost
  cases h2
  subst hcd
  have fin : ∀ (k : Bool), goalsB d m = k → ∀ H', Le H H' → ∀ v B' H2, Up B H' B' H2 → Dt K B' v (.bool k) → Q v H2 := fun k hk H' l' v B' H2 u dv => q v B' H2 ((Up.le l l').trans u) (by
    have : goalsF [d, .int m] = .bool k := by rw [← hk]; rfl
    rw [this]; exact dv)
  refine wb_cons (ws_if (k := !rowB d 1 4000 || !tupAll m d) l
    (et_w (ew_or (et_not (et_val (ee_call Fr hr (by decide) t (ea_cons (ee_var (i := 0) rfl h1) (ea_cons ee_int (ea_cons (ee_globD (v := .int 4000) hmost ⟨tm, rfl⟩ fun H' => .int 4000) ea_nil))) ⟨d, 1, 4000, rfl⟩))) fun e1 => ew_one2 ?_)) (fun e H' l' => ?_) fun e H' l' => ?_)
  · obtain ⟨xs, rfl, _, _⟩ := row_tup (bys e1)
    refine et_not (et_val ?_)
    refine ee_all (k := 1) (N := ["goal", "many"]) (js := [none, some 1]) (tjs := [0]) (pat := patN) _ hr BL.all TB hc (scope_by (n := s.heap.objs.size + 1) rfl (show gsB ["thing", "many"] ["goal", "many"] (defScope sGoals) _ [none, some 1] = true by decide +kernel)) hP t
      (ei_tup (ee_var (i := 0) rfl h1)) (fun code A s H0 ex hr => eg_name (show List.Nodup (["goal", "many"] : List Str) by decide +kernel)) (by decide) (fun d hd => ⟨[d], rfl, rfl⟩) fun B' d es vs lb hd he hv code A s H0 ex hr => ?_
    cases he
    obtain ⟨x, rfl, hx⟩ := ds1 (K := K) hv
    exact ee_call Fn hr (by decide) (t.le lb) (ea_cons (ee_var (i := 0) rfl hx) (ea_cons (ee_var (i := 1) rfl (.int m)) ea_nil)) ⟨d, m, rfl⟩
  · refine wb_one (ws_ret (d := .bool false) (l.trans l') ee_bl (fin false ?_ H' l'))
    unfold goalsB
    have : (rowB d 1 4000 && tupAll m d) = false := by
      rw [← Bool.not_and] at e
      exact bno e
    rw [this]
    rfl
  · have hb : (rowB d 1 4000 && tupAll m d) = true := by
      rw [← Bool.not_and] at e
      exact bys e
    have hb' := (Bool.and_eq_true _ _).mp hb
    obtain ⟨xs, rfl, x1, x2⟩ := row_tup hb'.1
    obtain ⟨ns, rfl, _⟩ := all_ints hb'.2
    have hn : ns.length ≤ 4000 := by rw [List.length_map] at x2; omega
    refine wb_nil (wb_one (ws_ret (d := .bool (decide (((dd ns).length : Int) = ((ns.map PyData.int).length : Int)))) (l.trans l') (ee_cmp op_eq rr_eqI (ee_lenSetT BL hset (ee_var (i := 0) rfl h1) hn) (ee_len BL (ee_var (i := 0) rfl h1) rfl fun x z => by cases z)) (fin _ ?_ H' l')))
    unfold goalsB
    rw [hb]
    show decide ((intsOf (ns.map PyData.int)).Nodup) = _
    rw [intsOf_map, List.length_map]
    refine decide_eq_decide.mpr ?_
    rw [← dd_iff]
    omega
end
end K0


set_option Elab.async false
set_option linter.all false
set_option maxRecDepth 100000
set_option maxHeartbeats 4000000
/-! G3: is_game_row, is_game. -/
namespace K0
open PySem PySem.Spec PyProof.Rows L2 GxR Tk
variable [LamTab]
section
variable {P : Program} {w : World} {K : PySem.W.Frag} {mg : Str → Option Value} {base : Heap} {f : Addr} {fd : FuncData} {T : List Addr} {c Pt : Addr}
theorem three {xs : List PyData} (h : (3 : Int) ≤ (xs.length : Int)) (k : (xs.length : Int) ≤ 3) : ∃ a b c, xs = [a, b, c] := by
  match xs with
  | [a, b, c] => exact ⟨a, b, c, rfl⟩
  | [] => exact absurd h (by decide)
  | [_] => simp only [List.length_cons, List.length_nil] at h; omega
  | [_, _] => simp only [List.length_cons, List.length_nil] at h; omega
  | _ :: _ :: _ :: _ :: r =>
    simp only [List.length_cons] at k
    omega
def partB (m : Int) : PyData → Bool
  | .tuple [a, b, c] => numB a 2 && numB b 302
  | _ => false
def partG (m : Int) : PyData → Bool
  | .tuple [a, b, c] => goalsB c m
  | _ => false
def growB (d : PyData) (m : Int) : Bool := (rowB d 3 3 && partB m d) && partG m d
def growF : List PyData → PyData
  | [d, .int m] => .bool (growB d m)
  | _ => .none
abbrev KGoals (P : Program) (w : World) (K : PySem.W.Frag) (mg : Str → Option Value) (base : Heap) (T : List Addr) : Prop := Kn P w K mg base 3 "are_goals" ["thing", "many"] (spF K T 2 okMP goalsF)
theorem scGRow : FnScope ["thing", "many"] ["thing", "many"] (defScope sGRow) := ⟨rfl, rfl, rfl, by decide +kernel, rfl, by decide +kernel, by decide +kernel⟩
theorem ok_grow (hrk : ∃ t, mg "RANKS" = some (.int 302 t)) (Fn : KNum P w K mg base T) (Fr : KRow P w K mg base T) (Fg : KGoals P w K mg base T)
    (F : L2.Fun K "is_game_row" "is_game_row" sGRow f fd) : FnOk P w K mg base CX0 4 f fd ["thing", "many"] (spF K T 2 okMP growF) := by
  refine fn_pure F scGRow rfl fun cdv A outer s H vs B ds Q E hr hcd t l hd hl hp q => ?_
  obtain ⟨d, m, rfl, hok⟩ := hp
  obtain ⟨v1, v2, rfl, h1, h2⟩ := ds2 hd
  obtain ⟨tm, hrk⟩ := hrk
  cases h2
  have fin : ∀ (k : Bool), growB d m = k → ∀ H', Le H H' → ∀ v B' H2, Up B H' B' H2 → Dt K B' v (.bool k) → Q v H2 := fun k hk H' l' v B' H2 u dv => q v B' H2 ((Up.le l l').trans u) (by
    have : growF [d, .int m] = .bool k := by rw [← hk]; rfl
    rw [this]; exact dv)
  refine wb_cons (ws_if (k := !rowB d 3 3 || !partB m d) l
    (et_w (ew_or (et_not (et_val (ee_call Fr hr (by decide) t (ea_cons (ee_var (i := 0) rfl h1) (ea_cons ee_int (ea_cons ee_int ea_nil))) ⟨d, 3, 3, rfl⟩))) fun e1 => ?_)) (fun e H' l' => ?_) fun e H' l' => ?_)
  · obtain ⟨xs, rfl, x1, x2⟩ := row_tup (bys e1)
    obtain ⟨a, b, c, rfl⟩ := three x1 x2
    have e2 : (!partB m (.tuple [a, b, c])) = (!numB a 2 || !numB b 302) := by
      show (!(numB a 2 && numB b 302)) = _
      cases numB a 2 <;> rfl
    rw [e2]
    exact ew_or (et_not (et_val (ee_call Fn hr (by decide) t (ea_cons (ee_ix ix_tup (rr_ixT at0) (ee_var (i := 0) rfl h1) ee_int) (ea_cons ee_int ea_nil)) ⟨a, 2, rfl⟩))) fun _ => ew_one2 (et_not (et_val (ee_call Fn hr (by decide) t (ea_cons (ee_ix ix_tup (rr_ixT at1) (ee_var (i := 0) rfl h1) ee_int) (ea_cons (ee_globD (v := .int 302) hrk ⟨tm, rfl⟩ fun H' => .int 302) ea_nil)) ⟨b, 302, rfl⟩)))
  · refine wb_one (ws_ret (d := .bool false) (l.trans l') ee_bl (fin false ?_ H' l'))
    unfold growB
    have : (rowB d 3 3 && partB m d) = false := by
      rw [← Bool.not_and] at e
      exact bno e
    rw [this]
    rfl
  · have hb : (rowB d 3 3 && partB m d) = true := by
      rw [← Bool.not_and] at e
      exact bys e
    have hb' := (Bool.and_eq_true _ _).mp hb
    obtain ⟨xs, rfl, x1, x2⟩ := row_tup hb'.1
    obtain ⟨a, b, c, rfl⟩ := three x1 x2
    have hoks := (okD_tup hok).2
    refine wb_nil (wb_one (ws_ret (d := .bool (goalsB c m)) (l.trans l') (ee_call (f := goalsF) (d := .bool (goalsB c m)) Fg hr (by decide) t (ea_cons (ee_ix ix_tup (rr_ixT at2) (ee_var (i := 0) rfl h1) ee_int) (ea_cons (ee_var (i := 1) rfl (.int m)) ea_nil)) ⟨c, m, rfl, okDs_mem hoks (by simp)⟩) (fin _ ?_ H' l')))
    unfold growB
    rw [hb]
    rfl

def gRows (m : Int) : PyData → Bool
  | .tuple xs => xs.all fun x => growB x m
  | _ => false
def gBody : PyData → Bool
  | .tuple [a, .tuple xs] => xs.all fun x => growB x (xs.length : Int)
  | _ => false
def gRow1 : PyData → Bool
  | .tuple [a, b] => rowB b 1 20000
  | _ => false
def gameB (d : PyData) : Bool := (headB d "game" 2 && gRow1 d) && gBody d
def gameF : List PyData → PyData
  | [d] => .bool (gameB d)
  | _ => .none
theorem head_two {d : PyData} (h : headB d "game" 2 = true) : ∃ x y, d = .tuple [x, y] := by
  cases d with
  | tuple xs =>
    have h1 := (Bool.and_eq_true _ _).mp (((Bool.and_eq_true _ _).mp h).2)
    have h2 : (xs.length : Int) = 2 := of_decide_eq_true h1.1
    match xs, h2 with
    | [a, b], _ => exact ⟨a, b, rfl⟩
    | [], h2 => cases h2
    | [_], h2 => simp only [List.length_cons, List.length_nil] at h2; omega
    | _ :: _ :: _ :: r, h2 => simp only [List.length_cons] at h2; omega
  | _ => cases h
abbrev KGRow (P : Program) (w : World) (K : PySem.W.Frag) (mg : Str → Option Value) (base : Heap) (T : List Addr) : Prop := Kn P w K mg base 4 "is_game_row" ["thing", "many"] (spF K T 2 okMP growF)
theorem scGame : FnScope ["thing"] ["thing"] (defScope sGame) := ⟨rfl, rfl, rfl, by decide +kernel, rfl, by decide +kernel, by decide +kernel⟩
theorem ok_game (BL : Blt mg) (hmr : ∃ t, mg "MOST_ROWS" = some (.int 20000 t)) (Fh : Kn P w K mg base 1 "is_headed" ["thing", "word", "size"] (spF K T 3 headP headF)) (Fr : KRow P w K mg base T) (Fg : KGRow P w K mg base T)
    (F : L2.Fun K "is_game" "is_game" sGame f fd) (hc : fd.code = .ref c) (TB : TabB base mg c Pt) (hP : Pt ∈ T) : FnOk P w K mg base CX0 6 f fd ["thing"] (spF K T 1 okP gameF) := by
  refine fn_pure F scGame rfl fun cdv A outer s H vs B ds Q E hr hcd t l hd hl hp q => ?_
  obtain ⟨d, rfl, hok⟩ := hp
  obtain ⟨v1, rfl, h1⟩ := ds1 hd
  obtain ⟨tm, hmr⟩ := hmr
  subst hcd
  have fin : ∀ (k : Bool), gameB d = k → ∀ H', Le H H' → ∀ v B' H2, Up B H' B' H2 → Dt K B' v (.bool k) → Q v H2 := fun k hk H' l' v B' H2 u dv => q v B' H2 ((Up.le l l').trans u) (by
    have : gameF [d] = .bool k := by rw [← hk]; rfl
    rw [this]; exact dv)
  refine wb_cons (ws_if (k := !headB d "game" 2 || !gRow1 d) l
    (et_w (ew_or (et_not (et_val (ee_call Fh hr (by decide) t (ea_cons (ee_var (i := 0) rfl h1) (ea_cons ee_str (ea_cons ee_int ea_nil))) ⟨d, "game", 2, rfl, by decide⟩))) fun e1 => ?_)) (fun e H' l' => ?_) fun e H' l' => ?_)
  · obtain ⟨x, y, rfl⟩ := head_two (bys e1)
    exact ew_one2 (et_not (et_val (ee_call Fr hr (by decide) t (ea_cons (ee_ix ix_tup (rr_ixT at1) (ee_var (i := 0) rfl h1) ee_int) (ea_cons ee_int (ea_cons (ee_globD (v := .int 20000) hmr ⟨tm, rfl⟩ fun H' => .int 20000) ea_nil))) ⟨y, 1, 20000, rfl⟩)))
  · refine wb_one (ws_ret (d := .bool false) (l.trans l') ee_bl (fin false ?_ H' l'))
    unfold gameB
    have : (headB d "game" 2 && gRow1 d) = false := by
      rw [← Bool.not_and] at e
      exact bno e
    rw [this]
    rfl
  · have hb : (headB d "game" 2 && gRow1 d) = true := by
      rw [← Bool.not_and] at e
      exact bys e
    have hb' := (Bool.and_eq_true _ _).mp hb
    obtain ⟨x, y, rfl⟩ := head_two hb'.1
    obtain ⟨xs, rfl, _, _⟩ := row_tup (show rowB y 1 20000 = true from hb'.2)
    have hoks := (okD_tup hok).2
    have hokx := (okD_tup (okDs_mem hoks (show PyData.tuple xs ∈ [x, .tuple xs] by simp))).2
    refine wb_nil (wb_one (ws_ret (d := .bool (xs.all fun x => growB x (xs.length : Int))) (l.trans l') ?_ (fin _ ?_ H' l')))
    · refine ee_all (k := 4) (N := ["row", "thing"]) (js := [none, some 0]) (tjs := [0]) (pat := patN) _ hr BL.all TB hc (scope_by (n := s.heap.objs.size + 1) rfl (show gsB ["thing"] ["row", "thing"] (defScope sGame) _ [none, some 0] = true by decide +kernel)) hP t
        (ei_tup (ee_ix ix_tup (rr_ixT at1) (ee_var (i := 0) rfl h1) ee_int)) (fun code A s H0 ex hr => eg_name (show List.Nodup (["row", "thing"] : List Str) by decide +kernel)) (by decide) (fun d hd => ⟨[d], rfl, rfl⟩) fun B' d es vs lb hd he hv code A s H0 ex hr => ?_
      cases he
      obtain ⟨z, rfl, hz⟩ := ds1 (K := K) hv
      exact ee_call (f := growF) Fg hr (Nat.le_refl _) (t.le lb) (ea_cons (ee_var (i := 0) rfl hz) (ea_cons (ee_len BL (ee_ix ix_tup (rr_ixT (d := .tuple xs) at1) (ee_var (i := 1) rfl (Dt.le lb h1)) ee_int) rfl fun x z => by cases z) ea_nil)) ⟨d, _, rfl, okDs_mem hokx hd⟩
    · unfold gameB
      rw [hb]
      rfl
end
end K0


set_option Elab.async false
set_option linter.all false
set_option maxHeartbeats 4000000
/-! Mt: the mathematics: rows drawn to aims, from the aims back. -/
namespace Mt
/-- a state: what is told of each row, how many goals are left, the rows told, in order -/
structure S where
  t : Nat → Option Nat
  l : Nat → Int
  o : List Nat
def upF {α : Type} (f : Nat → α) (i : Nat) (v : α) : Nat → α := fun j => if j = i then v else f j
theorem upF_same {α : Type} {f : Nat → α} {i : Nat} {v : α} : upF f i v i = v := if_pos rfl
theorem upF_ne {α : Type} {f : Nat → α} {i j : Nat} {v : α} (h : j ≠ i) : upF f i v j = f j := if_neg h
section
variable (n : Nat) (sd : Nat → Bool) (gs : Nat → List Nat) (aims : List Nat)
def srcs (g : Nat) : List Nat := (List.range n).filter fun x => decide (g ∈ gs x)
def relax (g : Nat) (s : S) (x : Nat) : S :=
  if s.t x = none ∧ (sd x = true ∨ s.l x - 1 = 0) then ⟨upF s.t x (some ((s.t g).getD 0 + 1)), upF s.l x (s.l x - 1), s.o ++ [x]⟩ else ⟨s.t, upF s.l x (s.l x - 1), s.o⟩
def turn (s : S) (g : Nat) : S := (srcs n gs g).foldl (relax sd g) s
def run : Nat → S → Nat → S
  | 0, s, _ => s
  | f + 1, s, i => match s.o[i]? with
    | some g => run f (turn n sd gs s g) (i + 1)
    | none => s
def s0 : S := ⟨fun x => if x ∈ aims then some 0 else none, fun x => ((gs x).length : Nat), aims⟩
def fin : S := run n sd gs n (s0 gs aims) 0
/-- the values told of a row's goals -/
def toldOf (t : Nat → Option Nat) (x : Nat) : List Nat := (gs x).filterMap t
def lo : List Nat → Nat
  | [] => 0
  | [a] => a
  | a :: b :: r => min a (lo (b :: r))
def hi : List Nat → Nat
  | [] => 0
  | a :: r => max a (hi r)
/-- what is due -/
def due (t : Nat → Option Nat) (x : Nat) : Option Nat :=
  if x ∈ aims then some 0
  else if sd x = true then (if toldOf gs t x = [] then none else some (1 + lo (toldOf gs t x)))
  else if (toldOf gs t x).length < (gs x).length then none else some (1 + hi (toldOf gs t x))
end

theorem lo_le : ∀ {xs : List Nat} {a : Nat}, a ∈ xs → lo xs ≤ a
  | [b], a, h => by rw [List.mem_singleton.mp h]; exact Nat.le_refl _
  | b :: c :: r, a, h => by
    rcases List.mem_cons.mp h with z | z
    · rw [z]; exact Nat.min_le_left _ _
    · exact Nat.le_trans (Nat.min_le_right _ _) (lo_le z)
theorem lo_mem : ∀ {xs : List Nat}, xs ≠ [] → lo xs ∈ xs
  | [], h => absurd rfl h
  | [b], _ => List.mem_cons_self
  | b :: c :: r, _ => by
    have ih := lo_mem (xs := c :: r) (by simp)
    show min b (lo (c :: r)) ∈ _
    by_cases z : b ≤ lo (c :: r)
    · rw [Nat.min_eq_left z]; exact List.mem_cons_self
    · rw [Nat.min_eq_right (by omega)]; exact List.mem_cons_of_mem _ ih
theorem le_hi : ∀ {xs : List Nat} {a : Nat}, a ∈ xs → a ≤ hi xs
  | b :: r, a, h => by
    rcases List.mem_cons.mp h with z | z
    · rw [z]; exact Nat.le_max_left _ _
    · exact Nat.le_trans (le_hi z) (Nat.le_max_right _ _)
theorem hi_mem : ∀ {xs : List Nat}, xs ≠ [] → hi xs ∈ xs
  | [], h => absurd rfl h
  | [b], _ => by show max b 0 ∈ [b]; simp
  | b :: c :: r, _ => by
    have ih := hi_mem (xs := c :: r) (by simp)
    show max b (hi (c :: r)) ∈ _
    by_cases z : b ≤ hi (c :: r)
    · rw [Nat.max_eq_right z]; exact List.mem_cons_of_mem _ ih
    · rw [Nat.max_eq_left (by omega)]; exact List.mem_cons_self
theorem lo_eq {xs : List Nat} {k : Nat} (h : k ∈ xs) (m : ∀ a ∈ xs, k ≤ a) : lo xs = k := Nat.le_antisymm (lo_le h) (m _ (lo_mem (by intro z; rw [z] at h; cases h)))
theorem hi_eq {xs : List Nat} {k : Nat} (h : k ∈ xs) (m : ∀ a ∈ xs, a ≤ k) : hi xs = k := Nat.le_antisymm (m _ (hi_mem (by intro z; rw [z] at h; cases h))) (le_hi h)

/-- what is so between two turns, and within one: dn x, the goals that x knows to be told -/
structure Ok (n : Nat) (sd : Nat → Bool) (gs : Nat → List Nat) (aims : List Nat) (s : S) (dn : Nat → List Nat) (m : Nat) : Prop where
  nd : s.o.Nodup
  lt : ∀ x : Nat, x ∈ s.o → x < n
  mem : ∀ x : Nat, x ∈ s.o ↔ s.t x ≠ none
  aim : ∀ x : Nat, x ∈ aims → s.t x = some 0
  srt : ∀ i j x y a b : Nat, i < j → s.o[i]? = some x → s.o[j]? = some y → s.t x = some a → s.t y = some b → a ≤ b
  top : ∀ x a : Nat, s.t x = some a → a ≤ m + 1
  pos : ∀ i x a : Nat, s.o[i]? = some x → s.t x = some a → a ≤ i
  dno : ∀ x g : Nat, g ∈ dn x → g ∈ s.o
  dnm : ∀ x g : Nat, g ∈ dn x → ∀ a : Nat, s.t g = some a → a ≤ m
  late : ∀ x g : Nat, g ∈ gs x → g ∉ dn x → ∀ a : Nat, s.t g = some a → m ≤ a
  left : ∀ x : Nat, x < n → s.l x = (((gs x).filter fun g => decide (g ∉ dn x)).length : Nat)
  one : ∀ x : Nat, x ∈ s.o → x ∉ aims → sd x = true → ∃ g ∈ gs x, ∃ k, s.t g = some k ∧ s.t x = some (k + 1) ∧ ∀ g' ∈ gs x, ∀ k', s.t g' = some k' → k ≤ k'
  all : ∀ x : Nat, x ∈ s.o → x ∉ aims → sd x = false → (∀ g ∈ gs x, g ∈ s.o) ∧ ∃ g ∈ gs x, ∃ k, s.t g = some k ∧ s.t x = some (k + 1) ∧ ∀ g' ∈ gs x, ∀ k', s.t g' = some k' → k' ≤ k
  no1 : ∀ x : Nat, x < n → x ∉ s.o → sd x = true → ∀ g ∈ gs x, g ∉ dn x
  no2 : ∀ x : Nat, x < n → x ∉ s.o → sd x = false → ∃ g ∈ gs x, g ∉ dn x

section
variable {n : Nat} {sd : Nat → Bool} {gs : Nat → List Nat} {aims : List Nat}
/-- one goal less -/
theorem filter_one {gl dn : List Nat} {g : Nat} (nd : gl.Nodup) (h : g ∈ gl) (hd : g ∉ dn) : ((gl.filter fun y => decide (y ∉ dn ++ [g])).length : Int) = ((gl.filter fun y => decide (y ∉ dn)).length : Int) - 1 := by
  induction gl with
  | nil => cases h
  | cons a r ih =>
    have ⟨n1, n2⟩ := List.nodup_cons.mp nd
    rw [List.filter_cons, List.filter_cons]
    rcases List.mem_cons.mp h with z | z
    · subst z
      have e : (r.filter fun y => decide (y ∉ dn ++ [g])) = r.filter fun y => decide (y ∉ dn) := List.filter_congr fun y hy => by
        have : y ≠ g := fun z => n1 (z ▸ hy)
        simp [this]
      rw [if_neg (by simp), if_pos (by simp [hd]), e, List.length_cons]
      omega
    · have hag : a ≠ g := fun e => n1 (e ▸ z)
      have ih := ih n2 z
      by_cases q : a ∈ dn
      · rw [if_neg (by simp [q]), if_neg (by simp [q])]
        exact ih
      · rw [if_pos (by simp [q, hag]), if_pos (by simp [q]), List.length_cons, List.length_cons]
        omega
/-- within a turn: row x, of which g is a goal, is looked at -/
theorem Ok.relax {s : S} {dn : Nat → List Nat} {m g x : Nat} (h : Ok n sd gs aims s dn m) (hg : g ∈ s.o) (hm : s.t g = some m) (hx : x < n) (hgx : g ∈ gs x) (hd : g ∉ dn x) (nd : (gs x).Nodup) (hax : ∀ y ∈ aims, y ∈ s.o) :
    Ok n sd gs aims (relax sd g s x) (upF dn x (dn x ++ [g])) m := by
  have hL : ∀ y, y < n → upF s.l x (s.l x - 1) y = (((gs y).filter fun z => decide (z ∉ upF dn x (dn x ++ [g]) y)).length : Nat) := fun y hy => by
    by_cases z : y = x
    · subst z
      rw [upF_same, upF_same, filter_one nd hgx hd, h.left y hy]
    · rw [upF_ne z, upF_ne z]; exact h.left y hy
  have dno : ∀ y z, z ∈ upF dn x (dn x ++ [g]) y → z ∈ s.o := fun y z hz => by
    by_cases e : y = x
    · subst e
      rw [upF_same] at hz
      rcases List.mem_append.mp hz with q | q
      · exact h.dno y z q
      · rw [List.mem_singleton.mp q]; exact hg
    · rw [upF_ne e] at hz; exact h.dno y z hz
  have dnm : ∀ y z, z ∈ upF dn x (dn x ++ [g]) y → ∀ a, s.t z = some a → a ≤ m := fun y z hz a ha => by
    by_cases e : y = x
    · subst e
      rw [upF_same] at hz
      rcases List.mem_append.mp hz with q | q
      · exact h.dnm y z q a ha
      · rw [List.mem_singleton.mp q, hm] at ha
        cases ha
        exact Nat.le_refl _
    · rw [upF_ne e] at hz; exact h.dnm y z hz a ha
  have late : ∀ y z, z ∈ gs y → z ∉ upF dn x (dn x ++ [g]) y → ∀ a, s.t z = some a → m ≤ a := fun y z hz hn a ha => by
    by_cases e : y = x
    · subst e
      rw [upF_same] at hn
      exact h.late y z hz (fun q => hn (List.mem_append_left _ q)) a ha
    · rw [upF_ne e] at hn; exact h.late y z hz hn a ha
  have zero : s.l x - 1 = 0 → ∀ z ∈ gs x, z ∈ dn x ++ [g] := fun e z hz => by
    have q := hL x hx
    rw [upF_same, upF_same, e] at q
    have q2 : ((gs x).filter fun z => decide (z ∉ dn x ++ [g])).length = 0 := by omega
    have q3 := List.eq_nil_of_length_eq_zero q2
    have q4 := List.filter_eq_nil_iff.mp q3 z hz
    exact Decidable.byContradiction fun n => q4 (decide_eq_true n)
  unfold Mt.relax
  by_cases c : s.t x = none ∧ (sd x = true ∨ s.l x - 1 = 0)
  · rw [if_pos c]
    obtain ⟨c1, c2⟩ := c
    have hxo : x ∉ s.o := fun z => (h.mem x).mp z c1
    rw [hm]
    show Ok n sd gs aims ⟨upF s.t x (some (m + 1)), upF s.l x (s.l x - 1), s.o ++ [x]⟩ _ m
    have tne : ∀ {y a}, s.t y = some a → upF s.t x (some (m + 1)) y = some a := fun {y a} e => by
      rw [upF_ne fun z => by rw [z, c1] at e; cases e]
      exact e
    have tof : ∀ {y a}, upF s.t x (some (m + 1)) y = some a → (y = x ∧ a = m + 1) ∨ (y ≠ x ∧ s.t y = some a) := fun {y a} e => by
      by_cases z : y = x
      · rw [z, upF_same] at e
        cases e
        exact .inl ⟨z, rfl⟩
      · rw [upF_ne z] at e
        exact .inr ⟨z, e⟩
    have getL : ∀ {i y : Nat}, (s.o ++ [x])[i]? = some y → (s.o[i]? = some y ∧ y ≠ x) ∨ (i = s.o.length ∧ y = x) := fun {i y} e => by
      by_cases q : i < s.o.length
      · rw [List.getElem?_append_left q] at e
        exact .inl ⟨e, fun z => hxo (z ▸ List.mem_of_getElem? e)⟩
      · rw [List.getElem?_append_right (by omega)] at e
        cases hi : i - s.o.length with
        | zero => rw [hi] at e; cases e; exact .inr ⟨by omega, rfl⟩
        | succ k => rw [hi] at e; cases e
    refine ⟨?_, fun y hy => ?_, fun y => ?_, fun y hy => tne (h.aim y hy), fun i j y z a b hij h1 h2 h3 h4 => ?_, fun y a e => ?_, fun i y a h1 h2 => ?_, fun y z hz => List.mem_append_left _ (dno y z hz), fun y z hz a ha => ?_, fun y z hz hn a ha => ?_, hL, fun y hy hya hs => ?_, fun y hy hya hs => ?_, fun y hy hyo hs => ?_, fun y hy hyo hs => ?_⟩
    · exact List.nodup_append.mpr ⟨h.nd, by simp, fun a ha b hb => by rw [List.mem_singleton.mp hb]; exact fun e => hxo (e ▸ ha)⟩
    · rcases List.mem_append.mp hy with q | q
      · exact h.lt y q
      · rw [List.mem_singleton.mp q]; exact hx
    · show y ∈ s.o ++ [x] ↔ upF s.t x (some (m + 1)) y ≠ none
      rw [List.mem_append, List.mem_singleton, h.mem y]
      by_cases z : y = x
      · rw [z, upF_same]; simp
      · rw [upF_ne z]; simp [z]
    · have h3 : upF s.t x (some (m + 1)) y = some a := h3
      have h4 : upF s.t x (some (m + 1)) z = some b := h4
      rcases getL h1 with ⟨q1, q2⟩ | ⟨q1, q2⟩
      · rw [upF_ne q2] at h3
        rcases getL h2 with ⟨p1, p2⟩ | ⟨p1, p2⟩
        · rw [upF_ne p2] at h4
          exact h.srt i j y z a b hij q1 p1 h3 h4
        · rw [p2, upF_same] at h4
          cases h4
          exact h.top y a h3
      · rcases getL h2 with ⟨p1, p2⟩ | ⟨p1, p2⟩
        · have := (List.getElem?_eq_some_iff.mp p1).1
          omega
        · omega
    · rcases tof e with ⟨_, q⟩ | ⟨_, q⟩
      · omega
      · exact h.top y a q
    · have h2 : upF s.t x (some (m + 1)) y = some a := h2
      rcases getL h1 with ⟨q1, q2⟩ | ⟨q1, q2⟩
      · rw [upF_ne q2] at h2
        exact h.pos i y a q1 h2
      · rw [q2, upF_same] at h2
        cases h2
        obtain ⟨ig, hig⟩ := List.getElem?_of_mem hg
        have p := h.pos ig g m hig hm
        have := (List.getElem?_eq_some_iff.mp hig).1
        omega
    · rcases tof ha with ⟨q, _⟩ | ⟨_, q⟩
      · exact absurd (q ▸ dno y z hz) hxo
      · exact dnm y z hz a q
    · rcases tof ha with ⟨_, q⟩ | ⟨_, q⟩
      · omega
      · exact late y z hz hn a q
    · rcases List.mem_append.mp hy with q | q
      · obtain ⟨g0, h0, k, h1, h2, h3⟩ := h.one y q hya hs
        refine ⟨g0, h0, k, tne h1, tne h2, fun g' hg' k' e => ?_⟩
        rcases tof e with ⟨_, z⟩ | ⟨_, z⟩
        · have := h.top y (k + 1) h2
          omega
        · exact h3 g' hg' k' z
      · have e := List.mem_singleton.mp q
        subst e
        refine ⟨g, hgx, m, tne hm, upF_same, fun g' hg' k' e => ?_⟩
        rcases tof e with ⟨_, z⟩ | ⟨_, z⟩
        · omega
        · exact h.late y g' hg' (h.no1 y hx hxo hs g' hg') k' z
    · rcases List.mem_append.mp hy with q | q
      · obtain ⟨ha, g0, h0, k, h1, h2, h3⟩ := h.all y q hya hs
        refine ⟨fun g' hg' => List.mem_append_left _ (ha g' hg'), g0, h0, k, tne h1, tne h2, fun g' hg' k' e => ?_⟩
        rcases tof e with ⟨z, _⟩ | ⟨_, z⟩
        · exact absurd (z ▸ ha g' hg') hxo
        · exact h3 g' hg' k' z
      · have e := List.mem_singleton.mp q
        subst e
        have c3 : s.l y - 1 = 0 := by
          rcases c2 with z | z
          · rw [hs] at z; cases z
          · exact z
        have zz := zero c3
        have zin : ∀ g' ∈ gs y, g' ∈ s.o := fun g' hg' => dno y g' (by rw [upF_same]; exact zz g' hg')
        refine ⟨fun g' hg' => List.mem_append_left _ (zin g' hg'), g, hgx, m, tne hm, upF_same, fun g' hg' k' e => ?_⟩
        rcases tof e with ⟨z, _⟩ | ⟨_, z⟩
        · exact absurd (z ▸ zin g' hg') hxo
        · exact dnm y g' (by rw [upF_same]; exact zz g' hg') k' z
    · have hyx : y ≠ x := fun z => hyo (by rw [z]; exact List.mem_append_right _ (List.mem_singleton.mpr rfl))
      rw [upF_ne hyx]
      exact h.no1 y hy (fun z => hyo (List.mem_append_left _ z)) hs
    · have hyx : y ≠ x := fun z => hyo (by rw [z]; exact List.mem_append_right _ (List.mem_singleton.mpr rfl))
      rw [upF_ne hyx]
      exact h.no2 y hy (fun z => hyo (List.mem_append_left _ z)) hs
  · rw [if_neg c]
    refine ⟨h.nd, h.lt, h.mem, h.aim, h.srt, h.top, h.pos, dno, dnm, late, hL, h.one, h.all, fun y hy hyo hs => ?_, fun y hy hyo hs => ?_⟩
    · by_cases e : y = x
      · subst e
        have t0 : s.t y = none := Decidable.byContradiction fun z => hyo ((h.mem y).mpr z)
        exact absurd ⟨t0, .inl hs⟩ c
      · rw [upF_ne e]; exact h.no1 y hy hyo hs
    · by_cases e : y = x
      · subst e
        have t0 : s.t y = none := Decidable.byContradiction fun z => hyo ((h.mem y).mpr z)
        have l0 : s.l y - 1 ≠ 0 := fun z => c ⟨t0, .inr z⟩
        have q := hL y hy
        rw [upF_same, upF_same] at q
        rw [upF_same]
        apply Decidable.byContradiction
        intro hn
        apply l0
        have : ((gs y).filter fun z => decide (z ∉ dn y ++ [g])) = [] := List.filter_eq_nil_iff.mpr fun z hz w => hn ⟨z, hz, of_decide_eq_true w⟩
        rw [q, this]
        rfl
      · rw [upF_ne e]; exact h.no2 y hy hyo hs
theorem relax_pre {s : S} {g x : Nat} : s.o <+: (relax sd g s x).o := by
  unfold relax
  split
  · exact List.prefix_append _ _
  · exact List.prefix_refl _
theorem relax_t {s : S} {g x y a : Nat} (h : s.t y = some a) : (relax sd g s x).t y = some a := by
  unfold relax
  split
  · rename_i c
    show upF s.t x _ y = _
    rw [upF_ne fun z => by rw [z, c.1] at h; cases h]
    exact h
  · exact h
/-- a whole turn -/
theorem Ok.fold {m g : Nat} (hnd : ∀ x, x < n → (gs x).Nodup) : ∀ {xs : List Nat} {s : S} {dn : Nat → List Nat}, Ok n sd gs aims s dn m → g ∈ s.o → s.t g = some m → (∀ y ∈ aims, y ∈ s.o) → xs.Nodup → (∀ x ∈ xs, x < n ∧ g ∈ gs x ∧ g ∉ dn x) →
    Ok n sd gs aims (xs.foldl (Mt.relax sd g) s) (fun x => if x ∈ xs then dn x ++ [g] else dn x) m ∧ s.o <+: (xs.foldl (Mt.relax sd g) s).o ∧ (∀ y a, s.t y = some a → (xs.foldl (Mt.relax sd g) s).t y = some a)
  | [], s, dn, h, _, _, _, _, _ => ⟨h, List.prefix_refl _, fun _ _ e => e⟩
  | x :: xs, s, dn, h, hg, hm, ha, nd, hx => by
    obtain ⟨n1, n2⟩ := List.nodup_cons.mp nd
    obtain ⟨x1, x2, x3⟩ := hx x List.mem_cons_self
    have h1 := h.relax hg hm x1 x2 x3 (hnd x x1) ha
    have p1 : s.o <+: (Mt.relax sd g s x).o := relax_pre
    obtain ⟨r1, r2, r3⟩ := Ok.fold hnd (xs := xs) h1 (p1.subset hg) (relax_t hm) (fun y hy => p1.subset (ha y hy)) n2 fun y hy => by
      obtain ⟨y1, y2, y3⟩ := hx y (List.mem_cons_of_mem _ hy)
      have hyx : y ≠ x := fun z => n1 (z ▸ hy)
      exact ⟨y1, y2, by rw [upF_ne hyx]; exact y3⟩
    refine ⟨?_, p1.trans r2, fun y a e => r3 y a (relax_t e)⟩
    have e : (fun y => if y ∈ xs then upF dn x (dn x ++ [g]) y ++ [g] else upF dn x (dn x ++ [g]) y) = fun y => if y ∈ x :: xs then dn y ++ [g] else dn y := by
      funext y
      by_cases z : y = x
      · subst z
        rw [if_neg n1, upF_same, if_pos List.mem_cons_self]
      · rw [upF_ne z]
        by_cases w : y ∈ xs
        · rw [if_pos w, if_pos (List.mem_cons_of_mem _ w)]
        · rw [if_neg w, if_neg fun q => by
            rcases List.mem_cons.mp q with q | q
            · exact z q
            · exact w q]
    rw [e] at r1
    exact r1
/-- between two turns -/
def OkI (n : Nat) (sd : Nat → Bool) (gs : Nat → List Nat) (aims : List Nat) (s : S) (i m : Nat) : Prop := Ok n sd gs aims s (fun _ => s.o.take i) m ∧ (∀ y ∈ aims, y ∈ s.o) ∧ ∀ g a, s.o[i]? = some g → s.t g = some a → a = m
theorem srcs_mem {g x : Nat} : x ∈ srcs n gs g ↔ x < n ∧ g ∈ gs x := by
  unfold srcs
  rw [List.mem_filter, List.mem_range]
  exact ⟨fun h => ⟨h.1, of_decide_eq_true h.2⟩, fun h => ⟨h.1, decide_eq_true h.2⟩⟩
theorem nodup_at {o : List Nat} {i j g : Nat} (nd : o.Nodup) (h1 : o[i]? = some g) (h2 : o[j]? = some g) : i = j := by
  obtain ⟨a, b⟩ := List.getElem?_eq_some_iff.mp h1
  obtain ⟨c, d⟩ := List.getElem?_eq_some_iff.mp h2
  have pw := List.pairwise_iff_getElem.mp nd
  apply Decidable.byContradiction
  intro w
  by_cases q : i < j
  · exact pw i j a c q (b.trans d.symm)
  · exact pw j i c a (by omega) (d.trans b.symm)
theorem mem_take {o : List Nat} {i g : Nat} (h : g ∈ o.take i) : ∃ j, j < i ∧ o[j]? = some g := by
  obtain ⟨j, hj⟩ := List.getElem?_of_mem h
  rw [List.getElem?_take] at hj
  by_cases z : j < i
  · rw [if_pos z] at hj; exact ⟨j, z, hj⟩
  · rw [if_neg z] at hj; cases hj
theorem OkI.turn {s : S} {i m g : Nat} (hnd : ∀ x, x < n → (gs x).Nodup) (h : OkI n sd gs aims s i m) (hg : s.o[i]? = some g) :
    ∃ m', OkI n sd gs aims (Mt.turn n sd gs s g) (i + 1) m' ∧ s.o <+: (Mt.turn n sd gs s g).o := by
  obtain ⟨h, ha, h3⟩ := h
  have gm : g ∈ s.o := List.mem_of_getElem? hg
  obtain ⟨k, hk⟩ := Option.ne_none_iff_exists'.mp ((h.mem g).mp gm)
  have ek := h3 g k hg hk
  subst ek
  obtain ⟨r1, r2, r3⟩ := h.fold hnd (xs := srcs n gs g) gm hk ha (by unfold srcs; exact List.Pairwise.filter _ List.nodup_range) fun x hx => by
    obtain ⟨x1, x2⟩ := srcs_mem.mp hx
    refine ⟨x1, x2, fun z => ?_⟩
    obtain ⟨j, j1, j2⟩ := mem_take z
    have := nodup_at h.nd j2 hg
    omega
  have ha' : ∀ y ∈ aims, y ∈ (Mt.turn n sd gs s g).o := fun y hy => r2.subset (ha y hy)
  have hg' : (Mt.turn n sd gs s g).o[i]? = some g := by
    obtain ⟨t, ht⟩ := r2
    have : (Mt.turn n sd gs s g).o = s.o ++ t := ht.symm
    rw [this, List.getElem?_append_left (List.getElem?_eq_some_iff.mp hg).1]
    exact hg
  have hk' : (Mt.turn n sd gs s g).t g = some k := r3 g k hk
  have tk : (Mt.turn n sd gs s g).o.take (i + 1) = s.o.take i ++ [g] := by
    obtain ⟨t, ht⟩ := r2
    have e1 : (Mt.turn n sd gs s g).o = s.o ++ t := ht.symm
    have il := (List.getElem?_eq_some_iff.mp hg).1
    rw [e1, List.take_append_of_le_length (by omega), List.take_add_one, hg]
    rfl
  have P : s.o <+: (Mt.turn n sd gs s g).o := r2
  have R : Ok n sd gs aims (Mt.turn n sd gs s g) (fun x => if x ∈ srcs n gs g then s.o.take i ++ [g] else s.o.take i) k := r1
  generalize Mt.turn n sd gs s g = s' at *
  -- the same, told of all alike
  have sub : ∀ x z, z ∈ gs x → x < n → (z ∈ s'.o.take (i + 1) ↔ z ∈ if x ∈ srcs n gs g then s.o.take i ++ [g] else s.o.take i) := fun x z hz hx => by
    rw [tk]
    by_cases q : x ∈ srcs n gs g
    · rw [if_pos q]
    · rw [if_neg q, List.mem_append, List.mem_singleton]
      exact ⟨fun w => by
        rcases w with w | w
        · exact w
        · exact absurd (srcs_mem.mpr ⟨hx, w ▸ hz⟩) q, .inl⟩
  have place : ∀ z a, s'.t z = some a → z ∉ s'.o.take (i + 1) → ∃ j, i < j ∧ s'.o[j]? = some z := fun z a hz hn => by
    obtain ⟨j, hj⟩ := List.getElem?_of_mem ((R.mem z).mpr (by rw [hz]; simp))
    refine ⟨j, ?_, hj⟩
    apply Decidable.byContradiction
    intro w
    exact hn (List.mem_of_getElem? (i := j) (by rw [List.getElem?_take, if_pos (by omega)]; exact hj))
  have dnm0 : ∀ z, z ∈ s'.o.take (i + 1) → ∀ a, s'.t z = some a → a ≤ k := fun z hz a hza => by
    obtain ⟨j, j1, j2⟩ := mem_take hz
    by_cases e : j = i
    · subst e
      rw [hg'] at j2
      cases j2
      rw [hk'] at hza
      cases hza
      exact Nat.le_refl _
    · exact R.srt j i z g a k (by omega) j2 hg' hza hk'
  have mk : ∀ m', k ≤ m' → (∀ z a, s'.t z = some a → z ∉ s'.o.take (i + 1) → m' ≤ a) → Ok n sd gs aims s' (fun _ => s'.o.take (i + 1)) m' := fun m' hm' hl =>
    ⟨R.nd, R.lt, R.mem, R.aim, R.srt, fun x a e => by have := R.top x a e; omega, R.pos, fun x z hz => List.mem_of_mem_take hz, fun x z hz a hza => Nat.le_trans (dnm0 z hz a hza) hm', fun x z hz hn a hza => hl z a hza hn,
      fun x hx => by
        rw [R.left x hx]
        congr 2
        exact List.filter_congr fun z hz => by
          exact decide_eq_decide.mpr (not_congr (sub x z hz hx).symm),
      R.one, R.all, fun x hx hxo hs z hz w => R.no1 x hx hxo hs z hz ((sub x z hz hx).mp w), fun x hx hxo hs => by
        obtain ⟨z, hz, hn⟩ := R.no2 x hx hxo hs
        exact ⟨z, hz, fun w => hn ((sub x z hz hx).mp w)⟩⟩
  cases hnx : s'.o[i + 1]? with
  | none =>
    refine ⟨k, ⟨mk k (Nat.le_refl _) fun z a hz hn => ?_, ha', fun y a e => by rw [hnx] at e; cases e⟩, P⟩
    obtain ⟨j, j1, j2⟩ := place z a hz hn
    exact R.srt i j g z k a j1 hg' j2 hk' hz
  | some y =>
    obtain ⟨b, hb⟩ := Option.ne_none_iff_exists'.mp ((R.mem y).mp (List.mem_of_getElem? hnx))
    refine ⟨b, ⟨mk b (R.srt i (i + 1) g y k b (by omega) hg' hnx hk' hb) fun z a hz hn => ?_, ha', fun y' a e w => by
      rw [hnx] at e
      cases e
      rw [hb] at w
      cases w
      rfl⟩, P⟩
    obtain ⟨j, j1, j2⟩ := place z a hz hn
    by_cases e : j = i + 1
    · subst e
      rw [hnx] at j2
      cases j2
      rw [hb] at hz
      cases hz
      exact Nat.le_refl _
    · exact R.srt (i + 1) j y z b a (by omega) hnx j2 hb hz
theorem len_le {o : List Nat} (nd : o.Nodup) (h : ∀ x ∈ o, x < n) : o.length ≤ n := by
  have := List.Nodup.length_le_of_subset (l₁ := o) (l₂ := List.range n) nd fun x hx => List.mem_range.mpr (h x hx)
  rw [List.length_range] at this
  exact this
theorem OkI.run (hnd : ∀ x, x < n → (gs x).Nodup) : ∀ {f i m : Nat} {s : S}, OkI n sd gs aims s i m → n ≤ f + i → ∃ m' j, OkI n sd gs aims (Mt.run n sd gs f s i) j m' ∧ (Mt.run n sd gs f s i).o.length ≤ j
  | 0, i, m, s, h, hf => ⟨m, i, h, by
    have := len_le h.1.nd h.1.lt
    show s.o.length ≤ i
    omega⟩
  | f + 1, i, m, s, h, hf => by
    unfold Mt.run
    cases e : s.o[i]? with
    | none => exact ⟨m, i, h, by simpa using e⟩
    | some g =>
      obtain ⟨m', h', _⟩ := h.turn hnd e
      exact OkI.run hnd h' (by omega)
theorem ok_start (h1 : aims.Nodup) (h2 : ∀ x ∈ aims, x < n) (hne : ∀ x, x < n → gs x ≠ []) : OkI n sd gs aims (s0 gs aims) 0 0 := by
  have t0 : ∀ x a, (s0 gs aims).t x = some a → x ∈ aims ∧ a = 0 := fun x a e => by
    have e' : (if x ∈ aims then some 0 else none) = some a := e
    by_cases z : x ∈ aims
    · rw [if_pos z] at e'; cases e'; exact ⟨z, rfl⟩
    · rw [if_neg z] at e'; cases e'
  have t1 : ∀ x, x ∈ aims → (s0 gs aims).t x = some 0 := fun x h => if_pos h
  refine ⟨⟨h1, h2, fun x => ⟨fun h => by rw [t1 x h]; simp, fun h => ?_⟩, t1, fun i j x y a b _ _ _ ha _ => by have := (t0 x a ha).2; omega, fun x a e => by have := (t0 x a e).2; omega, fun i x a _ e => by have := (t0 x a e).2; omega, fun x g hg => by simp at hg, fun x g hg => by simp at hg, fun x g _ _ a _ => Nat.zero_le _, fun x hx => ?_, fun x hx ha => absurd hx ha, fun x hx ha => absurd hx ha, fun x _ _ _ g _ => by simp, fun x hx _ _ => ?_⟩, fun y hy => hy, fun g a _ e => (t0 g a e).2⟩
  · obtain ⟨a, e⟩ := Option.ne_none_iff_exists'.mp h
    exact (t0 x a e).1
  · show (((gs x).length : Nat) : Int) = _
    have : ((gs x).filter fun g => decide (g ∉ (s0 gs aims).o.take 0)) = gs x := List.filter_eq_self.mpr fun z _ => by simp
    rw [this]
  · obtain ⟨z, r, e⟩ := List.exists_cons_of_ne_nil (hne x hx)
    exact ⟨z, by rw [e]; exact List.mem_cons_self, by simp⟩
theorem told_full {t : Nat → Option Nat} : ∀ {xs : List Nat}, (∀ x ∈ xs, t x ≠ none) → (xs.filterMap t).length = xs.length
  | [], _ => rfl
  | x :: xs, h => by
    obtain ⟨a, e⟩ := Option.ne_none_iff_exists'.mp (h x List.mem_cons_self)
    rw [List.filterMap_cons_some e, List.length_cons, told_full fun y hy => h y (List.mem_cons_of_mem _ hy), List.length_cons]
theorem told_less {t : Nat → Option Nat} : ∀ {xs : List Nat} {x : Nat}, x ∈ xs → t x = none → (xs.filterMap t).length < xs.length
  | y :: xs, x, h, e => by
    rcases List.mem_cons.mp h with z | z
    · subst z
      rw [List.filterMap_cons_none e]
      exact Nat.lt_succ_of_le (List.length_filterMap_le _ _)
    · have := told_less z e
      cases q : t y with
      | none => rw [List.filterMap_cons_none q, List.length_cons]; omega
      | some b => rw [List.filterMap_cons_some q, List.length_cons, List.length_cons]; omega
/-- what run tells is what is due -/
theorem fin_due (hnd : ∀ x, x < n → (gs x).Nodup) (hgl : ∀ x, x < n → ∀ g ∈ gs x, g < n) (hne : ∀ x, x < n → gs x ≠ []) (h1 : aims.Nodup) (h2 : ∀ x ∈ aims, x < n) {x : Nat} (hx : x < n) :
    (fin n sd gs aims).t x = due sd gs aims (fin n sd gs aims).t x ∧ ∀ a, (fin n sd gs aims).t x = some a → a < n := by
  obtain ⟨m, j, ⟨R, ha, _⟩, hj⟩ := OkI.run hnd (f := n) (i := 0) (ok_start (n := n) (sd := sd) (gs := gs) h1 h2 hne) (by omega)
  have R : Ok n sd gs aims (fin n sd gs aims) (fun _ => (fin n sd gs aims).o.take j) m := R
  have hj : (fin n sd gs aims).o.length ≤ j := hj
  generalize fin n sd gs aims = s at *
  have tk : s.o.take j = s.o := List.take_of_length_le hj
  have got : ∀ {k}, k ∈ toldOf gs s.t x ↔ ∃ g ∈ gs x, s.t g = some k := fun {k} => by
    unfold toldOf
    rw [List.mem_filterMap]
  constructor
  · unfold due
    by_cases z : x ∈ aims
    · rw [if_pos z]; exact R.aim x z
    rw [if_neg z]
    by_cases hs : sd x = true
    · rw [if_pos hs]
      by_cases o : x ∈ s.o
      · obtain ⟨g, g1, k, k1, k2, k3⟩ := R.one x o z hs
        have km : k ∈ toldOf gs s.t x := got.mpr ⟨g, g1, k1⟩
        have el : lo (toldOf gs s.t x) = k := lo_eq km fun a ha => by
          obtain ⟨g', a1, a2⟩ := got.mp ha
          exact k3 g' a1 a a2
        have en : toldOf gs s.t x ≠ [] := fun e => by rw [e] at km; cases km
        rw [if_neg en, el, k2, Nat.add_comm]
      · have e : toldOf gs s.t x = [] := List.eq_nil_iff_forall_not_mem.mpr fun k hk => by
          obtain ⟨g, g1, g2⟩ := got.mp hk
          have := R.no1 x hx o hs g g1
          rw [tk] at this
          exact this ((R.mem g).mpr (by rw [g2]; simp))
        rw [if_pos e]
        exact Decidable.byContradiction fun q => o ((R.mem x).mpr q)
    · have hs : sd x = false := by simpa using hs
      rw [if_neg (by rw [hs]; simp)]
      by_cases o : x ∈ s.o
      · obtain ⟨al, g, g1, k, k1, k2, k3⟩ := R.all x o z hs
        have km : k ∈ toldOf gs s.t x := got.mpr ⟨g, g1, k1⟩
        have e : (toldOf gs s.t x).length = (gs x).length := told_full fun y hy => (R.mem y).mp (al y hy)
        have el : hi (toldOf gs s.t x) = k := hi_eq km fun a ha => by
          obtain ⟨g', a1, a2⟩ := got.mp ha
          exact k3 g' a1 a a2
        rw [if_neg (by omega), el, k2, Nat.add_comm]
      · obtain ⟨g, g1, g2⟩ := R.no2 x hx o hs
        rw [tk] at g2
        have e : s.t g = none := Decidable.byContradiction fun q => g2 ((R.mem g).mpr q)
        have tl : (toldOf gs s.t x).length < (gs x).length := told_less g1 e
        rw [if_pos tl]
        exact Decidable.byContradiction fun q => o ((R.mem x).mpr q)
  · intro a e
    have o : x ∈ s.o := (R.mem x).mpr (by rw [e]; simp)
    obtain ⟨i, hi⟩ := List.getElem?_of_mem o
    have p := R.pos i x a hi e
    have := (List.getElem?_eq_some_iff.mp hi).1
    have := len_le R.nd R.lt
    omega
end
end Mt


set_option Elab.async false
set_option linter.all false
set_option maxRecDepth 100000
set_option maxHeartbeats 4000000
/-! S1: check_game, check_side, sources_of. -/
namespace K0
open PySem PySem.Spec PyProof.Rows L2 GxR Tk
variable [LamTab]
abbrev sCkG : Stmt := top 18
abbrev sCkS : Stmt := top 20
abbrev sSrc : Stmt := top 21
/-- a row of a game: its side, its rank, its goals -/
abbrev Gr := Nat × Nat × List Nat
def rowD (r : Gr) : PyData := .tuple [.int (r.1 : Int), .int (r.2.1 : Int), .tuple (idD r.2.2)]
def gsR (R : List Gr) (x : Nat) : List Nat := ((R[x]?).map fun r => r.2.2).getD []
structure rowsOk (R : List Gr) : Prop where
  lt : ∀ r ∈ R, ∀ g ∈ r.2.2, g < R.length
  nd : ∀ r ∈ R, r.2.2.Nodup
  ne : ∀ r ∈ R, r.2.2 ≠ []
  n : R.length ≤ 1000
theorem gsR_at {R : List Gr} {i : Nat} {r : Gr} (h : R[i]? = some r) : gsR R i = r.2.2 := by unfold gsR; rw [h]; rfl
theorem gsR_in {R : List Gr} (hR : rowsOk R) {x : Nat} (hx : x < R.length) : (gsR R x).Nodup ∧ (∀ g ∈ gsR R x, g < R.length) ∧ gsR R x ≠ [] := by
  have e := List.getElem?_eq_getElem hx
  have m := List.getElem_mem hx
  rw [gsR_at e]
  exact ⟨hR.nd _ m, hR.lt _ m, hR.ne _ m⟩
/-- the rows below i of which g is a goal -/
def srcUp (R : List Gr) (i g : Nat) : List Nat := (List.range i).filter fun x => decide (g ∈ gsR R x)
theorem srcUp_succ {R : List Gr} {i g : Nat} : srcUp R (i + 1) g = srcUp R i g ++ (if g ∈ gsR R i then [i] else []) := by
  unfold srcUp
  rw [List.range_succ, List.filter_append, List.filter_cons, List.filter_nil]
  by_cases h : g ∈ gsR R i
  · rw [if_pos (decide_eq_true h), if_pos h]
  · rw [if_neg (by rw [decide_eq_false h]; exact Bool.false_ne_true), if_neg h]
theorem srcUp_len {R : List Gr} {i g : Nat} : (srcUp R i g).length ≤ i := by
  unfold srcUp
  exact Nat.le_trans (List.length_filter_le _ _) (by rw [List.length_range]; exact Nat.le_refl _)
/-- some new objects are leant on -/
theorem up_adds {B H H2 : Hp} : ∀ {L : List Addr} {B2 : Hp}, Up B H B2 H2 → L.Nodup → (∀ a ∈ L, H a = none ∧ B2 a = none ∧ ∃ o, H2 a = some o ∧ ∀ ps, o ≠ .tbl ps) → ∃ B3, Up B H B3 H2 ∧ Le B2 B3 ∧ (∀ a ∈ L, B3 a = H2 a) ∧ ∀ a, a ∉ L → B3 a = B2 a
  | [], B2, u, _, _ => ⟨B2, u, Le.refl _, (fun a ha => by cases ha), fun _ _ => rfl⟩
  | a :: L, B2, u, nd, h => by
    obtain ⟨n1, n2⟩ := List.nodup_cons.mp nd
    obtain ⟨h1, h2, o, h3, h4⟩ := h a List.mem_cons_self
    obtain ⟨B3, u3, l3, e3, k3⟩ := up_adds (L := L) (up_add u h1 h2 h3 h4) n2 fun b hb => by
      obtain ⟨b1, b2, b3⟩ := h b (List.mem_cons_of_mem _ hb)
      have hba : b ≠ a := fun z => n1 (z ▸ hb)
      exact ⟨b1, by rw [upd_ne hba]; exact b2, b3⟩
    refine ⟨B3, u3, (Le.new h2).trans l3, fun b hb => ?_, fun b hb => ?_⟩
    · rcases List.mem_cons.mp hb with z | z
      · subst z; rw [k3 b n1, upd_same, h3]
      · exact e3 b z
    · rw [k3 b fun z => hb (List.mem_cons_of_mem _ z), upd_ne fun z => hb (by rw [z]; exact List.mem_cons_self)]
section
variable {P : Program} {w : World} {K : PySem.W.Frag} {mg : Str → Option Value} {base : Heap} {f : Addr} {fd : FuncData} {T : List Addr} {C : Addr}
theorem scCkG : FnScope ["game"] ["game"] (defScope sCkG) := ⟨rfl, rfl, rfl, by decide +kernel, rfl, by decide +kernel, by decide +kernel⟩
theorem ok_ckG (Fw : Kn P w K mg base 6 "is_game" ["thing"] (spF K T 1 okP gameF))
    (xS : PySem.W.excIn K C [.type "ValueError", .type "Exception", .type "BaseException", .type "object"] "ValueError.__new__" = true) (gS : mg "BadGame" = some (.ref C)) (kS : PySem.W.keepIn K (.ref C) = true) (bS : PySem.W.subIn K (.ref C) (.type "BaseException") = some true) (tS : PySem.W.typeIn K (.ref C) = some (.type "type"))
    (F : L2.Fun K "check_game" "check_game" sCkG f fd) : FnOk P w K mg base (L2.CX P w) 7 f fd ["game"] (spChk K T gameB C) := by
  refine F.okX scCkG (fun vs H Q E h => h.1) fun cdv A outer s H vs Q E hr hsp => ?_
  obtain ⟨hl, ht, B0, d, l0, hd0, hok, hy, hn⟩ := hsp
  obtain ⟨B, l1, l, t, up⟩ := with_tables ht l0
  have hd := Ds.le l1 hd0
  obtain ⟨v1, rfl, h1⟩ := ds1 hd
  show WB (cxOf (L2.CX P w) P w K mg base ["game"] "check_game" (defScope sCkG) f cdv A outer s H E) (defBody sCkG) { nx := fun _ H' => Q .non H', rt := Q } (start ["game"] [v1]) H
  refine wb_one (ws_if (k := !gameB d) l (et_not (et_val (ee_call (f := gameF) (d := .bool (gameB d)) Fw hr (Nat.le_refl _) t (ea_cons (ee_var (i := 0) rfl h1) ea_nil) ⟨d, rfl, hok⟩))) (fun e H' l' => ?_) fun e H' l' => ?_)
  · exact wb_one ⟨_, ps_raise rfl (takes_of rfl rfl rfl rfl) (pmk_own PySem.F.excBase_ValueError (q := xS) gS kS (raises_own bS tS) rfl), hn (bno e) H' l'⟩
  · exact wb_nil (hy (bys e) H' l')
def sideB (d : PyData) : Bool := numB d 2
theorem scCkS : FnScope ["side"] ["side"] (defScope sCkS) := ⟨rfl, rfl, rfl, by decide +kernel, rfl, by decide +kernel, by decide +kernel⟩
theorem ok_ckS (Fn : KNum P w K mg base T)
    (xS : PySem.W.excIn K C [.type "ValueError", .type "Exception", .type "BaseException", .type "object"] "ValueError.__new__" = true) (gS : mg "BadSide" = some (.ref C)) (kS : PySem.W.keepIn K (.ref C) = true) (bS : PySem.W.subIn K (.ref C) (.type "BaseException") = some true) (tS : PySem.W.typeIn K (.ref C) = some (.type "type"))
    (F : L2.Fun K "check_side" "check_side" sCkS f fd) : FnOk P w K mg base (L2.CX P w) 7 f fd ["side"] (spChk K T sideB C) := by
  refine F.okX scCkS (fun vs H Q E h => h.1) fun cdv A outer s H vs Q E hr hsp => ?_
  obtain ⟨hl, ht, B0, d, l0, hd0, hok, hy, hn⟩ := hsp
  obtain ⟨B, l1, l, t, up⟩ := with_tables ht l0
  have hd := Ds.le l1 hd0
  obtain ⟨v1, rfl, h1⟩ := ds1 hd
  show WB (cxOf (L2.CX P w) P w K mg base ["side"] "check_side" (defScope sCkS) f cdv A outer s H E) (defBody sCkS) { nx := fun _ H' => Q .non H', rt := Q } (start ["side"] [v1]) H
  refine wb_one (ws_if (k := !sideB d) l (et_not (et_val (ee_call (f := numF) (d := .bool (numB d 2)) Fn hr (by decide) t (ea_cons (ee_var (i := 0) rfl h1) (ea_cons ee_int ea_nil)) ⟨d, 2, rfl⟩))) (fun e H' l' => ?_) fun e H' l' => ?_)
  · exact wb_one ⟨_, ps_raise rfl (takes_of rfl rfl rfl rfl) (pmk_own PySem.F.excBase_ValueError (q := xS) gS kS (raises_own bS tS) rfl), hn (bno e) H' l'⟩
  · exact wb_nil (hy (bys e) H' l')

/-! sources_of -/
def NS : List Str := ["rows", "sources", "at", "row", "goal", "_"]
theorem scSrc : FnScope NS ["rows"] (defScope sSrc) := ⟨rfl, rfl, rfl, by decide +kernel, rfl, by decide +kernel, by decide +kernel⟩
theorem ndS : List.Nodup NS := by decide +kernel
def srcP (ds : List PyData) : Prop := ∃ R, ds = [.tuple (R.map rowD)] ∧ rowsOk R
def grOf : PyData → Gr
  | .tuple [.int a, .int b, .tuple gs] => (a.toNat, b.toNat, (intsOf gs).map Int.toNat)
  | _ => (0, 0, [])
theorem intsOf_idD (o : List Nat) : (intsOf (idD o)).map Int.toNat = o := by
  unfold intsOf idD
  rw [List.map_map, List.map_map]
  exact (List.map_congr_left fun a _ => rfl).trans (List.map_id o)
theorem grOf_row (r : Gr) : grOf (rowD r) = r := by
  show ((r.1 : Int).toNat, (r.2.1 : Int).toNat, (intsOf (idD r.2.2)).map Int.toNat) = r
  rw [intsOf_idD]
  rfl
theorem grOf_map (R : List Gr) : (R.map rowD).map grOf = R := by
  rw [List.map_map]
  exact (List.map_congr_left fun a _ => grOf_row a).trans (List.map_id R)
def srcD (R : List Gr) : PyData := .list ((List.range R.length).map fun g => .list (idD (srcUp R R.length g)))
def srcF : List PyData → PyData
  | [.tuple rs] => srcD (rs.map grOf)
  | _ => .none
/-- the lists at the addresses of L are what xs says -/
def ListsAt (H : Hp) (L : List Addr) (xs : Nat → List Nat) : Prop := ∀ (g : Nat) (a : Addr), L[g]? = some a → H a = some (.lst (iv (xs g)))
theorem lists_put {H : Hp} {L : List Addr} {xs : Nat → List Nat} {g : Nat} {a : Addr} {ys : List Nat} (h : ListsAt H L xs) (nd : L.Nodup) (ha : L[g]? = some a) : ListsAt (upd H a (.lst (iv ys))) L (Mt.upF xs g ys) := fun g' a' ha' => by
  by_cases z : g' = g
  · subst z
    rw [ha] at ha'
    cases ha'
    rw [upd_same, Mt.upF_same]
  · have : a' ≠ a := fun e => by
      subst e
      exact z (Mt.nodup_at nd ha' ha)
    rw [upd_ne this, Mt.upF_ne z]
    exact h g' a' ha'
theorem lists_le {H H' : Hp} {L : List Addr} {xs : Nat → List Nat} (h : ListsAt H L xs) (l : Le H H') : ListsAt H' L xs := fun g a ha => l.keep a _ (h g a ha) fun ps z => by cases z
theorem ds_lists {B : Hp} {xs : Nat → List Nat} : ∀ {L : List Addr} {k : Nat}, (∀ (g : Nat) (a : Addr), L[g]? = some a → B a = some (.lst (iv (xs (k + g))))) → Ds K B (L.map V.ref) ((List.range L.length).map fun g => .list (idD (xs (k + g))))
  | [], _, _ => .nil
  | a :: L, k, h => by
    rw [List.length_cons, List.range_succ_eq_map, List.map_cons, List.map_cons, List.map_map]
    refine .cons (.new_lst (h 0 a rfl) (ds_iv _)) ?_
    have := ds_lists (B := B) (xs := xs) (L := L) (k := k + 1) fun g a' ha => by
      rw [Nat.add_assoc, Nat.add_comm 1 g]
      exact h (g + 1) a' ha
    have e : ((fun g => PyData.list (idD (xs (k + g)))) ∘ Nat.succ) = fun g => .list (idD (xs (k + 1 + g))) := by
      funext g
      show PyData.list (idD (xs (k + (g + 1)))) = _
      rw [Nat.add_comm g 1, ← Nat.add_assoc]
    rw [e]
    exact this
end
end K0


set_option Elab.async false
set_option linter.all false
set_option maxRecDepth 100000
set_option maxHeartbeats 4000000
/-! S2: sources_of. -/
namespace Tk
open PySem PySem.Spec PyProof.Rows L2 GxR K0
variable [LamTab]
/-- y = [[] for x in ..]: new empty lists, none leant on -/
theorem ws_setEmpties {X : Cx} {tg iter : Expr} {σ : L2.St} {B : Hp} {ds : List PyData} {scope : Scope} {own : List (Str × Nat)} {pos lp : Pos} {tjs : List Nat} {D : L2.Ends} {H : Hp} {y : Str} {py spos : Pos} {i : Nat} (l : Le B H) (hc : X.calm = true) (nd : X.N.Nodup) (hi : EI X tg iter σ B ds) (hb : BlkOk X.N X.env.scope scope own)
    (hg : ∀ s H C cl fp, EG (blkX X s H scope C cl fp) tg tjs patN) (hj : tjs.length = 1)
    (hw : ∀ vs : List V, vs.length = tjs.length → wipe (setsS (wipe σ (own.map (·.2))) tjs vs) (own.map (·.2)) = wipe σ (own.map (·.2)))
    (hsz : ds.length < sizeLine) (q : ∀ A L B2 H2, H A = none → Up B H B2 H2 → B2 A = none → H2 A = some (.lst (L.map V.ref)) → L.length = ds.length → (A :: L).Nodup → (∀ a ∈ L, H a = none ∧ B2 a = none ∧ H2 a = some (.lst [])) → D.nx (σ.set i (some (.ref A))) H2)
    (hsw : swapsWith (.ListComp (.List [] lp) [⟨tg, iter, [], 0⟩] scope pos) (some (.Name y py)) spos.line X.env = pure true) (hy : X.N[i]? = some y := by rfl) (hyl : X.env.scope.names.lookup y = some .local := by rfl) (hs : ∀ x, foldedSetIterable iter X.env x = pure x := by intro _; rfl) :
    WS X (.Assign [.Name y py] (.ListComp (.List [] lp) [⟨tg, iter, [], 0⟩] scope pos) spos) D σ H := by
  refine ⟨_, ps_setLc (wi := WI X tg iter) (g := fun v σ H Q => ∀ s H0 C cl fp, WG (blkX X s H0 scope C cl fp) tg v σ H Q) (tt := tYes) (te := _) hc nd hy hyl hsw pi_w hb
    (fun s H C cl fp => ⟨fun pins s' σ H' v u Q I r h => pg_w.run pins s' σ H' v u Q I r (h s H C cl fp)⟩) (fun s H C cl fp => pts_nil) (fun s H C cl fp => pe_lst pa_nil) hs, ?_⟩
  refine hi H l _ fun J B2 H2 u2 wk A hA => ?_
  have hA1 : H A = none := u2.h.there A hA
  refine ⟨fun i m H' => m = ds.length - i ∧ i ≤ ds.length ∧ ∃ B' L, Le B2 B' ∧ Up B H B' H' ∧ B' A = none ∧ H' A = some (.lst (L.map V.ref)) ∧ L.length = i ∧ (A :: L).Nodup ∧ (∀ a ∈ L, H a = none ∧ B' a = none ∧ H' a = some (.lst [])),
    ⟨ds.length, rfl, Nat.zero_le _, B2, [], Le.refl _, ⟨u2.h.trans (Le.new hA), u2.b, u2.s.trans (Le.new hA), u2.n⟩, u2.s.there A hA, upd_same, rfl, by simp, fun a ha => by cases ha⟩, ?_⟩
  rintro i m H' ⟨rfl, hi', B', L, lb, u', hBA, hacc, hL, hnd, hall⟩
  obtain ⟨w1, w2, w3⟩ := wk B' H' lb u'.s
  by_cases hlt : i < ds.length
  · refine .inr ⟨w1 i hlt, fun H'' => ∃ B' L, Le B2 B' ∧ Up B H B' H'' ∧ B' A = none ∧ H'' A = some (.lst (L.map V.ref)) ∧ L.length = i + 1 ∧ (A :: L).Nodup ∧ (∀ a ∈ L, H a = none ∧ B' a = none ∧ H'' a = some (.lst [])), fun H'' ⟨B', L, h1, h2, h3, h4, h5, h6, h7⟩ => ⟨ds.length - (i + 1), by omega, rfl, hlt, B', L, h1, h2, h3, h4, h5, h6, h7⟩, fun x H4 hy => ?_⟩
    obtain ⟨B4, d, u4, hd, dx⟩ := w3 i x H4 hlt hy
    have hB4A := up_none u4 hBA hacc fun ps z => by cases z
    have hH4A : H4 A = some (.lst (L.map V.ref)) := u4.h.keep A _ hacc fun ps z => by cases z
    intro s H0 C cl fp
    refine hg s H0 C cl fp x d [d] _ B4 H4 u4.s dx rfl _ fun vs dvs => ?_
    have hvl : vs.length = tjs.length := by rw [dvs.length, hj]; rfl
    refine ⟨hw vs hvl, ?_⟩
    refine yes_read ((if_pos rfl).mpr ?_)
    refine ⟨by decide, fun p hp => ?_⟩
    have hpA : p ≠ A := fun z => by rw [z, hH4A] at hp; cases hp
    have hpL : p ∉ L := fun z => by
      have e := u4.h.keep p _ (hall p z).2.2 fun ps z => by cases z
      rw [hp] at e
      cases e
    have hp' : H' p = none := u4.h.there p hp
    have hp1 : H p = none := u'.h.there p hp'
    have hB4p : B4 p = none := u4.s.there p hp
    refine ⟨L.map V.ref, by rw [upd_ne fun z => hpA z.symm]; exact hH4A, by rw [List.length_map]; omega, B4, L ++ [p], lb.trans u4.b, ?_, hB4A, by rw [upd_same, List.map_append]; rfl, by rw [List.length_append, hL]; rfl, ?_, fun a ha => ?_⟩
    · exact up_mut (up_mut (u'.trans u4) hp1 hB4p) hA1 hB4A
    · obtain ⟨n1, n2⟩ := List.nodup_cons.mp hnd
      refine List.nodup_cons.mpr ⟨fun z => ?_, List.nodup_append.mpr ⟨n2, by simp, fun a ha b hb => by rw [List.mem_singleton.mp hb]; exact fun e => hpL (e ▸ ha)⟩⟩
      rcases List.mem_append.mp z with z | z
      · exact n1 z
      · exact hpA (List.mem_singleton.mp z).symm
    · rcases List.mem_append.mp ha with z | z
      · obtain ⟨g1, g2, g3⟩ := hall a z
        have hap : a ≠ p := fun e => hpL (e ▸ z)
        have haA : a ≠ A := fun e => (List.nodup_cons.mp hnd).1 (e ▸ z)
        exact ⟨g1, up_none u4 g2 g3 (fun ps z => by cases z), by rw [upd_ne haA, upd_ne hap]; exact u4.h.keep a _ g3 fun ps z => by cases z⟩
      · have e := List.mem_singleton.mp z
        subst e
        exact ⟨hp1, hB4p, by rw [upd_ne hpA]; exact upd_same⟩
  · have ei : i = ds.length := by omega
    subst ei
    exact .inl ⟨w2, q A L B' H' hA1 u' hBA hacc hL hnd hall⟩
end Tk
namespace K0
open PySem PySem.Spec PyProof.Rows L2 GxR Tk
variable [LamTab]
section
variable {P : Program} {w : World} {K : PySem.W.Frag} {mg : Str → Option Value} {base : Heap} {f : Addr} {fd : FuncData} {T : List Addr} {C : Addr}
theorem ok_src (hen : mg "enumerate" = none) (F : L2.Fun K "sources_of" "sources_of" sSrc f fd) : FnOk P w K mg base CX0 1 f fd ["rows"] (spF K T 1 srcP srcF) := by
  refine fn_pure F scSrc rfl fun cdv A outer s H vs B ds Q E hr hcd t l hd hl hp q => ?_
  obtain ⟨R, rfl, hR⟩ := hp
  obtain ⟨v1, rfl, h1⟩ := ds1 hd
  have hn := hR.n
  refine wb_cons (ws_setEmpties (own := [("_", 5)]) (tjs := [5]) (i := 1) l rfl ndS (ei_tup (ee_var (i := 0) rfl h1)) (blkOk_by (show blkC NS (defScope sSrc) _ [("_", 5)] = true by decide +kernel)) (fun s H C cl fp => eg_name ndS) rfl (fun vs hv => ?_) (by rw [List.length_map]; exact Nat.lt_of_le_of_lt hn (by decide)) (fun S L B1 H1 hS u1 hBS e1 hL nd hall => ?_) (sw_true rfl rfl rfl (by decide +kernel)))
  · match vs, hv with
    | [a], _ => rfl
  rw [List.length_map] at hL
  have hSL : S ∉ L := (List.nodup_cons.mp nd).1
  have ndL : L.Nodup := (List.nodup_cons.mp nd).2
  show WB _ _ _ [some v1, some (.ref S), none, none, none, none] H1
  refine wb_cons (ws_for (B := B1) (ds := nums 0 (R.map rowD)) (tjs := [2, 3]) (pat := patT 2) u1.s (ei_enumT hen (ee_var (i := 0) rfl (Dt.le u1.b h1))) (eg_tup rfl (st_cons (st_cons st_nil ndS) ndS)) (fun d hd => ?_) PassesOwn.never rfl
    (fun i σ' B' H' => ∃ a2 a3 a4, σ' = [some v1, some (.ref S), a2, a3, a4, none] ∧ Up B H B' H' ∧ B' S = none ∧ H' S = some (.lst (L.map V.ref)) ∧ (∀ a ∈ L, B' a = none) ∧ ListsAt H' L (srcUp R i))
    (fun B' H' u => ?_) (fun i d es vs σ' B' H' B'' H'' hi hd' lb hI u4 he dvs N hN => ?_) fun σ' B' H' lb ls hI => ?_)
  · obtain ⟨k, hk⟩ := List.getElem?_of_mem hd
    rw [nums_get] at hk
    cases q0 : (R.map rowD)[k]? with
    | none => rw [q0] at hk; cases hk
    | some x => rw [q0] at hk; cases hk; exact ⟨_, rfl⟩
  · refine ⟨none, none, none, rfl, u1.trans u, up_none u hBS e1 (fun _ z => by cases z), u.h.keep S _ e1 (fun _ z => by cases z), fun a ha => up_none u (hall a ha).2.1 (hall a ha).2.2 (fun _ z => by cases z), fun g a ha => ?_⟩
    have m := List.mem_of_getElem? ha
    exact u.h.keep a _ (hall a m).2.2 fun _ z => by cases z
  · obtain ⟨a2, a3, a4, rfl, uI, b1, f1, bL, lI⟩ := hI
    rw [nums_len, List.length_map] at hi
    have hri : R[i]? = some R[i] := List.getElem?_eq_getElem hi
    rw [nums_get, List.getElem?_map, hri] at hd'
    cases hd'
    obtain ⟨e0, _⟩ := patT_some he
    cases e0
    obtain ⟨x, y, rfl, hx, hy⟩ := ds2 (K := K) dvs
    cases hx
    generalize hrE : R[i] = r at hri hy
    have gsr := gsR_at hri
    have hrm : r ∈ R := List.mem_of_getElem? hri
    have glt := hR.lt r hrm
    have gnd := hR.nd r hrm
    have f1' := u4.h.keep S _ f1 fun _ z => by cases z
    have b1' := up_none u4 b1 f1 fun _ z => by cases z
    have lI' := lists_le lI u4.h
    have bL' : ∀ a ∈ L, B'' a = none := fun a ha => by
      obtain ⟨g, hg⟩ := List.getElem?_of_mem ha
      exact up_none u4 (bL a ha) (lI g a hg) fun _ z => by cases z
    have uI' := uI.trans u4
    show WB _ _ _ [some v1, some (.ref S), some (.int (Int.ofNat (0 + i))), some y, a4, none] H''
    refine wb_one (ws_for (B := B'') (ds := idD r.2.2) (tjs := [4]) (pat := patN) u4.s (ei_tup (ee_ix ix_tup (rr_ixT (d := .tuple (idD r.2.2)) at2) (ee_var (i := 3) rfl hy) ee_int)) (eg_name ndS) (fun d hd => ⟨[d], rfl⟩) PassesOwn.never rfl
      (fun j σ' B' H' => ∃ a4, σ' = [some v1, some (.ref S), some (.int (Int.ofNat (0 + i))), some y, a4, none] ∧ Up B H B' H' ∧ B' S = none ∧ H' S = some (.lst (L.map V.ref)) ∧ (∀ a ∈ L, B' a = none) ∧ ListsAt H' L (fun g => srcUp R i g ++ if g ∈ r.2.2.take j then [i] else []))
      (fun B3 H3 u => ?_) (fun j d es vs σ' B3 H3 B4 H4 hj hd' lb' hI u5 he dvs N2 hN2 => ?_) fun σ' B3 H3 lb' ls hI => ?_)
    · refine ⟨a4, rfl, uI'.trans u, up_none u b1' f1' (fun _ z => by cases z), u.h.keep S _ f1' (fun _ z => by cases z), fun a ha => ?_, ?_⟩
      · obtain ⟨g, hg⟩ := List.getElem?_of_mem ha
        exact up_none u (bL' a ha) (lI' g a hg) fun _ z => by cases z
      · have e : (fun g => srcUp R i g ++ if g ∈ r.2.2.take 0 then [i] else []) = srcUp R i := by
          funext g
          rw [List.take_zero, if_neg (by simp), List.append_nil]
        rw [e]
        exact lists_le lI' u.h
    · obtain ⟨a4, rfl, uJ, c1, g1, cL, lJ⟩ := hI
      rw [idD, List.length_map] at hj
      have hgj : r.2.2[j]? = some r.2.2[j] := List.getElem?_eq_getElem hj
      rw [idD, List.getElem?_map, hgj] at hd'
      cases hd'
      cases he
      obtain ⟨x, rfl, hx⟩ := ds1 (K := K) dvs
      cases hx
      generalize hgE : r.2.2[j] = g at hgj
      have hgn : g < R.length := glt g (List.mem_of_getElem? hgj)
      have g1' := u5.h.keep S _ g1 fun _ z => by cases z
      have c1' := up_none u5 c1 g1 fun _ z => by cases z
      have lJ' := lists_le lJ u5.h
      have cL' : ∀ a ∈ L, B4 a = none := fun a ha => by
        obtain ⟨g, hg⟩ := List.getElem?_of_mem ha
        exact up_none u5 (cL a ha) (lJ g a hg) fun _ z => by cases z
      have hag : L[g]? = some (L[g]'(by omega)) := List.getElem?_eq_getElem (by omega)
      generalize hae : L[g]'(by omega) = ag at hag
      have agm : ag ∈ L := List.mem_of_getElem? hag
      have agS : ag ≠ S := fun z => hSL (z ▸ agm)
      have ag1 : H ag = none := (hall ag agm).1
      have now := lJ' g ag hag
      show WB _ _ _ [some v1, some (.ref S), some (.int (Int.ofNat (0 + i))), some y, some (.int ((g : Nat) : Int)), none] H4
      refine wb_one ⟨_, ps_expr (pe_bm PySem.F.plainAttrs_list PySem.F.slot_list_append PySem.F.type_list_append mt_append (pe_ix ix_list (pe_var (i := 1) rfl (Or.inl rfl)) (pe_var (i := 4) rfl (Or.inl rfl)) (fun _ _ => rfl)) (pa_cons (pe_var (i := 2) rfl (Or.inl rfl)) pa_nil)), ?_⟩
      refine ⟨_, rfl, _, rfl, S, L.map V.ref, (g : Int), .ref ag, rfl, rfl, SqL.of g1', atI_nat (j := g) (by rw [List.getElem?_map, hag]; rfl), .inl ⟨rfl, _, SqL.of now⟩, _, rfl, ag, _, _, rfl, rfl, now, ?_, ?_⟩
      · rw [iv, List.length_map, List.length_append]
        have := srcUp_len (R := R) (i := i) (g := g)
        refine Nat.lt_of_le_of_lt (show _ ≤ 1001 from ?_) (by decide)
        split
        · rw [List.length_singleton]; omega
        · rw [List.length_nil]; omega
      · refine hN2 _ B4 _ (Le.refl _) (u5.s.mut (cL' ag agm)) ⟨_, rfl, up_mut (uJ.trans u5) ag1 (cL' ag agm), c1', by rw [upd_ne fun z => agS z.symm]; exact g1', cL', ?_⟩
        have nj : g ∉ r.2.2.take j := fun z => by
          obtain ⟨k, k1, k2⟩ := Mt.mem_take z
          have := Mt.nodup_at gnd k2 hgj
          omega
        have eS : ((fun g => srcUp R i g ++ if g ∈ r.2.2.take j then [i] else []) g) = srcUp R i g := by
          show (srcUp R i g ++ if g ∈ r.2.2.take j then [i] else []) = _
          rw [if_neg nj, List.append_nil]
        rw [eS]
        have eI : (V.int (Int.ofNat (0 + i))) = V.int ((i : Nat) : Int) := by rw [Nat.zero_add]; rfl
        rw [eI, ← iv_app]
        have := lists_put (ys := srcUp R i g ++ [i]) lJ' ndL hag
        have e : Mt.upF (fun g => srcUp R i g ++ if g ∈ r.2.2.take j then [i] else []) g (srcUp R i g ++ [i]) = fun g' => srcUp R i g' ++ if g' ∈ r.2.2.take (j + 1) then [i] else [] := by
          have tk : r.2.2.take (j + 1) = r.2.2.take j ++ [g] := by rw [List.take_add_one, hgj]; rfl
          funext g'
          by_cases z : g' = g
          · subst z
            rw [Mt.upF_same, if_pos (by rw [tk]; simp)]
          · rw [Mt.upF_ne z]
            have : g' ∈ r.2.2.take (j + 1) ↔ g' ∈ r.2.2.take j := by rw [tk]; simp [z]
            by_cases y : g' ∈ r.2.2.take j
            · rw [if_pos y, if_pos (this.mpr y)]
            · rw [if_neg y, if_neg fun q => y (this.mp q)]
        rw [e] at this
        exact this
    · obtain ⟨a4, rfl, uJ, c1, g1, cL, lJ⟩ := hI
      refine hN _ B3 H3 lb' ls ⟨_, _, a4, rfl, uJ, c1, g1, cL, ?_⟩
      have e : (fun g => srcUp R i g ++ if g ∈ r.2.2.take (idD r.2.2).length then [i] else []) = srcUp R (i + 1) := by
        funext g
        rw [srcUp_succ, gsr, idD, List.length_map, List.take_length]
      rw [e] at lJ
      exact lJ
  · obtain ⟨a2, a3, a4, rfl, uI, b1, f1, bL, lI⟩ := hI
    rw [nums_len, List.length_map] at lI
    obtain ⟨B3, u3, l3, e3, k3⟩ := up_adds (L := S :: L) uI nd fun a ha => by
      rcases List.mem_cons.mp ha with z | z
      · subst z; exact ⟨hS, b1, _, f1, fun _ z => by cases z⟩
      · obtain ⟨g, hg⟩ := List.getElem?_of_mem z
        exact ⟨(hall a z).1, bL a z, _, lI g a hg, fun _ z => by cases z⟩
    refine wb_one (ws_ret (B := B3) (d := srcD R) u3.s (ee_var (i := 1) rfl (.new_lst (xs := L.map V.ref) (by rw [e3 S List.mem_cons_self]; exact f1) ?_)) fun v B' H' u dv => q v B' H' (u3.trans u) ?_)
    · have := ds_lists (K := K) (B := B3) (xs := srcUp R R.length) (L := L) (k := 0) fun g a ha => by
        rw [Nat.zero_add, e3 a (List.mem_cons_of_mem _ (List.mem_of_getElem? ha))]
        exact lI g a ha
      simp only [Nat.zero_add] at this
      rw [hL] at this
      exact this
    · show Dt K B' v (srcD ((R.map rowD).map grOf))
      rw [grOf_map]
      exact dv
end
end K0


set_option Elab.async false
set_option linter.all false
set_option maxRecDepth 100000
set_option maxHeartbeats 4000000
/-! S3: o[i] op= e of a list; lists of numbers and None that change. -/
namespace Tk
open PySem PySem.Spec PyProof.Rows L2 GxR
variable [LamTab]
def rGetL (K : PySem.W.Frag) : V → V → Hp → VK → Prop := fun x y H Q => ∃ p xs i v, x = .ref p ∧ y = .int i ∧ SqL K H p xs ∧ 0 ≤ i ∧ atI xs i = some v ∧ Q v H
theorem get_listN {X : Cx} : PGet X (rGetL X.K) := by
  intro pins s σ H x y v u Q I rx ry h
  obtain ⟨p, xs, i, z, rfl, rfl, hq, h0, he, q⟩ := h
  cases rx
  obtain ⟨t, rfl⟩ := ry
  obtain ⟨its, r, pl, hz⟩ := I.list hq
  obtain ⟨j, h1, h2, h3, h4, h5⟩ := atI_get he
  obtain ⟨w, ew, rw'⟩ := r.get h2
  have hl := r.length
  have hn := line63
  have hj : i.toNat = j := by
    rw [seqIndex_of h0 h5] at h1
    exact Option.some.inj h1
  exact wpAny_getItem_list pl.isList h0 (by omega) (by rw [hj]; simpa using ew) ⟨z, H, I, rw', q⟩
end Tk
namespace K0
open PySem PySem.Spec PyProof.Rows L2 GxR Tk
variable [LamTab]
def oV : Option Nat → V
  | none => .non
  | some k => .int (k : Int)
def oD : Option Nat → PyData
  | none => .none
  | some k => .int (k : Int)
/-- n items, told by a function -/
def fV {α : Type} (g : α → V) (n : Nat) (t : Nat → α) : List V := (List.range n).map fun x => g (t x)
def tD (n : Nat) (t : Nat → Option Nat) : List PyData := (List.range n).map fun x => oD (t x)
def lD (n : Nat) (l : Nat → Int) : List PyData := (List.range n).map fun x => .int (l x)
theorem fV_len {α : Type} {g : α → V} {n : Nat} {t : Nat → α} : (fV g n t).length = n := by unfold fV; rw [List.length_map, List.length_range]
theorem fV_get {α : Type} {g : α → V} {n : Nat} {t : Nat → α} {x : Nat} (h : x < n) : (fV g n t)[x]? = some (g (t x)) := by
  unfold fV
  rw [List.getElem?_map, List.getElem?_range h]
  rfl
theorem fV_at {α : Type} {g : α → V} {n : Nat} {t : Nat → α} {x : Nat} (h : x < n) : atI (fV g n t) (x : Int) = some (g (t x)) := atI_nat (j := x) (fV_get h)
theorem fV_set {α : Type} {g : α → V} {n : Nat} {t : Nat → α} {x : Nat} {a : α} (h : x < n) : (fV g n t).set x (g a) = fV g n (Mt.upF t x a) := by
  refine List.ext_getElem? fun j => ?_
  rw [List.getElem?_set]
  by_cases z : x = j
  · subst z
    rw [if_pos rfl, fV_len, if_pos h, fV_get h, Mt.upF_same]
  · rw [if_neg z]
    by_cases y : j < n
    · rw [fV_get y, fV_get y, Mt.upF_ne fun e => z e.symm]
    · rw [List.getElem?_eq_none (by rw [fV_len]; omega), List.getElem?_eq_none (by rw [fV_len]; omega)]
theorem ixNn {n x : Nat} (h : x < n) : ixN n (x : Int) = some x := by
  unfold ixN
  rw [if_pos (by omega), if_pos (by omega)]
  rfl
theorem ds_map {K : PySem.W.Frag} {B : Hp} {α : Type} {g : α → V} {d : α → PyData} (h : ∀ a, Dt K B (g a) (d a)) : ∀ xs : List α, Ds K B (xs.map g) (xs.map d)
  | [] => .nil
  | x :: xs => .cons (h x) (ds_map h xs)
theorem dt_oV {K : PySem.W.Frag} {B : Hp} : ∀ o, Dt K B (oV o) (oD o)
  | none => .non
  | some k => .int _
theorem ds_tV {K : PySem.W.Frag} {B : Hp} {n : Nat} {t : Nat → Option Nat} : Ds K B (fV oV n t) (tD n t) := ds_map (fun x => dt_oV (t x)) _
theorem ds_lV {K : PySem.W.Frag} {B : Hp} {n : Nat} {l : Nat → Int} : Ds K B (fV V.int n l) (lD n l) := ds_map (fun x => .int (l x)) _
theorem tD_at {n : Nat} {t : Nat → Option Nat} {x : Nat} (h : x < n) : atI (tD n t) (x : Int) = some (oD (t x)) := atI_nat (j := x) (by unfold tD; rw [List.getElem?_map, List.getElem?_range h]; rfl)
theorem lD_at {n : Nat} {l : Nat → Int} {x : Nat} (h : x < n) : atI (lD n l) (x : Int) = some (.int (l x)) := atI_nat (j := x) (by unfold lD; rw [List.getElem?_map, List.getElem?_range h]; rfl)
theorem tD_len {n : Nat} {t : Nat → Option Nat} : (tD n t).length = n := by unfold tD; rw [List.length_map, List.length_range]
/-- o is None -/
theorem rr_isN {K : PySem.W.Frag} {H : Hp} {o : Option Nat} : RR K (fun x y H Q => y = .non ∧ Q (.bl (decide (x = .non))) H) H (oD o) .none (.bool o.isNone) := fun B H1 l l1 x y hx hy Q q => by
  cases hy
  refine ⟨rfl, ?_⟩
  cases o with
  | none => cases hx; exact q _ B H1 (Up.refl l1) (.bl _)
  | some k =>
    cases hx
    exact q _ B H1 (Up.refl l1) (.bl _)
end K0


set_option Elab.async false
set_option linter.all false
set_option maxRecDepth 100000
set_option maxHeartbeats 8000000
/-! S4: drawn. -/
namespace K0
open PySem PySem.Spec PyProof.Rows L2 GxR Tk
variable [LamTab]
abbrev sDr : Stmt := top 22
def ND : List Str := ["game", "side", "aims", "rows", "sources", "told", "aim", "left", "order", "at", "goal", "row", "_", "goals"]
theorem scDr : FnScope ND ["game", "side", "aims"] (defScope sDr) := ⟨rfl, rfl, rfl, by decide +kernel, rfl, by decide +kernel, by decide +kernel⟩
theorem ndD : List.Nodup ND := by decide +kernel
def gameD (R : List Gr) : PyData := .tuple [.str "game", .tuple (R.map rowD)]
def sdR (R : List Gr) (sd x : Nat) : Bool := decide (((R[x]?).map fun r => r.1).getD 0 = sd)
def finR (R : List Gr) (sd : Nat) (aims : List Nat) : Mt.S := Mt.fin R.length (sdR R sd) (gsR R) aims
def drD (R : List Gr) (sd : Nat) (aims : List Nat) : PyData := .tuple (tD R.length (finR R sd aims).t)
def spDr (K : PySem.W.Frag) (T : List Addr) (CG CS CA : Addr) : Sp := fun vs H Q E => vs.length = 3 ∧ Tbs T H ∧ ∃ B d s a, Le B H ∧ Ds K B vs [d, s, a] ∧ okD d = true ∧ okD s = true ∧ okD a = true ∧
  (gameB d = false → ∀ H', Le H H' → E (.ref CG) none H') ∧ (gameB d = true → sideB s = false → ∀ H', Le H H' → E (.ref CS) none H') ∧
  (gameB d = true → sideB s = true → ∃ R, d = gameD R ∧ rowsOk R ∧ (numsB a (R.length : Int) = false → ∀ H', Le H H' → E (.ref CA) none H') ∧
    (numsB a (R.length : Int) = true → ∃ (sd : Nat) (aims : List Nat), s = .int (sd : Int) ∧ a = .tuple (idD aims) ∧ aims.Nodup ∧ (∀ x ∈ aims, x < R.length) ∧ ∀ v B' H', Up B H B' H' → Dt K B' v (drD R sd aims) → Q v H'))
section
variable {P : Program} {w : World} {K : PySem.W.Frag} {mg : Str → Option Value} {base : Heap} {f : Addr} {fd : FuncData} {T : List Addr} {CG CS CA : Addr}
theorem lenD_of {R : List Gr} : ∃ g : PyData → PyData, ((R.map rowD).filter fun _ => true).map g = lD R.length (Mt.s0 (gsR R) []).l ∧ ∀ r, g (rowD r) = .int (r.2.2.length : Int) := by
  refine ⟨fun d => .int ((grOf d).2.2.length : Int), ?_, fun r => by show PyData.int ((grOf (rowD r)).2.2.length : Int) = _; rw [grOf_row]⟩
  rw [List.filter_eq_self.mpr fun _ _ => rfl, List.map_map]
  unfold lD
  refine List.ext_getElem? fun i => ?_
  rw [List.getElem?_map, List.getElem?_map]
  by_cases h : i < R.length
  · rw [List.getElem?_eq_getElem h, List.getElem?_range h]
    show some (PyData.int ((grOf (rowD R[i])).2.2.length : Int)) = some (PyData.int (((gsR R i).length : Nat) : Int))
    rw [grOf_row, gsR_at (List.getElem?_eq_getElem h)]
  · rw [List.getElem?_eq_none (by omega), List.getElem?_eq_none (by rw [List.length_range]; omega)]
    rfl
/-- what stands in the heap while rows are drawn -/
structure At (n : Nat) (H : Hp) (lt ll lo : Addr) (s : Mt.S) : Prop where
  t : H lt = some (.lst (fV oV n s.t))
  l : H ll = some (.lst (fV V.int n s.l))
  o : H lo = some (.lst (iv s.o))
theorem At.le {n : Nat} {H H' : Hp} {lt ll lo : Addr} {s : Mt.S} (h : At n H lt ll lo s) (l : Le H H') : At n H' lt ll lo s :=
  ⟨l.keep lt _ h.t fun _ z => (by cases z), l.keep ll _ h.l fun _ z => (by cases z), l.keep lo _ h.o fun _ z => (by cases z)⟩
/-- what the order holds in a turn -/
structure Go (n : Nat) (s : Mt.S) : Prop where
  len : s.o.Nodup
  lt : ∀ x ∈ s.o, x < n
  told : ∀ x ∈ s.o, s.t x ≠ none
  not : ∀ x, s.t x ≠ none → x ∈ s.o
theorem Go.relax {n g x : Nat} {sd : Nat → Bool} {s : Mt.S} (h : Go n s) (hx : x < n) : Go n (Mt.relax sd g s x) := by
  unfold Mt.relax
  split
  · rename_i c
    have hxo : x ∉ s.o := fun z => h.told x z c.1
    refine ⟨List.nodup_append.mpr ⟨h.len, by simp, fun a ha b hb => by rw [List.mem_singleton.mp hb]; exact fun e => hxo (e ▸ ha)⟩, fun y hy => ?_, fun y hy => ?_, fun y hy => ?_⟩
    · rcases List.mem_append.mp hy with z | z
      · exact h.lt y z
      · rw [List.mem_singleton.mp z]; exact hx
    · show Mt.upF s.t x _ y ≠ none
      by_cases z : y = x
      · rw [z, Mt.upF_same]; simp
      · rw [Mt.upF_ne z]
        rcases List.mem_append.mp hy with w | w
        · exact h.told y w
        · exact absurd (List.mem_singleton.mp w) z
    · have hy : Mt.upF s.t x (some ((s.t g).getD 0 + 1)) y ≠ none := hy
      by_cases z : y = x
      · rw [z]; exact List.mem_append_right _ (List.mem_singleton.mpr rfl)
      · rw [Mt.upF_ne z] at hy
        exact List.mem_append_left _ (h.not y hy)
  · exact ⟨h.len, h.lt, h.told, h.not⟩
theorem Go.le {n : Nat} {s : Mt.S} (h : Go n s) : s.o.length ≤ n := Mt.len_le h.len h.lt
abbrev cxD (P : Program) (w : World) (K : PySem.W.Frag) (mg : Str → Option Value) (base : Heap) (f : Addr) (cdv : Value) (A : Around) (outer : List Env) (s : Shared) (H : Hp) (E : XK) : Cx := (cxOf (L2.CX P w) P w K mg base ND "drawn" (defScope sDr) f cdv A outer s H E).nox
def whileS : Stmt := (defBody sDr).getD 10 (.Pass ⟨0, 0, 0, 0⟩)
def innerB : List Stmt := match whileS with
  | .While _ [_, _, .For _ _ b _ _] _ _ => b
  | _ => []
theorem body_len : (defBody sDr).length = 12 ∧ innerB.length = 2 := by decide +kernel
/-- a look at a row -/
theorem look_ok {cdv : Value} {A : Around} {outer : List Env} {s : Shared} {H0 : Hp} {E : XK} {lv : Nat} (hr : Room lv (A.deeper (envOfC "drawn" (defScope sDr) s.heap.objs.size f cdv))) {R : List Gr} {sd g x i : Nat} {v0 va v3 v4 : V} {lt ll lo : Addr} {a6 : Option V} {st : Mt.S} {B H : Hp} {D : L2.Ends}
    (l : Le B H) (hn : R.length ≤ 1000) (d3 : Dt K B v3 (.tuple (R.map rowD))) (ht : At R.length H lt ll lo st) (ne1 : lt ≠ ll) (ne2 : lt ≠ lo) (ne3 : ll ≠ lo) (hB : B lt = none ∧ B ll = none ∧ B lo = none) (go : Go R.length st) (hx : x < R.length) (hg : g < R.length) (hgt : st.t g ≠ none)
    (q : ∀ H', Le B H' → At R.length H' lt ll lo (Mt.relax (sdR R sd) g st x) → D.nx [some v0, some (.int (sd : Int)), some va, some v3, some v4, some (.ref lt), a6, some (.ref ll), some (.ref lo), some (.int (i : Int)), some (.int (g : Int)), some (.int (x : Int)), none, none] H') :
    WB (cxD P w K mg base f cdv A outer s H0 E) innerB D [some v0, some (.int (sd : Int)), some va, some v3, some v4, some (.ref lt), a6, some (.ref ll), some (.ref lo), some (.int (i : Int)), some (.int (g : Int)), some (.int (x : Int)), none, none] H := by
  have hu := hu64 hr
  obtain ⟨k, hk⟩ := Option.ne_none_iff_exists'.mp hgt
  refine wb_cons ⟨_, ps_augS (pe_var (i := 7) rfl (Or.inl rfl)) (pe_var (i := 11) rfl (Or.inl rfl)) get_listN pe_int ip_sub set_list, ?_⟩
  refine ⟨_, rfl, _, rfl, ll, _, (x : Int), _, rfl, rfl, SqL.of ht.l, by omega, fV_at hx, st.l x, 1, rfl, rfl, ll, _, (x : Int), x, rfl, rfl, ht.l, by rw [fV_len]; exact ixNn hx, ?_⟩
  rw [fV_set hx]
  have e1 : At R.length (upd H ll (.lst (fV V.int R.length (Mt.upF st.l x (st.l x - 1))))) lt ll lo ⟨st.t, Mt.upF st.l x (st.l x - 1), st.o⟩ :=
    ⟨by rw [upd_ne ne1]; exact ht.t, upd_same, by rw [upd_ne fun z => ne3 z.symm]; exact ht.o⟩
  have lB1 : Le B (upd H ll (.lst (fV V.int R.length (Mt.upF st.l x (st.l x - 1))))) := l.mut hB.2.1
  generalize upd H ll (.lst (fV V.int R.length (Mt.upF st.l x (st.l x - 1)))) = H1 at e1 lB1 ⊢
  have lx : Mt.upF st.l x (st.l x - 1) x = st.l x - 1 := Mt.upF_same
  have hRx : R[x]? = some R[x] := List.getElem?_eq_getElem hx
  have hsd : sdR R sd x = decide (R[x].1 = sd) := by unfold sdR; rw [hRx]; rfl
  have cond : (((st.t x).isNone) && ((sdR R sd x) || decide (st.l x - 1 = 0))) = decide (st.t x = none ∧ (sdR R sd x = true ∨ st.l x - 1 = 0)) := by
    rw [Bool.decide_and, Bool.decide_or]
    cases st.t x <;> simp
  have row0 : atI (R.map rowD) (x : Int) = some (rowD R[x]) := atI_nat (j := x) (by rw [List.getElem?_map, hRx]; rfl)
  refine wb_one (ws_if (B := H1) (k := ((st.t x).isNone) && ((sdR R sd x) || decide (st.l x - 1 = 0))) (Le.refl H1) (et_w (ew_and (et_cmp op_isN rr_isN (ee_ix ix_list (rr_ixL (tD_at hx)) (ee_var (i := 5) rfl (.new_lst e1.t ds_tV)) (ee_var (i := 11) rfl (.int _))) ee_non) fun _ => ew_one1 (et_w (ew_or ?_ fun _ => ew_one2 ?_)))) (fun ec H2 l2 => ?_) fun ec H2 l2 => ?_)
  · refine (et_cmp op_eq rr_eqI (ee_ix ix_tup (rr_ixT at0) (ee_ix ix_tup (rr_ixT (d := rowD R[x]) row0) (ee_var (i := 3) rfl (Dt.le lB1 d3)) (ee_var (i := 11) rfl (.int _))) ee_int) (ee_var (i := 1) rfl (.int _))).cast ?_
    rw [hsd]
    exact decide_eq_decide.mpr (by omega)
  · refine (et_cmp op_eq rr_eqI (ee_ix ix_list (rr_ixL (lD_at hx)) (ee_var (i := 7) rfl (.new_lst e1.l ds_lV)) (ee_var (i := 11) rfl (.int _))) ee_int).cast ?_
    show decide (Mt.upF st.l x (st.l x - 1) x = 0) = _
    rw [lx]
  · have e2 := e1.le l2
    have lB2 := lB1.trans l2
    rw [cond] at ec
    have c := of_decide_eq_true ec
    have er : Mt.relax (sdR R sd) g st x = ⟨Mt.upF st.t x (some (k + 1)), Mt.upF st.l x (st.l x - 1), st.o ++ [x]⟩ := by
      unfold Mt.relax
      rw [if_pos c, hk]
      rfl
    rw [er] at q
    refine wb_cons ⟨_, ps_asg pe_w (pg_sub (pe_var (i := 5) rfl (Or.inl rfl)) (pe_var (i := 11) rfl (Or.inl rfl)) set_list) rfl rfl rfl, ?_⟩
    refine (ee_op (H := H2) (d3 := .int ((k : Int) + 1)) op_add rr_add (ee_ix ix_list (rr_ixL (d := .int (k : Int)) ((tD_at hg).trans (by rw [hk]; rfl))) (ee_var (i := 5) rfl (.new_lst e2.t ds_tV)) (ee_var (i := 10) rfl (.int _))) ee_int) H2 (Le.refl _) _ fun v B3 H3 u3 dv => ?_
    cases dv
    have e3 := e2.le u3.h
    have lB3 := lB2.trans u3.h
    refine ⟨_, rfl, _, rfl, lt, _, (x : Int), x, rfl, rfl, e3.t, by rw [fV_len]; exact ixNn hx, ?_⟩
    have eS : (fV oV R.length st.t).set x (.int ((k : Int) + 1)) = fV oV R.length (Mt.upF st.t x (some (k + 1))) := fV_set (g := oV) (a := some (k + 1)) hx
    rw [eS]
    have f1 : (upd H3 lt (.lst (fV oV R.length (Mt.upF st.t x (some (k + 1)))))) lo = some (.lst (iv st.o)) := by rw [upd_ne fun z => ne2 z.symm]; exact e3.o
    refine wb_one ⟨_, ps_expr (pe_bm PySem.F.plainAttrs_list PySem.F.slot_list_append PySem.F.type_list_append mt_append (pe_var (i := 8) rfl (Or.inl rfl)) (pa_cons (pe_var (i := 11) rfl (Or.inl rfl)) pa_nil)), ?_⟩
    refine ⟨_, rfl, .inl ⟨rfl, _, SqL.of f1⟩, _, rfl, lo, _, _, rfl, rfl, f1, ?_, ?_⟩
    · rw [iv, List.length_map]
      exact Nat.lt_of_le_of_lt (Nat.le_trans go.le hn) (by decide)
    · refine q _ ((lB3.mut hB.1).mut hB.2.2) ⟨?_, ?_, ?_⟩
      · rw [upd_ne ne2]; exact upd_same
      · rw [upd_ne ne3, upd_ne fun z => ne1 z.symm]; exact e3.l
      · rw [iv_app]; exact upd_same
  · have e2 := e1.le l2
    have lB2 := lB1.trans l2
    rw [cond] at ec
    have c := of_decide_eq_false ec
    have er : Mt.relax (sdR R sd) g st x = ⟨st.t, Mt.upF st.l x (st.l x - 1), st.o⟩ := by
      unfold Mt.relax
      rw [if_neg c]
    rw [er] at q
    exact wb_nil (q H2 lB2 e2)
end
end K0


set_option Elab.async false
set_option linter.all false
set_option maxRecDepth 100000
set_option maxHeartbeats 8000000
/-! S5: drawn, whole. -/
namespace K0
open PySem PySem.Spec PyProof.Rows L2 GxR Tk
variable [LamTab]
theorem ds_idD {K : PySem.W.Frag} {H : Hp} : ∀ {o : List Nat} {vs : List V}, Ds K H vs (idD o) → vs = iv o
  | [], _, .nil => rfl
  | k :: o, _, .cons h t => by
    cases h
    rw [ds_idD t]
    rfl
/-- a whole turn keeps Go -/
theorem Go.fold {n g : Nat} {sd : Nat → Bool} : ∀ {xs : List Nat} {s : Mt.S}, Go n s → (∀ x ∈ xs, x < n) → Go n (xs.foldl (Mt.relax sd g) s)
  | [], s, h, _ => h
  | x :: xs, s, h, hx => Go.fold (xs := xs) (h.relax (sd := sd) (g := g) (hx x List.mem_cons_self)) fun y hy => hx y (List.mem_cons_of_mem _ hy)
theorem fold_pre {g : Nat} {sd : Nat → Bool} : ∀ {xs : List Nat} {s : Mt.S}, s.o <+: (xs.foldl (Mt.relax sd g) s).o
  | [], s => List.prefix_refl _
  | x :: xs, s => Mt.relax_pre.trans fold_pre
theorem fold_told {g y : Nat} {sd : Nat → Bool} : ∀ {xs : List Nat} {s : Mt.S}, s.t y ≠ none → (xs.foldl (Mt.relax sd g) s).t y ≠ none
  | [], s, h => h
  | x :: xs, s, h => fold_told (xs := xs) (s := Mt.relax sd g s x) (by
    obtain ⟨a, e⟩ := Option.ne_none_iff_exists'.mp h
    rw [Mt.relax_t e]
    simp)
theorem take_fold {g : Nat} {sd : Nat → Bool} {xs : List Nat} {s : Mt.S} {j x : Nat} (h : xs[j]? = some x) : (xs.take (j + 1)).foldl (Mt.relax sd g) s = Mt.relax sd g ((xs.take j).foldl (Mt.relax sd g) s) x := by
  rw [List.take_add_one, h, List.foldl_append]
  rfl
section
variable {P : Program} {w : World} {K : PySem.W.Frag} {mg : Str → Option Value} {base : Heap} {f : Addr} {fd : FuncData} {T : List Addr} {CG CS CA : Addr}
theorem srcs_at {R : List Gr} {g : Nat} (h : g < R.length) : atI ((List.range R.length).map fun g => PyData.list (idD (srcUp R R.length g))) (g : Int) = some (.list (idD (srcUp R R.length g))) := atI_nat (j := g) (by rw [List.getElem?_map, List.getElem?_range h]; rfl)
theorem srcUp_lt {R : List Gr} {g x : Nat} (h : x ∈ srcUp R R.length g) : x < R.length := by
  unfold srcUp at h
  exact List.mem_range.mp (List.mem_filter.mp h).1
/-- the while loop, and what follows it -/
theorem while_ok {cdv : Value} {A : Around} {outer : List Env} {s : Shared} {H0 : Hp} {E : XK} {lv : Nat} (BL : Blt mg) (hr : Room lv (A.deeper (envOfC "drawn" (defScope sDr) s.heap.objs.size f cdv))) {R : List Gr} {sd : Nat} {aims : List Nat} {v0 va v3 v4 : V} {lt ll lo : Addr} {a6 : Option V} {B H : Hp} {D : L2.Ends}
    (l : Le B H) (hR : rowsOk R) (d3 : Dt K B v3 (.tuple (R.map rowD))) (d4 : Dt K B v4 (srcD R)) (ht : At R.length H lt ll lo (Mt.s0 (gsR R) aims)) (ne1 : lt ≠ ll) (ne2 : lt ≠ lo) (ne3 : ll ≠ lo) (hB : B lt = none ∧ B ll = none ∧ B lo = none) (nd : aims.Nodup) (ha : ∀ x ∈ aims, x < R.length)
    (qq : ∀ a9 a10 a11 H', Le B H' → H' lt = some (.lst (fV oV R.length (finR R sd aims).t)) → D.nx [some v0, some (.int (sd : Int)), some va, some v3, some v4, some (.ref lt), a6, some (.ref ll), some (.ref lo), a9, a10, a11, none, none] H') :
    WS (cxD P w K mg base f cdv A outer s H0 E) whileS D [some v0, some (.int (sd : Int)), some va, some v3, some v4, some (.ref lt), a6, some (.ref ll), some (.ref lo), some (.int ((0 : Nat) : Int)), none, none, none, none] H := by
  have hn := hR.n
  refine ⟨_, ps_while (X := cxD P w K mg base f cdv A outer s H0 E) PassesOwn.never pt_w pss_w, ?_⟩
  refine ⟨fun k σ' H' => ∃ (st : Mt.S) (i : Nat) (a10 a11 : Option V), σ' = [some v0, some (.int (sd : Int)), some va, some v3, some v4, some (.ref lt), a6, some (.ref ll), some (.ref lo), some (.int (i : Int)), a10, a11, none, none] ∧ k = R.length - i ∧ i ≤ st.o.length ∧ Go R.length st ∧ Mt.run R.length (sdR R sd) (gsR R) (R.length - i) st i = finR R sd aims ∧ At R.length H' lt ll lo st ∧ Le B H',
    ⟨R.length, Mt.s0 (gsR R) aims, 0, none, none, rfl, rfl, Nat.zero_le _, ⟨nd, ha, fun x hx => ?_, fun x hx => ?_⟩, rfl, ht, l⟩, ?_⟩
  · show (if x ∈ aims then some 0 else none) ≠ none
    rw [if_pos (show x ∈ aims from hx)]; simp
  · have hx : (if x ∈ aims then some 0 else none) ≠ none := hx
    by_cases z : x ∈ aims
    · exact z
    · rw [if_neg z] at hx; exact absurd rfl hx
  rintro k σ' H' ⟨st, i, a10, a11, rfl, rfl, hi, go, hW, e, lB⟩
  have hlen := go.le
  refine (et_cmp op_lt rr_lt (ee_var (i := 9) rfl (.int _)) (ee_len BL (ee_var (i := 8) rfl (.new_lst e.o (ds_iv st.o))) rfl fun x z => by cases z)) H' (Le.refl _) _ fun H2 l2 => ?_
  have e := e.le l2
  have lB := lB.trans l2
  clear l2
  have eL : (idD st.o).length = st.o.length := List.length_map _
  rw [eL]
  by_cases hlt : i < st.o.length
  · rw [decide_eq_true (show (i : Int) < (st.o.length : Int) by omega)]
    refine (if_pos rfl).mpr ?_
    have hk : st.o[i]? = some st.o[i] := List.getElem?_eq_getElem hlt
    generalize hgE : st.o[i] = g at hk
    have gm : g ∈ st.o := List.mem_of_getElem? hk
    have gn := go.lt g gm
    obtain ⟨fu, hfu⟩ : ∃ fu, R.length - i = fu + 1 := ⟨R.length - i - 1, by omega⟩
    have hfu2 : R.length - (i + 1) = fu := by omega
    rw [hfu] at hW
    have hW : Mt.run R.length (sdR R sd) (gsR R) fu (Mt.turn R.length (sdR R sd) (gsR R) st g) (i + 1) = finR R sd aims := by
      have h := hW
      unfold Mt.run at h
      rw [hk] at h
      exact h
    refine ⟨fun σ2 H5 => ∃ (st : Mt.S) (a10 a11 : Option V), σ2 = [some v0, some (.int (sd : Int)), some va, some v3, some v4, some (.ref lt), a6, some (.ref ll), some (.ref lo), some (.int ((i + 1 : Nat) : Int)), a10, a11, none, none] ∧ i + 1 ≤ st.o.length ∧ Go R.length st ∧ Mt.run R.length (sdR R sd) (gsR R) fu st (i + 1) = finR R sd aims ∧ At R.length H5 lt ll lo st ∧ Le B H5,
      fun σ2 H5 ⟨st, a10, a11, z1, z2, z3, z4, z5, z6⟩ => ⟨R.length - (i + 1), by omega, st, i + 1, a10, a11, z1, rfl, z2, z3, by rw [hfu2]; exact z4, z5, z6⟩, ?_⟩
    refine wb_cons (ws_set (i := 10) (B := H2) (d := .int (g : Int)) (Le.refl _) (ee_ix ix_list (rr_ixL (at_id hk)) (ee_var (i := 8) rfl (.new_lst e.o (ds_iv st.o))) (ee_var (i := 9) rfl (.int _))) (fun v B3 H3 u3 dv => ?_) ndD)
    cases dv
    have e := e.le u3.h
    have lB := lB.trans u3.h
    refine wb_cons ⟨_, ps_aug (i := 9) ndD rfl (Or.inl rfl) pe_int ip_add, ?_⟩
    refine ⟨_, rfl, (i : Int), 1, rfl, rfl, ?_⟩
    have gt0 : st.t g ≠ none := go.told g gm
    show WB _ _ _ [some v0, some (.int (sd : Int)), some va, some v3, some v4, some (.ref lt), a6, some (.ref ll), some (.ref lo), some (.int ((i + 1 : Nat) : Int)), some (.int (g : Int)), a11, none, none] H3
    refine wb_one (ws_for (B := B) (ds := idD (srcUp R R.length g)) (tjs := [11]) (pat := patN) lB (ei_lst (ee_ix ix_list (rr_ixL (srcs_at gn)) (ee_var (i := 4) rfl d4) (ee_var (i := 10) rfl (.int _)))) (eg_name ndD) (fun d hd => ⟨[d], rfl⟩) PassesOwn.never rfl
      (fun j σ' B' H' => ∃ a11, σ' = [some v0, some (.int (sd : Int)), some va, some v3, some v4, some (.ref lt), a6, some (.ref ll), some (.ref lo), some (.int ((i + 1 : Nat) : Int)), some (.int (g : Int)), a11, none, none] ∧ B' lt = none ∧ B' ll = none ∧ B' lo = none ∧ At R.length H' lt ll lo (((srcUp R R.length g).take j).foldl (Mt.relax (sdR R sd) g) st))
      (fun B' H' u => ⟨a11, rfl, up_none u hB.1 e.t (fun _ z => by cases z), up_none u hB.2.1 e.l (fun _ z => by cases z), up_none u hB.2.2 e.o (fun _ z => by cases z), e.le u.h⟩) (fun j d es us σ' B' H' B'' H'' hj hd' lb hI u4 hpat dus N hN => ?_) fun σ' B' H' lb ls hI => ?_)
    · obtain ⟨a11, rfl, b1, b2, b3, ej⟩ := hI
      rw [idD, List.length_map] at hj
      have hxj : (srcUp R R.length g)[j]? = some (srcUp R R.length g)[j] := List.getElem?_eq_getElem hj
      rw [idD, List.getElem?_map, hxj] at hd'
      cases hd'
      cases hpat
      obtain ⟨y, rfl, hy⟩ := ds1 (K := K) dus
      cases hy
      generalize hxE : (srcUp R R.length g)[j] = x at hxj
      have c1 := up_none u4 b1 ej.t (fun _ z => by cases z)
      have c2 := up_none u4 b2 ej.l (fun _ z => by cases z)
      have c3 := up_none u4 b3 ej.o (fun _ z => by cases z)
      have ej := ej.le u4.h
      have goj : Go R.length (((srcUp R R.length g).take j).foldl (Mt.relax (sdR R sd) g) st) := go.fold fun y hy => srcUp_lt (List.mem_of_mem_take hy)
      have xn : x < R.length := srcUp_lt (List.mem_of_getElem? hxj)
      refine look_ok (i := i + 1) (g := g) (x := x) (B := B'') hr u4.s hn (Dt.le (lb.trans u4.b) d3) ej ne1 ne2 ne3 ⟨c1, c2, c3⟩ goj xn gn (fold_told gt0) fun H6 l6 e6 => ?_
      exact hN _ B'' H6 (Le.refl _) l6 ⟨_, rfl, c1, c2, c3, by rw [take_fold hxj]; exact e6⟩
    · obtain ⟨a11, rfl, b1, b2, b3, ej⟩ := hI
      have el : (idD (srcUp R R.length g)).length = (srcUp R R.length g).length := List.length_map _
      rw [el, List.take_length] at ej
      refine ⟨_, _, a11, rfl, ?_, go.fold fun y hy => srcUp_lt hy, hW, ej, lb.trans ls⟩
      exact Nat.le_trans hlt (fold_pre (sd := sdR R sd) (g := g)).length_le
  · rw [decide_eq_false (show ¬ (i : Int) < (st.o.length : Int) by omega)]
    refine (if_neg (by decide)).mpr ?_
    have hio : i = st.o.length := by omega
    have e0 : st.o[i]? = none := by rw [hio]; exact List.getElem?_eq_none (Nat.le_refl _)
    have : finR R sd aims = st := by
      rw [← hW]
      cases R.length - i with
      | zero => rfl
      | succ k => unfold Mt.run; rw [e0]
    rw [← this] at e
    exact qq _ _ _ H2 lB e.t
end
end K0


set_option Elab.async false
set_option linter.all false
set_option maxRecDepth 100000
set_option maxHeartbeats 8000000
/-! S6: drawn, from its beginning. -/
namespace K0
open PySem PySem.Spec PyProof.Rows L2 GxR Tk
variable [LamTab]
theorem wb_nox {X : Cx} {st : List Stmt} {D : L2.Ends} {σ : L2.St} {H : Hp} (h : WB X.nox st D σ H) : WB X st D σ H := by
  obtain ⟨t, a, b⟩ := h
  exact ⟨t, a.nox, b⟩
theorem told0 {n : Nat} {aims : List Nat} {i x : Nat} (h : aims[i]? = some x) : Mt.upF (fun y => if y ∈ aims.take i then some 0 else none) x (some 0) = fun y => if y ∈ aims.take (i + 1) then (some 0 : Option Nat) else none := by
  have tk : aims.take (i + 1) = aims.take i ++ [x] := by rw [List.take_add_one, h]; rfl
  funext y
  by_cases z : y = x
  · subst z
    rw [Mt.upF_same, if_pos (by rw [tk]; simp)]
  · rw [Mt.upF_ne z]
    have : y ∈ aims.take (i + 1) ↔ y ∈ aims.take i := by rw [tk]; simp [z]
    by_cases w : y ∈ aims.take i
    · rw [if_pos w, if_pos (this.mpr w)]
    · rw [if_neg w, if_neg fun q => w (this.mp q)]
theorem rep_none (n : Nat) : (List.replicate ((n : Int)).toNat [V.non]).flatten = fV oV n fun _ => none := by
  unfold fV
  rw [Int.toNat_natCast]
  induction n with
  | zero => rfl
  | succ n ih =>
    rw [List.range_succ, List.map_append, ← ih, List.replicate_succ']
    simp [oV]
section
variable {P : Program} {w : World} {K : PySem.W.Frag} {mg : Str → Option Value} {base : Heap} {f : Addr} {fd : FuncData} {T : List Addr} {CG CS CA : Addr}
theorem ok_dr {f1 f2 : Addr} {fd1 fd2 : FuncData} (BL : Blt mg) (G1 : FnOk P w K mg base (L2.CX P w) 7 f1 fd1 ["game"] (spChk K T gameB CG)) (m1 : mg "check_game" = some (.ref f1)) (k1 : PySem.W.keepIn K (.ref f1) = true) (b1 : Binds K fd1 ["game"] [])
    (G2 : FnOk P w K mg base (L2.CX P w) 7 f2 fd2 ["side"] (spChk K T sideB CS)) (m2 : mg "check_side" = some (.ref f2)) (k2 : PySem.W.keepIn K (.ref f2) = true) (b2 : Binds K fd2 ["side"] [])
    (Fn : Kn P w K mg base 4 "is_numbers" ["thing", "limit"] (spF K T 2 okMP numsF)) (Fs : Kn P w K mg base 1 "sources_of" ["rows"] (spF K T 1 srcP srcF))
    (xS : PySem.W.excIn K CA [.type "ValueError", .type "Exception", .type "BaseException", .type "object"] "ValueError.__new__" = true) (gS : mg "BadAims" = some (.ref CA)) (kS : PySem.W.keepIn K (.ref CA) = true) (bS : PySem.W.subIn K (.ref CA) (.type "BaseException") = some true) (tS : PySem.W.typeIn K (.ref CA) = some (.type "type"))
    (F : L2.Fun K "drawn" "drawn" sDr f fd) : FnOk P w K mg base (L2.CX P w) 8 f fd ["game", "side", "aims"] (spDr K T CG CS CA) := by
  refine F.okX scDr (fun vs H Q E h => h.1) fun cdv A outer s H vs Q E hr hsp => ?_
  obtain ⟨hl, ht, B, d, sD, aD, l, hd, okd, oks, oka, hnG, hnS, hy⟩ := hsp
  obtain ⟨v1, v2, v3, rfl, h1, h2, h3⟩ := ds3 hd
  show WB (cxOf (L2.CX P w) P w K mg base ND "drawn" (defScope sDr) f cdv A outer s H E) (defBody sDr) { nx := fun _ H' => Q .non H', rt := Q } (start ND [v1, v2, v3]) H
  refine wb_cons ⟨_, ps_expr (pe_call (CX := L2.CX P w) (E := E) G1 hr rfl m1 k1 b1 .nil (passes_call (takes_of rfl rfl rfl rfl) fun _ _ _ _ h => h) (pa_cons (pe_var (i := 0) rfl (by first | exact Or.inl rfl | exact Or.inr (Or.inl rfl) | exact Or.inr (Or.inr rfl))) pa_nil) (by decide) rfl rfl), _, rfl, ?_⟩
  refine ⟨rfl, ht, B, d, l, .cons h1 .nil, okd, fun eG H2 l2 => ?_, hnG⟩
  refine wb_cons ⟨_, ps_expr (pe_call (CX := L2.CX P w) (E := E) G2 hr rfl m2 k2 b2 .nil (passes_call (takes_of rfl rfl rfl rfl) fun _ _ _ _ h => h) (pa_cons (pe_var (i := 1) rfl (by first | exact Or.inl rfl | exact Or.inr (Or.inl rfl) | exact Or.inr (Or.inr rfl))) pa_nil) (by decide) rfl rfl), _, rfl, ?_⟩
  refine ⟨rfl, ht.le l2, B, sD, l.trans l2, .cons h2 .nil, oks, fun eS H3 l3 => ?_, fun eS H3 l3 => hnS eG eS H3 (l2.trans l3)⟩
  obtain ⟨R, rfl, hR, hnA, hok⟩ := hy eG eS
  obtain ⟨B4, l4, l5, t4, up⟩ := with_tables (ht.le (l2.trans l3)) ((l.trans l2).trans l3)
  have hn := hR.n
  refine wb_cons (ws_set (i := 3) (d := .tuple (R.map rowD)) l5 (ee_ix ix_tup (rr_ixT at1) (ee_var (i := 0) rfl (Dt.le l4 h1)) ee_int) (fun w3 B5 H5 u5 d3 => ?_) ndD)
  have eLR : ((R.map rowD).length : Int) = (R.length : Int) := by rw [List.length_map]
  refine wb_cons (ws_if (k := !numsB aD (R.length : Int)) u5.s (et_not (et_val (ee_call (f := numsF) (ds := [aD, .int (R.length : Int)]) (d := .bool (numsB aD (R.length : Int))) Fn hr (by decide) (t4.le u5.b) (ea_cons (ee_var (i := 2) rfl (Dt.le (l4.trans u5.b) h3)) (ea_cons ((ee_len BL (ee_var (i := 3) rfl d3) rfl fun x z => by cases z).cast (by rw [List.length_map])) ea_nil)) ⟨aD, _, rfl, oka⟩))) (fun e H6 l6 => ?_) fun e H6 l6 => ?_)
  · exact wb_one ⟨_, ps_raise rfl (takes_of rfl rfl rfl rfl) (pmk_own PySem.F.excBase_ValueError (q := xS) gS kS (raises_own bS tS) rfl), hnA (bno e) H6 (((l2.trans l3).trans u5.h).trans l6)⟩
  obtain ⟨sd, aims, rfl, rfl, nd, ha, q⟩ := hok (bys e)
  cases h2
  refine wb_nil (wb_nox ?_)
  have hr' : Room 7 (cxD P w K mg base f cdv A outer s H E).A := hr
  have u6 : Up B4 H3 B5 H6 := u5.tab l6
  have t5 := t4.le u5.b
  refine wb_cons (ws_set (i := 4) (d := srcD R) u6.s (ee_call (f := srcF) (ds := [.tuple (R.map rowD)]) (d := srcD R) Fs hr' (by decide) t5 (ea_cons (ee_var (i := 3) rfl d3) ea_nil) ⟨R, rfl, hR⟩ (by show srcD ((R.map rowD).map grOf) = _; rw [grOf_map])) (fun w4 B7 H7 u7 d4 => ?_) ndD)
  have U : Up B4 H3 B7 H7 := u6.trans u7
  have a3 : Dt K B7 v3 (.tuple (idD aims)) := Dt.le ((l4.trans u5.b).trans u7.b) h3
  have d3 : Dt K B7 w3 (.tuple (R.map rowD)) := Dt.le u7.b d3
  show WB (cxD P w K mg base f cdv A outer s H E) _ _ [some v1, some (.int (sd : Int)), some v3, some w3, some w4, none, none, none, none, none, none, none, none, none] H7
  refine wb_cons ⟨_, ps_set (i := 5) ndD rfl (by first | exact Or.inl rfl | exact Or.inr rfl) (pe_op op_rep (pe_lst (pa_cons pe_non pa_nil)) pe_w) rfl (by first | exact Or.inl rfl | exact Or.inr rfl), ?_⟩
  refine ⟨by show 1 ≤ sizeLine; decide, fun p hp => ?_⟩
  refine (ee_len BL (ee_var (i := 3) rfl d3) rfl fun x z => by cases z) _ (U.s.trans (Le.new hp)) _ fun y B8 H8 u8 dy => ?_
  cases dy
  rw [List.length_map]
  refine ⟨p, (R.length : Int), [.non], rfl, rfl, u8.h.keep p _ upd_same (fun _ z => by cases z), by omega, by omega, by rw [List.length_singleton, Int.toNat_natCast, Nat.one_mul]; exact Nat.le_trans hn (by decide), fun lt hlt8 => ?_⟩
  rw [rep_none]
  have hlt : H7 lt = none := (Le.new hp).there lt (u8.h.there lt hlt8)
  have l79 : Le H7 (upd H8 lt (.lst (fV oV R.length fun _ => none))) := ((Le.new hp).trans u8.h).mut hlt
  have e9 : (upd H8 lt (.lst (fV oV R.length fun _ => none))) lt = some (.lst (fV oV R.length fun _ => none)) := upd_same
  generalize upd H8 lt (.lst (fV oV R.length fun _ => none)) = H9 at l79 e9 ⊢
  clear u8 hlt8 hp
  -- from here on the base is H7
  have d3 : Dt K H7 w3 (.tuple (R.map rowD)) := Dt.le U.s d3
  have d4 : Dt K H7 w4 (srcD R) := Dt.le U.s d4
  have a3 : Dt K H7 v3 (.tuple (idD aims)) := Dt.le U.s a3
  have eI : (idD aims).length = aims.length := List.length_map _
  show WB (cxD P w K mg base f cdv A outer s H E) _ _ [some v1, some (.int (sd : Int)), some v3, some w3, some w4, some (.ref lt), none, none, none, none, none, none, none, none] H9
  refine wb_cons (ws_for (B := H7) (ds := idD aims) (tjs := [6]) (pat := patN) l79 (ei_tup (ee_var (i := 2) rfl a3)) (eg_name ndD) (fun d hd => ⟨[d], rfl⟩) PassesOwn.never rfl
    (fun i σ' B' H' => ∃ a6, σ' = [some v1, some (.int (sd : Int)), some v3, some w3, some w4, some (.ref lt), a6, none, none, none, none, none, none, none] ∧ B' lt = none ∧ H' lt = some (.lst (fV oV R.length fun y => if y ∈ aims.take i then some 0 else none)))
    (fun B' H' u => ⟨none, rfl, up_none u hlt e9 (fun _ z => by cases z), ?_⟩) (fun i d es us σ' B' H' B'' H'' hi hd' lb hI u4 hpat dus N hN => ?_) fun σ' B' H' lb ls hI => ?_)
  · have : (fun y => if y ∈ aims.take 0 then (some 0 : Option Nat) else none) = fun _ => none := by
      funext y
      rw [List.take_zero, if_neg (by simp)]
    rw [this]
    exact u.h.keep lt _ e9 fun _ z => by cases z
  · obtain ⟨a6, rfl, bt, et⟩ := hI
    rw [eI] at hi
    have hxi : aims[i]? = some aims[i] := List.getElem?_eq_getElem hi
    rw [idD, List.getElem?_map, hxi] at hd'
    cases hd'
    cases hpat
    obtain ⟨y, rfl, hy⟩ := ds1 (K := K) dus
    cases hy
    generalize hxE : aims[i] = x at hxi
    have xn := ha x (List.mem_of_getElem? hxi)
    have et := u4.h.keep lt _ et fun _ z => by cases z
    have bt' := up_none u4 bt (by assumption) fun _ z => by cases z
    refine wb_one ⟨_, ps_asg pe_int (pg_sub (pe_var (i := 5) rfl (Or.inl rfl)) (pe_var (i := 6) rfl (Or.inl rfl)) set_list) rfl rfl rfl, ?_⟩
    refine ⟨_, rfl, _, rfl, lt, _, (x : Int), x, rfl, rfl, et, by rw [fV_len]; exact ixNn xn, ?_⟩
    have eS : (fV oV R.length fun y => if y ∈ aims.take i then some 0 else none).set x (.int 0) = fV oV R.length fun y => if y ∈ aims.take (i + 1) then some 0 else none := by
      rw [← told0 (n := R.length) hxi]
      exact fV_set (g := oV) (a := some 0) xn
    rw [eS]
    exact hN _ B'' _ (Le.refl _) (u4.s.mut bt') ⟨_, rfl, bt', upd_same⟩
  obtain ⟨a6, rfl, bt, et⟩ := hI
  have l7 : Le H7 H' := lb.trans ls
  rw [eI, List.take_length] at et
  clear lb ls bt
  obtain ⟨gl, hgl, hgr⟩ := lenD_of (R := R)
  show WB (cxD P w K mg base f cdv A outer s H E) _ _ [some v1, some (.int (sd : Int)), some v3, some w3, some w4, some (.ref lt), a6, none, none, none, none, none, none, none] H'
  refine wb_cons (ws_setLc (own := [("_", 12), ("goals", 13)]) (tjs := [12, 12, 13]) (pat := patT 3) (i := 7) (B := H7) (fun _ => true) gl l7 rfl ndD (ei_tup (ee_var (i := 3) rfl d3)) (blkOk_by (show blkC ND (defScope sDr) _ [("_", 12), ("goals", 13)] = true by decide +kernel))
    (fun s H C cl fp => eg_tup rfl (st_cons (st_cons (st_cons st_nil ndD) ndD) ndD)) (fun d hd => ?_) (fun vs hv => ?_) (fun B' d es vs lb hd he hv s H C cl fp => ets_nil) (fun B' d es vs lb hd hb he hv s H C cl fp => ?_) (by rw [List.length_map]; exact Nat.lt_of_le_of_lt hn (by decide)) (fun ll acc BA HA hll uA eB eA dA => ?_) (sw_true rfl rfl rfl (by decide +kernel)))
  · obtain ⟨r, _, rfl⟩ := List.mem_map.mp hd
    exact ⟨_, rfl, rfl⟩
  · match vs, hv with
    | [a, b, c], _ => rfl
  · obtain ⟨r, _, rfl⟩ := List.mem_map.mp hd
    obtain ⟨e1, _⟩ := patT_some he
    cases e1
    obtain ⟨x, y, z, rfl, hx, hy, hz⟩ := ds3 (K := K) hv
    refine (ee_len BL (ee_var (i := 13) rfl hz) rfl fun x z => by cases z).cast ?_
    rw [hgr, idD, List.length_map]
  rw [hgl] at dA
  have eacc : acc = fV V.int R.length (Mt.s0 (gsR R) []).l := by
    have : ∀ {xs : List Nat} {vs : List V}, Ds K BA vs (xs.map fun x => PyData.int ((Mt.s0 (gsR R) []).l x)) → vs = xs.map fun x => V.int ((Mt.s0 (gsR R) []).l x) := fun {xs} => by
      induction xs with
      | nil => intro vs h; cases h; rfl
      | cons x xs ih => intro vs h; cases h with | cons h1 h2 => cases h1; rw [ih h2]; rfl
    exact this dA
  subst eacc
  have etH := et
  have et := uA.h.keep lt _ et fun _ z => by cases z
  have hll7 : H7 ll = none := l7.there ll hll
  have l7 := l7.trans uA.h
  have ne1 : lt ≠ ll := fun z => by
    rw [← z] at hll
    have := uA.h
    exact absurd hll (by rw [etH]; simp)
  clear uA eB dA
  obtain ⟨pa, rfl, sa⟩ : ∃ pa, v3 = .ref pa ∧ SqT K H7 pa (iv aims) := by
    cases a3 with
    | tup s t h0 => exact ⟨_, rfl, by rw [← ds_idD h0]; exact s⟩
  show WB (cxD P w K mg base f cdv A outer s H E) _ _ [some v1, some (.int (sd : Int)), some (.ref pa), some w3, some w4, some (.ref lt), a6, some (.ref ll), none, none, none, none, none, none] HA
  refine wb_cons ⟨_, ps_set (i := 8) ndD rfl (by first | exact Or.inl rfl | exact Or.inr rfl) (pe_callTy c_list rfl BL.list boot_list' (pa_cons (pe_var (i := 2) rfl (Or.inl rfl)) pa_nil) (by decide) (by decide) rfl rfl) rfl (by first | exact Or.inl rfl | exact Or.inr rfl), ?_⟩
  refine ⟨_, rfl, pa, iv aims, rfl, .inr (sqT_le l7 sa), fun lo hlo => ?_⟩
  have hlo7 : H7 lo = none := l7.there lo hlo
  have ne2 : lt ≠ lo := fun z => by rw [← z, et] at hlo; cases hlo
  have ne3 : ll ≠ lo := fun z => by rw [← z, eA] at hlo; cases hlo
  have at0' : At R.length (upd HA lo (.lst (iv aims))) lt ll lo (Mt.s0 (gsR R) aims) := ⟨by rw [upd_ne ne2]; exact et, by rw [upd_ne ne3]; exact eA, upd_same⟩
  have l8 : Le H7 (upd HA lo (.lst (iv aims))) := l7.mut hlo7
  generalize upd HA lo (.lst (iv aims)) = HB at at0' l8 ⊢
  refine wb_cons (ws_set (i := 9) (B := H7) (d := .int ((0 : Nat) : Int)) l8 ee_int (fun v0 B9 HC u9 d0 => ?_) ndD)
  cases d0
  have l9 := l8.trans u9.h
  have at9 := at0'.le u9.h
  show WB (cxD P w K mg base f cdv A outer s H E) _ _ [some v1, some (.int (sd : Int)), some (.ref pa), some w3, some w4, some (.ref lt), a6, some (.ref ll), some (.ref lo), some (.int ((0 : Nat) : Int)), none, none, none, none] HC
  refine wb_cons (while_ok (B := H7) BL hr' l9 hR d3 d4 at9 ne1 ne2 ne3 ⟨hlt, hll7, hlo7⟩ nd ha fun a9 a10 a11 HD lD eD => ?_)
  have UD : Up B4 H3 (upd B7 lt (.lst (fV oV R.length (finR R sd aims).t))) HD := up_add (U.tab lD) (U.h.there lt hlt) (U.s.there lt hlt) eD fun _ z => by cases z
  refine wb_one (ws_ret (d := drD R sd aims) UD.s (ee_tuple BL (ds := tD R.length (finR R sd aims).t) (ee_var (i := 5) rfl (.new_lst upd_same ds_tV))) fun v B' H' u dv => q v B' H' (up_back (l2.trans l3) (up (UD.trans u))) dv)
end
end K0


set_option Elab.async false
set_option linter.all false
set_option maxRecDepth 100000
set_option maxHeartbeats 4000000
namespace K0
open PySem PySem.Spec PyProof.Rows L2 GxR Tk
variable [LamTab]
abbrev sLNum : Stmt := top 30
section
variable {P : Program} {w : World} {K : PySem.W.Frag} {mg : Str → Option Value} {base : Heap} {f : Addr} {fd : FuncData} {T : List Addr} {c Pt d lw lc : Addr}
theorem scLNum : FnScope ["thing", "end"] ["thing", "end"] (defScope sLNum) := ⟨rfl, rfl, rfl, by decide +kernel, rfl, by decide +kernel, by decide +kernel⟩
theorem ok_lnum (BL : Blt mg) (F : L2.Fun K "_law_is_number" "_law_is_number" sLNum f fd) : FnOk P w K mg base CX0 1 f fd ["thing", "end"] (spF K T 2 numP numF) := by
  refine fn_pure F scLNum rfl fun cdv A outer s H vs B ds Q E hr hcd t l hd hl hp q => ?_
  obtain ⟨d, m, rfl⟩ := hp
  obtain ⟨v1, v2, rfl, h1, h2⟩ := ds2 hd
  cases h2
  refine wb_one (ws_ret (d := .bool (numB d m)) l ?_ q)
  refine ee_and (ee_isInt BL (ee_var (i := 0) rfl h1)) fun e1 => ?_
  refine ee_and (ee_not (ee_isBool BL (ee_var (i := 0) rfl h1))) fun e2 => ?_
  refine ee_one ?_
  cases d with
  | int i => exact ee_chain op_le op_lt rr_le (fun _ => rr_lt) ee_int (ee_var (i := 0) rfl h1) fun _ => ee_var (i := 1) rfl (.int m)
  | bool b => cases e2
  | none => cases e1
  | str x => cases e1
  | list x => cases e1
  | tuple x => cases e1
  | dict x => cases e1
end
end K0


set_option Elab.async false
set_option linter.all false
set_option maxRecDepth 100000
set_option maxHeartbeats 4000000
/-! L1: list(range(n)), parts up to what is drawn, one thing or another, _law_goals. -/
namespace Tk
open PySem PySem.Spec PyProof.Rows L2 GxR Gx K0
variable [LamTab]
section
variable {X : Cx} {D : List Addr} {J : Nat → Hp → Prop} {e a b c hi : Expr} {σ : L2.St} {B : Hp} {n n1 n2 : Nat} {R : List PyData → Prop} {RI : Int → Prop} {Ra : PyData → Prop} {p p2 pos : Pos}
theorem rgV_nat {n : Nat} : rgV 0 (n : Int) = iv (List.range n) := by
  unfold rgV iv
  simp
theorem ee_listRg {n : Nat} {p3 p4 : Pos} (hc : X.calm = true) (BL : Blt X.mg) (ha : EE X e σ B (.int (n : Int))) (hn : n ≤ 1000) (hg : Gl X "list" := by rfl) (hg2 : Gl X "range" := by rfl) (na : starEach [.Call (.Name "range" p3) [e] [] p4] X.env = (false, eval (.Call (.Name "range" p3) [e] [] p4) X.env) :: starEach [] X.env := by rfl) (na2 : starEach [e] X.env = (false, eval e X.env) :: starEach [] X.env := by rfl) :
    EE X (.Call (.Name "list" p) [.Call (.Name "range" p3) [e] [] p4] [] pos) σ B (.list (idD (List.range n))) := fun H1 l Q q =>
  ⟨_, pe_listRg hc hg BL.list (prg_1 hg2 BL.range pe_w na2) na, ha H1 l _ fun v B2 H2 u dv => by
    cases dv
    refine ⟨_, rfl, ?_, fun r hr => ?_⟩
    · constructor <;> omega
    · rw [rgV_nat]
      exact q _ _ _ (u.new hr fun ps z => by cases z) (.new_lst upd_same (ds_iv _))⟩
theorem ej_cutJ (C : Cells D J) (ha : EJ X D J e σ B n1 (fun d => ∃ ds, d = .list ds ∧ R ds)) (hb : EJ X D J hi σ B n2 (fun d => ∃ i : Int, d = .int i ∧ RI i)) :
    EJ X D J (.Subscript e (.Slice none (some hi) none p2) pos) σ B (n1 + n2) (fun d => ∃ ds i, d = .list (Tk.cutD ds none (some i)) ∧ R ds ∧ RI i) := fun m H1 l ap jj Q q =>
  ⟨_, pe_slice sl_list pe_w po_none (po_some pe_w), ha (m + n2) H1 l ap (by rw [show m + n2 + n1 = m + (n1 + n2) by omega]; exact jj) _ fun v d B2 H2 u j2 dv r => hb.mono u.b m H2 u.s (u.apt C jj ap) j2 _ fun y d2 B3 H3 u3 j3 dy r2 => by
    obtain ⟨ds, rfl, r⟩ := r
    obtain ⟨i, rfl, r2⟩ := r2
    cases dy
    have u4 := u.trans C j2 u3
    cases dv with
    | lst s t h0 =>
      refine ⟨i, rfl, _, _, rfl, sqL_le (u3.b.trans u3.s) s, fun p hp => q _ _ _ _ (u4.new hp fun ps z => by cases z) (C.le _ _ _ j3 (Le.new hp)) (.new_lst upd_same ?_) ⟨ds, i, rfl, r, r2⟩⟩
      unfold cutV Tk.cutD
      rw [h0.length]
      exact ((Ds.le (u3.b.trans (Le.new (u3.s.there p hp))) h0).drop _).take _⟩
theorem cutD_takeN {xs : List PyData} {n : Nat} : cutD xs none (some (n : Int)) = xs.take n := by
  unfold cutD
  rw [HT.sIx_none, HT.sIx_nat]
  by_cases h : n ≤ xs.length
  · rw [Nat.min_eq_left h]; simp
  · rw [Nat.min_eq_right (by omega)]
    simp
    rw [List.take_of_length_le (by omega)]
theorem ej_if {k : Bool} (C : Cells D J) (hc : ET X c σ B k) (h1 : k = true → EJ X D J a σ B n Ra) (h2 : k = false → EJ X D J b σ B n Ra) : EJ X D J (.IfExp c a b pos) σ B n Ra := fun m H1 l ap jj Q q =>
  ⟨_, pe_ifExp pt_w pe_w pe_w, hc H1 l _ fun H2 l2 => by
    have j2 := C.le _ _ _ jj l2
    have u0 : UpX D B H1 B H2 := .of (Up.le l l2)
    cases k with
    | true =>
      rw [if_pos rfl]
      exact h1 rfl m H2 (l.trans l2) ap j2 Q fun v d B3 H3 u3 j3 dv r => q v d B3 H3 (u0.trans C j2 u3) j3 dv r
    | false =>
      rw [if_neg Bool.false_ne_true]
      exact h2 rfl m H2 (l.trans l2) ap j2 Q fun v d B3 H3 u3 j3 dv r => q v d B3 H3 (u0.trans C j2 u3) j3 dv r⟩
end
end Tk
namespace K0
open PySem PySem.Spec PyProof.Rows L2 GxR Tk
variable [LamTab]
abbrev sLGoals : Stmt := top 31
def natD : PyData → Nat
  | .int i => i.toNat
  | _ => 0
theorem natD_idD (o : List Nat) : (idD o).map natD = o := by
  unfold idD
  rw [List.map_map]
  exact (List.map_congr_left fun a _ => rfl).trans (List.map_id o)
theorem idD_of {ys : List PyData} (h : ∀ y ∈ ys, ∃ k : Nat, y = .int (k : Int)) : ys = idD (ys.map natD) := by
  unfold idD
  rw [List.map_map]
  refine ((List.map_congr_left fun a ha => ?_).trans (List.map_id ys)).symm
  obtain ⟨k, rfl⟩ := h a ha
  rfl
theorem perm_idD {ys : List PyData} {l : List Nat} (h : ys.Perm (idD l)) : ∃ o : List Nat, ys = idD o ∧ o.Perm l := by
  refine ⟨ys.map natD, idD_of fun y hy => ?_, ?_⟩
  · have := h.mem_iff.mp hy
    obtain ⟨k, _, rfl⟩ := List.mem_map.mp this
    exact ⟨k, rfl⟩
  · have := h.map natD
    rw [natD_idD] at this
    exact this
theorem idD_flat {o : List Nat} : ∀ x ∈ idD o, flatD x = true ∧ okD x = true := fun x hx => by
  obtain ⟨k, _, rfl⟩ := List.mem_map.mp hx
  exact ⟨rfl, rfl⟩
theorem idD_len {o : List Nat} : (idD o).length = o.length := List.length_map _
theorem idD_take {o : List Nat} {n : Nat} : (idD o).take n = idD (o.take n) := List.map_take.symm
section
variable {P : Program} {w : World} {K : PySem.W.Frag} {mg : Str → Option Value} {base : Heap} {f : Addr} {fd : FuncData} {T : List Addr} {d lw lc : Addr}
/-- shuffled of a list of numbers -/
theorem ej_shuf {X : Cx} {σ : L2.St} {B : Hp} {o : List Nat} {a : Expr} {p p2 pos : Pos} {j i : Nat} {y : Str} (F : KnShuf P w K mg base T d lw lc) (hr : Room j X.A) (hk : 3 ≤ j) (t : Tbs T B) (hσ : σ[i]? = some (some (.ref d))) (ha : EE X a σ B (.list (idD o))) (hn : o.length ≤ 90)
    (eP : X.prog = P := by rfl) (ew : X.w = w := by rfl) (eK : X.K = K := by rfl) (em : X.mg = mg := by rfl) (eb : X.base = base := by rfl) (hg : Gl X "_law_shuffled" := by rfl)
    (hN : X.N[i]? = some y := by rfl) (hv : Vis X.env.scope y := by first | exact Or.inl rfl | exact Or.inr (Or.inl rfl) | exact Or.inr (Or.inr rfl)) (hdy : (y == ("__debug__" : Str)) = false := by decide) (hcy : (y == ("__classdict__" : Str)) = false := by decide)
    (he : starEach [.Name y p2, a] X.env = (false, eval (.Name y p2) X.env) :: starEach [a] X.env := by rfl) (he2 : starEach [a] X.env = (false, eval a X.env) :: starEach [] X.env := by rfl) (hpl : (backTo pos (starEach [a] X.env)).any (·.1) = false := by rfl) :
    EJ X [d, lw, lc] (DJ d lw lc) (.Call (.Name "_law_shuffled" p) [.Name y p2, a] [] pos) σ B 90 (fun r => ∃ ds, r = .list ds ∧ ∃ o' : List Nat, ds = idD o' ∧ o'.Perm o) := by
  have := ej_call (p := p) (pos := pos) (p2 := p2) (i := i) cells_DJ F hr hk t hσ (eaj_cons cells_DJ (ej_pure (R := (· = .list (idD o))) cells_DJ ha rfl) (fun B' l => eaj_nil) he2) (fun ds h => by
    obtain ⟨e, r, rfl, rfl, rfl⟩ := h
    exact ⟨⟨idD o, rfl, by rw [idD_len]; exact hn, idD_flat⟩, rfl⟩) eP ew eK em eb hg hN hv hdy hcy (by decide) he hpl
  refine this.weak cells_DJ (fun e h => ?_) (by omega)
  obtain ⟨ds, ⟨e1, r, rfl, rfl, rfl⟩, xs', ys, e2, rfl, pm⟩ := h
  cases e2
  obtain ⟨o', rfl, po⟩ := perm_idD pm
  exact ⟨_, rfl, o', rfl, po⟩
/-- goals of a drawn row -/
structure GoodG (n : Nat) (gs : List Nat) : Prop where
  nd : gs.Nodup
  lt : ∀ g ∈ gs, g < n
  ne : gs ≠ []
  l3 : gs.length ≤ 3
def lgP (ds : List PyData) : Prop := ∃ n : Nat, ds = [.int (n : Int), .int 3] ∧ 1 ≤ n ∧ n ≤ 12
def lgR (ds : List PyData) (r : PyData) : Prop := ∃ (n : Nat) (gs : List Nat), ds = [.int (n : Int), .int 3] ∧ r = .tuple (idD gs) ∧ GoodG n gs
theorem scLGoals : FnScope ["draw", "many", "most"] ["draw", "many", "most"] (defScope sLGoals) := ⟨rfl, rfl, rfl, by decide +kernel, rfl, by decide +kernel, by decide +kernel⟩
theorem ok_lgoals (BL : Blt mg) (hTD : ∀ a ∈ [d, lw, lc], a ∉ T) (Ft : KnTake P w K mg base T d lw lc) (Fs : KnShuf P w K mg base T d lw lc) (F : L2.Fun K "_law_goals" "_law_goals" sLGoals f fd) :
    FnOk P w K mg base CX0 4 f fd ["draw", "many", "most"] (spJ K T [d, lw, lc] (DJ d lw lc) (.ref d) 2 91 lgP lgR) := by
  refine fn_draw hTD F scLGoals rfl fun cdv A outer s H vs B ds m Q E hr hcd t l ap j hd hl hp q => ?_
  obtain ⟨n, rfl, n1, n12⟩ := hp
  obtain ⟨v1, v2, rfl, h1, h2⟩ := ds2 (K := K) hd
  cases h1
  cases h2
  refine wb_one (ws_retJ (m := m) (n := 91) (R := fun r => ∃ gs : List Nat, r = .tuple (idD gs) ∧ GoodG n gs) l ap j ?_ fun v e B3 H3 u3 j3 dv ⟨gs, r1, r2⟩ => q v e B3 H3 u3 j3 dv ⟨n, gs, rfl, r1, r2⟩)
  refine (ej_t1 (R := fun d => ∃ gs : List Nat, d = .list (idD gs) ∧ GoodG n gs) cells_DJ c_tup BL.tuple boot_tuple' (rcj_of fun d ⟨gs, h1, h2⟩ => ⟨.tuple (idD gs), by subst h1; exact rc_tup, gs, rfl, h2⟩) ?_)
  refine (ej_cutJ (n1 := 90) (n2 := 1) (R := fun ds => ∃ o' : List Nat, ds = idD o' ∧ o'.Perm (List.range n)) (RI := fun i => 1 ≤ i ∧ i ≤ 3) cells_DJ
    (ej_shuf (i := 0) Fs hr (by decide) t rfl (ee_listRg rfl BL (ee_var (i := 1) rfl (.int _)) (by omega)) (by rw [List.length_range]; omega))
    ((ej_op (n1 := 0) (n2 := 1) (Ra := (· = .int 1)) (Rb := fun r => ∃ i : Int, r = .int i ∧ 0 ≤ i ∧ i < 3) (R3 := fun r => ∃ i : Int, r = .int i ∧ 1 ≤ i ∧ i ≤ 3) cells_DJ op_add (rj_of fun d1 d2 e1 e2 => ?_) (ej_pure cells_DJ ee_int rfl) (ej_take Ft hr (by decide) t (i := 0) rfl (ee_var (i := 2) rfl (.int 3)) (by decide) (by decide))).weak cells_DJ (fun _ h => h) (by omega))).weak cells_DJ (fun e h => ?_) (by omega)
  · subst e1
    obtain ⟨i, rfl, i0, i1⟩ := e2
    exact ⟨.int (1 + i), rr_add, 1 + i, rfl, by omega, by omega⟩
  · obtain ⟨ds, i, rfl, ⟨o, rfl, po⟩, i1, i3⟩ := h
    obtain ⟨k, rfl⟩ := Int.eq_ofNat_of_zero_le (show 0 ≤ i by omega)
    rw [cutD_takeN, idD_take]
    have nd : o.Nodup := po.nodup_iff.mpr List.nodup_range
    have len := po.length_eq
    rw [List.length_range] at len
    refine ⟨o.take k, rfl, nd.sublist (List.take_sublist _ _), fun g hg => List.mem_range.mp (po.mem_iff.mp (List.mem_of_mem_take hg)), fun z => ?_, ?_⟩
    · have := congrArg List.length z
      rw [List.length_take, List.length_nil] at this
      omega
    · rw [List.length_take]; omega
end
end K0


set_option Elab.async false
set_option linter.all false
set_option maxRecDepth 100000
set_option maxHeartbeats 1000000
/-! Tk10: repr of bools, is not, min, t * n, tuple(t). -/
namespace Tk
open PySem PySem.Spec PyProof.Rows L2 GxR Gx
variable [LamTab]
def boolS (b : Bool) : Str := if b = true then "True" else "False"
def rReprB : List V → Hp → VK → Prop := fun xs H Q => ∃ b, xs = [V.bl b] ∧ Q (.str (boolS b)) H
section
variable {X : Cx} {a b e : Expr} {σ : L2.St} {H : Hp} {K : PySem.W.Frag}
theorem c_reprB : CallR X (.builtin "repr") rReprB := by
  intro pins s σ H xs us Q I r h
  obtain ⟨b, rfl, q⟩ := h
  obtain ⟨u, rfl, ru⟩ := vals1 r
  obtain rfl : u = Value.bool b := ru
  exact PySem.P.repr_of_bool ⟨.str (boolS b), H, I.tok _, ⟨s.toks, by cases b <;> rfl⟩, q⟩
theorem boot_repr' : bootBuiltins "repr" = some (.builtin "repr") := by decide +kernel
theorem ee_reprB {k : Bool} {p pos : Pos} (hm : X.mg "repr" = none) (ha : EE X e σ H (.bool k)) (hg : Gl X "repr" := by rfl) (he : starEach [e] X.env = (false, eval e X.env) :: starEach [] X.env := by rfl) : EE X (.Call (.Name "repr" p) [e] [] pos) σ H (.str (boolS k)) :=
  ee_callB c_reprB hg hm boot_repr' (fun B1 H1 l l1 vs hv Q q => by
    obtain ⟨v, rfl, hx⟩ := ds1 hv
    cases hx
    exact ⟨k, rfl, q _ B1 H1 (Up.refl l1) (.str _)⟩) (ea_cons ha ea_nil he) (by decide) (by decide) he rfl
theorem rr_isnotB {i j : Bool} : RR K (fun x y H Q => ∃ a b, x = V.bl a ∧ y = V.bl b ∧ Q (.bl (!decide (a = b))) H) H (.bool i) (.bool j) (.bool (!decide (i = j))) := fun B H1 l l1 x y hx hy Q q => by
  cases hx
  cases hy
  exact ⟨i, j, rfl, rfl, q _ B H1 (Up.refl l1) (.bl _)⟩
def rMin2 : List V → Hp → VK → Prop := fun xs H Q => ∃ i j, xs = [V.int i, V.int j] ∧ Q (.int (if j < i then j else i)) H
theorem c_min2 (hc : X.calm = true) : CallR X (.builtin "min") rMin2 := call_min2 hc
theorem boot_min' : bootBuiltins "min" = some (.builtin "min") := by decide +kernel
theorem ee_min2 {i j : Int} {p pos : Pos} (hc : X.calm = true) (hm : X.mg "min" = none) (ha : EE X a σ H (.int i)) (hb : EE X b σ H (.int j)) (hg : Gl X "min" := by rfl) (he : starEach [a, b] X.env = (false, eval a X.env) :: starEach [b] X.env := by rfl) (he2 : starEach [b] X.env = (false, eval b X.env) :: starEach [] X.env := by rfl) (hpl : (backTo pos (starEach [b] X.env)).any (·.1) = false := by rfl) :
    EE X (.Call (.Name "min" p) [a, b] [] pos) σ H (.int (if j < i then j else i)) :=
  ee_callB (c_min2 hc) hg hm boot_min' (fun B1 H1 l l1 vs hv Q q => by
    obtain ⟨v, w, rfl, hx, hy⟩ := ds2 hv
    cases hx
    cases hy
    exact ⟨i, j, rfl, q _ B1 H1 (Up.refl l1) (.int _)⟩) (ea_cons ha (ea_cons hb ea_nil he2) he) (by decide) (by decide) he hpl
theorem ds_rep {vs : List V} {ds : List PyData} (h : Ds K H vs ds) : ∀ n : Nat, Ds K H (List.replicate n vs).flatten (List.replicate n ds).flatten
  | 0 => .nil
  | n + 1 => by
    rw [List.replicate_succ, List.replicate_succ, List.flatten_cons, List.flatten_cons]
    exact h.append (ds_rep h n)
theorem rr_repT {xs : List PyData} {k : Int} (hne : xs ≠ []) (h1 : 2 ≤ k) (h2 : k ≤ 1000) (h3 : xs.length ≤ 1000) : RR K (rRepT K) H (.tuple xs) (.int k) (.tuple (List.replicate k.toNat xs).flatten) := fun B H1 l l1 x y hx hy Q q => by
  cases hy
  cases hx with
  | tup s t h0 =>
    refine ⟨_, k, _, rfl, rfl, sqT_le l1 s, fun e => ?_, h1, h2, by rw [h0.length]; exact h3, fun p hp => q _ _ _ ((Up.refl l1).new hp fun ps z => by cases z) (.new_tup upd_same (ds_rep (Ds.le (Le.new (l1.there p hp)) h0) _))⟩
    subst e
    cases h0
    exact hne rfl
end
end Tk


set_option Elab.async false
set_option linter.all false
set_option maxRecDepth 100000
set_option maxHeartbeats 4000000
/-! L2g: _law_game. -/
namespace Tk
open PySem PySem.Spec PyProof.Rows L2 GxR Gx
variable [LamTab]
theorem EAJ.weak {X : Cx} {D : List Addr} {J : Nat → Hp → Prop} {es : List Expr} {σ : L2.St} {B : Hp} {n : Nat} {RA RB : List PyData → Prop} (h : EAJ X D J es σ B n RA) (k : ∀ ds, RA ds → RB ds) : EAJ X D J es σ B n RB := fun m H1 l ap j Q q => h m H1 l ap j Q fun vs ds B2 H2 u jj dv r => q vs ds B2 H2 u jj dv (k ds r)
end Tk
namespace K0
open PySem PySem.Spec PyProof.Rows L2 GxR Tk
variable [LamTab]
abbrev sLGame : Stmt := top 32
def NG : List Str := ["draw", "most", "wide", "many", "style", "high", "ends", "ranks", "rows", "k"]
theorem scLGame : FnScope NG ["draw", "most", "wide"] (defScope sLGame) := ⟨rfl, rfl, rfl, by decide +kernel, rfl, by decide +kernel, by decide +kernel⟩
theorem ndG : List.Nodup NG := by decide +kernel
/-- a row of a drawn game -/
structure GoodR (n : Nat) (r : Gr) : Prop where
  s : r.1 < 2
  rk : r.2.1 ≤ 301
  g : GoodG n r.2.2
structure GoodGame (R : List Gr) : Prop where
  n1 : 1 ≤ R.length
  n12 : R.length ≤ 12
  row : ∀ r ∈ R, GoodR R.length r
theorem GoodGame.ok {R : List Gr} (h : GoodGame R) : rowsOk R := ⟨fun r hr => (h.row r hr).g.lt, fun r hr => (h.row r hr).g.nd, fun r hr => (h.row r hr).g.ne, Nat.le_trans h.n12 (by decide)⟩
def gameP (ds : List PyData) : Prop := ds = [.int 12, .int 3]
def gameR (ds : List PyData) (r : PyData) : Prop := ∃ R : List Gr, r = gameD R ∧ GoodGame R
def highs : List PyData := [.int 0, .int 0, .int 0, .int 2, .int 290, .int 297]
def endsD : List PyData := [.int 2, .int 3, .int 4, .int 6, .int 6, .int 6]
theorem high_of {x : PyData} (h : x ∈ highs) : ∃ i : Nat, x = .int (i : Int) ∧ i ≤ 297 := by
  unfold highs at h
  simp only [List.mem_cons, List.not_mem_nil, or_false] at h
  rcases h with rfl | rfl | rfl | rfl | rfl | rfl
  · exact ⟨0, rfl, by decide⟩
  · exact ⟨0, rfl, by decide⟩
  · exact ⟨0, rfl, by decide⟩
  · exact ⟨2, rfl, by decide⟩
  · exact ⟨290, rfl, by decide⟩
  · exact ⟨297, rfl, by decide⟩
theorem end_of {i : Int} (h0 : 0 ≤ i) (h1 : i < 6) : ∃ e : Int, atI endsD i = some (.int e) ∧ 2 ≤ e ∧ e ≤ 6 := by
  have : i = 0 ∨ i = 1 ∨ i = 2 ∨ i = 3 ∨ i = 4 ∨ i = 5 := by omega
  rcases this with rfl | rfl | rfl | rfl | rfl | rfl
  · exact ⟨2, rfl, by decide, by decide⟩
  · exact ⟨3, rfl, by decide, by decide⟩
  · exact ⟨4, rfl, by decide, by decide⟩
  · exact ⟨6, rfl, by decide, by decide⟩
  · exact ⟨6, rfl, by decide, by decide⟩
  · exact ⟨6, rfl, by decide, by decide⟩
theorem upto_len (n : Nat) : (upto n).length = n := by unfold upto; rw [List.length_map, List.length_range]
section
variable {P : Program} {w : World} {K : PySem.W.Frag} {mg : Str → Option Value} {base : Heap} {f : Addr} {fd : FuncData} {T : List Addr} {d lw lc : Addr}
theorem ok_lgame (BL : Blt mg) (hmn : mg "min" = none) (hTD : ∀ a ∈ [d, lw, lc], a ∉ T) (Ft : KnTake P w K mg base T d lw lc) (Fp : KnPick P w K mg base T d lw lc) (Fs : KnShuf P w K mg base T d lw lc) (Fg : KnJ P w K mg base 4 "_law_goals" ["draw", "many", "most"] T d lw lc 2 91 lgP lgR) (F : L2.Fun K "_law_game" "_law_game" sLGame f fd) :
    FnOk P w K mg base CX0 5 f fd ["draw", "most", "wide"] (spJ K T [d, lw, lc] (DJ d lw lc) (.ref d) 2 1300 gameP gameR) := by
  refine fn_draw hTD F scLGame rfl fun cdv A outer s H vs B ds m Q E hr hcd t l ap j hd hl hp q => ?_
  cases hp
  obtain ⟨v1, v2, rfl, h1, h2⟩ := ds2 (K := K) hd
  cases h1
  cases h2
  refine wb_cons (ws_tgtJ (m := m + 1250) (n := 3) (tjs := [3, 4, 5]) (pat := patT 3) (R := fun r => ∃ (n : Nat) (sty : Int) (hg : Nat), r = .tuple [.int (n : Int), .int sty, .int (hg : Int)] ∧ 1 ≤ n ∧ n ≤ 12 ∧ 0 ≤ sty ∧ sty < 6 ∧ hg ≤ 297) l ap (cells_DJ.less _ _ _ j (by omega))
    ((ej_tup (n := 1 + (1 + (1 + 0))) cells_DJ (eaj_cons cells_DJ ((ej_op (n1 := 0) (n2 := 1) (Ra := (· = .int 1)) (Rb := fun r => ∃ i : Int, r = .int i ∧ 0 ≤ i ∧ i < 12) (R3 := fun r => ∃ n : Nat, r = .int (n : Int) ∧ 1 ≤ n ∧ n ≤ 12) cells_DJ op_add (rj_of fun d1 d2 e1 e2 => ?_) (ej_pure cells_DJ ee_int rfl) (ej_take Ft hr (by decide) t (i := 0) rfl (ee_var (i := 1) rfl (.int 12)) (by decide) (by decide))).weak cells_DJ (fun _ h => h) (by omega))
      fun B' lb => eaj_cons cells_DJ (ej_take Ft hr (by decide) (t.le lb) (i := 0) rfl ee_int (by decide) (by decide)) fun B3 l3 => eaj_cons cells_DJ (ej_pick (xs := highs) Fp hr (by decide) ((t.le lb).le l3) (i := 0) rfl (ee_lst (ea_cons ee_int (ea_cons ee_int (ea_cons ee_int (ea_cons ee_int (ea_cons ee_int (ea_cons ee_int ea_nil)))))) (by show 6 ≤ sizeLine; decide)) (by decide) (by decide)) fun B' l => eaj_nil) fun ds h => ?_).weak cells_DJ (fun e h => ?_) (by omega))
    (eg_tup rfl (st_cons (st_cons (st_cons st_nil ndG) ndG) ndG)) (fun e ⟨i, _, _, h, _⟩ => by subst h; exact ⟨_, rfl⟩) fun us es e B1 H1 u1 j1 pe re dus => ?_)
  · subst e1
    obtain ⟨i, rfl, i0, i1⟩ := e2
    exact ⟨.int (1 + i), rr_add, (1 + i).toNat, by rw [Int.toNat_of_nonneg (by omega)], by omega, by omega⟩
  · obtain ⟨a, b, rfl, _, c, g, rfl, _, k, z, rfl, _, rfl⟩ := h
    show 3 ≤ sizeLine
    decide
  · obtain ⟨ds, rfl, a, b, rfl, ⟨n, rfl, i0, i1⟩, c, g, rfl, ⟨sty, rfl, s0, s1⟩, k, z, rfl, hk, rfl⟩ := h
    obtain ⟨hg, rfl, hh⟩ := high_of hk
    exact ⟨n, sty, hg, rfl, i0, i1, s0, s1, hh⟩
  obtain ⟨n, sty, hg, rfl, n1, n12, s0, s1, hh⟩ := re
  cases pe
  obtain ⟨x, y, z, rfl, dx, dy, dz⟩ := ds3 (K := K) dus
  cases dx
  cases dy
  cases dz
  have ap1 := u1.apt cells_DJ j ap
  have t1 := t.le u1.b
  refine wb_cons (ws_set (i := 6) (d := .list endsD) u1.s (ee_lst (ea_cons ee_int (ea_cons ee_int (ea_cons ee_int (ea_cons ee_int (ea_cons ee_int (ea_cons ee_int ea_nil)))))) (by show 6 ≤ sizeLine; decide)) (fun ve B2 H2 u2 de => ?_) ndG)
  have ux2 := u1.trans cells_DJ j1 (.of u2)
  have j2 := cells_DJ.le _ _ _ j1 u2.h
  have ap2 := ux2.apt cells_DJ j ap
  have t2 := t.le ux2.b
  refine wb_cons (ws_setJ (i := 7) (m := m + 1110) (n := 90) (R := fun r => ∃ o : List Nat, r = .list (idD o) ∧ o.length = n ∧ ∀ x ∈ o, x < 12) u2.s ap2 (cells_DJ.less _ _ _ j2 (by omega)) (ej_if (k := decide (sty = 0)) cells_DJ (et_cmp op_eq rr_eqI (ee_var (i := 4) rfl (.int _)) ee_int) (fun _ => ?_) fun _ => ?_) (fun vr dr B3 H3 u3 j3 dr' rr => ?_) ndG)
  · refine (ej_shuf (i := 0) Fs hr (by decide) t2 rfl (ee_listRg rfl BL (ee_var (i := 3) rfl (.int _)) (by omega)) (by rw [List.length_range]; omega)).weak cells_DJ (fun e h => ?_) (by omega)
    obtain ⟨ds, rfl, o, rfl, po⟩ := h
    have len := po.length_eq
    rw [List.length_range] at len
    exact ⟨o, rfl, len, fun x hx => by have := List.mem_range.mp (po.mem_iff.mp hx); omega⟩
  · refine (ej_lc (own := [("k", 9)]) (tjs := [9]) (pat := patN) (n1 := 0) (n2 := 1) (k := 12) (RI := (· = upto n)) (RE := fun _ r => ∃ k : Nat, r = .int (k : Int) ∧ k < 6) cells_DJ off_DJ rfl ndG (eij_pure cells_DJ ((ei_range (n := (n : Int)) BL.range (ee_var (i := 3) rfl (.int _)) (by omega) (by omega)))) (fun ds e => ?_) (by decide)
      (blkOk_by (show blkC NG (defScope sLGame) _ [("k", 9)] = true by decide +kernel)) (fun s H C cl fp => eg_name ndG) (fun ds _ d hd => ⟨[d], rfl, rfl⟩) (fun vs hv => ?_) (fun B' ds e es vs lb ri hd he hv s' H' C cl fp => ?_)).weak cells_DJ (fun e h => ?_) (by omega)
    · subst e
      rw [upto_len]
      omega
    · match vs, hv with
      | [a], _ => rfl
    · cases he
      obtain ⟨v, rfl, hx⟩ := ds1 (K := K) hv
      obtain ⟨ee, he1, he2, he3⟩ := end_of s0 s1
      refine (ej_take (X := blkX (cxOf CX0 P w K mg base NG "_law_game" (defScope sLGame) f cdv A outer s H E).nox s' H' _ C cl fp) (many := ee) Ft hr (by decide) (t2.le lb) (i := 0) rfl (ee_ix ix_list (rr_ixL he1) (ee_var (i := 6) rfl (Dt.le lb de)) (ee_var (i := 4) rfl (.int _))) (by omega) (by omega)).weak cells_DJ (fun e h => ?_) (Nat.le_refl _)
      obtain ⟨i, rfl, i0, i1⟩ := h
      exact ⟨i.toNat, by rw [Int.toNat_of_nonneg i0], by omega⟩
    · obtain ⟨ds, rs, rfl, ri, hb⟩ := h
      have hin : ∀ y ∈ rs, ∃ k : Nat, y = .int (k : Int) ∧ k < 6 := fun y hy => by
        obtain ⟨_, _, h⟩ := hb.mem hy
        exact h
      refine ⟨rs.map natD, by rw [← idD_of fun y hy => by obtain ⟨k, e, _⟩ := hin y hy; exact ⟨k, e⟩], ?_, fun x hx => ?_⟩
      · rw [List.length_map, ← hb.length, ri, upto_len]
      · obtain ⟨y, hy, rfl⟩ := List.mem_map.mp hx
        obtain ⟨k, rfl, hk⟩ := hin y hy
        show k < 12
        omega
  obtain ⟨o, rfl, ho, hlt⟩ := rr
  have dr' : Dt K B3 vr (.list (idD o)) := dr'
  have ux3 := ux2.trans cells_DJ j2 u3
  have ap3 := ux3.apt cells_DJ j ap
  have t3 := t.le ux3.b
  refine wb_cons (ws_setLcJ (own := [("k", 9)]) (tjs := [9]) (pat := patN) (i := 8) (n1 := 0) (n2 := 92) (k := 12) (m := m) (RI := (· = upto n)) (RE := fun _ r => ∃ row : Gr, r = rowD row ∧ GoodR n row) u3.s ap3 (cells_DJ.less _ _ _ j3 (by omega)) cells_DJ off_DJ rfl ndG (eij_pure cells_DJ (ei_range (n := (n : Int)) BL.range (ee_var (i := 3) rfl (.int _)) (by omega) (by omega))) (fun ds e => ?_) (by decide)
    (blkOk_by (show blkC NG (defScope sLGame) _ [("k", 9)] = true by decide +kernel)) (fun s H C cl fp => eg_name ndG) (fun ds _ d hd => ⟨[d], rfl, rfl⟩) (fun vs hv => ?_)
    (fun B' ds e es vs lb ri hd he hv s' H' C cl fp => ?_) (fun A acc B4 H4 ds rs hA u4 j4 e1 e2 dv ri rr => ?_) (sw_true rfl rfl rfl (by decide +kernel)))
  · subst e
    rw [upto_len]
    omega
  · match vs, hv with
    | [a], _ => rfl
  · subst ri
    obtain ⟨kk, hk1, rfl⟩ := mem_upto hd
    cases he
    obtain ⟨v, rfl, hx⟩ := ds1 (K := K) hv
    cases hx
    have hk2 : kk < o.length := by omega
    have hat : atI (idD o) (Int.ofNat kk) = some (.int ((o[kk] : Nat) : Int)) := at_id (List.getElem?_eq_getElem hk2)
    have hlt2 := hlt _ (List.getElem_mem hk2)
    refine EJ.weak cells_DJ (ej_tup (n := 1 + (0 + (91 + 0))) cells_DJ (eaj_cons cells_DJ (ej_take Ft hr (by decide) (t3.le lb) (i := 0) rfl ee_int (by decide) (by decide)) fun B3 l3 => eaj_cons cells_DJ (ej_pure (R := (· = .int (if (hg : Int) + ((o[kk] : Nat) : Int) < 301 then (hg : Int) + ((o[kk] : Nat) : Int) else 301))) cells_DJ ?_ rfl) fun B4 l4 =>
      eaj_cons cells_DJ (EJ.weak (Ra := fun r => ∃ gs : List Nat, r = .tuple (idD gs) ∧ GoodG n gs) cells_DJ (ej_call (i := 0) (n1 := 0) (n := 91) (RA := (· = [.int (n : Int), .int 3])) cells_DJ Fg hr (Nat.le_refl _) (((t3.le lb).le l3).le l4) rfl (EAJ.weak (eaj_cons cells_DJ (ej_pure (R := (· = .int (n : Int))) cells_DJ (ee_var (i := 3) rfl (.int _)) rfl) fun B5 l5 => eaj_cons cells_DJ (ej_pure (R := (· = .int 3)) cells_DJ (ee_var (i := 2) rfl (.int 3)) rfl) fun B6 l6 => eaj_nil) fun ds h => by
        obtain ⟨a, b, rfl, rfl, c, g, rfl, rfl, rfl⟩ := h
        rfl) fun ds h => ⟨⟨n, h, n1, n12⟩, by rw [h]; rfl⟩) (fun e h => by
        obtain ⟨ds, e1, n', gs, e2, rfl, g⟩ := h
        rw [e1] at e2
        have : (n : Int) = (n' : Int) := by injection e2 with a b; injection a
        have : n = n' := by omega
        subst this
        exact ⟨gs, rfl, g⟩) (by omega)) fun B5 l5 => eaj_nil) (fun ds h => ?_)) (fun e h => ?_) (by omega)
    · exact ee_min2 rfl hmn ee_int (ee_op op_add rr_add (ee_var (i := 5) rfl (.int _)) (ee_ix ix_list (rr_ixL hat) (ee_var (i := 7) rfl (Dt.le (lb.trans l3) dr')) (ee_var (i := 9) rfl (.int _))))
    · obtain ⟨a, b, rfl, _, c, g, rfl, _, k, z, rfl, _, rfl⟩ := h
      show 3 ≤ sizeLine
      decide
    · obtain ⟨ds, rfl, a, b, rfl, ⟨i, rfl, g1, g2⟩, c, g, rfl, rfl, k, z, rfl, ⟨gs, rfl, gg⟩, rfl⟩ := h
      refine ⟨(i.toNat, min (hg + o[kk]) 301, gs), ?_, ⟨by show i.toNat < 2; omega, Nat.min_le_right _ _, gg⟩⟩
      show PyData.tuple [.int i, .int _, .tuple (idD gs)] = .tuple [.int ((i.toNat : Nat) : Int), .int ((min (hg + o[kk]) 301 : Nat) : Int), .tuple (idD gs)]
      rw [Int.toNat_of_nonneg g1]
      congr 4
      split <;> omega
  · have hlen : rs.length = n := by rw [← rr.length, ri, upto_len]
    have ux := ux3.trans cells_DJ j3 u4
    have hrs : ∀ r ∈ rs, ∃ row : Gr, r = rowD row ∧ GoodR n row := fun r h => by
      obtain ⟨_, _, h⟩ := rr.mem h
      exact h
    have hmap : rs = (rs.map grOf).map rowD := by
      rw [List.map_map]
      refine ((List.map_congr_left fun r hr => ?_).trans (List.map_id rs)).symm
      obtain ⟨row, rfl, _⟩ := hrs r hr
      show rowD (grOf (rowD row)) = rowD row
      rw [grOf_row]
    have hl2 : (rs.map grOf).length = n := by rw [List.length_map, hlen]
    refine wb_one (ws_ret (B := B4) (d := gameD (rs.map grOf)) u4.s ((ee_tup (ea_cons ee_str (ea_cons (ee_tuple BL (ee_var (i := 8) rfl (.new_lst e1 dv))) ea_nil)) (by show 2 ≤ sizeLine; decide)).cast (by unfold gameD; rw [← hmap])) fun v B5 H5 u5 d5 => ?_)
    refine q v _ B5 H5 (ux.trans cells_DJ j4 (.of u5)) (cells_DJ.le _ _ _ j4 u5.h) d5 ⟨rs.map grOf, rfl, by rw [hl2]; exact n1, by rw [hl2]; exact n12, fun r hr => ?_⟩
    obtain ⟨y, hy, rfl⟩ := List.mem_map.mp hr
    obtain ⟨row, rfl, g⟩ := hrs y hy
    rw [hl2, grOf_row]
    exact g
end
end K0


set_option Elab.async false
set_option linter.all false
set_option maxRecDepth 100000
set_option maxHeartbeats 4000000
/-! L3: _law_bad_game, _law_bad_aims, _law_is_tuple. -/
namespace K0
open PySem PySem.Spec PyProof.Rows L2 GxR Tk
variable [LamTab]
abbrev sLBadG : Stmt := top 33
abbrev sLIsT : Stmt := top 34
abbrev sLBadA : Stmt := top 36
def gr (a b c : PyData) : PyData := .tuple [a, b, c]
def oneR : PyData := gr (.int 0) (.int 0) (.tuple [.int 0])
def gm (xs : List PyData) : PyData := .tuple [.str "game", .tuple xs]
def badg1 : List PyData := [.none, .int 5, .str "game", .tuple [], .tuple [.str "game"], gm [], .tuple [.str "games", .tuple [oneR]], .tuple [.str "game", .list [oneR]], .list [.str "game", .tuple [oneR]], gm [oneR, .none]]
def badg2 : List PyData := [gm [gr (.int 0) (.int 0) (.tuple [])], gm [gr (.int 0) (.int 0) (.tuple [.int 1])], gm [gr (.int 0) (.int 0) (.tuple [.int 0, .int 0])], gm [gr (.int 2) (.int 0) (.tuple [.int 0])]]
def badg3 : List PyData := [gm [gr (.int 0) (.int 302) (.tuple [.int 0])], gm [gr (.int 0) (.int (-1)) (.tuple [.int 0])], gm [gr (.bool true) (.int 0) (.tuple [.int 0])], gm [gr (.int 0) (.bool false) (.tuple [.int 0])]]
def badg4 : List PyData := [gm [gr (.int 0) (.int 0) (.list [.int 0])], gm [gr (.int 0) (.int 0) (.tuple [.bool true]), oneR], .tuple [.str "game", .tuple [oneR], .tuple []], gm [.tuple [.int 0, .int 0]]]
def badGs : List PyData := badg1 ++ badg2 ++ badg3 ++ badg4
theorem badGs_ok : badGs.all (fun x => !gameB x && okD x) = true := by decide +kernel
def badAs (n : Nat) : List PyData := [.none, .int 5, .list [.int 0], .tuple [.int (n : Int)], .tuple [.int (-1)], .tuple [.bool true], .tuple [.str "0"], .tuple [.int 0, .int 0], .tuple [.int ((n : Int) - 1), .int (n : Int)], .tuple [.none], .tuple [.tuple [.int 0]]]
theorem badAs_ok {n : Nat} (h0 : 1 ≤ n) (h1 : n ≤ 12) : (badAs n).all (fun x => !numsB x (n : Int) && okD x) = true := by
  have : ∀ n : Nat, n < 13 → 1 ≤ n → (badAs n).all (fun x => !numsB x (n : Int) && okD x) = true := by decide +kernel
  exact this n (by omega) h0
section
variable {P : Program} {w : World} {K : PySem.W.Frag} {mg : Str → Option Value} {base : Heap} {f : Addr} {fd : FuncData} {T : List Addr} {d lw lc : Addr}
theorem scLBadG : FnScope ["draw", "row", "some"] ["draw"] (defScope sLBadG) := ⟨rfl, rfl, rfl, by decide +kernel, rfl, by decide +kernel, by decide +kernel⟩
theorem ndLBadG : List.Nodup (["draw", "row", "some"] : List Str) := by decide +kernel
def badGR (ds : List PyData) (r : PyData) : Prop := r ∈ badGs
theorem ok_lbadG (BL : Blt mg) (hTD : ∀ a ∈ [d, lw, lc], a ∉ T) (Fp : KnPick P w K mg base T d lw lc) (F : L2.Fun K "_law_bad_game" "_law_bad_game" sLBadG f fd) :
    FnOk P w K mg base CX0 4 f fd ["draw"] (spJ K T [d, lw, lc] (DJ d lw lc) (.ref d) 0 1 (· = []) badGR) := by
  refine fn_draw hTD F scLBadG rfl fun cdv A outer s H vs B ds m Q E hr hcd t l ap j hd hl hp q => ?_
  have e0 : vs = [] := List.eq_nil_of_length_eq_zero hl
  subst e0
  refine wb_cons (ws_set (i := 1) (d := oneR) l (ee_tup (ea_cons ee_int (ea_cons ee_int (ea_cons (ee_tup (ea_cons ee_int ea_nil) (by show 1 ≤ sizeLine; decide)) ea_nil))) (by show 3 ≤ sizeLine; decide)) (fun v1 B1 H1 u1 d1 => ?_) ndLBadG)
  refine wb_cons (ws_set (i := 2) (d := .list badg1) u1.s ?_ (fun v2 B2 H2 u2 d2 => ?_) ndLBadG)
  · unfold badg1
    repeat (first | exact ea_nil | exact ee_non | exact ee_int | exact ee_str | exact ee_bl | exact ee_var (i := 1) rfl d1 | refine ee_tup ?_ (by decide) | refine ee_lst ?_ (by decide) | refine ea_cons ?_ ?_)
  refine wb_cons (ws_set (i := 2) (d := .list (badg1 ++ badg2)) u2.s (ee_op op_catL (rr_catL (by decide)) (ee_var (i := 2) rfl d2) ?_) (fun v3 B3 H3 u3 d3 => ?_) ndLBadG)
  · have d1 := Dt.le u2.b d1
    unfold badg2
    repeat (first | exact ea_nil | exact ee_non | exact ee_int | exact ee_str | exact ee_bl | exact ee_var (i := 1) rfl d1 | refine ee_tup ?_ (by decide) | refine ee_lst ?_ (by decide) | refine ea_cons ?_ ?_)
  refine wb_cons (ws_set (i := 2) (d := .list (badg1 ++ badg2 ++ badg3)) u3.s (ee_op op_catL (rr_catL (by decide)) (ee_var (i := 2) rfl d3) ?_) (fun v4 B4 H4 u4 d4 => ?_) ndLBadG)
  · have d1 := Dt.le (u2.b.trans u3.b) d1
    unfold badg3
    repeat (first | exact ea_nil | exact ee_non | exact ee_int | exact ee_str | exact ee_bl | exact ee_neg (i := 1) ee_int | refine ee_tup ?_ (by decide) | refine ee_lst ?_ (by decide) | refine ea_cons ?_ ?_)
  have uu := ((u1.trans u2).trans u3).trans u4
  have ux : UpX [d, lw, lc] B H B4 H4 := .of uu
  have j4 := cells_DJ.le _ _ _ j uu.h
  refine wb_one (ws_retJ (n := 1) (R := badGR []) u4.s (ux.apt cells_DJ j ap) j4 (ej_pick (xs := badGs) Fp hr (Nat.le_refl _) (t.le uu.b) (i := 0) rfl (ee_op op_catL (rr_catL (by decide)) (ee_var (i := 2) rfl d4) ?_) (by decide) (by decide)) fun v e B5 H5 u5 j5 dv r => q v e B5 H5 (ux.trans cells_DJ j4 u5) j5 dv r)
  have d1 := Dt.le ((u2.b.trans u3.b).trans u4.b) d1
  unfold badg4
  repeat (first | exact ea_nil | exact ee_non | exact ee_int | exact ee_str | exact ee_bl | exact ee_var (i := 1) rfl d1 | refine ee_tup ?_ (by decide) | refine ee_lst ?_ (by decide) | refine ea_cons ?_ ?_)
theorem scLBadA : FnScope ["draw", "many"] ["draw", "many"] (defScope sLBadA) := ⟨rfl, rfl, rfl, by decide +kernel, rfl, by decide +kernel, by decide +kernel⟩
def badAP (ds : List PyData) : Prop := ∃ n : Nat, ds = [.int (n : Int)] ∧ 1 ≤ n ∧ n ≤ 12
def badAR (ds : List PyData) (r : PyData) : Prop := ∃ n : Nat, ds = [.int (n : Int)] ∧ r ∈ badAs n
theorem ok_lbadA (BL : Blt mg) (hTD : ∀ a ∈ [d, lw, lc], a ∉ T) (Fp : KnPick P w K mg base T d lw lc) (F : L2.Fun K "_law_bad_aims" "_law_bad_aims" sLBadA f fd) :
    FnOk P w K mg base CX0 4 f fd ["draw", "many"] (spJ K T [d, lw, lc] (DJ d lw lc) (.ref d) 1 1 badAP badAR) := by
  refine fn_draw hTD F scLBadA rfl fun cdv A outer s H vs B ds m Q E hr hcd t l ap j hd hl hp q => ?_
  obtain ⟨n, rfl, n1, n12⟩ := hp
  obtain ⟨v1, rfl, h1⟩ := ds1 (K := K) hd
  cases h1
  refine wb_one (ws_retJ (m := m) (n := 1) (R := fun r => r ∈ badAs n) l ap j (ej_pick (xs := badAs n) Fp hr (Nat.le_refl _) t (i := 0) rfl ?_ (by show 0 < 11; decide) (by show 11 < 1000000; decide)) fun v e B5 H5 u5 j5 dv r => q v e B5 H5 u5 j5 dv ⟨n, rfl, r⟩)
  unfold badAs
  repeat (first | exact ea_nil | exact ee_non | exact ee_int | exact ee_str | exact ee_bl | exact ee_var (i := 1) rfl (.int _) | exact ee_op op_sub rr_sub (ee_var (i := 1) rfl (.int _)) ee_int | exact ee_neg (i := 1) ee_int | refine ee_tup ?_ (by first | (show 1 ≤ sizeLine; decide) | (show 2 ≤ sizeLine; decide)) | refine ee_lst ?_ (by first | (show 1 ≤ sizeLine; decide) | (show 11 ≤ sizeLine; decide)) | refine ea_cons ?_ ?_)
def isTB (d : PyData) (m : Int) : Bool := isTup d && match d with | .tuple xs => decide ((xs.length : Int) = m) | _ => false
def isTF : List PyData → PyData
  | [d, .int m] => .bool (isTB d m)
  | _ => .none
theorem scLIsT : FnScope ["thing", "many"] ["thing", "many"] (defScope sLIsT) := ⟨rfl, rfl, rfl, by decide +kernel, rfl, by decide +kernel, by decide +kernel⟩
theorem ok_lisT (BL : Blt mg) (F : L2.Fun K "_law_is_tuple" "_law_is_tuple" sLIsT f fd) : FnOk P w K mg base CX0 1 f fd ["thing", "many"] (spF K T 2 numP isTF) := by
  refine fn_pure F scLIsT rfl fun cdv A outer s H vs B ds Q E hr hcd t l hd hl hp q => ?_
  obtain ⟨d, m, rfl⟩ := hp
  obtain ⟨v1, v2, rfl, h1, h2⟩ := ds2 hd
  cases h2
  refine wb_one (ws_ret (d := .bool (isTB d m)) l ?_ q)
  refine ee_and (ee_isTup BL (ee_var (i := 0) rfl h1)) fun e1 => ?_
  refine ee_one ?_
  cases d with
  | tuple xs => exact ee_cmp op_eq rr_eqI (ee_len BL (ee_var (i := 0) rfl h1) rfl fun x z => by cases z) (ee_var (i := 1) rfl (.int m))
  | _ => cases e1
end
end K0


set_option Elab.async false
set_option linter.all false
set_option maxRecDepth 100000
set_option maxHeartbeats 8000000
/-! L4: _law_is_drawn. -/
namespace Tk
open PySem PySem.Spec PyProof.Rows L2 GxR K0
variable [LamTab]
def inL (o : List Nat) : List Int := o.map fun k => ((k : Nat) : Int)
theorem iv_inL (o : List Nat) : iv o = (inL o).map V.int := by
  unfold iv inL
  rw [List.map_map]
  rfl
theorem idD_inL (o : List Nat) : idD o = (inL o).map PyData.int := by
  unfold idD inL
  rw [List.map_map]
  rfl
section
variable {X : Cx} {e : Expr} {σ : L2.St} {H : Hp} {o : List Nat} {p pos : Pos}
theorem ds_iv' {K : PySem.W.Frag} {H : Hp} : ∀ {o : List Nat} {vs : List V}, Ds K H vs (idD o) → vs = iv o
  | [], _, .nil => rfl
  | k :: o, _, .cons h t => by
    cases h
    rw [ds_iv' t]
    rfl
theorem boot_min2 : bootBuiltins "min" = some (.builtin "min") := by decide +kernel
theorem boot_max2 : bootBuiltins "max" = some (.builtin "max") := by decide +kernel
theorem ee_minL (hc : X.calm = true) (hm : X.mg "min" = none) (ha : EE X e σ H (.list (idD o))) (hne : o ≠ []) (hg : Gl X "min" := by rfl) (he : starEach [e] X.env = (false, eval e X.env) :: starEach [] X.env := by rfl) : EE X (.Call (.Name "min" p) [e] [] pos) σ H (.int (Mt.lo o : Nat)) :=
  ee_callB (cr_min hc) hg hm boot_min2 (fun B1 H1 l l1 vs hv Q q => by
    obtain ⟨v, rfl, h⟩ := ds1 hv
    cases h with
    | lst s t h0 =>
      have e1 := ds_iv' h0
      subst e1
      refine ⟨_, inL o, rfl, by rw [← iv_inL]; exact sqL_le l1 s, ?_, fun m h1 h2 => ?_⟩
      · unfold inL
        rw [List.length_map]
        exact List.length_pos_iff.mpr hne
      · unfold inL at h1 h2
        obtain ⟨k, k1, rfl⟩ := List.mem_map.mp h1
        have : Mt.lo o = k := Mt.lo_eq k1 fun a ha => by
          have := h2 ((a : Nat) : Int) (List.mem_map.mpr ⟨a, ha, rfl⟩)
          omega
        rw [← this]
        exact q _ B1 H1 (Up.refl l1) (.int _)) (ea_cons ha ea_nil he) (by decide) (by decide) he rfl
theorem ee_maxL (hc : X.calm = true) (hm : X.mg "max" = none) (ha : EE X e σ H (.list (idD o))) (hne : o ≠ []) (hg : Gl X "max" := by rfl) (he : starEach [e] X.env = (false, eval e X.env) :: starEach [] X.env := by rfl) : EE X (.Call (.Name "max" p) [e] [] pos) σ H (.int (Mt.hi o : Nat)) :=
  ee_callB (cr_max hc) hg hm boot_max2 (fun B1 H1 l l1 vs hv Q q => by
    obtain ⟨v, rfl, h⟩ := ds1 hv
    cases h with
    | lst s t h0 =>
      have e1 := ds_iv' h0
      subst e1
      refine ⟨_, inL o, rfl, by rw [← iv_inL]; exact sqL_le l1 s, ?_, fun m h1 h2 => ?_⟩
      · unfold inL
        rw [List.length_map]
        exact List.length_pos_iff.mpr hne
      · unfold inL at h1 h2
        obtain ⟨k, k1, rfl⟩ := List.mem_map.mp h1
        have : Mt.hi o = k := Mt.hi_eq k1 fun a ha => by
          have := h2 ((a : Nat) : Int) (List.mem_map.mpr ⟨a, ha, rfl⟩)
          omega
        rw [← this]
        exact q _ B1 H1 (Up.refl l1) (.int _)) (ea_cons ha ea_nil he) (by decide) (by decide) he rfl
end
end Tk
namespace K0
open PySem PySem.Spec PyProof.Rows L2 GxR Tk
variable [LamTab]
abbrev sLIsD : Stmt := top 35
def NI : List Str := ["game", "side", "aims", "found", "at", "row", "many", "ahead", "told", "due", "goal"]
theorem scLIsD : FnScope NI ["game", "side", "aims", "found"] (defScope sLIsD) := ⟨rfl, rfl, rfl, by decide +kernel, rfl, by decide +kernel, by decide +kernel⟩
theorem ndI : List.Nodup NI := by decide +kernel
def isN : PyData → Bool
  | .none => true
  | _ => false
theorem rr_isnotN {K : PySem.W.Frag} {H : Hp} {o : Option Nat} : RR K (fun x y H Q => y = .non ∧ Q (.bl (!decide (x = .non))) H) H (oD o) .none (.bool o.isSome) := fun B H1 l l1 x y hx hy Q q => by
  cases hy
  refine ⟨rfl, ?_⟩
  cases o with
  | none => cases hx; exact q _ B H1 (Up.refl l1) (.bl _)
  | some k =>
    cases hx
    exact q _ B H1 (Up.refl l1) (.bl _)
theorem any_idD {x : Nat} : ∀ o : List Nat, ((idD o).any fun z => PyData.eqv z (.int (x : Int))) = decide (x ∈ o)
  | [] => by simp [idD]
  | k :: o => by
    have ih := any_idD (x := x) o
    show (PyData.eqv (.int (k : Int)) (.int (x : Int)) || ((idD o).any fun z => PyData.eqv z (.int (x : Int)))) = _
    rw [ih]
    have e : PyData.eqv (.int (k : Int)) (.int (x : Int)) = decide (x = k) := by
      show decide ((k : Int) = (x : Int)) = _
      exact decide_eq_decide.mpr (by omega)
    rw [e, ← Bool.decide_or]
    exact decide_eq_decide.mpr (by rw [List.mem_cons])
theorem told_idD {t : Nat → Option Nat} : ∀ gs : List Nat, (((gs.map fun g => oD (t g)).filter fun d => !isN d).map fun d => d) = idD (gs.filterMap t)
  | [] => rfl
  | g :: gs => by
    have ih := told_idD (t := t) gs
    cases e : t g with
    | none =>
      rw [List.filterMap_cons_none e, List.map_cons, List.filter_cons, e, if_neg (by decide)]
      exact ih
    | some k =>
      rw [List.filterMap_cons_some e, List.map_cons, List.filter_cons, e, if_pos (show (!isN (oD (some k))) = true from rfl), List.map_cons, ih]
      rfl
theorem idD_shaped (o : List Nat) : SeqAt.shaped (.list (idD o)) = true := by rw [idD_inL]; exact ints_shaped _
theorem idD_noDicts (o : List Nat) : noDicts (idD o) = true := by rw [idD_inL]; exact ints_noDicts _
theorem idD_lay (o : List Nat) : SeqAt.shaped (.tuple (idD o)) = true := by
  have := idD_shaped o
  unfold SeqAt.shaped at this ⊢
  simpa [PyData.canLay0, PyData.depth] using this
theorem oD_shaped (o : Option Nat) : SeqAt.shaped (oD o) = true := by cases o <;> rfl
theorem oD_noDict (o : Option Nat) : noDict (oD o) = true := by cases o <;> rfl
theorem oD_eqv (o : Option Nat) : PyData.eqv (oD o) (oD o) = true := by
  cases o with
  | none => rfl
  | some k => show decide ((k : Int) = (k : Int)) = true; exact decide_eq_true rfl
end K0


set_option Elab.async false
set_option linter.all false
set_option maxRecDepth 100000
set_option maxHeartbeats 8000000
/-! L5: _law_is_drawn. -/
namespace K0
open PySem PySem.Spec PyProof.Rows L2 GxR Tk
variable [LamTab]
def isDP (ds : List PyData) : Prop := ∃ (R : List Gr) (sd : Nat) (aims : List Nat) (t : Nat → Option Nat), ds = [gameD R, .int (sd : Int), .tuple (idD aims), .tuple (tD R.length t)] ∧ rowsOk R ∧ (∀ x, x < R.length → t x = Mt.due (sdR R sd) (gsR R) aims t x ∧ ∀ a, t x = some a → a < R.length)
theorem ds4 {K : PySem.W.Frag} {B : Hp} {vs : List V} {a b c e : PyData} (h : Ds K B vs [a, b, c, e]) : ∃ x y z u, vs = [x, y, z, u] ∧ Dt K B x a ∧ Dt K B y b ∧ Dt K B z c ∧ Dt K B u e := by
  cases h with
  | cons h1 t => cases t with
    | cons h2 t => cases t with
      | cons h3 t => cases t with
        | cons h4 t => cases t; exact ⟨_, _, _, _, rfl, h1, h2, h3, h4⟩
theorem tDt_at {n : Nat} {t : Nat → Option Nat} {x : Nat} (h : x < n) : atI (tD n t) (x : Int) = some (oD (t x)) := tD_at h
theorem eqv_idD_nil {o : List Nat} : PyData.eqv (.list (idD o)) (.list []) = decide (o = []) := by
  cases o with
  | nil => rfl
  | cons x o =>
    rw [decide_eq_false (by simp)]
    exact eqv_cons_nil
section
variable {P : Program} {w : World} {K : PySem.W.Frag} {mg : Str → Option Value} {base : Heap} {f : Addr} {fd : FuncData} {T : List Addr} {d lw lc : Addr}
def loopB : List Stmt := match (defBody sLIsD).getD 2 (.Pass ⟨0, 0, 0, 0⟩) with
  | .For _ _ b _ _ => b
  | _ => []
def dueS : Stmt := loopB.getD 2 (.Pass ⟨0, 0, 0, 0⟩)
theorem loop_len : loopB.length = 4 := by decide +kernel
/-- what is due of a row -/
theorem due_ok {cdv : Value} {A : Around} {outer : List Env} {s : Shared} {H0 : Hp} {E : XK} {lv : Nat} (BL : Blt mg) (hmn : mg "min" = none) (hmx : mg "max" = none) (hr : Room lv (A.deeper (envOfC "_law_is_drawn" (defScope sLIsD) s.heap.objs.size f cdv))) {sd i : Nat} {aims gs : List Nat} {r : Gr} {tt : Nat → Option Nat} {o : Option Nat} {v1 v3 v4 y : V} {la lt : Addr} {a6 a9 : Option V} {B H : Hp} {D : L2.Ends}
    (l : Le B H) (h3 : Dt K B v3 (.tuple (idD aims))) (hy : Dt K B y (rowD r)) (hg : r.2.2 = gs) (da : Dt K B (.ref la) (.list (gs.map fun g => oD (tt g)))) (dt : Dt K B (.ref lt) (.list (idD (gs.filterMap tt))))
    (due : o = if i ∈ aims then some 0 else if (decide (r.1 = sd)) = true then (if gs.filterMap tt = [] then none else some (1 + Mt.lo (gs.filterMap tt))) else if (gs.filterMap tt).length < gs.length then none else some (1 + Mt.hi (gs.filterMap tt))) (hne : gs ≠ [])
    (q : ∀ v B5 H5, Up B H B5 H5 → Dt K B5 v (oD o) → D.nx [some v1, some (.int (sd : Int)), some v3, some v4, some (.int (i : Int)), some y, a6, some (.ref la), some (.ref lt), some v, none] H5) :
    WS (cxOf CX0 P w K mg base NI "_law_is_drawn" (defScope sLIsD) f cdv A outer s H0 E).nox dueS D [some v1, some (.int (sd : Int)), some v3, some v4, some (.int (i : Int)), some y, a6, some (.ref la), some (.ref lt), a9, none] H := by
  have hu := hu64 hr
  refine ws_if (B := B) (k := decide (i ∈ aims)) l ((et_cmp (o_inT (hu65 hr)) (rr_inT (d := .int (i : Int)) rfl (idD_noDicts aims) rfl (idD_lay aims)) (ee_var (i := 4) rfl (.int _)) (ee_var (i := 2) rfl h3)).cast (any_idD aims)) (fun e H1 l1 => ?_) fun e H1 l1 => ?_
  · have e := of_decide_eq_true e
    rw [if_pos e] at due
    subst due
    exact wb_one (ws_set (i := 9) (B := B) (d := .int ((0 : Nat) : Int)) (l.trans l1) ee_int (fun v B5 H5 u5 d5 => q v B5 H5 ((Up.le l l1).trans u5) d5) ndI)
  have e := of_decide_eq_false e
  rw [if_neg e] at due
  have l1 := l.trans l1
  refine wb_one (ws_if (B := B) (k := decide (r.1 = sd)) l1 ((et_cmp op_eq rr_eqI (ee_ix ix_tup (rr_ixT at0) (ee_var (i := 5) rfl hy) ee_int) (ee_var (i := 1) rfl (.int _))).cast (decide_eq_decide.mpr (by omega))) (fun e2 H2 l2 => ?_) fun e2 H2 l2 => ?_)
  · rw [e2, if_pos rfl] at due
    refine wb_one (ws_set (i := 9) (B := B) (d := oD o) (l1.trans l2) (ee_if (p := decide (gs.filterMap tt = [])) ((et_cmp (op_eqD hu) (rr_eqD (d := .list (idD (gs.filterMap tt))) (e := .list []) (idD_noDicts _) rfl (idD_shaped _) (by decide)) (ee_var (i := 8) rfl dt) (ee_lst ea_nil (by decide))).cast eqv_idD_nil) (fun e3 => ?_) fun e3 => ?_) (fun v B5 H5 u5 d5 => q v B5 H5 (((Up.le l (by assumption)).tab l2).trans u5) d5) ndI)
    · have e3 := of_decide_eq_true e3
      rw [if_pos e3] at due
      subst due
      exact ee_non
    · have e3 := of_decide_eq_false e3
      rw [if_neg e3] at due
      subst due
      exact (ee_op op_add rr_add ee_int (ee_minL rfl hmn (ee_var (i := 8) rfl dt) e3)).cast (by show PyData.int (1 + ((Mt.lo (gs.filterMap tt) : Nat) : Int)) = .int ((1 + Mt.lo (gs.filterMap tt) : Nat) : Int); congr 1)
  · rw [e2, if_neg (by decide)] at due
    refine wb_one (ws_set (i := 9) (B := B) (d := oD o) (l1.trans l2) (ee_if (p := decide ((gs.filterMap tt).length < gs.length)) ((et_cmp op_lt rr_lt (ee_len BL (ee_var (i := 8) rfl dt) rfl fun x z => by cases z) (ee_len BL (ee_var (i := 7) rfl da) rfl fun x z => by cases z)).cast (decide_eq_decide.mpr (by rw [idD_len, List.length_map]; omega))) (fun e3 => ?_) fun e3 => ?_) (fun v B5 H5 u5 d5 => q v B5 H5 (((Up.le l (by assumption)).tab l2).trans u5) d5) ndI)
    · have e3 := of_decide_eq_true e3
      rw [if_pos e3] at due
      subst due
      exact ee_non
    · have e3 := of_decide_eq_false e3
      rw [if_neg e3] at due
      subst due
      have : gs.filterMap tt ≠ [] := fun z => by
        rw [z] at e3
        exact e3 (List.length_pos_iff.mpr hne)
      exact (ee_op op_add rr_add ee_int (ee_maxL rfl hmx (ee_var (i := 8) rfl dt) this)).cast (by show PyData.int (1 + ((Mt.hi (gs.filterMap tt) : Nat) : Int)) = .int ((1 + Mt.hi (gs.filterMap tt) : Nat) : Int); congr 1)
theorem ok_lisD (BL : Blt mg) (hmn : mg "min" = none) (hmx : mg "max" = none) (Ft : Kn P w K mg base 1 "_law_is_tuple" ["thing", "many"] (spF K T 2 numP isTF)) (Fn : Kn P w K mg base 1 "_law_is_number" ["thing", "end"] (spF K T 2 numP numF)) (F : L2.Fun K "_law_is_drawn" "_law_is_drawn" sLIsD f fd) :
    FnOk P w K mg base CX0 2 f fd ["game", "side", "aims", "found"] (spF K T 4 isDP fun _ => .bool true) := by
  refine fn_pure F scLIsD rfl fun cdv A outer s H vs B ds Q E hr hcd t0 l hd hl hp q => ?_
  obtain ⟨R, sd, aims, t, rfl, hR, hdue⟩ := hp
  obtain ⟨v1, v2, v3, v4, rfl, h1, h2, h3, h4⟩ := ds4 hd
  cases h2
  have hn := hR.n
  have hu := hu64 hr
  have rowsE : ∀ {X : Cx} {σ : L2.St} {B' : Hp} {p1 p2 : Pos} {j : Nat}, True := fun {X σ B' p1 p2 j} => trivial
  refine wb_cons (ws_if (k := false) l ((et_not (et_val (ee_call (f := isTF) (ds := [.tuple (tD R.length t), .int (R.length : Int)]) (d := .bool true) Ft hr (by decide) t0 (ea_cons (ee_var (i := 3) rfl h4) (ea_cons ((ee_len BL (ee_ix ix_tup (rr_ixT (d := .tuple (R.map rowD)) at1) (ee_var (i := 0) rfl h1) ee_int) rfl fun x z => by cases z).cast (by rw [List.length_map])) ea_nil)) ⟨_, _, rfl⟩ (by
    show PyData.bool (true && decide (((tD R.length t).length : Int) = (R.length : Int))) = _
    rw [tD_len, decide_eq_true rfl]; rfl)))).cast rfl) (fun e => by cases e) fun _ H1 l1 => wb_nil ?_)
  have l01 := l.trans l1
  have nk : ∀ {d : PyData} {i : Nat}, (nums 0 (R.map rowD))[i]? = some d → i < R.length ∧ ∀ h : i < R.length, d = .tuple [.int (i : Int), rowD (R[i]'h)] := fun {d i} hd' => by
    rw [nums_get, List.getElem?_map] at hd'
    cases e : R[i]? with
    | none => rw [e] at hd'; cases hd'
    | some r =>
      rw [e] at hd'
      obtain ⟨h, e2⟩ := List.getElem?_eq_some_iff.mp e
      refine ⟨h, fun h' => ?_⟩
      rw [e2]
      have := (Option.some.inj hd').symm
      rw [this]
      show PyData.tuple [.int (Int.ofNat (0 + i)), rowD r] = _
      rw [Nat.zero_add]
      rfl
  refine wb_cons (ws_for (B := B) (ds := nums 0 (R.map rowD)) (tjs := [4, 5]) (pat := patT 2) l01 (ei_enumT BL.enumerate (ee_ix ix_tup (rr_ixT (d := .tuple (R.map rowD)) at1) (ee_var (i := 0) rfl h1) ee_int)) (eg_tup rfl (st_cons (st_cons st_nil ndI) ndI)) (fun d hd => ?_) PassesOwn.never rfl
    (fun i σ' B' H' => ∃ a4 a5 a6, σ' = [some v1, some (.int (sd : Int)), some v3, some v4, a4, a5, a6, none, none, none, none] ∧ Up B H1 B' H')
    (fun B' H' u => ⟨none, none, none, rfl, u⟩) (fun i d es us σ' B' H' B'' H'' hi hd' lb hI u4 hpat dus N hN => ?_) fun σ' B' H' lb ls hI => ?_)
  · obtain ⟨k, hk⟩ := List.getElem?_of_mem hd
    obtain ⟨k1, k2⟩ := nk hk
    rw [k2 k1]
    exact ⟨_, rfl⟩
  · obtain ⟨a4, a5, a6, rfl, uI⟩ := hI
    obtain ⟨k1, k2⟩ := nk hd'
    rw [k2 k1] at hpat
    obtain ⟨e0, _⟩ := patT_some hpat
    cases e0
    obtain ⟨x, y, rfl, hx, hy⟩ := ds2 (K := K) dus
    cases hx
    have lb2 := lb.trans u4.b
    show WB _ _ _ [some v1, some (.int (sd : Int)), some v3, some v4, some (.int (i : Int)), some y, a6, none, none, none, none] H''
    refine wb_cons (ws_set (i := 6) (B := B'') (d := oD (t i)) u4.s (ee_ix ix_tup (rr_ixT (tD_at k1)) (ee_var (i := 3) rfl (Dt.le lb2 h4)) (ee_var (i := 4) rfl (.int _))) (fun vm B3 H3 u3 dm => ?_) ndI)
    have fin : ∀ H4, Le H3 H4 → N [some v1, some (.int (sd : Int)), some v3, some v4, some (.int (i : Int)), some y, some vm, none, none, none, none] H4 := fun H4 l4 => hN _ B3 H4 u3.b (u3.s.trans l4) ⟨_, _, _, rfl, ((uI.trans u4).trans u3).tab l4⟩
    refine wb_one (ws_if (B := B3) (k := false) u3.s (ET.cast (et_w (ew_and (p := (t i).isSome) (q := false) (et_cmp op_notN rr_isnotN (ee_var (i := 6) rfl dm) ee_non) fun e1 => ew_one1 ?_)) ?_) (fun e => by cases e) fun _ H4 l4 => wb_nil (fin H4 l4))
    · obtain ⟨a, ea⟩ := Option.isSome_iff_exists.mp e1
      have hlt := (hdue i k1).2 a ea
      rw [ea] at dm
      refine (et_not (et_val (ee_call (f := numF) (ds := [oD (some a), .int (R.length : Int)]) (d := .bool true) Fn hr (by decide) (t0.le (lb2.trans u3.b)) (ea_cons (ee_var (i := 6) rfl dm) (ea_cons ((ee_len BL (ee_ix ix_tup (rr_ixT (d := .tuple (R.map rowD)) at1) (ee_var (i := 0) rfl (Dt.le (lb2.trans u3.b) h1)) ee_int) rfl fun x z => by cases z).cast (by rw [List.length_map])) ea_nil)) ⟨_, _, rfl⟩ ?_))).cast rfl
      show PyData.bool (true && (true && (decide (0 ≤ (a : Int)) && decide ((a : Int) < (R.length : Int))))) = _
      rw [decide_eq_true (show 0 ≤ (a : Int) by omega), decide_eq_true (show (a : Int) < (R.length : Int) by omega)]
      rfl
    · cases (t i).isSome <;> rfl
  obtain ⟨a4, a5, a6, rfl, uI⟩ := hI
  have lH := lb.trans ls
  refine wb_cons (ws_for (B := B) (ds := nums 0 (R.map rowD)) (tjs := [4, 5]) (pat := patT 2) lH (ei_enumT BL.enumerate (ee_ix ix_tup (rr_ixT (d := .tuple (R.map rowD)) at1) (ee_var (i := 0) rfl h1) ee_int)) (eg_tup rfl (st_cons (st_cons st_nil ndI) ndI)) (fun d hd => ?_) PassesOwn.never rfl
    (fun i σ' B2 H2 => ∃ a4 a5 a6 a7 a8 a9, σ' = [some v1, some (.int (sd : Int)), some v3, some v4, a4, a5, a6, a7, a8, a9, none] ∧ Up B H' B2 H2)
    (fun B2 H2 u => ⟨a4, a5, a6, none, none, none, rfl, u⟩) (fun i d es us σ' B2 H2 B'' H'' hi hd' lb hI u4 hpat dus N hN => ?_) fun σ' B2 H2 lb2 ls2 hI => ?_)
  · obtain ⟨k, hk⟩ := List.getElem?_of_mem hd
    obtain ⟨k1, k2⟩ := nk hk
    rw [k2 k1]
    exact ⟨_, rfl⟩
  · obtain ⟨a4, a5, a6, a7, a8, a9, rfl, uI⟩ := hI
    obtain ⟨k1, k2⟩ := nk hd'
    rw [k2 k1] at hpat
    obtain ⟨e0, _⟩ := patT_some hpat
    cases e0
    obtain ⟨x, y, rfl, hx, hy⟩ := ds2 (K := K) dus
    cases hx
    have lb2 := lb.trans u4.b
    have hri : R[i]? = some R[i] := List.getElem?_eq_getElem k1
    generalize hrE : R[i] = r at hri hy
    have gsr := gsR_at hri
    have hrm : r ∈ R := List.mem_of_getElem? hri
    have glt := hR.lt r hrm
    have glen : r.2.2.length ≤ 1000 := by
      have := Mt.len_le (hR.nd r hrm) glt
      omega
    have hsd : sdR R sd i = decide (r.1 = sd) := by unfold sdR; rw [hri]; rfl
    have due := (hdue i k1).1
    unfold Mt.due Mt.toldOf at due
    rw [gsr, hsd] at due
    show WB _ _ _ [some v1, some (.int (sd : Int)), some v3, some v4, some (.int (i : Int)), some y, a6, a7, a8, a9, none] H''
    refine wb_cons (ws_setLc (own := [("goal", 10)]) (tjs := [10]) (pat := patN) (i := 7) (B := B'') (fun _ => true) (fun d => oD (t (natD d))) u4.s rfl ndI (ei_tup (ee_ix ix_tup (rr_ixT (d := .tuple (idD r.2.2)) at2) (ee_var (i := 5) rfl hy) ee_int)) (blkOk_by (show blkC NI (defScope sLIsD) _ [("goal", 10)] = true by decide +kernel))
      (fun s H C cl fp => eg_name ndI) (fun d hd => ⟨[d], rfl, rfl⟩) (fun vs hv => ?_) (fun B' d es vs lb hd he hv s H C cl fp => ets_nil) (fun B' d es vs lb hd hb he hv s H C cl fp => ?_) (by rw [idD_len]; exact Nat.lt_of_le_of_lt glen (by decide)) (fun la acc B3 H3 hla u3 e3 f3 d3 => ?_) (sw_true rfl rfl rfl (by decide +kernel)))
    · match vs, hv with
      | [a], _ => rfl
    · obtain ⟨k, hk, rfl⟩ := List.mem_map.mp hd
      cases he
      obtain ⟨z, rfl, hz⟩ := ds1 (K := K) hv
      cases hz
      exact ee_ix ix_tup (rr_ixT (tD_at (glt k hk))) (ee_var (i := 3) rfl (Dt.le (lb2.trans lb) h4)) (ee_var (i := 10) rfl (.int _))
    have d3' : Ds K B3 acc (r.2.2.map fun g => oD (t g)) := by
      have e : (((idD r.2.2).filter fun _ => true).map fun d => oD (t (natD d))) = r.2.2.map fun g => oD (t g) := by
        rw [List.filter_eq_self.mpr fun _ _ => rfl]
        unfold idD
        rw [List.map_map]
        exact List.map_congr_left fun a _ => rfl
      rw [e] at d3
      exact d3
    have da : Dt K B3 (.ref la) (.list (r.2.2.map fun g => oD (t g))) := .new_lst e3 d3'
    have lb3 := lb2.trans u3.b
    show WB _ _ _ [some v1, some (.int (sd : Int)), some v3, some v4, some (.int (i : Int)), some y, a6, some (.ref la), a8, a9, none] H3
    refine wb_cons (ws_setLc (own := [("many", 6)]) (tjs := [6]) (pat := patN) (i := 8) (B := B3) (fun d => !isN d) (fun d => d) u3.s rfl ndI (ei_lst (ee_var (i := 7) rfl da)) (blkOk_by (show blkC NI (defScope sLIsD) _ [("many", 6)] = true by decide +kernel))
      (fun s H C cl fp => eg_name ndI) (fun d hd => ⟨[d], rfl, rfl⟩) (fun vs hv => ?_) (fun B' d es vs lb hd he hv s H C cl fp => ?_) (fun B' d es vs lb hd hb he hv s H C cl fp => ?_) (by rw [List.length_map]; exact Nat.lt_of_le_of_lt glen (by decide)) (fun lt acc2 B4 H4 hlt u4' e4 f4 d4 => ?_) (sw_true rfl rfl rfl (by decide +kernel)))
    · match vs, hv with
      | [a], _ => rfl
    · obtain ⟨k, hk, rfl⟩ := List.mem_map.mp hd
      cases he
      obtain ⟨z, rfl, hz⟩ := ds1 (K := K) hv
      refine ets_one ((et_cmp op_notN rr_isnotN (ee_var (i := 6) rfl hz) ee_non).cast ?_)
      cases t k <;> rfl
    · cases he
      obtain ⟨z, rfl, hz⟩ := ds1 (K := K) hv
      exact ee_var (i := 6) rfl hz
    rw [told_idD] at d4
    have dt : Dt K B4 (.ref lt) (.list (idD (r.2.2.filterMap t))) := .new_lst e4 d4
    have lb4 := lb3.trans u4'.b
    have da := Dt.le u4'.b da
    have hy := Dt.le (u3.b.trans u4'.b) hy
    have U := ((uI.trans u4).trans u3).trans u4'
    have tl := List.length_filterMap_le t r.2.2
    show WB _ _ _ [some v1, some (.int (sd : Int)), some v3, some v4, some (.int (i : Int)), some y, a6, some (.ref la), some (.ref lt), a9, none] H4
    refine wb_cons (due_ok (B := B4) (gs := r.2.2) (tt := t) (o := t i) BL hmn hmx hr U.s (Dt.le lb4 h3) hy rfl da dt due (hR.ne r hrm) fun v B5 H5 u5 d5 => ?_)
    have lb5 := lb4.trans u5.b
    refine wb_one (ws_if (B := B5) (k := false) u5.s ((et_cmp (op_neD hu) (rr_neD (oD_noDict _) (oD_noDict _) (oD_shaped _) (oD_shaped _)) (ee_ix ix_tup (rr_ixT (tD_at k1)) (ee_var (i := 3) rfl (Dt.le lb5 h4)) (ee_var (i := 4) rfl (.int _))) (ee_var (i := 9) rfl d5)).cast (by rw [oD_eqv]; rfl)) (fun e => by cases e) fun _ H6 l6 => wb_nil ?_)
    exact hN _ B5 H6 ((u3.b.trans u4'.b).trans u5.b) (u5.s.trans l6) ⟨_, _, _, _, _, _, rfl, (U.trans u5).tab l6⟩
  · obtain ⟨a4, a5, a6, a7, a8, a9, rfl, uI2⟩ := hI
    refine wb_one (ws_ret (B := B2) (d := .bool true) ls2 ee_bl fun v B5 H5 u5 d5 => q v B5 H5 (up_back l1 ((up_back uI.h uI2).trans u5)) d5)
end
end K0


set_option Elab.async false
set_option linter.all false
set_option maxRecDepth 100000
set_option maxHeartbeats 1000000
/-! Tk11: calls with keywords alone. -/
namespace Tk
open PySem PySem.Spec PyProof.Rows L2 GxR Gx
variable [LamTab]
theorem pe_callK0 {X : Cx} {CX : CXT} {k : Nat} {f : Addr} {fd : FuncData} {ps ks : List Str} {sp : Sp} {E : XK} {x : Str} {p pos : Pos} {kws : List Keyword} {tk : TA} {g : List Value → List Value → List Value} {gV : List V → List V → List V}
    (F : FnOk X.prog X.w X.K X.mg X.base CX k f fd ps sp) (hr : Room k X.A) (hg : Gl X x) (hm : X.mg x = some (.ref f)) (hk : PySem.W.keepIn X.K (.ref f) = true) (hb : KBinds X.K fd ps ks g gV) (hx : Passes CX X E)
    (hkw : PK X kws tk) (hall : (backToKw pos (keywordEach kws X.env)).all (·.1.isSome) = true := by rfl) (hks : (backToKw pos (keywordEach kws X.env)).filterMap (·.1) = ks := by rfl)
    (hdb : (x == ("__debug__" : Str)) = false := by decide) (hpl : (backToKw pos (keywordEach kws X.env)).any (·.1.isNone) = false := by rfl) :
    PE X (.Call (.Name x p) [] kws pos) (fun σ H Q => tk σ H fun zs H2 => sp (gV [] zs) H2 Q E) := by
  refine ⟨fun pins s σ H Q I h => ?_⟩
  refine wpAny_Call_Name_kw (ld_glob I hg hm ?_ hdb)
  refine PySem.W.callWith_KW0 (h₀ := X.base) I.ok.mod.kin hk hall (thn (hkw.run pos pins s σ H _ I h) fun ws s2 ⟨zs, H2, I2, rz, q2⟩ => ⟨I2.kIn, ?_⟩) hpl
  rw [hks]
  exact run_fnk F hr hb hx I2 .nil rz q2
/-- f(k = e) of a def that changes nothing -/
theorem ee_callK {X : Cx} {P : Program} {w : World} {K : PySem.W.Frag} {mg : Str → Option Value} {base : Heap} {T : List Addr} {k j : Nat} {x kn : Str} {ps : List Str} {pre : List PyData → Prop} {fF : List PyData → PyData} {f : Addr} {fd : FuncData} {g : List Value → List Value → List Value} {gV : List V → List V → List V} {e : Expr} {σ : L2.St} {H : Hp} {d d1 : PyData} {p pos kpos : Pos}
    (G : FnOk P w K mg base CX0 k f fd ps (spF K T 1 pre fF)) (m1 : mg x = some (.ref f)) (m2 : PySem.W.keepIn K (.ref f) = true) (hb : KBinds K fd ps [kn] g gV) (hgv : ∀ v, gV [] [v] = [v]) (hr : Room j X.A) (hk : k ≤ j) (t : Tbs T H) (ha : EE X e σ H d1) (hp : pre [d1]) (hd : fF [d1] = d)
    (eP : X.prog = P := by rfl) (ew : X.w = w := by rfl) (eK : X.K = K := by rfl) (em : X.mg = mg := by rfl) (eb : X.base = base := by rfl) (hg : Gl X x := by rfl) (hdb : (x == ("__debug__" : Str)) = false := by decide)
    (hall : (backToKw pos (keywordEach [⟨some kn, e, kpos⟩] X.env)).all (·.1.isSome) = true := by rfl) (hks : (backToKw pos (keywordEach [⟨some kn, e, kpos⟩] X.env)).filterMap (·.1) = [kn] := by rfl) (hpl : (backToKw pos (keywordEach [⟨some kn, e, kpos⟩] X.env)).any (·.1.isNone) = false := by rfl) :
    EE X (.Call (.Name x p) [] [⟨some kn, e, kpos⟩] pos) σ H d := fun H1 l Q q => by
  subst hd eP ew eK em eb
  refine ⟨_, pe_callK0 (E := L2.E0) G (hr.mono hk) hg m1 m2 hb pass0 (pk_cons pe_w pk_nil) hall hks hdb hpl, ha H1 l _ fun v B2 H2 u2 dv => ?_⟩
  show spF X.K T 1 pre fF (gV [] [v]) H2 Q E0
  rw [hgv]
  exact ⟨rfl, (t.le l).le u2.h, B2, [d1], u2.s, .cons dv .nil, hp, fun v B3 H3 u3 d3 => q v B3 H3 (u2.trans u3) d3⟩
end Tk


set_option Elab.async false
set_option linter.all false
set_option maxRecDepth 100000
set_option maxHeartbeats 4000000
namespace Tk
open PySem PySem.Spec PyProof.Rows L2 GxR Gx
variable [LamTab]
def rReprD (K : PySem.W.Frag) : List V → Hp → VK → Prop := fun xs H Q => ∃ a d, xs = [V.ref a] ∧ Dp K H (.ref a) d ∧ d.showable = true ∧ d.hasDict = false ∧ d.depth ≤ 60 ∧ d.shown.length ≤ sizeLine ∧ Q (.str d.shown) H
theorem c_reprD {X : Cx} (hg : X.A.guards = some []) (hu : X.A.units + 64 < cLine) : CallR X (.builtin "repr") (rReprD X.K) := by
  intro pins s σ H xs us Q I r h
  obtain ⟨a, d, rfl, hd, h1, h2, h3, h4, q⟩ := h
  obtain ⟨u, rfl, ru⟩ := vals1 r
  obtain rfl : u = Value.ref a := ru
  obtain ⟨as, rd⟩ := Dp.reads I d (.ref a) (.ref a) hd rfl
  exact repr_of_reads' rd h1 (PyData.noDict_hsm h2) hg (by omega) (fun b o e => e) (fun h' u tk hk => ⟨.str d.shown, H, I.kept (t' := tk) hk, ⟨u, rfl⟩, q⟩) h4
/-- what may be shown -/
structure Sh (n k : Nat) (d : PyData) : Prop where
  lv : d.leavesShort 100 = true
  sh : d.showable = true
  nd : d.hasDict = false
  wt : d.weight ≤ n
  dp : d.depth ≤ k
theorem Sh.mono {n k n' k' : Nat} {d : PyData} (h : Sh n k d) (hn : n ≤ n') (hk : k ≤ k') : Sh n' k' d := ⟨h.lv, h.sh, h.nd, Nat.le_trans h.wt hn, Nat.le_trans h.dp hk⟩
theorem Sh.len {n k : Nat} {d : PyData} (h : Sh n k d) : d.shown.length ≤ 102 * n + 100 := by
  have e := PyData.shown_le 100 (by decide) d h.lv
  have := h.wt
  have : 102 * d.weight ≤ 102 * n := Nat.mul_le_mul_left _ this
  omega
theorem sh_all {n k : Nat} : ∀ {xs : List PyData}, (∀ x ∈ xs, Sh n k x) → PyData.leavesShortAll 100 xs = true ∧ PyData.showableAll xs = true ∧ PyData.hasDictAll xs = false ∧ PyData.weightAll xs ≤ (n + 1) * xs.length ∧ PyData.depthAll xs ≤ k
  | [], _ => ⟨rfl, rfl, rfl, Nat.zero_le _, Nat.zero_le _⟩
  | x :: xs, h => by
    obtain ⟨a, b, c, d, e⟩ := sh_all fun y hy => h y (List.mem_cons_of_mem _ hy)
    have hx := h x List.mem_cons_self
    refine ⟨?_, ?_, ?_, ?_, ?_⟩
    · simp only [PyData.leavesShortAll, hx.lv, a, Bool.and_self]
    · simp only [PyData.showableAll, hx.sh, b, Bool.and_self]
    · simp only [PyData.hasDictAll, hx.nd, c, Bool.or_self]
    · have := hx.wt
      simp only [PyData.weightAll, List.length_cons, Nat.mul_succ]
      omega
    · have := hx.dp
      simp only [PyData.depthAll]
      omega
theorem sh_tup {n k m : Nat} {xs : List PyData} (h : ∀ x ∈ xs, Sh n k x) (hm : (n + 1) * xs.length ≤ m) : Sh m (k + 1) (.tuple xs) := by
  obtain ⟨a, b, c, d, e⟩ := sh_all h
  refine ⟨?_, ?_, ?_, ?_, ?_⟩
  · simp only [PyData.leavesShort, a]
  · simp only [PyData.showable, b]
  · simp only [PyData.hasDict, c]
  · simp only [PyData.weight]; omega
  · simp only [PyData.depth]; omega
theorem sh_lst {n k m : Nat} {xs : List PyData} (h : ∀ x ∈ xs, Sh n k x) (hm : (n + 1) * xs.length ≤ m) : Sh m (k + 1) (.list xs) := by
  obtain ⟨a, b, c, d, e⟩ := sh_all h
  refine ⟨?_, ?_, ?_, ?_, ?_⟩
  · simp only [PyData.leavesShort, a]
  · simp only [PyData.showable, b]
  · simp only [PyData.hasDict, c]
  · simp only [PyData.weight]; omega
  · simp only [PyData.depth]; omega
theorem sh_nat {k : Nat} (h : k < 500) : Sh 16 0 (.int (k : Int)) := by
  have : ∀ k : Nat, k < 500 → ((PyData.int (k : Int)).leavesShort 100 && ((PyData.int (k : Int)).showable && (!(PyData.int (k : Int)).hasDict && (decide ((PyData.int (k : Int)).weight ≤ 16) && decide ((PyData.int (k : Int)).depth ≤ 0))))) = true := by decide +kernel
  have h := this k h
  simp only [Bool.and_eq_true, decide_eq_true_eq] at h
  obtain ⟨a, b, c, d, e⟩ := h
  exact ⟨a, b, by simpa using c, d, e⟩
theorem ee_reprD {X : Cx} {e : Expr} {σ : L2.St} {H : Hp} {d : PyData} {n k : Nat} {p pos : Pos} (hgd : X.A.guards = some []) (hu : X.A.units + 64 < cLine) (hm : X.mg "repr" = none) (ha : EE X e σ H d) (s : Sh n k d) (hn : n ≤ 10000) (hk : k ≤ 60) (hnd : noDict d = true) (href : (∃ xs, d = .list xs) ∨ ∃ xs, d = .tuple xs) (hg : Gl X "repr" := by rfl) (he : starEach [e] X.env = (false, eval e X.env) :: starEach [] X.env := by rfl) : EE X (.Call (.Name "repr" p) [e] [] pos) σ H (.str d.shown) :=
  ee_callB (c_reprD hgd hu) hg hm boot_repr' (fun B1 H1 l l1 vs hv Q q => by
    obtain ⟨v, rfl, hx⟩ := ds1 hv
    have hp := Dt.toDp (Dt.le l1 hx) hnd
    have hr : ∃ a, v = .ref a := by
      rcases href with ⟨xs, rfl⟩ | ⟨xs, rfl⟩
      · cases hx; exact ⟨_, rfl⟩
      · cases hx; exact ⟨_, rfl⟩
    obtain ⟨a, rfl⟩ := hr
    exact ⟨a, d, rfl, hp, s.sh, s.nd, Nat.le_trans s.dp hk, Nat.le_trans s.len (Nat.le_trans (show 102 * n + 100 ≤ 1020100 by omega) (by decide)), q _ B1 H1 (Up.refl l1) (.str _)⟩) (ea_cons ha ea_nil he) (by decide) (by decide) he rfl
end Tk
namespace K0
open PySem PySem.Spec PyProof.Rows L2 GxR Tk
variable [LamTab]
mutual
theorem nd_of : ∀ d : PyData, d.hasDict = false → noDict d = true
  | .none, _ => rfl
  | .bool _, _ => rfl
  | .int _, _ => rfl
  | .str _, _ => rfl
  | .list xs, h => nds_of xs (by simpa only [PyData.hasDict] using h)
  | .tuple xs, h => nds_of xs (by simpa only [PyData.hasDict] using h)
  | .dict _, h => by simp only [PyData.hasDict] at h; cases h
theorem nds_of : ∀ xs : List PyData, PyData.hasDictAll xs = false → noDicts xs = true
  | [], _ => rfl
  | x :: xs, h => by
    simp only [PyData.hasDictAll, Bool.or_eq_false_iff] at h
    show (noDict x && noDicts xs) = true
    rw [nd_of x h.1, nds_of xs h.2]
    rfl
end
end K0


set_option Elab.async false
set_option linter.all false
set_option maxRecDepth 100000
set_option maxHeartbeats 4000000
namespace Er
open PySem PySem.Spec PyProof.Rows L2
/-- an error of the class cls stands at a -/
def ErrO (cls : Value) (d : Option Addr) (a : Addr) : HO := .ext fun h => ∃ (oe : Obj) (vs : Array Value), h.get? a = some oe ∧ Zc cls d oe ∧ oe.data = .fields vs
theorem err_ok {P : Program} {w : World} {H : Hp} {h : Heap} {a : Addr} {cls : Value} {d : Option Addr} {oe : Obj} {vs : Array Value} (e : h.get? a = some oe) (z : Zc cls d oe) (hd : oe.data = .fields vs) : ObjOk P w H h a (ErrO cls d a) :=
  ⟨⟨oe, vs, e, z, hd⟩, ⟨oe, e⟩, fun _ _ ⟨o, v, q, r⟩ k => ⟨o, v, k o q, r⟩⟩
section
variable {X : Cx} {pins : List (Addr × Obj)} {σ : L2.St} {H : Hp} {s : Shared} {a : Addr} {oe : Obj}
/-- what was pinned is tracked -/
theorem track (I : L2.Inv X ((a, oe) :: pins) σ H s) (h0 : X.s_0.heap.get? a = none) (np : ∀ p ∈ X.pn ++ pins, p.1 ≠ a) {φ : Heap → Prop} (new : ObjOk X.prog X.w (upd H a (.ext φ)) s.heap a (.ext φ)) : L2.Inv X pins σ (upd H a (.ext φ)) s := by
  obtain ⟨p1, p2, p3, p4, p5⟩ := I.pin (a, oe) (List.mem_append_right _ List.mem_cons_self)
  have off : ∀ {b : Addr} {o : HO}, H b = some o → b ≠ a := fun e z => by
    rw [z] at e
    have p2' : H a = none := p2
    rw [p2'] at e
    cases e
  refine ⟨I.ok, I.os, I.bare, ⟨I.base.keep, I.base.slot, fun b o e n hx => ?_, I.base.there, fun b xs e => ?_, fun b o u e => ?_, fun b ps e => ?_⟩, I.loc, I.cell, ?_, fun x c e => ?_, fun p hp => ?_, fun b u e => ?_, I.len⟩
  · rw [upd_ne fun z => by rw [z, h0] at e; cases e]
    exact I.base.free b o e n hx
  · have q := I.base.tups b xs e
    rw [upd_ne (off q)]
    exact q
  · have q := I.base.frzs b o u e
    rw [upd_ne (off q)]
    exact q
  · obtain ⟨more, q⟩ := I.base.tbls b ps e
    exact ⟨more, by rw [upd_ne (off q)]; exact q⟩
  · rw [upd_ne fun z => p3 z.symm]
    exact I.free
  · obtain ⟨v, o, ho, hd⟩ := I.cell x c e
    rw [upd_ne fun z => by
      rw [z] at ho
      have p1' : s.heap.get? a = some oe := p1
      rw [p1'] at ho
      cases ho
      exact p5 v hd]
    exact I.freeC x c e
  · have hp' : p ∈ X.pn ++ ((a, oe) :: pins) := by
      rcases List.mem_append.mp hp with z | z
      · exact List.mem_append_left _ z
      · exact List.mem_append_right _ (List.mem_cons_of_mem _ z)
    obtain ⟨q1, q2, q3⟩ := I.pin p hp'
    exact ⟨q1, by rw [upd_ne (np p hp)]; exact q2, q3⟩
  · by_cases hb : b = a
    · subst hb
      rw [upd_same] at e
      cases e
      exact new
    · rw [upd_ne hb] at e
      exact (I.hok b u e).stay (fun c v _ q => q) (fun c q => by rw [upd_ne (off q)]; exact q) fun c xs q => by rw [upd_ne (off q)]; exact q
theorem unsuiteP {pn' : List (Addr × Obj)} (I : L2.Inv (X.suite a ((a, oe) :: (X.pn ++ pins))) [] σ H s) (ok : X.Ok) : L2.Inv X ((a, oe) :: pins) σ H s :=
  ⟨ok, I.os, I.bare, I.base, I.loc, I.cell, I.free, I.freeC, fun p hp => I.pin p (by
    rw [List.append_nil]
    rcases List.mem_append.mp hp with z | z
    · exact List.mem_cons_of_mem _ (List.mem_append_left _ z)
    · rcases List.mem_cons.mp z with z | z
      · rw [z]; exact List.mem_cons_self
      · exact List.mem_cons_of_mem _ (List.mem_append_right _ z)), I.hok, I.len⟩
end
end Er


set_option Elab.async false
set_option linter.all false
set_option maxRecDepth 100000
set_option maxHeartbeats 4000000
namespace Er
open PySem PySem.Spec PyProof.Rows L2
section
variable {X : Cx} {x n : Str} {c : Value} {i : Nat} {body : List Stmt} {b₀ : Stmt} {suite : List Stmt} {np pos pos' : Pos} {tb : WX → TS} {ts : Addr → Value → Option Addr → TS} {Wout : WX}
/-- a suite that ends of itself: from then on the error is tracked -/
def wAsT (K : PySem.W.Frag) (c : Value) (i : Nat) (ts : Addr → Value → Option Addr → TS) (Wout : WX) (nn : Nat) (D : Ends) : WX := fun cls d σ H =>
  ∃ b, PySem.W.exmOne K cls c = some b ∧ (b = true → σ.length = nn → ∀ a, H a = none → ts a cls d { nx := fun σ' H' => D.nx (σ'.set i none) (upd H' a (ErrO cls d a)), rt := fun _ _ => False } (σ.set i (some (.ref a))) H) ∧ (b = false → Wout cls d σ H)
theorem ps_try_T (hex : X.ex = []) (hs : X.stack = X.env :: X.outer) (hf : X.env.frame = some X.env.locals) (hN : X.N.Nodup) (hi : X.N[i]? = some n) (hln : X.env.kindOf n = some .local) (hc : Names X x c) (tk : Takes X Wout)
    (hb : ∀ (W : WX) (pn : List (Addr × Obj)) (xe : Value → Shared → Prop), Takes (X.tr pn xe) W → PassesOwn (model X.prog X.w) X.A X.env xe → PSs (X.tr pn xe) body (tb W))
    (hsu : ∀ (a : Addr) (oe : Obj) (cls : Value) (d : Option Addr) (pn : List (Addr × Obj)), PSs (X.suite a ((a, oe) :: pn)) (b₀ :: suite) (ts a cls d)) :
    PS X (.Try body [.ExceptHandler (some (.Name x np)) (some n) (b₀ :: suite) pos'] [] [] pos) (fun D σ H => tb (wAsT X.K c i ts Wout X.N.length D) D σ H) := by
  refine ⟨fun pins s σ H D I h => ?_⟩
  have ok := I.ok
  have hfr : X.A.frames = some (X.env :: X.outer) := by rw [ok.frames, hs]
  refine wpAny_Try_except (wpAny_mono ((hb (wAsT X.K c i ts Wout X.N.length D) (X.pn ++ pins) (fun e s₁ => wpAny (model X.prog X.w) X.A (noteFrame e X.env) (fun _ s₂ => wpAny (model X.prog X.w) X.A (setFlight e none) (fun _ s₃ =>
    wpAny (model X.prog X.w) X.A (handleBy e X.env [.ExceptHandler (some (.Name x np)) (some n) (b₀ :: suite) pos']) (SP X pins D) X.xe s₃) X.xe s₂) X.xe s₁) (fun u s' xx => ?_) PassesOwn.looking).run [] s σ H D (I.toTry _) h) (fun f s1 hsp => ?_) fun e s1 he => he)
  · obtain ⟨a, B, sI, pins', σ', H', cls, d, rfl, J', nb, up, sky, na, os, ag, b, hb1, hyes, hno⟩ := xx
    have J : L2.Inv X pins σ' H' sI := J'.ofTry ok
    have sky' : Sky B (X.env :: X.outer) a (Zc cls d) X.env.locals s'.heap := by rw [← hs]; exact sky
    refine Sky.land Zc.steady hfr hf sky' fun h3 fl3 up3 => ?_
    have J3 : L2.Inv X pins σ' H' { s' with heap := h3 } := J.landed nb fl3.1 (up.trans up3) os ag
    obtain ⟨oe3, vs3, he3, hz3, hd3⟩ := fl3.there
    have nfr : a ∉ frs (X.env :: X.outer) := fun hm => by
      obtain ⟨_, o', e', hnf⟩ := fl3.2.2.1.mem hm
      rw [he3] at e'
      cases e'
      exact hnf _ hd3
    have nL : a ≠ X.env.locals := fun z => nfr (List.mem_filterMap.mpr ⟨X.env, List.mem_cons_self, by rw [hf, z]⟩)
    have nF : a ∉ X.fs := fun hm => by
      obtain ⟨e, he, q⟩ := List.mem_filterMap.mp hm
      exact nfr (List.mem_filterMap.mpr ⟨e, List.mem_cons_of_mem _ he, q⟩)
    have nI : sI.heap.get? a = none := by
      cases e : sI.heap.get? a with
      | none => rfl
      | some o =>
        have q := nb a o e (by rw [hs]; exact nfr)
        have q2 : B.get? a = none := fl3.2.1
        rw [q2] at q
        cases q
    have n0 : X.s_0.heap.get? a = none := by
      cases e : X.s_0.heap.get? a with
      | none => rfl
      | some o =>
        obtain ⟨o', q⟩ := J.base.there a o e (by rw [hex]; exact List.not_mem_nil)
        rw [nI] at q
        cases q
    have npin : ∀ p ∈ X.pn ++ pins, p.1 ≠ a := fun p hp z => by
      have q := (J.pin p hp).1
      rw [z, nI] at q
      cases q
    have S3 := J3.suite he3 hd3 na nL nF
    refine wpAny_handleBy_cons (codeAny_handlers_test ?_) (by intro q; cases q)
    have LT : PySem.W.Looks (model X.prog X.w) h3 (typeOf (.ref a)) cls := fun A Q E s k q => wpAny_typeOf_ref (k _ _ he3) (by rw [hz3.1]; exact q)
    have test : ∀ {Q : Value → Shared → Prop} {E : Value → Shared → Prop}, Q c { s' with heap := h3 } → wpAny (model X.prog X.w) (X.A.mark (some (.ref a))) (eval (.Name x np) X.env) Q E { s' with heap := h3 } := fun {Q E} q => by
      obtain ⟨hg, hdbg, hm | ⟨hm, hv, hnn⟩⟩ := hc
      · exact ld_glob (X := X.suite a ((a, oe3) :: (X.pn ++ pins))) S3 hg hm q hdbg
      · exact ld_blt (X := X.suite a ((a, oe3) :: (X.pn ++ pins))) S3 hg hm hv q hnn hdbg
    refine test ((PySem.W.exm_one (M := model X.prog X.w) J3.kIn LT hb1).here ?_)
    cases b with
    | true =>
      refine codeAny_handlers_suite_as (HandSPX.lands_againZ fl3 fun h4 fl4 up4 => ?_)
      have J4 : L2.Inv X pins σ' H' { s' with heap := h4 } := J.landed nb fl4.1 ((up.trans up3).trans up4) os ag
      obtain ⟨oe4, vs4, he4, hz4, hd4⟩ := fl4.there
      refine store_ok (X := X.suite a ((a, oe4) :: (X.pn ++ pins))) (v := .ref a) (J4.suite he4 hd4 na nL nF) hN hi (.inl hln) rfl (fun s5 S5 => ?_) (.inr hln)
      refine wpAny_mono ((hsu a oe4 cls d (X.pn ++ pins)).run [] s5 _ H' _ S5 (hyes rfl J.len a na)) (fun f s6 hsp => ?_) fun _ _ z => False.elim z
      cases f with
      | next =>
        obtain ⟨σ6, H6, S6, q6⟩ := hsp
        refine gone_ok (unsuiteP (pn' := []) S6 ok) hN hi hln fun s7 J7 => ?_
        have h7 := (J7.pin (a, oe4) (List.mem_append_right _ List.mem_cons_self)).1
        exact ⟨_, _, track J7 n0 npin (err_ok h7 hz4 hd4), q6⟩
      | brk =>
        obtain ⟨_, _, _, q6⟩ := hsp
        exact False.elim q6
      | cont =>
        obtain ⟨_, _, _, q6⟩ := hsp
        exact False.elim q6
      | ret u =>
        obtain ⟨_, _, _, _, _, q6⟩ := hsp
        exact False.elim q6
    | false =>
      show wpAny _ X.A (handleBy (.ref a) X.env []) _ _ _
      refine wpAny_handleBy_nil ?_
      obtain ⟨k1, k2, k3, oe, vs, T, oT, ts', he, hz, hd, h1, hr⟩ := id fl3
      unfold PySem.passOn
      refine wpAny_bind (wpAny_field he hd h1 ?_)
      rw [if_neg (show ¬ ((Value.ref T == Value.none) = true) from by simp)]
      have fin : wpAny (model X.prog X.w) X.A (setFlight (.ref a) X.env.frame) (fun _ s4 => wpAny (model X.prog X.w) X.A (throw (.ref a) : Sem Flow) (SP X pins D) X.xe s4) X.xe { s' with heap := h3 } := by
        rw [hf]
        refine HandSPX.setFlight_upZ fl3 fun h4 hh4 up4 => wpAny_throw (tk _ _ ?_)
        exact ⟨a, B, sI, pins, σ', H', cls, d, rfl, J, nb, (up.trans up3).trans up4, .inr (.inr (by rw [hs]; exact hh4)), na, os, ag, hno rfl⟩
      first
        | exact wpAny_bind (wpAny_pure (wpAny_bind fin))
        | exact wpAny_bind fin
  · cases f with
    | next =>
      obtain ⟨σ', H', J', q⟩ := hsp
      exact wpAny_execs_nil ⟨σ', H', J'.ofTry ok, q⟩
    | brk =>
      obtain ⟨σ', H', J', q⟩ := hsp
      exact ⟨σ', H', J'.ofTry ok, q⟩
    | cont =>
      obtain ⟨σ', H', J', q⟩ := hsp
      exact ⟨σ', H', J'.ofTry ok, q⟩
    | ret u =>
      obtain ⟨v, σ', H', J', r, q⟩ := hsp
      exact ⟨v, σ', H', J'.ofTry ok, r, q⟩
/-- isinstance of an error that is tracked -/
def rIsT (K : PySem.W.Frag) : List V → Hp → VK → Prop := fun xs H Q => ∃ (a D : Addr) (c : V) (cv : Value) (b : Bool), xs = [.ref a, c] ∧ H a = some (ErrO (.ref D) none a) ∧ ExcC K D ∧ (∀ u, RelV c u → u = cv) ∧ PySem.W.kitOne K (.ref D) cv = some b ∧ Q (.bl b) H
theorem call_isT : CallR X (.builtin "isinstance") (rIsT X.K) := by
  intro pins s σ H xs us Q I r h
  obtain ⟨a, D, c, cv, b, rfl, ha, C, hcv, e, q⟩ := h
  cases r with
  | cons rx rr =>
    cases rr with
    | cons rt rr =>
      cases rr
      cases rx
      have ec := hcv _ rt
      subst ec
      obtain ⟨⟨oe, vs, hget, hz, hv⟩, _, _⟩ := I.hok a _ ha
      have J : PySem.W.InstAt s.heap a oe D none := by
        obtain ⟨oc, od, oda, osl⟩ := oe
        obtain ⟨h1, h2⟩ := hz
        dsimp only at h1 h2 hv
        subst h1 h2 hv
        exact ⟨hget, rfl, rfl, trivial⟩
      exact PySem.W.kia_one (PySem.W.handS_kitx_exc C.hg C.hk C.hs C.hd C.ha C.hn C.ht C.hm) I.kIn J e (fun z => nomatch z) fun tk => ⟨.bl b, H, I.kept (t' := tk) fun _ _ z => z, rfl, q⟩
end
end Er


set_option Elab.async false
set_option linter.all false
set_option maxRecDepth 100000
set_option maxHeartbeats 4000000
namespace Er
open PySem PySem.Spec PyProof.Rows L2 LamX
/-- error = None; try: a() / except x as n: error = n; return error -/
def TTcaught (K : PySem.W.Frag) (CB : Addr) : (XK → Hp → VK → Prop) → Hp → VK → Prop := fun tl H Q =>
  tl (fun cls d H' => PySem.W.exmOne K cls (.ref CB) = some true ∧ ∀ a, H' a = none → Q (.ref a) (upd H' a (ErrO cls d a))) H fun _ H' => ∃ v, (some (some V.non) : Option (Option V)) = some (some v) ∧ Q v H'
theorem caught_gives {X : Cx} {x q : Str} {g CB : Addr} {cdg : Value} (hq : x = "_law_caught") (hme : X.mg "BoughError" = some (.ref CB)) (hex : True) :
    GivesTo X ["work", "error", "caught"] x (defScope (K0.top 29)) g cdg (defBody (K0.top 29)) "work" q (TTcaught X.K CB) := by
  subst hq
  intro f c' s H Q tl act hc h
  have nd : List.Nodup (["work", "error", "caught"] : List Str) := by decide +kernel
  refine ⟨_, pss_cons (ps_set (i := 1) nd rfl (Or.inl rfl) pe_non) (pss_cons (ps_try_T (X := (cxOf C8.CX0 X.prog X.w X.K X.mg X.base ["work", "error", "caught"] "_law_caught" (defScope (K0.top 29)) g cdg X.A X.stack s H C8.E0).nox) (i := 2) (c := .ref CB)
      (tb := fun W D σ H => ∃ Ech : XK, (∀ cls d σ' H', Ech cls d H' → W cls d σ' H') ∧ σ[0]? = some (some (.ref f)) ∧ H c' = some (CodeO c' q) ∧ tl Ech H fun _ H' => D.nx σ H')
      rfl rfl rfl nd rfl rfl ⟨rfl, by decide, .inl hme⟩ L2.takes0 (fun W pn xe tk _ => ?_) (fun a oe cls d pn => pss_one (ps_set (i := 1) nd rfl (Or.inl rfl) (pe_var (i := 2) rfl (Or.inl rfl))))) (pss_one (ps_ret (pe_var (i := 1) rfl (Or.inl rfl))))), ?_⟩
  · refine ⟨fun pins s' σ H' D I h' => ?_⟩
    obtain ⟨Ech, hW, h1, h2, h3⟩ := h'
    exact (pss_one (ps_expr (act W pn xe Ech _ _ tk hW))).run pins s' σ H' D I ⟨h1, h2, h3⟩
  · refine ⟨fun cls d H' => PySem.W.exmOne X.K cls (.ref CB) = some true ∧ ∀ a, H' a = none → Q (.ref a) (upd H' a (ErrO cls d a)), fun cls d σ' H' ⟨e1, e2⟩ => ⟨true, e1, fun _ hl a na => ?_, fun z => by cases z⟩, rfl, hc, ?_⟩
    · have hl : σ'.length = 3 := hl
      match σ', hl with
      | [s1, s2, s3], _ => exact ⟨_, rfl, _, rfl, e2 a na⟩
    · exact h
end Er


set_option Elab.async false
set_option linter.all false
set_option maxRecDepth 100000
set_option maxHeartbeats 4000000
namespace Er
open PySem PySem.Spec PyProof.Rows L2 LamX
/-- all but the table at P stays -/
structure Ext1 (P : Addr) (H H1 : Hp) : Prop where
  keep : ∀ b o, b ≠ P → H b = some o → H1 b = some o
  there : ∀ b, H1 b = none → H b = none
theorem Ext1.refl (P : Addr) (H : Hp) : Ext1 P H H := ⟨fun _ _ _ e => e, fun _ e => e⟩
section
variable {X : Cx} {pins : List (Addr × Obj)} {σ : L2.St} {H : Hp} {s : Shared}
theorem lam_make3 {c P : Addr} {params : Arguments} {body : Expr} {scope : Scope} {pos : Pos} {E : Value → Shared → Prop} {Q : Value → Shared → Prop} (I : L2.Inv X pins σ H s) (TB : LamX.TabB X.base X.mg c P) (hcode : X.env.code = .ref c)
    (hT : TabS H P (X.env.qual ++ "<lambda>")) (hdef : defaultsOf params X.env = ([], [])) (hfree : ∀ y ∈ scope.names, y.2 = .free → ∃ c, X.env.cells.lookup y.1 = some c)
    (h : ∀ (f c' : Addr) (pm ctv : Value) (H1 : Hp) (s' : Shared), L2.Inv X pins σ H1 s' → Ext1 P H H1 → TabS H1 P (X.env.qual ++ "<lambda>") →
      s'.heap.get? f = some (PySem.W.kla_obj "<lambda>" (X.env.qual ++ "<lambda>") params body scope (cloFrom X.env.cells scope.names []) pm c' ctv) → H1 f = none → f ∉ frs X.stack → H1 c' = some (CodeO c' (X.env.qual ++ "<lambda>")) → Q (.ref f) s') :
    wpAny (model X.prog X.w) X.A (eval (.Lambda params body scope pos) X.env) Q E s := by
  obtain ⟨ps, hP, ht, ha⟩ := hT
  have bP : s.heap.BuiltinsAt X.mg P := TB.bm.keeps I.bk
  have hP' : s.heap.get? P = some { cls := .none, data := .fields ps } := I.hok P _ hP
  have nofr : ∀ f, s.heap.objs.size ≤ f → f ∉ frs X.stack := fun f hf z => by
    rcases List.mem_cons.mp (I.stkSub _ z) with e | e
    · have h1 := I.lt
      rw [← e] at h1
      exact Nat.lt_irrefl _ (Nat.lt_of_lt_of_le h1 hf)
    · exact I.nofs hf e
  refine PySem.W.kla_eval hdef ?_
  cases hc : codeAmong pos ps.toList with
  | some cv =>
    obtain ⟨c', e, hco⟩ := ha pos cv hc
    subst e
    refine PySem.W.kla_makeFunctionHit (mg := X.mg) (c := c) (P := P) (ps := ps) (closure_ok hfree) I.ok.glob (I.mod.glob.keeps I.bk) hcode (TB.code.keeps I.bk) hP' ht hc bP fun ctv h' tk hx hsz => ?_
    exact h h'.objs.size c' ((X.mg "__name__").getD .none) ctv H _ (I.kept (t' := tk) fun b o e => Heap.get?_push_of_some _ (hx b o e)) (Ext1.refl P H) ⟨ps, hP, ht, ha⟩ (Heap.get?_push_size _ rfl) (I.hok.fresh hsz) (nofr _ hsz) hco
  | none =>
    refine PySem.W.kla_makeFunction (mg := X.mg) (c := c) (P := P) (ps := ps) (closure_ok hfree) I.ok.glob (I.mod.glob.keeps I.bk) hcode (TB.code.keeps I.bk) hP' ht hc TB.gP bP fun c' ctv h' tk hx hge hlt hrec htb => ?_
    obtain ⟨c2, oc, vs, t, e2, hoc, hd, hv⟩ := hrec
    cases e2
    have hsz : s.heap.objs.size ≤ h'.objs.size := Nat.le_trans hge (Nat.le_of_lt hlt)
    have nC : H c' = none := I.hok.fresh hge
    have kept : ∀ b o, b ≠ P → H b = some o → (upd (upd H P (.tbl (ps ++ #[rawInt pos.line, rawInt pos.col, .ref c']))) c' (CodeO c' (X.env.qual ++ "<lambda>"))) b = some o := fun b o hb e => by
      rw [upd_ne (ne_of_none e nC), upd_ne hb]
      exact e
    have offP : ∀ {b : Addr} {q : Str}, H b = some (CodeO b q) → b ≠ P := fun e z => by
      rw [z, hP] at e
      exact codeO_ne ps (Option.some.inj e).symm
    refine h h'.objs.size c' ((X.mg "__name__").getD .none) ctv _ _ (inv_table (t' := tk) (more := #[rawInt pos.line, rawInt pos.col, .ref c']) (h' := h'.push (PySem.W.kla_obj "<lambda>" (X.env.qual ++ "<lambda>") params body scope (cloFrom X.env.cells scope.names []) ((X.mg "__name__").getD .none) c' ctv)) I hP
      (fun b o hb e => Heap.get?_push_of_some _ (hx b o hb e)) (Heap.get?_push_of_some _ htb) hge ⟨oc, vs, t, Heap.get?_push_of_some _ hoc, hd, hv⟩) ⟨kept, fun b e => ?_⟩ ⟨_, by rw [upd_ne (ne_of_none hP nC), upd_same], ?_, fun p' cv hcv => ?_⟩ (Heap.get?_push_size _ rfl) ?_ (nofr _ hsz) upd_same
    · by_cases z : b = c'
      · rw [z, upd_same] at e
        cases e
      · rw [upd_ne z] at e
        by_cases y : b = P
        · rw [y, upd_same] at e
          cases e
        · rw [upd_ne y] at e
          exact e
    · rw [Array.toList_append]
      exact PySem.TriplesOk_snoc _ _ _ _ ht
    · rw [Array.toList_append] at hcv
      rcases among_app _ ht hcv with z | z
      · obtain ⟨c0, e1, e2⟩ := ha p' cv z
        exact ⟨c0, e1, kept _ _ (offP e2) e2⟩
      · exact ⟨c', z, upd_same⟩
    · rw [upd_ne (Nat.ne_of_gt hlt), upd_ne (Nat.ne_of_gt (Nat.lt_of_lt_of_le (Heap.lt_size hP') hsz))]
      exact I.hok.fresh hsz
def tLam1 (P : Addr) (q : Str) (TT : (XK → Hp → VK → Prop) → Hp → VK → Prop) (t : XK → TE) : TE := fun σ H Q => TabS H P q ∧ ∀ H1, Ext1 P H H1 → TabS H1 P q → TT (fun E H' Q' => t E σ H' Q') H1 Q
/-- x(lambda: body) -/
theorem pe_lamcall1 {TT : (XK → Hp → VK → Prop) → Hp → VK → Prop} {x a : Str} {g c P : Addr} {k : Nat} {pg : Arguments} {bg : List Stmt} {sg : Scope} {dV kV doc pm cdv ct oc : Value} {an od : Option Addr} {osl : Array (Option Value)} {Ng : List Str}
    {params : Arguments} {body : Expr} {scope : Scope} {t : XK → TE} {p lpos pos : Pos} (hg : Gl X x) (hm : X.mg x = some (.ref g)) (hk : PySem.W.keepIn X.K (.ref g) = true)
    (lk : X.K.lookup g = some ⟨oc, od, .func (PySem.W.fnOf x x pg bg sg dV kV doc pm an cdv ct), osl⟩) (hcg : PySem.W.codeIn X.K cdv x = true) (hb : L2.Binds X.K (PySem.W.fnOf x x pg bg sg dV kV doc pm an cdv ct) [a] []) (Sg : FnScope Ng [a] sg) (hNg : Ng[0]? = some a) (hva : Vis sg a)
    (hG : GivesTo X Ng x sg g cdv bg a (X.env.qual ++ "<lambda>") TT) (TB : LamX.TabB X.base X.mg c P) (hcode : X.env.code = .ref c) (hr : Room (k + 2) X.A) (L : LamS X.env.scope scope) (hdef : defaultsOf params X.env = ([], []))
    (hbind : ∀ (q : Str) (cl : List (Str × Addr)) (pm cv ctv : Value), bindArgs (PySem.W.kla_fn "<lambda>" q params body scope cl pm cv ctv) ⟨[], []⟩ = pure [])
    (hbody : ∀ (A : Around) (outer : List Env) (s : Shared) (H : Hp) (E : XK) (f c' : Addr), Room k (A.deeper (lamEnv X scope s.heap.objs.size f c')) → PE (lamCx X A outer s H E scope f c') body (t E))
    (hdb : (x == ("__debug__" : Str)) = false := by decide) (hd : (a == ("__debug__" : Str)) = false := by decide) (hcd : (a == ("__classdict__" : Str)) = false := by decide) :
    PE X (.Call (.Name x p) [.Lambda params body scope lpos] [] pos) (tLam1 P (X.env.qual ++ "<lambda>") TT t) := by
  refine ⟨fun pins s σ H Q I h => ?_⟩
  obtain ⟨hT, h⟩ := h
  refine wpAny_Call_Name_kw (ld_glob I hg hm ?_ hdb)
  refine PySem.W.callWith_K (h₀ := X.base) I.ok.mod.kin hk ?_ (by rfl) (by rfl)
  show wpAny _ _ (spliced ((false, eval (.Lambda params body scope lpos) X.env) :: backTo pos (starEach [] X.env))) _ _ s
  refine Calls.spliced_cons (lam_make3 I TB hcode hT hdef (L.has I.ok) fun f c' pm' ctv H1 s' I1 e1 T1 hf hfn hfr hco => Calls.spliced_nil ⟨I1.kIn, ?_⟩)
  have rc : codeAny (model X.prog X.w) X.A (.call (.ref g) ⟨[.ref f], []⟩) (CR C8.CX0 X.stack X.prog X.w H1 s' Q C8.E0) s' := by
    refine run_ofS (N := Ng) (ps := [a]) (us := [.ref f]) (vs := [.ref f]) lk hcg Sg hr I1.env0 (hb s' [.ref f] I1.kIn rfl) (.cons rfl .nil) rfl fun hr' => ?_
    obtain ⟨t', ht', hq'⟩ := hG f c' s' H1 Q (fun E H' Q' => t E σ H' Q') (fun W pn xe E p1 p2 tk hW => pe_act (i := 0) I1 L hf hfn hfr (hbind _ _ _ _ _) tk hW hr' (fun A outer s H hr2 => hbody A outer s H E f c' hr2) hNg hva hd hcd) hco (h H1 e1 T1)
    exact ⟨t', ht'.nox, hq'⟩
  refine wpAny_call (codeAny_mono rc fun r s2 hq => ?_)
  match r, hq with
  | .error e, hq => exact (show False from hq).elim
  | .ok (.ret u), hq => exact I1.after hq
end
end Er


set_option Elab.async false
set_option linter.all false
set_option maxRecDepth 100000
set_option maxHeartbeats 4000000
/-! E5: _law_caught(lambda: drawn(..)), which raises. -/
namespace Er
open PySem PySem.Spec PyProof.Rows L2 LamX GxR Tk
variable [LamTab]
/-- behind it: the table at P and new objects apart all stays -/
structure Lc (P : Addr) (H H3 : Hp) : Prop where
  keep : ∀ b o, b ≠ P → H b = some o → (∀ ps, o = .tbl ps → LamTab.is b) → H3 b = some o
  tab : ∀ P', P' ≠ P → TabG H P' → TabG H3 P'
  there : ∀ b, H3 b = none → H b = none
theorem Ext1.le {P : Addr} {B H H1 : Hp} (l : Le B H) (e : Ext1 P H H1) (hB : B P = none) : Le B H1 :=
  ⟨fun a o q n => e.keep a o (fun z => by rw [z, hB] at q; cases q) (l.keep a o q n), fun P' t => by
    obtain ⟨ps, q, r⟩ := l.tab P' t
    exact ⟨ps, e.keep P' _ (fun z => by
      obtain ⟨ps0, q0, _⟩ := t
      rw [z, hB] at q0
      cases q0) q, r⟩, fun a q => l.there a (e.there a q)⟩
theorem Ext1.tbs {P : Addr} {T : List Addr} {H H1 : Hp} (t : Tbs T H) (e : Ext1 P H H1) (hP : LamTab.is P) : Tbs T H1 := fun P' hP' => by
  obtain ⟨⟨ps, q, r⟩, n⟩ := t P' hP'
  exact ⟨⟨ps, e.keep P' _ (fun z => n (by rw [z]; exact hP)) q, r⟩, n⟩
section
variable {P0 : Program} {w : World} {K : PySem.W.Frag} {mg : Str → Option Value} {base : Heap} {T : List Addr} {C CB CG CS CA : Addr}
/-- it raises C: what it is called of is no game, no side, or no aims -/
def Wrong (CG CS CA C : Addr) (d e a : PyData) : Prop := (K0.gameB d = false ∧ C = CG) ∨ (K0.gameB d = true ∧ K0.sideB e = false ∧ C = CS) ∨ ∃ R, d = K0.gameD R ∧ K0.rowsOk R ∧ K0.gameB d = true ∧ K0.sideB e = true ∧ K0.numsB a (R.length : Int) = false ∧ C = CA
theorem caught_dr {X : Cx} {g c P : Addr} {k : Nat} {pg : Arguments} {dV kV doc pm cdv ct oc : Value} {an od : Option Addr} {osl : Array (Option Value)} {params : Arguments} {scope : Scope} {p lpos pos p3 p6 : Pos} {σ : L2.St} {H : Hp} {d e a : PyData} {f : Addr} {fd : FuncData} {e0 e1 e2 : Expr} {ta : TA} {Q : VK}
    (eP : X.prog = P0) (ew : X.w = w) (eK : X.K = K) (em : X.mg = mg) (eb : X.base = base)
    (hg : Gl X "_law_caught") (hm : X.mg "_law_caught" = some (.ref g)) (hk : PySem.W.keepIn X.K (.ref g) = true)
    (lk : X.K.lookup g = some ⟨oc, od, .func (PySem.W.fnOf "_law_caught" "_law_caught" pg (defBody (K0.top 29)) (defScope (K0.top 29)) dV kV doc pm an cdv ct), osl⟩) (hcg : PySem.W.codeIn X.K cdv "_law_caught" = true) (hb : L2.Binds X.K (PySem.W.fnOf "_law_caught" "_law_caught" pg (defBody (K0.top 29)) (defScope (K0.top 29)) dV kV doc pm an cdv ct) ["work"] [])
    (Sg : FnScope ["work", "error", "caught"] ["work"] (defScope (K0.top 29))) (hme : X.mg "BoughError" = some (.ref CB)) (hex : PySem.W.exmOne X.K (.ref C) (.ref CB) = some true)
    (TB : LamX.TabB X.base X.mg c P) (hcode : X.env.code = .ref c) (hr : Room (k + 2) X.A) (h8 : 8 ≤ k) (L : LamS X.env.scope scope) (hdef : defaultsOf params X.env = ([], []))
    (hbind : ∀ (q : Str) (cl : List (Str × Addr)) (pm cv ctv : Value), bindArgs (PySem.W.kla_fn "<lambda>" q params (.Call (.Name "drawn" p3) [e0, e1, e2] [] p6) scope cl pm cv ctv) ⟨[], []⟩ = pure [])
    (G : FnOk P0 w K mg base (L2.CX P0 w) 8 f fd ["game", "side", "aims"] (K0.spDr K T CG CS CA)) (m1 : mg "drawn" = some (.ref f)) (m2 : PySem.W.keepIn K (.ref f) = true) (bi : Binds K fd ["game", "side", "aims"] [])
    (hlg : scope.names.lookup ("drawn" : Str) = some .globalImplicit)
    (hPA : ∀ (A : Around) (outer : List Env) (s : Shared) (H : Hp) (E : XK) (f2 c' : Addr), PA (lamCx X A outer s H E scope f2 c') [e0, e1, e2] ta)
    (hst : ∀ (A : Around) (outer : List Env) (s : Shared) (H : Hp) (E : XK) (f2 c' : Addr), starEach [e0, e1, e2] (lamCx X A outer s H E scope f2 c').env = (false, eval e0 (lamCx X A outer s H E scope f2 c').env) :: starEach [e1, e2] (lamCx X A outer s H E scope f2 c').env)
    (hpl : ∀ (A : Around) (outer : List Env) (s : Shared) (H : Hp) (E : XK) (f2 c' : Addr), (backTo p6 (starEach [e1, e2] (lamCx X A outer s H E scope f2 c').env)).any (·.1) = false)
    (hta : ∀ H1, Ext1 P H H1 → ∀ Q2 : List V → Hp → Prop, (∀ vs B2 H2, Le H1 H2 → Le B2 H2 → Ds K B2 vs [d, e, a] → Q2 vs H2) → ta σ H1 Q2)
    (okd : okD d = true) (oke : okD e = true) (oka : okD a = true) (hw : Wrong CG CS CA C d e a) (hP : LamTab.is P) (t : Tbs T H) (hT : TabS H P (X.env.qual ++ "<lambda>"))
    (hQ : ∀ a H3, Lc P H H3 → TabS H3 P (X.env.qual ++ "<lambda>") → H3 a = some (ErrO (.ref C) none a) → Q (.ref a) H3) :
    WE X (.Call (.Name "_law_caught" p) [.Lambda params (.Call (.Name "drawn" p3) [e0, e1, e2] [] p6) scope lpos] [] pos) σ H Q := by
  subst eP ew eK em eb
  have hbody : ∀ (A : Around) (outer : List Env) (s : Shared) (H : Hp) (E : XK) (f2 c' : Addr), Room k (A.deeper (lamEnv X scope s.heap.objs.size f2 c')) → PE (lamCx X A outer s H E scope f2 c') (.Call (.Name "drawn" p3) [e0, e1, e2] [] p6) (tCall (K0.spDr X.K T CG CS CA) [] E ta) := fun A outer s H E f2 c' hr2 =>
    pe_call (CX := L2.CX X.prog X.w) (X := lamCx X A outer s H E scope f2 c') (E := E) G (hr2.mono h8) (by exact hlg) m1 m2 bi .nil (passes_call (takes_of rfl rfl rfl rfl) fun _ _ _ _ h => h) (hPA A outer s H E f2 c') (by decide) (hst A outer s H E f2 c') (hpl A outer s H E f2 c')
  refine ⟨_, pe_lamcall1 (TT := TTcaught X.K CB) hg hm hk lk hcg hb Sg rfl (Or.inl rfl) (caught_gives rfl hme trivial) TB hcode hr L hdef hbind hbody, ?_⟩
  refine ⟨hT, fun H1 e1 T1 => ?_⟩
  refine hta H1 e1 _ fun vs B2 H2 l12 lB2 dvs => ?_
  rw [List.append_nil]
  have raised : ∀ H3, Le H1 H3 → PySem.W.exmOne X.K (.ref C) (.ref CB) = some true ∧ ∀ a, H3 a = none → Q (.ref a) (upd H3 a (ErrO (.ref C) none a)) := fun H2 l2 => ⟨hex, fun a ha => hQ a _ ⟨fun b o hb q n => (by
      have q2 := l2.keep b o (e1.keep b o hb q) n
      rw [upd_ne (ne_of_none q2 ha)]
      exact q2), fun P' hP' tg => (by
      obtain ⟨ps, q, r⟩ := tg
      obtain ⟨ps2, q2, r2⟩ := l2.tab P' ⟨ps, e1.keep P' _ hP' q, r⟩
      exact ⟨ps2, by rw [upd_ne (ne_of_none q2 ha)]; exact q2, r2⟩), fun b q => (by
      by_cases z : b = a
      · rw [z, upd_same] at q
        cases q
      · rw [upd_ne z] at q
        exact e1.there b (l2.there b q))⟩ (by
      obtain ⟨ps, q, r, ac⟩ := T1
      have q2 := l2.keep P _ q fun _ _ => hP
      refine ⟨ps, by rw [upd_ne (ne_of_none q2 ha)]; exact q2, r, fun p' cv hc => ?_⟩
      obtain ⟨c0, e0, e2⟩ := ac p' cv hc
      have q3 := l2.keep c0 _ e2 fun ps z => absurd z (codeO_ne ps)
      exact ⟨c0, e0, by rw [upd_ne (ne_of_none q3 ha)]; exact q3⟩) upd_same⟩
  refine ⟨dvs.length, (e1.tbs t hP).le l12, B2, d, e, a, lB2, dvs, okd, oke, oka, fun hf H3 l3 => ?_, fun ht hf H3 l3 => ?_, fun ht hs => ?_⟩
  · rcases hw with ⟨_, rfl⟩ | ⟨z, _, _⟩ | ⟨_, _, _, z, _⟩
    · exact raised H3 (l12.trans l3)
    · rw [hf] at z; cases z
    · rw [hf] at z; cases z
  · rcases hw with ⟨z, _⟩ | ⟨_, _, rfl⟩ | ⟨_, _, _, _, z, _⟩
    · rw [ht] at z; cases z
    · exact raised H3 (l12.trans l3)
    · rw [hf] at z; cases z
  · rcases hw with ⟨z, _⟩ | ⟨_, z, _⟩ | ⟨R, rfl, hR, _, _, hn, rfl⟩
    · rw [ht] at z; cases z
    · rw [hs] at z; cases z
    · exact ⟨R, rfl, hR, fun _ H3 l3 => raised H3 (l12.trans l3), fun z => by rw [hn] at z; cases z⟩
end
end Er


set_option Elab.async false
set_option linter.all false
set_option maxRecDepth 100000
set_option maxHeartbeats 4000000
/-! P0: drawn games are games; calls of drawn by law. -/
namespace K0
open PySem PySem.Spec PyProof.Rows L2 GxR Tk
variable [LamTab]
abbrev sLaw : Stmt := top 37
def NL : List Str := ["script", "draw", "turn", "many", "aims", "found", "bad", "game", "odd", "side", "worst"]
theorem scLaw : FnScope NL ["script"] (defScope sLaw) := ⟨rfl, rfl, rfl, by decide +kernel, rfl, by decide +kernel, by decide +kernel⟩
theorem ndLaw : List.Nodup NL := by decide +kernel
def turnBody : List Stmt := match defBody sLaw with
  | [_, .For _ _ b _ _, _] => b
  | _ => []
theorem turn_len : turnBody.length = 11 := by decide +kernel
theorem numB_nat {k : Nat} {m : Int} (h : (k : Int) < m) : numB (.int (k : Int)) m = true := by
  show (true && (true && (decide (0 ≤ (k : Int)) && decide ((k : Int) < m)))) = true
  rw [decide_eq_true (show 0 ≤ (k : Int) by omega), decide_eq_true h]
  rfl
theorem all_idD {o : List Nat} {n : Nat} (h : ∀ x ∈ o, x < n) : (idD o).all (fun x => numB x (n : Int)) = true := List.all_eq_true.mpr fun x hx => by
  obtain ⟨k, hk, rfl⟩ := List.mem_map.mp hx
  exact numB_nat (by have := h k hk; omega)
theorem intsOf_inL (o : List Nat) : intsOf (idD o) = inL o := by rw [idD_inL, intsOf_map]
theorem inL_nodup {o : List Nat} (h : o.Nodup) : (inL o).Nodup := by
  unfold inL
  exact List.Pairwise.map _ (fun a b hab e => hab (by omega)) h
theorem rowB_of {xs : List PyData} {lo hi : Int} (h1 : lo ≤ (xs.length : Int)) (h2 : (xs.length : Int) ≤ hi) : rowB (.tuple xs) lo hi = true := by
  show (true && (decide (lo ≤ (xs.length : Int)) && decide ((xs.length : Int) ≤ hi))) = true
  rw [decide_eq_true h1, decide_eq_true h2]
  rfl
theorem goalsB_of {n : Nat} {gs : List Nat} (h : GoodG n gs) : goalsB (.tuple (idD gs)) (n : Int) = true := by
  unfold goalsB
  have l3 := h.l3
  have l1 : 0 < gs.length := List.length_pos_iff.mpr h.ne
  have e1 : rowB (.tuple (idD gs)) 1 4000 = true := rowB_of (by rw [idD_len]; omega) (by rw [idD_len]; omega)
  have e2 : tupAll (n : Int) (.tuple (idD gs)) = true := all_idD h.lt
  have e3 : tupOnce (.tuple (idD gs)) = true := decide_eq_true (by rw [intsOf_inL]; exact inL_nodup h.nd)
  rw [e1, e2, e3]
  rfl
theorem growB_of {n : Nat} {r : Gr} (h : GoodR n r) : growB (rowD r) (n : Int) = true := by
  unfold growB
  have e1 : rowB (rowD r) 3 3 = true := rfl
  have e2 : partB (n : Int) (rowD r) = true := by
    show (numB (.int (r.1 : Int)) 2 && numB (.int (r.2.1 : Int)) 302) = true
    have := h.s
    have := h.rk
    rw [numB_nat (by omega), numB_nat (by omega)]
    rfl
  have e3 : partG (n : Int) (rowD r) = true := goalsB_of h.g
  rw [e1, e2, e3]
  rfl
theorem gameB_of {R : List Gr} (h : GoodGame R) : gameB (gameD R) = true := by
  unfold gameB
  have n1 := h.n1
  have n12 := h.n12
  have e1 : headB (gameD R) "game" 2 = true := rfl
  have e2 : gRow1 (gameD R) = true := rowB_of (by rw [List.length_map]; omega) (by rw [List.length_map]; omega)
  have e3 : gBody (gameD R) = true := by
    show ((R.map rowD).all fun x => growB x ((R.map rowD).length : Int)) = true
    rw [List.length_map]
    exact List.all_eq_true.mpr fun x hx => by
      obtain ⟨r, hr, rfl⟩ := List.mem_map.mp hx
      exact growB_of (h.row r hr)
  rw [e1, e2, e3]
  rfl
theorem okD_tupS {xs : List PyData} (h : xs.length ≤ 1000) (k : ∀ x ∈ xs, okD x = true) : okD (.tuple xs) = true := by
  show (decide (xs.length ≤ 100000) && okDs xs) = true
  rw [decide_eq_true (by omega), okDs_of k]
  rfl
theorem okD_game {R : List Gr} (h : GoodGame R) : okD (gameD R) = true := by
  have n12 := h.n12
  refine okD_tupS (by show 2 ≤ 1000; decide) fun x hx => ?_
  simp only [List.mem_cons, List.not_mem_nil, or_false] at hx
  rcases hx with rfl | rfl
  · decide +kernel
  · refine okD_tupS (by rw [List.length_map]; omega) fun y hy => ?_
    obtain ⟨r, hr, rfl⟩ := List.mem_map.mp hy
    refine okD_tupS (by show 3 ≤ 1000; decide) fun z hz => ?_
    simp only [List.mem_cons, List.not_mem_nil, or_false] at hz
    rcases hz with rfl | rfl | rfl
    · rfl
    · rfl
    · refine okD_tupS (by rw [idD_len]; have := (h.row r hr).g.l3; omega) fun u hu => ?_
      obtain ⟨k, _, rfl⟩ := List.mem_map.mp hu
      rfl
/-- ascending numbers -/
structure GoodA (n : Nat) (o : List Nat) : Prop where
  lt : ∀ x ∈ o, x < n
  up : o.Pairwise (· < ·)
theorem GoodA.nd {n : Nat} {o : List Nat} (h : GoodA n o) : o.Nodup := h.up.imp fun h => Nat.ne_of_lt h
theorem GoodA.len {n : Nat} {o : List Nat} (h : GoodA n o) : o.length ≤ n := Mt.len_le h.nd h.lt
theorem numsB_of {n : Nat} {o : List Nat} (h : GoodA n o) : numsB (.tuple (idD o)) (n : Int) = true := by
  unfold numsB
  have e1 : tupAll (n : Int) (.tuple (idD o)) = true := all_idD h.lt
  have e2 : tupAsc (.tuple (idD o)) = true := by
    show ascB (idD o) = true
    unfold ascB
    refine List.all_eq_true.mpr fun d hd => ?_
    obtain ⟨i, hi, rfl⟩ := mem_upto hd
    rw [idD_len] at hi
    have i1 : i < o.length := by omega
    have i2 : i + 1 < o.length := by omega
    have g : ∀ (k : Nat) (hk : k < o.length), (idD o).getD k .none = .int ((o[k] : Nat) : Int) := fun k hk => by
      rw [List.getD_eq_getElem?_getD, idD, List.getElem?_map, List.getElem?_eq_getElem hk]
      rfl
    have a1 : (Int.ofNat i).toNat = i := rfl
    have a2 : (Int.ofNat i + 1 : Int).toNat = i + 1 := rfl
    show ltD ((idD o).getD (Int.ofNat i).toNat .none) ((idD o).getD (Int.ofNat i + 1 : Int).toNat .none) = true
    rw [a1, a2, g i i1, g (i + 1) i2]
    have := List.pairwise_iff_getElem.mp h.up i (i + 1) i1 i2 (by omega)
    exact decide_eq_true (by omega)
  rw [e1, e2]
  rfl
theorem okD_idD {o : List Nat} (h : o.length ≤ 1000) : okD (.tuple (idD o)) = true := okD_tupS (by rw [idD_len]; exact h) fun x hx => (idD_flat x hx).2
/-- what is told is due -/
theorem fin_ok {R : List Gr} {sd : Nat} {aims : List Nat} (h : GoodGame R) (ha : GoodA R.length aims) : ∀ x, x < R.length → (finR R sd aims).t x = Mt.due (sdR R sd) (gsR R) aims (finR R sd aims).t x ∧ ∀ a, (finR R sd aims).t x = some a → a < R.length := fun x hx =>
  Mt.fin_due (n := R.length) (sd := sdR R sd) (gs := gsR R) (aims := aims) (fun y hy => (gsR_in h.ok hy).1) (fun y hy => (gsR_in h.ok hy).2.1) (fun y hy => (gsR_in h.ok hy).2.2) ha.nd ha.lt hx
theorem sh_oD {o : Option Nat} (h : ∀ k, o = some k → k < 500) : Sh 16 0 (oD o) := by
  cases o with
  | none => exact ⟨rfl, rfl, rfl, by decide, by decide⟩
  | some k => exact sh_nat (h k rfl)
theorem sh_drD {R : List Gr} {sd : Nat} {aims : List Nat} (h : GoodGame R) (ha : GoodA R.length aims) : Sh 204 1 (drD R sd aims) := by
  have n12 := h.n12
  refine sh_tup (n := 16) (k := 0) (fun x hx => ?_) (by rw [tD_len]; omega)
  obtain ⟨i, hi, rfl⟩ := List.mem_map.mp hx
  exact sh_oD fun k e => by
    have := (fin_ok h ha i (List.mem_range.mp hi)).2 k e
    omega
end K0


set_option Elab.async false
set_option linter.all false
set_option maxRecDepth 100000
set_option maxHeartbeats 4000000
/-! P1: what law rests on; drawn, called by place and by name. -/
namespace K0
open PySem PySem.Spec PyProof.Rows L2 GxR Tk
variable [LamTab]
/-- by name: aims, side, game -/
def gW : List Value → List Value → List Value := fun us ws => match us, ws with | [], [a, s, g] => [g, s, a] | _, _ => []
def gV : List V → List V → List V := fun us ws => match us, ws with | [], [a, s, g] => [g, s, a] | _, _ => []
section
variable (P : Program) (w : World) (K : PySem.W.Frag) (mg : Str → Option Value) (base : Heap) (T : List Addr) (CG CS CA : Addr)
structure DrAt (f : Addr) (fd : FuncData) : Prop where
  ok : FnOk P w K mg base (L2.CX P w) 8 f fd ["game", "side", "aims"] (spDr K T CG CS CA)
  m : mg "drawn" = some (.ref f)
  k : PySem.W.keepIn K (.ref f) = true
  b : Binds K fd ["game", "side", "aims"] []
  kb : KBinds K fd ["game", "side", "aims"] ["aims", "side", "game"] gW gV
structure Facts : Prop where
  bl : Blt mg
  rp : mg "repr" = none
  mn : mg "min" = none
  so : mg "sorted" = none
  take : ∀ d lw lc, (∀ a ∈ [d, lw, lc], a ∉ T) → lw ≠ lc → KnTake P w K mg base T d lw lc
  pick : ∀ d lw lc, (∀ a ∈ [d, lw, lc], a ∉ T) → lw ≠ lc → KnPick P w K mg base T d lw lc
  shuf : ∀ d lw lc, (∀ a ∈ [d, lw, lc], a ∉ T) → lw ≠ lc → KnShuf P w K mg base T d lw lc
  game : ∀ d lw lc, (∀ a ∈ [d, lw, lc], a ∉ T) → lw ≠ lc → KnJ P w K mg base 5 "_law_game" ["draw", "most", "wide"] T d lw lc 2 1300 gameP gameR
  badG : ∀ d lw lc, (∀ a ∈ [d, lw, lc], a ∉ T) → lw ≠ lc → KnJ P w K mg base 4 "_law_bad_game" ["draw"] T d lw lc 0 1 (· = []) badGR
  badA : ∀ d lw lc, (∀ a ∈ [d, lw, lc], a ∉ T) → lw ≠ lc → KnJ P w K mg base 4 "_law_bad_aims" ["draw", "many"] T d lw lc 1 1 badAP badAR
  isD : Kn P w K mg base 2 "_law_is_drawn" ["game", "side", "aims", "found"] (spF K T 4 isDP fun _ => .bool true)
end
/-- a drawn game, a side, aims -/
structure GSA (R : List Gr) (sd : Nat) (aims : List Nat) : Prop where
  g : GoodGame R
  s : sd < 2
  a : GoodA R.length aims
theorem GSA.alen {R : List Gr} {sd : Nat} {aims : List Nat} (h : GSA R sd aims) : aims.length ≤ 1000 := by
  have := h.a.len
  have := h.g.n12
  omega
section
variable {P : Program} {w : World} {K : PySem.W.Frag} {mg : Str → Option Value} {base : Heap} {T : List Addr} {CG CS CA f : Addr} {fd : FuncData}
theorem dr_pre {R : List Gr} {sd : Nat} {aims : List Nat} (g : GSA R sd aims) {B H : Hp} {v1 v2 v3 : V} (t : Tbs T H) (l : Le B H) (h1 : Dt K B v1 (gameD R)) (h2 : Dt K B v2 (.int (sd : Int))) (h3 : Dt K B v3 (.tuple (idD aims))) {Q : VK} {E : XK} (q : ∀ v B' H', Up B H B' H' → Dt K B' v (drD R sd aims) → Q v H') : spDr K T CG CS CA [v1, v2, v3] H Q E := by
  have e1 := gameB_of g.g
  have e2 : sideB (.int (sd : Int)) = true := numB_nat (by have := g.s; omega)
  refine ⟨rfl, t, B, _, _, _, l, .cons h1 (.cons h2 (.cons h3 .nil)), okD_game g.g, rfl, okD_idD g.alen, (fun z => by rw [e1] at z; cases z), (fun _ z => by rw [e2] at z; cases z), fun _ _ => ⟨R, rfl, g.g.ok, (fun z => by rw [numsB_of g.a] at z; cases z), fun _ => ⟨sd, aims, rfl, rfl, g.a.nd, g.a.lt, q⟩⟩⟩
theorem ee_dr {X : Cx} {a b c : Expr} {σ : L2.St} {H : Hp} {R : List Gr} {sd : Nat} {aims : List Nat} {p pos : Pos} {j : Nat} (G : DrAt P w K mg base T CG CS CA f fd) (hr : Room j X.A) (hk : 8 ≤ j) (t : Tbs T H) (g : GSA R sd aims) (ha : EE X a σ H (gameD R)) (hb : EE X b σ H (.int (sd : Int))) (hc : EE X c σ H (.tuple (idD aims)))
    (eP : X.prog = P := by rfl) (ew : X.w = w := by rfl) (eK : X.K = K := by rfl) (em : X.mg = mg := by rfl) (eb : X.base = base := by rfl) (hg : Gl X "drawn" := by rfl)
    (he : starEach [a, b, c] X.env = (false, eval a X.env) :: starEach [b, c] X.env := by rfl) (he2 : starEach [b, c] X.env = (false, eval b X.env) :: starEach [c] X.env := by rfl) (he3 : starEach [c] X.env = (false, eval c X.env) :: starEach [] X.env := by rfl) (hpl : (backTo pos (starEach [b, c] X.env)).any (·.1) = false := by rfl) : EE X (.Call (.Name "drawn" p) [a, b, c] [] pos) σ H (drD R sd aims) := fun H1 l Q q => by
  subst eP ew eK em eb
  refine ⟨_, pe_call (E := fun _ _ _ => False) G.ok (hr.mono hk) hg G.m G.k G.b .nil (passes_call takes0 fun _ _ _ _ h => h) (pa_cons pe_w (pa_cons pe_w (pa_cons pe_w pa_nil he3) he2) he) (by decide) he hpl, ha H1 l _ fun v B2 H2 u2 dv => hb.mono u2.b H2 u2.s _ fun v2 B3 H3 u3 dv2 => hc.mono (u2.b.trans u3.b) H3 u3.s _ fun v3 B4 H4 u4 dv3 => ?_⟩
  have u := (u2.trans u3).trans u4
  exact (dr_pre (CG := CG) (CS := CS) (CA := CA) (E := fun _ _ _ => False) g ((t.le l).le u.h) u.s (Dt.le (u3.b.trans u4.b) dv) (Dt.le u4.b dv2) dv3 fun v B5 H5 u5 d5 => q v B5 H5 (u.trans u5) d5 : spDr X.K T CG CS CA [v, v2, v3] H4 Q fun _ _ _ => False)
theorem ee_drK {X : Cx} {a b c : Expr} {σ : L2.St} {H : Hp} {R : List Gr} {sd : Nat} {aims : List Nat} {p pos k1 k2 k3 : Pos} {j : Nat} (G : DrAt P w K mg base T CG CS CA f fd) (hr : Room j X.A) (hk : 8 ≤ j) (t : Tbs T H) (g : GSA R sd aims) (ha : EE X a σ H (.tuple (idD aims))) (hb : EE X b σ H (.int (sd : Int))) (hc : EE X c σ H (gameD R))
    (eP : X.prog = P := by rfl) (ew : X.w = w := by rfl) (eK : X.K = K := by rfl) (em : X.mg = mg := by rfl) (eb : X.base = base := by rfl) (hg : Gl X "drawn" := by rfl)
    (hall : (backToKw pos (keywordEach [⟨some "aims", a, k1⟩, ⟨some "side", b, k2⟩, ⟨some "game", c, k3⟩] X.env)).all (·.1.isSome) = true := by rfl) (hks : (backToKw pos (keywordEach [⟨some "aims", a, k1⟩, ⟨some "side", b, k2⟩, ⟨some "game", c, k3⟩] X.env)).filterMap (·.1) = (["aims", "side", "game"] : List Str) := by rfl) (hpl : (backToKw pos (keywordEach [⟨some "aims", a, k1⟩, ⟨some "side", b, k2⟩, ⟨some "game", c, k3⟩] X.env)).any (·.1.isNone) = false := by rfl) :
    EE X (.Call (.Name "drawn" p) [] [⟨some "aims", a, k1⟩, ⟨some "side", b, k2⟩, ⟨some "game", c, k3⟩] pos) σ H (drD R sd aims) := fun H1 l Q q => by
  subst eP ew eK em eb
  refine ⟨_, pe_callK0 (E := fun _ _ _ => False) G.ok (hr.mono hk) hg G.m G.k G.kb (passes_call takes0 fun _ _ _ _ h => h) (pk_cons pe_w (pk_cons pe_w (pk_cons pe_w pk_nil))) hall hks (by decide) hpl, ha H1 l _ fun v B2 H2 u2 dv => hb.mono u2.b H2 u2.s _ fun v2 B3 H3 u3 dv2 => hc.mono (u2.b.trans u3.b) H3 u3.s _ fun v3 B4 H4 u4 dv3 => ?_⟩
  have u := (u2.trans u3).trans u4
  exact (dr_pre (CG := CG) (CS := CS) (CA := CA) (E := fun _ _ _ => False) g ((t.le l).le u.h) u.s dv3 (Dt.le u4.b dv2) (Dt.le (u3.b.trans u4.b) dv) fun v B5 H5 u5 d5 => q v B5 H5 (u.trans u5) d5 : spDr X.K T CG CS CA [v3, v2, v] H4 Q fun _ _ _ => False)
/-- sorted of numbers -/
theorem rcj_sortedI {B : Hp} {n : Nat} : RCJ K (rSorted K) B (fun d => ∃ o : List Nat, d = .list (idD o) ∧ o.Nodup ∧ (∀ x ∈ o, x < n) ∧ o.length < 64) (fun d => ∃ o : List Nat, d = .list (idD o) ∧ GoodA n o) := fun B1 H1 l l1 x d dx rd Q q => by
  obtain ⟨o, rfl, nd, lt, hl⟩ := rd
  cases dx with
  | lst s t h0 =>
    have e := ds_iv' h0
    subst e
    refine ⟨_, inL o, rfl, by rw [← iv_inL]; exact sqL_le l1 s, by unfold inL; rw [List.length_map]; exact hl, fun ns p pm so hp => ?_⟩
    have ein : ∀ y ∈ ns, ∃ k : Nat, y = (k : Int) ∧ k ∈ o := fun y hy => by
      obtain ⟨k, hk, e⟩ := List.mem_map.mp (pm.mem_iff.mp hy)
      exact ⟨k, e.symm, hk⟩
    have emap : ns = inL (ns.map Int.toNat) := by
      unfold inL
      rw [List.map_map]
      refine ((List.map_congr_left fun y hy => ?_).trans (List.map_id ns)).symm
      obtain ⟨k, rfl, _⟩ := ein y hy
      rfl
    have po : (ns.map Int.toNat).Perm o := by
      have := pm.map Int.toNat
      have e2 : (inL o).map Int.toNat = o := by
        unfold inL
        rw [List.map_map]
        exact (List.map_congr_left fun a _ => rfl).trans (List.map_id o)
      rw [e2] at this
      exact this
    generalize hO : ns.map Int.toNat = o2 at emap po
    rw [emap, ← iv_inL]
    rw [emap] at so
    refine q _ _ _ _ ((Up.refl l1).new hp fun ps z => by cases z) (.new_lst upd_same (ds_iv o2)) ⟨o2, rfl, fun x hx => lt x (po.mem_iff.mp hx), ?_⟩
    have nd2 : o2.Nodup := po.nodup_iff.mpr nd
    have so2 : o2.Pairwise (· ≤ ·) := by
      unfold inL at so
      exact (List.pairwise_map.mp so).imp fun h => by omega
    exact (so2.and nd2).imp fun ⟨h1, h2⟩ => by omega
end
end K0


set_option Elab.async false
set_option linter.all false
set_option maxRecDepth 100000
set_option maxHeartbeats 4000000
namespace K0
open PySem PySem.Spec PyProof.Rows L2 GxR Tk
variable [LamTab]
section
variable (P : Program) (w : World) (K : PySem.W.Frag) (mg : Str → Option Value) (base : Heap) (CG CS CA cL PL : Addr)
/-- a class of errors, as law knows it -/
structure ErrC (x : Str) (C : Addr) : Prop where
  m : mg x = some (.ref C)
  exc : ExcC K C
  kit : PySem.W.kitOne K (.ref C) (.ref C) = some true
  ex : ∃ CB, mg "BoughError" = some (.ref CB) ∧ PySem.W.exmOne K (.ref C) (.ref CB) = some true
structure FactsC : Prop where
  caught : ∃ g fd, L2.Fun K "_law_caught" "_law_caught" (top 29) g fd ∧ mg "_law_caught" = some (.ref g) ∧ Binds K fd ["work"] []
  cg : ErrC K mg "BadGame" CG
  cs : ErrC K mg "BadSide" CS
  ca : ErrC K mg "BadAims" CA
  tb : LamX.TabB base mg cL PL
  is : LamTab.is PL
end
section
variable {P : Program} {w : World} {K : PySem.W.Frag} {mg : Str → Option Value} {base : Heap} {T : List Addr} {f C cL PL : Addr} {qn : Str}
def lamQ : Str := "law.<locals>.<lambda>"
theorem scCaught : FnScope ["work", "error", "caught"] ["work"] (defScope (top 29)) := ⟨rfl, rfl, rfl, by decide +kernel, rfl, by decide +kernel, by decide +kernel⟩
theorem lc_le {B H H3 : Hp} (l : Le B H) (c : Er.Lc PL H H3) (hB : B PL = none) : Le B H3 :=
  ⟨fun a o q n => c.keep a o (fun z => by rw [z, hB] at q; cases q) (l.keep a o q n) n, fun P' t => c.tab P' (fun z => by
    obtain ⟨ps, q, _⟩ := t
    rw [z, hB] at q
    cases q) (l.tab P' t), fun a q => l.there a (c.there a q)⟩
theorem lc_dj {d lw lc : Addr} {n : Nat} {H H3 : Hp} (j : DJ d lw lc n H) (c : Er.Lc PL H H3) (hT : LamX.TabS H PL qn) : DJ d lw lc n H3 := by
  obtain ⟨ws, cs, r, t, h1, h2, h3, h4, h5⟩ := j
  obtain ⟨ps, q, _⟩ := hT
  have off : ∀ {b : Addr} {o : HO}, H b = some o → (∀ ps, o ≠ .tbl ps) → b ≠ PL := fun e n z => by
    rw [z, q] at e
    exact n ps (Option.some.inj e).symm
  exact ⟨ws, cs, r, t, c.keep _ _ (off h1 fun _ z => by cases z) h1 (fun _ z => by cases z), c.keep _ _ (off h2 fun _ z => by cases z) h2 (fun _ z => by cases z), c.keep _ _ (off h3 fun _ z => by cases z) h3 (fun _ z => by cases z), h4, h5⟩
theorem tabS_le {H H2 : Hp} {qn : Str} (x : Le H H2) (hP : LamTab.is PL) (h : LamX.TabS H PL qn) : LamX.TabS H2 PL qn := by
  obtain ⟨ps, q, r, ac⟩ := h
  refine ⟨ps, x.keep PL _ q fun _ _ => hP, r, fun p cv hc => ?_⟩
  obtain ⟨c, e1, e2⟩ := ac p cv hc
  exact ⟨c, e1, x.keep c _ e2 fun ps z => absurd z (LamX.codeO_ne ps)⟩
theorem upx_pl {D : List Addr} {B H B2 H2 : Hp} {qn : Str} (u : UpX D B H B2 H2) (hB : B PL = none) (hT : LamX.TabS H PL qn) (hP : LamTab.is PL) : B2 PL = none := by
  cases q : B2 PL with
  | none => rfl
  | some o =>
    rcases u.n PL (by rw [q]; simp) with z | z | ⟨_, z⟩
    · exact absurd hB z
    · obtain ⟨ps, e, _⟩ := hT
      rw [e] at z
      cases z
    · exact absurd hP z
theorem tabS_lex {d lw lc : Addr} {n : Nat} {H H2 : Hp} {PL : Addr} {qn : Str} (x : LeX [d, lw, lc] H H2) (jj : DJ d lw lc n H) (hP : LamTab.is PL) (h : LamX.TabS H PL qn) : LamX.TabS H2 PL qn := by
  obtain ⟨ps, q, r, ac⟩ := h
  obtain ⟨ws, cs, rr, t, h1, h2, h3, _⟩ := jj
  have off : ∀ {b : Addr} {o : HO}, H b = some o → (∀ kvs, o ≠ .dK kvs) → (∀ xs, o ≠ .lst xs) → b ∉ [d, lw, lc] := fun {b o} e n1 n2 hb => by
    rcases List.mem_cons.mp hb with z | z
    · rw [z, h1] at e; exact n1 _ (Option.some.inj e).symm
    rcases List.mem_cons.mp z with z | z
    · rw [z, h2] at e; exact n2 _ (Option.some.inj e).symm
    · rw [List.mem_singleton.mp z, h3] at e; exact n2 _ (Option.some.inj e).symm
  refine ⟨ps, x.keep PL _ (off q (fun _ z => by cases z) fun _ z => by cases z) q fun _ _ => hP, r, fun p cv hc => ?_⟩
  obtain ⟨c, e1, e2⟩ := ac p cv hc
  exact ⟨c, e1, x.keep c _ (off e2 (fun _ z => by unfold LamX.CodeO at z; cases z) fun _ z => by unfold LamX.CodeO at z; cases z) e2 fun ps z => absurd z (LamX.codeO_ne ps)⟩
theorem not_caught {X : Cx} {σ : L2.St} {H : Hp} {x : Str} {c : Expr} {p p2 pos pos2 : Pos} {Q : Bool → Hp → Prop} (BL : Blt mg) (G : ErrC K mg x C) (em : X.mg = mg) (eK : X.K = K)
    (hcall : ∀ Q : VK, (∀ a H3, Er.Lc PL H H3 → LamX.TabS H3 PL qn → H3 a = some (Er.ErrO (.ref C) none a) → Q (.ref a) H3) → WE X c σ H Q) (q : ∀ H3, Er.Lc PL H H3 → LamX.TabS H3 PL qn → Q false H3)
    (hg : Gl X "isinstance" := by rfl) (hx : Gl X x := by rfl) (hdb : (x == ("__debug__" : Str)) = false := by decide) (he : starEach [c, .Name x p2] X.env = (false, eval c X.env) :: starEach [.Name x p2] X.env := by rfl) (he2 : starEach [.Name x p2] X.env = (false, eval (.Name x p2) X.env) :: starEach [] X.env := by rfl) (hpl : (backTo pos (starEach [.Name x p2] X.env)).any (·.1) = false := by rfl) :
    WT X (.UnaryOp .Not (.Call (.Name "isinstance" p) [c, .Name x p2] [] pos) pos2) σ H Q := by
  subst em eK
  refine ⟨_, pt_not (pt_val (pe_callB Er.call_isT hg BL.isinstance boot_isi (pa_cons (pe_w (e := c)) (pa_cons (pe_glob (v := V.ref C) hx G.m rfl hdb) pa_nil he2) he) (by decide) (by decide) he hpl)), ?_⟩
  exact hcall _ fun a H3 lc tb ha => ⟨a, C, .ref C, .ref C, true, rfl, ha, G.exc, fun u r => r, G.kit, true, rfl, q H3 lc tb⟩
theorem upto_get {n i : Nat} {d : PyData} (h : (upto n)[i]? = some d) : i < n ∧ d = .int (i : Int) := by
  unfold upto at h
  rw [List.getElem?_map] at h
  cases q : (List.range n)[i]? with
  | none => rw [q] at h; cases h
  | some k =>
    rw [q] at h
    obtain ⟨h1, h2⟩ := List.getElem?_eq_some_iff.mp q
    rw [List.getElem_range] at h2
    rw [List.length_range] at h1
    subst h2
    exact ⟨h1, (Option.some.inj h).symm⟩
end
end K0


set_option Elab.async false
set_option linter.all false
set_option maxRecDepth 100000
set_option maxHeartbeats 8000000
/-! P3: what is called wrongly; a turn. -/
namespace K0
open PySem PySem.Spec PyProof.Rows L2 GxR Tk
variable [LamTab]
abbrev cxL (P : Program) (w : World) (K : PySem.W.Frag) (mg : Str → Option Value) (base : Heap) (f : Addr) (cdv : Value) (A : Around) (outer : List Env) (s : Shared) (H : Hp) (E : XK) : Cx := (cxOf CX0 P w K mg base NL "law" (defScope sLaw) f cdv A outer s H E).nox
section
variable {P : Program} {w : World} {K : PySem.W.Frag} {mg : Str → Option Value} {base : Heap} {T : List Addr} {f fw C CG CS CA cL PL : Addr} {fdw : FuncData}
/-- if not isinstance(_law_caught(lambda: drawn(x0, x1, x2)), C): .. -/
theorem wrong3 {xc x0 x1 x2 : Str} {i0 i1 i2 : Nat} (BL : Blt mg) (FC : FactsC K mg base CG CS CA cL PL) (N : DrAt P w K mg base T CG CS CA fw fdw) (G : ErrC K mg xc C) {cdv : Value} {A : Around} {outer : List Env} {s : Shared} {H0 : Hp} {E : XK} {j : Nat} {dA eA aA : PyData} {u0 u1 u2 : V} {σ : L2.St} {B H : Hp} {params : Arguments} {scope : Scope} {p1 p2 p3 p4 p5 p6 p7 p8 lpos pos pos2 pos3 : Pos} {Q : Bool → Hp → Prop}
    (hr : Room j (A.deeper (envOfC "law" (defScope sLaw) s.heap.objs.size f cdv))) (hj : 10 ≤ j) (hcd : cdv = .ref cL) (l : Le B H) (hB : B PL = none) (t : Tbs T B) (hT : LamX.TabS H PL lamQ)
    (s0 : σ[i0]? = some (some u0)) (s1 : σ[i1]? = some (some u1)) (s2 : σ[i2]? = some (some u2)) (d0 : Dt K B u0 dA) (d1 : Dt K B u1 eA) (d2 : Dt K B u2 aA) (ok0 : okD dA = true) (ok1 : okD eA = true) (ok2 : okD aA = true) (hw : Er.Wrong CG CS CA C dA eA aA)
    (L : LamX.LamS (defScope sLaw) scope) (hdef : ∀ env, defaultsOf params env = ([], []))
    (hbind : ∀ (q : Str) (cl : List (Str × Addr)) (pm cv ctv : Value), bindArgs (PySem.W.kla_fn "<lambda>" q params (.Call (.Name "drawn" p3) [.Name x0 p4, .Name x1 p5, .Name x2 p7] [] p6) scope cl pm cv ctv) ⟨[], []⟩ = pure [])
    (hlg : scope.names.lookup ("drawn" : Str) = some .globalImplicit) (l0 : scope.names.lookup x0 = some .free) (l1 : scope.names.lookup x1 = some .free) (l2 : scope.names.lookup x2 = some .free) (n0 : NL[i0]? = some x0) (n1 : NL[i1]? = some x1) (n2 : NL[i2]? = some x2)
    (hst : ∀ env : Env, starEach [.Name x0 p4, .Name x1 p5, .Name x2 p7] env = (false, eval (.Name x0 p4) env) :: starEach [.Name x1 p5, .Name x2 p7] env := by intro _; rfl)
    (hx : (defScope sLaw).names.lookup xc = some .globalImplicit)
    (q : ∀ H3, Le B H3 → Er.Lc PL H H3 → LamX.TabS H3 PL lamQ → Q false H3)
    (b0 : (x0 == ("__debug__" : Str)) = false := by decide) (b1 : (x1 == ("__debug__" : Str)) = false := by decide) (b2 : (x2 == ("__debug__" : Str)) = false := by decide) (c0 : (x0 == ("__classdict__" : Str)) = false := by decide) (c1 : (x1 == ("__classdict__" : Str)) = false := by decide) (c2 : (x2 == ("__classdict__" : Str)) = false := by decide) (hdb : (xc == ("__debug__" : Str)) = false := by decide) :
    WT (cxL P w K mg base f cdv A outer s H0 E) (.UnaryOp .Not (.Call (.Name "isinstance" p1) [.Call (.Name "_law_caught" p2) [.Lambda params (.Call (.Name "drawn" p3) [.Name x0 p4, .Name x1 p5, .Name x2 p7] [] p6) scope lpos] [] pos, .Name xc p8] [] pos3) pos2) σ H Q := by
  obtain ⟨g, fd, F, mgc, bi⟩ := FC.caught
  obtain ⟨oc, od', kV, doc, pm, an, cdv', ct, osl, rfl, lk, hcg⟩ := F.ex
  obtain ⟨CB, mB, hex⟩ := G.ex
  refine not_caught (PL := PL) (qn := lamQ) BL G rfl rfl (fun Q hQ => Er.caught_dr (X := cxL P w K mg base f cdv A outer s H0 E) (P0 := P) (w := w) (K := K) (mg := mg) (base := base) (T := T) (C := C) (CB := CB) (CG := CG) (CS := CS) (CA := CA) (g := g) (c := cL) (P := PL) (k := 8) (d := dA) (e := eA) (a := aA) (f := fw) (fd := fdw)
    (ta := tCons (tVar i0) (tCons (tVar i1) (tCons (tVar i2) tNil))) rfl rfl rfl rfl rfl rfl mgc F.kp lk hcg bi scCaught mB hex FC.tb hcd (hr.mono (by omega)) (Nat.le_refl _) L (hdef _) hbind N.ok N.m N.k N.b hlg
    (fun A outer s H E f2 c' => pa_cons (pe_var (i := i0) n0 (Or.inr (Or.inr l0)) b0 c0) (pa_cons (pe_var (i := i1) n1 (Or.inr (Or.inr l1)) b1 c1) (pa_cons (pe_var (i := i2) n2 (Or.inr (Or.inr l2)) b2 c2) pa_nil)))
    (fun A outer s H E f2 c' => rfl) (fun A outer s H E f2 c' => rfl)
    (fun H1 e1 Q2 q2 => ⟨u0, s0, u1, s1, u2, s2, q2 _ B H1 (Le.refl _) (Er.Ext1.le l e1 hB) (.cons d0 (.cons d1 (.cons d2 .nil)))⟩) ok0 ok1 ok2 hw FC.is (t.le l) hT hQ) (fun H3 lc tb => q H3 (lc_le l lc hB) lc tb) rfl hx hdb
end
end K0


set_option Elab.async false
set_option linter.all false
set_option maxRecDepth 100000
set_option maxHeartbeats 8000000
/-! P3b: what is called of descending aims. -/
namespace K0
open PySem PySem.Spec PyProof.Rows L2 GxR Tk
variable [LamTab]
section
variable {P : Program} {w : World} {K : PySem.W.Frag} {mg : Str → Option Value} {base : Heap} {T : List Addr} {f fw C CG CS CA cL PL : Addr} {fdw : FuncData}
/-- isinstance(_law_caught(lambda: drawn(x0, x1, (1, 0))), C) -/
theorem wrong2 {xc x0 x1 : Str} {i0 i1 : Nat} (BL : Blt mg) (FC : FactsC K mg base CG CS CA cL PL) (N : DrAt P w K mg base T CG CS CA fw fdw) (G : ErrC K mg xc C) {cdv : Value} {A : Around} {outer : List Env} {s : Shared} {H0 : Hp} {E : XK} {j : Nat} {dA eA : PyData} {u0 u1 : V} {σ : L2.St} {B H : Hp} {params : Arguments} {scope : Scope} {p1 p2 p3 p4 p5 p6 p7 p8 p9 p10 lpos pos pos2 pos3 : Pos} {kt k1 k0 : Nat} {Q : Bool → Hp → Prop}
    (hr : Room j (A.deeper (envOfC "law" (defScope sLaw) s.heap.objs.size f cdv))) (hj : 10 ≤ j) (hcd : cdv = .ref cL) (l : Le B H) (hB : B PL = none) (t : Tbs T B) (hT : LamX.TabS H PL lamQ)
    (s0 : σ[i0]? = some (some u0)) (s1 : σ[i1]? = some (some u1)) (d0 : Dt K B u0 dA) (d1 : Dt K B u1 eA) (ok0 : okD dA = true) (ok1 : okD eA = true) (hw : Er.Wrong CG CS CA C dA eA (.tuple [.int 1, .int 0]))
    (L : LamX.LamS (defScope sLaw) scope) (hdef : ∀ env, defaultsOf params env = ([], []))
    (hbind : ∀ (q : Str) (cl : List (Str × Addr)) (pm cv ctv : Value), bindArgs (PySem.W.kla_fn "<lambda>" q params (.Call (.Name "drawn" p3) [.Name x0 p4, .Name x1 p5, .Tuple [.Constant (.int 1) k1 p9, .Constant (.int 0) k0 p10] kt p7] [] p6) scope cl pm cv ctv) ⟨[], []⟩ = pure [])
    (hlg : scope.names.lookup ("drawn" : Str) = some .globalImplicit) (l0 : scope.names.lookup x0 = some .free) (l1 : scope.names.lookup x1 = some .free) (n0 : NL[i0]? = some x0) (n1 : NL[i1]? = some x1)
    (hx : (defScope sLaw).names.lookup xc = some .globalImplicit)
    (q : ∀ H3, Le B H3 → Er.Lc PL H H3 → LamX.TabS H3 PL lamQ → Q false H3)
    (b0 : (x0 == ("__debug__" : Str)) = false := by decide) (b1 : (x1 == ("__debug__" : Str)) = false := by decide) (c0 : (x0 == ("__classdict__" : Str)) = false := by decide) (c1 : (x1 == ("__classdict__" : Str)) = false := by decide) (hdb : (xc == ("__debug__" : Str)) = false := by decide) :
    WT (cxL P w K mg base f cdv A outer s H0 E) (.UnaryOp .Not (.Call (.Name "isinstance" p1) [.Call (.Name "_law_caught" p2) [.Lambda params (.Call (.Name "drawn" p3) [.Name x0 p4, .Name x1 p5, .Tuple [.Constant (.int 1) k1 p9, .Constant (.int 0) k0 p10] kt p7] [] p6) scope lpos] [] pos, .Name xc p8] [] pos3) pos2) σ H Q := by
  obtain ⟨g, fd, F, mgc, bi⟩ := FC.caught
  obtain ⟨oc, od', kV, doc, pm, an, cdv', ct, osl, rfl, lk, hcg⟩ := F.ex
  obtain ⟨CB, mB, hex⟩ := G.ex
  refine not_caught (PL := PL) (qn := lamQ) BL G rfl rfl (fun Q hQ => Er.caught_dr (X := cxL P w K mg base f cdv A outer s H0 E) (P0 := P) (w := w) (K := K) (mg := mg) (base := base) (T := T) (C := C) (CB := CB) (CG := CG) (CS := CS) (CA := CA) (g := g) (c := cL) (P := PL) (k := 8) (d := dA) (e := eA) (a := .tuple [.int 1, .int 0]) (f := fw) (fd := fdw)
    rfl rfl rfl rfl rfl rfl mgc F.kp lk hcg bi scCaught mB hex FC.tb hcd (hr.mono (by omega)) (Nat.le_refl _) L (hdef _) hbind N.ok N.m N.k N.b hlg
    (fun A outer s H E f2 c' => pa_cons (pe_var (i := i0) n0 (Or.inr (Or.inr l0)) b0 c0) (pa_cons (pe_var (i := i1) n1 (Or.inr (Or.inr l1)) b1 c1) (pa_cons (pe_tup (pa_cons pe_int (pa_cons pe_int pa_nil))) pa_nil)))
    (fun A outer s H E f2 c' => rfl) (fun A outer s H E f2 c' => rfl)
    (fun H1 e1 Q2 q2 => ⟨u0, s0, u1, s1, by show 2 ≤ sizeLine; decide, fun p hp => ?_⟩) ok0 ok1 rfl hw FC.is (t.le l) hT hQ) (fun H3 lc tb => q H3 (lc_le l lc hB) lc tb) rfl hx hdb
  have l1 := Er.Ext1.le l e1 hB
  have u := (Up.refl l1).new (o := .tup [.int 1, .int 0]) hp fun ps z => by cases z
  exact q2 _ (upd B p (.tup [.int 1, .int 0])) _ u.h u.s (.cons (Dt.le u.b d0) (.cons (Dt.le u.b d1) (.cons (.new_tup upd_same (.cons (.int 1) (.cons (.int 0) .nil))) .nil)))
end
end K0


set_option Elab.async false
set_option linter.all false
set_option maxRecDepth 100000
set_option maxHeartbeats 16000000
/-! P3c: a turn. -/
namespace K0
open PySem PySem.Spec PyProof.Rows L2 GxR Tk
variable [LamTab]
def oddS : List PyData := [.int 2, .int (-1), .bool true, .none, .str "0", .tuple [.int 0]]
theorem oddS_ok : oddS.all (fun x => !sideB x && okD x) = true := by decide +kernel
theorem pick_of {n : Nat} {x : PyData} (h : x ∈ ([.int 0, .int 1, .int 1, .int 2, .int 3, .int (n : Int)] : List PyData)) : ∃ i : Int, x = .int i ∧ ∃ k : Nat, i = (k : Int) := by
  simp only [List.mem_cons, List.not_mem_nil, or_false] at h
  rcases h with rfl | rfl | rfl | rfl | rfl | rfl
  · exact ⟨0, rfl, 0, rfl⟩
  · exact ⟨1, rfl, 1, rfl⟩
  · exact ⟨1, rfl, 1, rfl⟩
  · exact ⟨2, rfl, 2, rfl⟩
  · exact ⟨3, rfl, 3, rfl⟩
  · exact ⟨n, rfl, n, rfl⟩
section
variable {P : Program} {w : World} {K : PySem.W.Frag} {mg : Str → Option Value} {base : Heap} {T : List Addr} {f fw C CG CS CA cL PL : Addr} {fdw : FuncData}
theorem turn_ok (FA : Facts P w K mg base T) (FC : FactsC K mg base CG CS CA cL PL) (N : DrAt P w K mg base T CG CS CA fw fdw) {d lw lc : Addr} {cdv : Value} {A : Around} {outer : List Env} {s : Shared} {H0 : Hp} {E : XK} {j m : Nat} {s0 s2 s3 s4 s5 s6 s7 s8 s9 s10 : Option V} {B H : Hp} {D : L2.Ends}
    (hTD : ∀ a ∈ [d, lw, lc], a ∉ T) (hne : lw ≠ lc) (hr : Room j (A.deeper (envOfC "law" (defScope sLaw) s.heap.objs.size f cdv))) (hj : 11 ≤ j) (hgd : (A.deeper (envOfC "law" (defScope sLaw) s.heap.objs.size f cdv)).guards = some []) (hcd : cdv = .ref cL)
    (l : Le B H) (ap : Apt [d, lw, lc] B) (hB : B PL = none) (jj : DJ d lw lc (m + 2000) H) (t : Tbs T B) (hT : LamX.TabS H PL lamQ)
    (q : ∀ s3 s4 s5 s6 s7 s8 s9 s10 B' H', Le B B' → Le B' H' → Apt [d, lw, lc] B' → B' PL = none → DJ d lw lc m H' → LamX.TabS H' PL lamQ → D.nx [s0, some (.ref d), s2, s3, s4, s5, s6, s7, s8, s9, s10] H') :
    WB (cxL P w K mg base f cdv A outer s H0 E) turnBody D [s0, some (.ref d), s2, s3, s4, s5, s6, s7, s8, s9, s10] H := by
  have hr' : Room j (cxL P w K mg base f cdv A outer s H0 E).A := hr
  have hu := hu64 hr
  refine wb_cons (ws_tgtJ (m := m + 600) (n := 1301) (tjs := [7, 9]) (pat := patT 2) (R := fun r => ∃ (R : List Gr) (sd : Nat), r = .tuple [gameD R, .int (sd : Int)] ∧ GoodGame R ∧ sd < 2) l ap (cells_DJ.less _ _ _ jj (by omega))
    (EJ.weak cells_DJ (ej_tup (n := 1300 + (1 + 0)) cells_DJ (eaj_cons cells_DJ (EJ.weak (Ra := fun r => ∃ R : List Gr, r = gameD R ∧ GoodGame R) cells_DJ (ej_call (i := 1) (n1 := 0) (n := 1300) (RA := (· = [.int 12, .int 3])) cells_DJ (FA.game d lw lc hTD hne) hr' (by omega) t rfl (EAJ.weak (eaj_cons cells_DJ (ej_pure (R := (· = .int 12)) cells_DJ ee_int rfl) fun B5 l5 => eaj_cons cells_DJ (ej_pure (R := (· = .int 3)) cells_DJ ee_int rfl) fun B6 l6 => eaj_nil) fun ds h => by
        obtain ⟨a, b, rfl, rfl, c, g, rfl, rfl, rfl⟩ := h
        rfl) fun ds h => ⟨h, by rw [h]; rfl⟩) (fun e ⟨ds, _, h⟩ => h) (by omega))
      fun B' lb => eaj_cons cells_DJ (ej_take (FA.take d lw lc hTD hne) hr' (by omega) (t.le lb) (i := 1) rfl ee_int (by decide) (by decide)) fun B' l => eaj_nil) fun ds h => ?_) (fun e h => ?_) (by omega))
    (eg_tup rfl (st_cons (st_cons st_nil ndLaw) ndLaw)) (fun e ⟨a, b, h, _⟩ => by subst h; exact ⟨_, rfl⟩) fun us es e B1 H1 u1 j1 pe re dus => ?_)
  · obtain ⟨a, b, rfl, _, c, g, rfl, _, rfl⟩ := h
    show 2 ≤ sizeLine
    decide
  · obtain ⟨ds, rfl, a, b, rfl, ⟨R, rfl, g⟩, c, e2, rfl, ⟨i, rfl, i0, i1⟩, rfl⟩ := h
    exact ⟨R, i.toNat, by rw [Int.toNat_of_nonneg i0], g, by omega⟩
  obtain ⟨R, sd, rfl, gg, sd2⟩ := re
  cases pe
  obtain ⟨vg, vs, rfl, dg, dsd⟩ := ds2 (K := K) dus
  cases dsd
  have ap1 := u1.apt cells_DJ jj ap
  have t1 := t.le u1.b
  have hB1 := upx_pl u1 hB hT FC.is
  have hT1 := tabS_lex u1.h jj FC.is hT
  have n1 := gg.n1
  have n12 := gg.n12
  show WB (cxL P w K mg base f cdv A outer s H0 E) _ _ [s0, some (.ref d), s2, s3, s4, s5, s6, some vg, s8, some (.int (sd : Int)), s10] H1
  refine wb_cons (ws_set (i := 3) (d := .int (R.length : Int)) u1.s ((ee_len FA.bl (ee_ix ix_tup (rr_ixT (d := .tuple (R.map rowD)) at1) (ee_var (i := 7) rfl dg) ee_int) rfl fun x z => by cases z).cast (by rw [List.length_map])) (fun vm B2 H2 u2 dm => ?_) ndLaw)
  cases dm
  have ux2 := u1.trans cells_DJ j1 (.of u2)
  have j2 := cells_DJ.le _ _ _ j1 u2.h
  have ap2 := ux2.apt cells_DJ jj ap
  have t2 := t.le ux2.b
  have hB2 := upx_pl ux2 hB hT FC.is
  have hT2 := tabS_lex ux2.h jj FC.is hT
  refine wb_cons (ws_setJ (i := 4) (m := m + 500) (n := 91) (R := fun r => ∃ o : List Nat, r = .tuple (idD o) ∧ GoodA R.length o) u2.s ap2 (cells_DJ.less _ _ _ j2 (by omega)) ?_ (fun va da B3 H3 u3 j3 dva ra => ?_) ndLaw)
  · refine (ej_t1 (R := fun d => ∃ o : List Nat, d = .list (idD o) ∧ GoodA R.length o) cells_DJ c_tup FA.bl.tuple boot_tuple' (rcj_of fun d ⟨o, h1, h2⟩ => ⟨.tuple (idD o), by subst h1; exact rc_tup, o, rfl, h2⟩) ?_)
    refine (ej_b1 (R := fun d => ∃ o : List Nat, d = .list (idD o) ∧ o.Nodup ∧ (∀ x ∈ o, x < R.length) ∧ o.length < 64) cells_DJ cr_sorted FA.so boot_sorted' rcj_sortedI ?_)
    refine EJ.weak cells_DJ (ej_cutJ (n1 := 90) (n2 := 1) (R := fun ds => ∃ o' : List Nat, ds = idD o' ∧ o'.Perm (List.range R.length)) (RI := fun i => ∃ k : Nat, i = (k : Int)) cells_DJ
      (ej_shuf (i := 1) (FA.shuf d lw lc hTD hne) hr' (by omega) t2 rfl (ee_listRg rfl FA.bl (ee_var (i := 3) rfl (.int _)) (by omega)) (by rw [List.length_range]; omega))
      (EJ.weak cells_DJ (ej_pick (xs := [.int 0, .int 1, .int 1, .int 2, .int 3, .int (R.length : Int)]) (i := 1) (FA.pick d lw lc hTD hne) hr' (by omega) t2 rfl (ee_lst (ea_cons ee_int (ea_cons ee_int (ea_cons ee_int (ea_cons ee_int (ea_cons ee_int (ea_cons (ee_var (i := 3) rfl (.int _)) ea_nil)))))) (by show 6 ≤ sizeLine; decide)) (by show 0 < 6; decide) (by show 6 < 1000000; decide)) (fun e h => pick_of h) (by omega))) (fun e h => ?_) (by omega)
    obtain ⟨ds, i, rfl, ⟨o, rfl, po⟩, k, rfl⟩ := h
    rw [cutD_takeN, idD_take]
    have nd : o.Nodup := po.nodup_iff.mpr List.nodup_range
    have len := po.length_eq
    rw [List.length_range] at len
    refine ⟨o.take k, rfl, nd.sublist (List.take_sublist _ _), fun x hx => List.mem_range.mp (po.mem_iff.mp (List.mem_of_mem_take hx)), ?_⟩
    rw [List.length_take]
    omega
  obtain ⟨aims, rfl, ga⟩ := ra
  have ux3 := ux2.trans cells_DJ j2 u3
  have ap3 := ux3.apt cells_DJ jj ap
  have t3 := t.le ux3.b
  have hB3 := upx_pl ux3 hB hT FC.is
  have hT3 := tabS_lex ux3.h jj FC.is hT
  have dg3 : Dt K B3 vg (gameD R) := Dt.le (u2.b.trans u3.b) dg
  have dva : Dt K B3 va (.tuple (idD aims)) := dva
  have gsa : GSA R sd aims := ⟨gg, sd2, ga⟩
  show WB (cxL P w K mg base f cdv A outer s H0 E) _ _ [s0, some (.ref d), s2, some (.int (R.length : Int)), some va, s5, s6, some vg, s8, some (.int (sd : Int)), s10] H3
  refine wb_cons (ws_set (i := 5) (d := drD R sd aims) u3.s (ee_dr N hr' (by omega) t3 gsa (ee_var (i := 7) rfl dg3) (ee_var (i := 9) rfl (.int _)) (ee_var (i := 4) rfl dva)) (fun vf B4 H4 u4 df => ?_) ndLaw)
  have df : Dt K B4 vf (drD R sd aims) := df
  have ux4 := ux3.trans cells_DJ j3 (.of u4)
  have j4 := cells_DJ.le _ _ _ j3 u4.h
  have t4 := t.le ux4.b
  have dg4 := Dt.le u4.b dg3
  have dva4 := Dt.le u4.b dva
  have shD := sh_drD gg ga (sd := sd)
  refine wb_cons (ws_if (k := false) u4.s (et_w (ew_or (p := false) (q := false) ((et_not (et_val (ee_call (f := fun _ => .bool true) (ds := [gameD R, .int (sd : Int), .tuple (idD aims), drD R sd aims]) (d := .bool true) FA.isD hr' (by omega) t4 (ea_cons (ee_var (i := 7) rfl dg4) (ea_cons (ee_var (i := 9) rfl (.int _)) (ea_cons (ee_var (i := 4) rfl dva4) (ea_cons (ee_var (i := 5) rfl df) ea_nil)))) ⟨R, sd, aims, (finR R sd aims).t, rfl, gg.ok, fin_ok gg ga⟩))).cast rfl) fun _ => ew_one2 (ET.cast (et_cmp op_ne rr_neS
      (ee_reprD hgd hu FA.rp (ee_drK N hr' (by omega) t4 gsa (ee_var (i := 4) rfl dva4) (ee_var (i := 9) rfl (.int _)) (ee_var (i := 7) rfl dg4)) shD (by decide) (by decide) (nd_of _ shD.nd) (.inr ⟨_, rfl⟩))
      (ee_reprD hgd hu FA.rp (ee_var (i := 5) rfl df) shD (by decide) (by decide) (nd_of _ shD.nd) (.inr ⟨_, rfl⟩))) (by simp)))) (fun e => by cases e) fun _ H5 l5 => wb_nil ?_)
  have u45 : Up B3 H3 B4 H5 := u4.tab l5
  have ux5 := ux3.trans cells_DJ j3 (.of u45)
  have j5 := cells_DJ.le _ _ _ j3 u45.h
  have ap5 := ux5.apt cells_DJ jj ap
  have hB5 := upx_pl ux5 hB hT FC.is
  refine wb_cons (ws_tgtJ (m := m + 2) (n := 2) (tjs := [6, 8]) (pat := patT 2) (R := fun r => ∃ a b, r = .tuple [a, b] ∧ a ∈ badAs R.length ∧ b ∈ oddS) ux5.s ap5 (cells_DJ.less _ _ _ j5 (by omega))
    (EJ.weak cells_DJ (ej_tup (n := 1 + (1 + 0)) cells_DJ (eaj_cons cells_DJ (EJ.weak (Ra := (· ∈ badAs R.length)) cells_DJ (ej_call1 (d1 := .int (R.length : Int)) (i := 1) cells_DJ (FA.badA d lw lc hTD hne) hr' (by omega) t4 rfl (ee_var (i := 3) rfl (.int _)) ⟨R.length, rfl, n1, n12⟩) (fun e h => by
        obtain ⟨n', e1, h⟩ := h
        have : (R.length : Int) = (n' : Int) := by injection e1 with a b; injection a
        have : R.length = n' := by omega
        rw [this]
        exact h) (by omega))
      fun B' lb => eaj_cons cells_DJ (ej_pick (xs := oddS) (i := 1) (FA.pick d lw lc hTD hne) hr' (by omega) (t4.le lb) rfl ?_ (by decide) (by decide)) fun B' l => eaj_nil) fun ds h => ?_) (fun e h => ?_) (by omega))
    (eg_tup rfl (st_cons (st_cons st_nil ndLaw) ndLaw)) (fun e ⟨a, b, h, _⟩ => by subst h; exact ⟨_, rfl⟩) fun us es e B6 H6 u6 j6 pe re dus => ?_)
  · unfold oddS
    repeat (first | exact ea_nil | exact ee_non | exact ee_int | exact ee_str | exact ee_bl | exact ee_neg (i := 1) ee_int | refine ee_tup ?_ (by decide) | refine ee_lst ?_ (by decide) | refine ea_cons ?_ ?_)
  · obtain ⟨a, b, rfl, _, c, g, rfl, _, rfl⟩ := h
    show 2 ≤ sizeLine
    decide
  · obtain ⟨ds, rfl, a, b, rfl, ha, c, g, rfl, hc, rfl⟩ := h
    exact ⟨a, c, rfl, ha, hc⟩
  obtain ⟨bd, od, rfl, hbd, hod⟩ := re
  cases pe
  obtain ⟨vb, vo, rfl, db, dO⟩ := ds2 (K := K) dus
  have ux6 := ux5.trans cells_DJ j5 u6
  have ap6 := ux6.apt cells_DJ jj ap
  have t6 := t.le ux6.b
  have hB6 := upx_pl ux6 hB hT FC.is
  have hT6 := tabS_lex ux6.h jj FC.is hT
  have dg6 := Dt.le u6.b dg4
  show WB (cxL P w K mg base f cdv A outer s H0 E) _ _ [s0, some (.ref d), s2, some (.int (R.length : Int)), some va, some vf, some vb, some vg, some vo, some (.int (sd : Int)), s10] H6
  refine wb_cons (ws_setJ (i := 10) (m := m) (n := 1) (R := fun r => r ∈ badGs) ux6.s ap6 (cells_DJ.less _ _ _ j6 (by omega)) (EJ.weak cells_DJ (ej_call (i := 1) cells_DJ (FA.badG d lw lc hTD hne) hr' (by omega) t6 rfl eaj_nil fun ds h => ⟨h, by rw [h]; rfl⟩) (fun e ⟨_, _, h⟩ => h) (by omega)) (fun vw wd B7 H7 u7 j7 dw hwd => ?_) ndLaw)
  have ux7 := ux6.trans cells_DJ j6 u7
  have ap7 := ux7.apt cells_DJ jj ap
  have t7 := t.le ux7.b
  have hB7 := upx_pl ux7 hB hT FC.is
  have hT7 := tabS_lex ux7.h jj FC.is hT
  have dw : Dt K B7 vw wd := dw
  have dg7 := Dt.le u7.b dg6
  have db7 := Dt.le u7.b db
  have dO7 := Dt.le u7.b dO
  have kw := (Bool.and_eq_true _ _).mp (List.all_eq_true.mp badGs_ok wd hwd)
  have kb := (Bool.and_eq_true _ _).mp (List.all_eq_true.mp (badAs_ok n1 n12) bd hbd)
  have ko := (Bool.and_eq_true _ _).mp (List.all_eq_true.mp oddS_ok od hod)
  have gB := gameB_of gg
  have sB : sideB (.int (sd : Int)) = true := numB_nat (by omega)
  show WB (cxL P w K mg base f cdv A outer s H0 E) _ _ [s0, some (.ref d), s2, some (.int (R.length : Int)), some va, some vf, some vb, some vg, some vo, some (.int (sd : Int)), some vw] H7
  refine wb_cons ⟨_, ps_if pt_w pss_w pss_w, wrong3 (i0 := 10) (i1 := 8) (i2 := 6) (B := B7) FA.bl FC N FC.cg hr (by omega) hcd u7.s hB7 t7 hT7 rfl rfl rfl dw dO7 db7 kw.2 ko.2 kb.2 (.inl ⟨bno kw.1, rfl⟩) ⟨rfl, rfl, rfl, by decide +kernel, by decide +kernel⟩ (fun _ => rfl) (fun _ _ _ _ _ => rfl) rfl rfl rfl rfl rfl rfl rfl (fun _ => rfl) rfl fun H8 l8 lc8 tb8 => ?_⟩
  show (if false = true then _ else WB _ [] _ _ H8)
  rw [if_neg Bool.false_ne_true]
  refine wb_nil ?_
  have j8 := lc_dj j7 lc8 hT7
  refine wb_cons ⟨_, ps_if pt_w pss_w pss_w, wrong3 (i0 := 7) (i1 := 8) (i2 := 6) (B := B7) FA.bl FC N FC.cs hr (by omega) hcd l8 hB7 t7 tb8 rfl rfl rfl dg7 dO7 db7 (okD_game gg) ko.2 kb.2 (.inr (.inl ⟨gB, bno ko.1, rfl⟩)) ⟨rfl, rfl, rfl, by decide +kernel, by decide +kernel⟩ (fun _ => rfl) (fun _ _ _ _ _ => rfl) rfl rfl rfl rfl rfl rfl rfl (fun _ => rfl) rfl fun H9 l9 lc9 tb9 => ?_⟩
  show (if false = true then _ else WB _ [] _ _ H9)
  rw [if_neg Bool.false_ne_true]
  refine wb_nil ?_
  have j9 := lc_dj j8 lc9 tb8
  refine wb_cons ⟨_, ps_if pt_w pss_w pss_w, wrong3 (i0 := 7) (i1 := 9) (i2 := 6) (B := B7) FA.bl FC N FC.ca hr (by omega) hcd l9 hB7 t7 tb9 rfl rfl rfl dg7 (.int _) db7 (okD_game gg) rfl kb.2 (.inr (.inr ⟨R, rfl, gg.ok, gB, sB, bno kb.1, rfl⟩)) ⟨rfl, rfl, rfl, by decide +kernel, by decide +kernel⟩ (fun _ => rfl) (fun _ _ _ _ _ => rfl) rfl rfl rfl rfl rfl rfl rfl (fun _ => rfl) rfl fun H10 l10 lc10 tb10 => ?_⟩
  show (if false = true then _ else WB _ [] _ _ H10)
  rw [if_neg Bool.false_ne_true]
  refine wb_nil ?_
  have j10 := lc_dj j9 lc10 tb9
  have fin : ∀ H', Le B7 H' → DJ d lw lc m H' → LamX.TabS H' PL lamQ → D.nx [s0, some (.ref d), s2, some (.int (R.length : Int)), some va, some vf, some vb, some vg, some vo, some (.int (sd : Int)), some vw] H' := fun H' lH jH tH => q _ _ _ _ _ _ _ _ B7 H' ux7.b lH ap7 hB7 jH tH
  have nB : numsB (.tuple [.int 1, .int 0]) (R.length : Int) = false := by
    unfold numsB
    have : tupAsc (.tuple [.int 1, .int 0]) = false := by decide +kernel
    rw [this, Bool.and_false, Bool.and_false]
  refine wb_one ⟨_, ps_if (PW.pt (pw_and pt_w (pw_and1 pt_w))) pss_w pss_w, ?_⟩
  refine (et_cmp op_gt rr_gt (ee_var (i := 3) rfl (.int _)) ee_int) H10 (Le.refl _) _ fun H11 l11 => ?_
  by_cases hm : (R.length : Int) > 1
  · rw [decide_eq_true hm, if_pos rfl]
    refine wrong2 (i0 := 7) (i1 := 9) (B := B7) FA.bl FC N FC.ca hr (by omega) hcd (l10.trans l11) hB7 t7 (tabS_le l11 FC.is tb10) rfl rfl dg7 (.int _) (okD_game gg) rfl (.inr (.inr ⟨R, rfl, gg.ok, gB, sB, nB, rfl⟩)) ⟨rfl, rfl, rfl, by decide +kernel, by decide +kernel⟩ (fun _ => rfl) (fun _ _ _ _ _ => rfl) rfl rfl rfl rfl rfl rfl fun H12 l12 lc12 tb12 => ?_
    show (if false = true then _ else WB _ [] _ _ H12)
    rw [if_neg Bool.false_ne_true]
    exact wb_nil (fin H12 l12 (lc_dj (cells_DJ.le _ _ _ j10 l11) lc12 (tabS_le l11 FC.is tb10)) tb12)
  · rw [decide_eq_false hm, if_neg Bool.false_ne_true]
    show (if false = true then _ else WB _ [] _ _ H11)
    rw [if_neg Bool.false_ne_true]
    exact wb_nil (fin H11 (l10.trans l11) (cells_DJ.le _ _ _ j10 l11) (tabS_le l11 FC.is tb10))
end
end K0


set_option Elab.async false
set_option linter.all false
set_option maxRecDepth 100000
set_option maxHeartbeats 2000000
/-! C0: the end of a law whose own body must know that nothing is being shown around it (repr): its run is asked at the caller alone. -/
namespace Cg
open PySem PySem.Spec PyProof.Rows L2
/-- what may be tracked where a law begins: an empty table of code, or a list as it stands -/
def Kind (h : Heap) (H : Hp) (b : Addr) : Prop :=
  (H b = some (.tbl #[]) ∧ h.get? b = some { cls := .none, data := .fields #[] } ∧ isCodeTable h b) ∨ ∃ o xs its n, H b = some (.frz o (.lst xs)) ∧ h.get? b = some o ∧ o.data = .seq its n
section
variable {P : Program} {w : World} {K : PySem.W.Frag} {mg mb : Str → Option Value} {H : Hp} {s : Shared}
/-- what was there is there still -/
theorem old_of {Q : VK} {u : Value} {s' : Shared} (kind : ∀ b, H b ≠ none → Kind s.heap H b) (c : CE [] P w H s Q u s') : OldK s.heap s'.heap := by
  obtain ⟨v, H2, _, _, un, ok2, _, _⟩ := c
  have still : ∀ b o, s.heap.get? b = some o → asItWas s.heap s'.heap b o := by
    intro b o at_b
    cases tr : H b with
    | none => exact .inl (un.keep b o at_b tr (fun z => by cases z) fun z => by cases z)
    | some u =>
      rcases kind b (by rw [tr]; simp) with ⟨k1, k2, k3⟩ | ⟨o', xs, its, n, k1, k2, _⟩
      · obtain ⟨more, g⟩ := un.tbls b _ k1
        have now := ok2 b _ g
        rw [k2] at at_b
        cases at_b
        exact .inr (.inl ⟨k3, rfl, #[], _, rfl, now⟩)
      · have now := (ok2 b _ (un.frzs b _ _ k1)).1
        rw [k2] at at_b
        cases at_b
        exact .inl now
  refine ⟨still, fun b o at_b => ?_⟩
  rcases still b o at_b with z | ⟨_, _, _, _, _, z⟩ | ⟨_, _, ⟨o', es, n, z, _⟩, _⟩
  · exact ⟨o, z⟩
  · exact ⟨_, z⟩
  · exact ⟨o', z⟩
/-- what is no table and no list is not tracked -/
theorem not_tr {b : Addr} {o : Obj} (kind : ∀ b, H b ≠ none → Kind s.heap H b) (e : s.heap.get? b = some o) (n1 : o.data ≠ .fields #[]) (n2 : ∀ its n, o.data ≠ .seq its n) : H b = none := by
  cases tr : H b with
  | none => rfl
  | some u =>
    exfalso
    rcases kind b (by rw [tr]; simp) with ⟨_, k2, _⟩ | ⟨o', xs, its, n, _, k2, k3⟩
    · rw [k2] at e
      cases e
      exact n1 rfl
    · rw [k2] at e
      cases e
      exact n2 _ _ k3
theorem ns_kept {b : Addr} {m : Str → Option Value} (kind : ∀ b, H b ≠ none → Kind s.heap H b) (x : s.heap.Ns b m) : (hidT s.heap H).Ns b m := by
  obtain ⟨o, es, ep, e, d, r⟩ := x
  have free := not_tr kind e (by rw [d]; simp) fun its n => by rw [d]; simp
  exact ⟨o, es, ep, hidT_get e free, d, r⟩
theorem env_at (kin : K.In s.heap) (kinH : ∀ b, H b ≠ none → K.lookup b = none) (kind : ∀ b, H b ≠ none → Kind s.heap H b) (hok : HOk P w H s.heap) (g1 : s.heap.Ns mainGlobals mg) (g2 : s.heap.Ns builtinsNs mb) (g3 : ∀ x : Str, x ≠ "__name__" → mb x = bootBuiltins x) (g4 : s.heap.NoLimit) (g5 : s.gens = #[]) :
    Env0 P w K mg (hidT s.heap H) callerA [] s H := by
  have inK : K.In (hidT s.heap H) := by
    intro b o e
    refine hidT_get (kin b o e) ?_
    cases tr : H b with
    | none => rfl
    | some u =>
      rw [kinH b (by rw [tr]; simp)] at e
      cases e
  obtain ⟨mc, c1, c2⟩ := g4
  exact
    { frames := rfl
      mod := ⟨inK, ns_kept kind g1, ⟨mb, ns_kept kind g2, g3⟩, ⟨mc, ns_kept kind c1, c2⟩⟩
      bs := fun b o e => of_hidT e
      bsz := Nat.le_of_eq (hidT_size _ _)
      funs := trivial
      frf := fun b hb => by cases hb
      hok := hok
      bare := .of_eq g5 }
theorem tab_at {c Pt : Addr} (kind : ∀ b, H b ≠ none → Kind s.heap H b) (g1 : s.heap.Ns mainGlobals mg) (C : PySem.W.CodeHd s.heap c Pt) (T : s.heap.get? Pt = some { cls := .none, data := .fields #[] })
    (bm : ∃ (m : Addr) (ob : Obj), mg "__builtins__" = some (.ref m) ∧ m ≠ builtinsNs ∧ s.heap.get? m = some ob ∧ ob.cls = .type "module" ∧ ob.dict = some builtinsNs ∧ ob.data = .plain) : LamX.TabB (hidT s.heap H) mg c Pt := by
  obtain ⟨og, es, ep, atG, dG, _⟩ := g1
  have gP : mainGlobals ≠ Pt := fun z => by
    rw [z, T] at atG
    cases atG
    cases dG
  refine ⟨?_, ?_, gP⟩
  · obtain ⟨o, vs, file, tf, flags, tg, inF, text, tt, r1, r2, r3, r4, r5, r6, r7, r8, r9⟩ := C
    refine ⟨o, vs, file, tf, flags, tg, inF, text, tt, hidT_get r1 (not_tr kind r1 (fun z => ?_) fun its n z => ?_), r2, r3, r4, r5, r6, r7, r8, r9⟩
    · rw [r3] at z
      cases z
      simp at r4
    · rw [r3] at z
      cases z
  · obtain ⟨m, ob, a1, a2, a3, a4, a5, a6⟩ := bm
    refine ⟨m, ob, a1, a2, fun z => ?_, fun z => ?_, hidT_get a3 (not_tr kind a3 (by rw [a6]; simp) fun its n => by rw [a6]; simp), a4, a5, a6⟩
    · rw [z, atG] at a3
      cases a3
      rw [dG] at a6
      cases a6
    · rw [z, T] at a3
      cases a3
      cases a6
end
end Cg


set_option Elab.async false
set_option linter.all false
set_option maxRecDepth 100000
set_option maxHeartbeats 2000000
namespace Cg
open PySem PySem.Spec PyProof.Rows L2
/-- what is asked of a law: its run from the caller -/
def RunAt (P : Program) (w : World) (K : PySem.W.Frag) (mg : Str → Option Value) (base : Heap) (fa : Addr) (fd : FuncData) (x : Str) (sp : Sp) : Prop :=
  ∀ (H : Hp) (s : Shared) (us : List Value) (vs : List V) (Q : VK) (E : XK), Env0 P w K mg base callerA [] s H → BindsTo s fd ⟨us, []⟩ ([x].zip us) → Vals vs us → sp vs H Q E → codeAny (model P w) callerA (.call (.ref fa) ⟨us, []⟩) (CR C8.CX0 [] P w H s Q E) s
theorem law_call {P : Program} {w : World} {K : PySem.W.Frag} {mg mb : Str → Option Value} {fa a : Addr} {cs : List (Addr × Addr)} {fd : FuncData} {x : Str} {sp : Sp} {s : Shared} {vs : List Value} {ns : List Int}
    (kin : K.In s.heap) (g1 : s.heap.Ns mainGlobals mg) (g2 : s.heap.Ns builtinsNs mb) (g3 : ∀ x : Str, x ≠ "__name__" → mb x = bootBuiltins x) (g4 : s.heap.NoLimit) (g5 : s.gens = #[])
    (tabs : ∀ p ∈ cs, PySem.W.CodeHd s.heap p.1 p.2 ∧ s.heap.get? p.2 = some { cls := .none, data := .fields #[] }) (noK : ∀ p ∈ cs, K.lookup p.2 = none)
    (bm : ∃ (m : Addr) (ob : Obj), mg "__builtins__" = some (.ref m) ∧ m ≠ builtinsNs ∧ s.heap.get? m = some ob ∧ ob.cls = .type "module" ∧ ob.dict = some builtinsNs ∧ ob.data = .plain)
    (at_a : s.heap.get? a = some { cls := .type "list", data := .seq vs.toArray }) (are : IntsAre vs ns) (short : ns.length ≤ sizeLine)
    (F : ∀ base : Heap, K.In base → base.Ns mainGlobals mg → (∀ p ∈ cs, LamX.TabB base mg p.1 p.2) → RunAt P w K mg base fa fd x sp) (bind : ∀ (s : Shared) (u : Value), BindsTo s fd ⟨[u], []⟩ [(x, u)])
    (start : ∀ H : Hp, (∀ p ∈ cs, H p.2 = some (.tbl #[])) → SqL K H a (ns.map V.int) → sp [.ref a] H (fun v _ => v = .bl true) fun _ _ _ => False) :
    codeAny (model P w) callerA (.call (.ref fa) ⟨[.ref a], []⟩) (fun r s' => r = .ok (.ret (.bool true)) ∧ OldK s.heap s'.heap ∧ s'.os = s.os ∧ AllBare s'.gens) s := by
  have rv := vals_ints are
  have len := are.length
  have tabAt : ∀ b, b ∈ cs.map (·.2) → s.heap.get? b = some { cls := .none, data := .fields #[] } ∧ isCodeTable s.heap b ∧ K.lookup b = none := by
    intro b hb
    obtain ⟨p, hp, rfl⟩ := List.mem_map.mp hb
    obtain ⟨c1, c2⟩ := tabs p hp
    exact ⟨c2, (c1.tab c2).isCodeTable, noK p hp⟩
  have aNot : a ∉ cs.map (·.2) := fun z => by
    have e := (tabAt a z).1
    rw [at_a] at e
    cases congrArg Obj.data (Option.some.inj e)
  -- what is tracked from the beginning
  let H : Hp := fun b => if b ∈ cs.map (·.2) then some (.tbl #[]) else if b = a ∧ K.lookup a = none then some (.frz { cls := .type "list", data := .seq vs.toArray } (.lst (ns.map V.int))) else none
  have Htab : ∀ p ∈ cs, H p.2 = some (.tbl #[]) := fun p hp => if_pos (List.mem_map.mpr ⟨p, hp, rfl⟩)
  have cases3 : ∀ b, (b ∈ cs.map (·.2) ∧ H b = some (.tbl #[])) ∨ (b = a ∧ K.lookup a = none ∧ H b = some (.frz { cls := .type "list", data := .seq vs.toArray } (.lst (ns.map V.int)))) ∨ H b = none := by
    intro b
    by_cases h1 : b ∈ cs.map (·.2)
    · exact .inl ⟨h1, if_pos h1⟩
    · by_cases h2 : b = a ∧ K.lookup a = none
      · exact .inr (.inl ⟨h2.1, h2.2, (if_neg h1).trans (if_pos h2)⟩)
      · exact .inr (.inr ((if_neg h1).trans (if_neg h2)))
  have kind : ∀ b, H b ≠ none → Kind s.heap H b := by
    intro b hb
    rcases cases3 b with ⟨h1, h2⟩ | ⟨rfl, _, h2⟩ | h2
    · obtain ⟨t1, t2, _⟩ := tabAt b h1
      exact .inl ⟨h2, t1, t2⟩
    · exact .inr ⟨_, _, _, _, h2, at_a, rfl⟩
    · exact absurd h2 hb
  have kinH : ∀ b, H b ≠ none → K.lookup b = none := by
    intro b hb
    rcases cases3 b with ⟨h1, _⟩ | ⟨rfl, h1, _⟩ | h2
    · exact (tabAt b h1).2.2
    · exact h1
    · exact absurd h2 hb
  have hok : HOk P w H s.heap := by
    intro b u hu
    rcases cases3 b with ⟨h1, h2⟩ | ⟨rfl, _, h2⟩ | h2
    · rw [h2] at hu
      cases hu
      exact (tabAt b h1).1
    · rw [h2] at hu
      cases hu
      exact ⟨at_a, by rw [List.length_map]; exact short, vs, _, rv, at_a⟩
    · rw [h2] at hu
      cases hu
  have seq : SqL K H a (ns.map V.int) := by
    cases hk : K.lookup a with
    | none => exact .inl (.inr ⟨_, (if_neg aNot).trans (if_pos ⟨rfl, hk⟩)⟩)
    | some o =>
      have e := kin a o hk
      rw [at_a] at e
      cases e
      exact .inr ⟨_, vs.toArray, _, hk, rfl, rfl, rfl, by rw [List.size_toArray, len]; exact short, by simpa using rv⟩
  have env := env_at (P := P) (w := w) kin kinH kind hok g1 g2 g3 g4 g5
  have run := F (hidT s.heap H) env.mod.kin env.mod.glob (fun p hp => tab_at kind g1 (tabs p hp).1 (tabs p hp).2 bm) H s [.ref a] [.ref a] _ _ env (bind s (.ref a)) (.cons rfl .nil) (start H Htab seq)
  refine codeAny_mono run fun r s' h => ?_
  cases r with
  | error e => exact (show False from h).elim
  | ok fl =>
    cases fl with
    | ret u =>
      have c : CE [] P w H s _ u s' := h
      have old := old_of kind c
      obtain ⟨v, _, os, bare, _, _, ru, rfl⟩ := c
      obtain rfl : u = Value.bool true := ru
      exact ⟨rfl, old, os, bare⟩
    | next => exact False.elim h
    | brk => exact False.elim h
    | cont => exact False.elim h
/-- the end, told of each def of the view whose code it is and that its table is empty -/
theorem walk_at {l : PySem.W.OpenLaw} {n : Nat} {q : Program} {loose : List Str} {XP : (Str → Option Value) → Heap → Prop} {YP : World → Heap → Prop} {dl : DefRec}
    {K : Params → PySem.W.Frag} {x : Str} (m1 : l.most = some n) (m2 : n ≤ sizeLine) (nd : dl.params.defaults = [])
    (inY : ∀ (w : World) (h : Heap), YP w h → (K w.params).In h)
    (F : ∀ (w : World) (mg : Str → Option Value) (fa : Addr) (h : Heap), YP w h → (K w.params).In h → h.Ns mainGlobals mg → mg dl.name = some (.ref fa) →
      (∀ (y : Str) (c P : Addr) (d' : DefRec), ((recsOf q).find? fun e => e.name == y) = some d' → PySem.W.tabIn (K w.params) y = some (c, P) → PySem.W.CodeHd h c P ∧ h.get? P = some { cls := .none, data := .fields #[] }) →
      ∃ (fd : FuncData) (cs : List (Addr × Addr)) (sp : Sp), (∀ p ∈ cs, PySem.W.CodeHd h p.1 p.2 ∧ h.get? p.2 = some { cls := .none, data := .fields #[] }) ∧ (∀ p ∈ cs, (K w.params).lookup p.2 = none) ∧ (∀ (s : Shared) (u : Value), BindsTo s fd ⟨[u], []⟩ [(x, u)]) ∧
        (∀ (H : Hp) (a : Addr) (ns : List Int), ns.length ≤ n → (∀ p ∈ cs, H p.2 = some (.tbl #[])) → SqL (K w.params) H a (ns.map V.int) → sp [.ref a] H (fun v _ => v = .bl true) fun _ _ _ => False) ∧
        ∀ base : Heap, (K w.params).In base → base.Ns mainGlobals mg → (∀ p ∈ cs, LamX.TabB base mg p.1 p.2) → RunAt l.prog w (K w.params) mg base fa fd x sp) :
    PySem.W.WalkO q loose XP YP l.row.toRowW dl [] (fun f vs => PySem.call f vs) := by
  refine Att.attach_callB m1 nd ?_
  intro w sa sb mg mb fa o pm cd doc a vs ns GG YY ho hd hcd hmg hobj hints hlen hbits hgen
  have kin := inY w _ YY
  obtain ⟨fd, cs, sp, t1, t2, b, st, run⟩ := F w mg fa _ YY kin GG.T.g hmg fun y c P d' hr ht => PySem.W.tab_of GG.T kin hr ht
  exact law_call kin GG.T.g GG.T.b GG.T.builtins GG.T.nolimit hgen t1 t2 GG.T.bmain hobj hints (Nat.le_trans hlen m2) run b fun H z1 z2 => st H a ns hlen z1 z2
end Cg


set_option Elab.async false
set_option linter.all false
set_option maxRecDepth 100000
set_option maxHeartbeats 4000000
namespace K0
open PySem PySem.Spec PyProof.Rows L2 GxR Tk
variable [LamTab]
theorem tyx_sql {K : PySem.W.Frag} {H : Hp} {a : Addr} {xs : List V} (h : SqL K H a xs) : TyX K H (.ref a) (.type "list") := by
  rcases h with (h | ⟨o, h⟩) | ⟨o, its, n, h, c, _⟩
  · exact .base (.lst h)
  · exact .base (.frz h)
  · exact .kList h c
theorem ds_of_ints {K : PySem.W.Frag} {H : Hp} : ∀ ns : List Int, Ds K H (ns.map V.int) (ns.map PyData.int)
  | [] => .nil
  | n :: ns => .cons (.int n) (ds_of_ints ns)
/-- all but the table at PL -/
def hide (PL : Addr) (H : Hp) : Hp := fun a => if a = PL then none else H a
theorem hide_le {PL : Addr} {H : Hp} : Le (hide PL H) H := ⟨fun a o q _ => by
    have q' : (if a = PL then none else H a) = some o := q
    by_cases z : a = PL
    · rw [if_pos z] at q'; cases q'
    · rw [if_neg z] at q'; exact q', fun P' ⟨ps, q, r⟩ => by
    have q' : (if P' = PL then none else H P') = _ := q
    by_cases z : P' = PL
    · rw [if_pos z] at q'; cases q'
    · rw [if_neg z] at q'; exact ⟨ps, q', r⟩, fun a q => by
    show (if a = PL then none else H a) = none
    rw [q]
    exact ite_self _⟩
theorem hide_at {PL : Addr} {H : Hp} : hide PL H PL = none := if_pos rfl
theorem hide_sql {K : PySem.W.Frag} {PL a : Addr} {H : Hp} {xs : List V} {ps : Array Value} (hP : H PL = some (.tbl ps)) (h : SqL K H a xs) : SqL K (hide PL H) a xs := by
  have off : ∀ {o : HO}, H a = some o → (∀ ps, o ≠ .tbl ps) → hide PL H a = some o := fun {o} e n => by
    show (if a = PL then none else H a) = some o
    rw [if_neg fun z => n ps (by rw [z, hP] at e; exact (Option.some.inj e).symm)]
    exact e
  rcases h with (h | ⟨o, h⟩) | h
  · exact .inl (.inl (off h fun _ z => by cases z))
  · exact .inl (.inr ⟨o, off h fun _ z => by cases z⟩)
  · exact .inr h
def spLaw (K : PySem.W.Frag) (T : List Addr) (PL : Addr) : Sp := fun vs H Q _ => ∃ (a : Addr) (ns : List Int), vs = [.ref a] ∧ ns.length ≤ 63 ∧ SqL K H a (ns.map V.int) ∧ Tbs T H ∧ H PL = some (.tbl #[]) ∧ ∀ H', Q (.bl true) H'
end K0


set_option Elab.async false
set_option linter.all false
set_option maxRecDepth 100000
set_option maxHeartbeats 4000000
/-! P4: law. -/
namespace K0
open PySem PySem.Spec PyProof.Rows L2 GxR Tk
variable [LamTab]
section
variable {P : Program} {w : World} {K : PySem.W.Frag} {mg : Str → Option Value} {base : Heap} {T : List Addr} {f fw C CG CS CA cL PL : Addr} {fd fdw : FuncData}
theorem law_body (FA : Facts P w K mg base T) (FC : FactsC K mg base CG CS CA cL PL) (N : DrAt P w K mg base T CG CS CA fw fdw) (FB : ∃ (fb : Addr) (fdb : FuncData), FnOk P w K mg base CX0 1 fb fdb ["script"] (spBegun K) ∧ mg "_law_begun" = some (.ref fb) ∧ PySem.W.keepIn K (.ref fb) = true ∧ Binds K fdb ["script"] [])
    {cdv : Value} {A : Around} {outer : List Env} {s : Shared} {H : Hp} {vs : List V} {Q : VK} {E : XK} {j : Nat} (hr : Room j (A.deeper (envOfC "law" (defScope sLaw) s.heap.objs.size f cdv))) (hj : 12 ≤ j) (hgd : (A.deeper (envOfC "law" (defScope sLaw) s.heap.objs.size f cdv)).guards = some []) (hcd : cdv = .ref cL) (h : spLaw K T PL vs H Q E) :
    WB (cxOf CX0 P w K mg base NL "law" (defScope sLaw) f cdv A outer s H E).nox (defBody sLaw) { nx := fun _ H' => Q .non H', rt := Q } (start NL vs) H := by
  obtain ⟨a, ns, rfl, hn, hS, t, hPL, q⟩ := h
  obtain ⟨fb, fdb, Gb, mb, kb, bb⟩ := FB
  have lB : Le (hide PL H) H := hide_le
  have da : Dt K (hide PL H) (.ref a) (.list (ns.map PyData.int)) := .lst (hide_sql hPL hS) (tyx_sql (hide_sql hPL hS)) (ds_of_ints ns)
  have tB : Tbs T (hide PL H) := fun P' hP' => by
    obtain ⟨⟨ps, e, r⟩, nz⟩ := t P' hP'
    refine ⟨⟨ps, ?_, r⟩, nz⟩
    show (if P' = PL then none else H P') = _
    rw [if_neg fun z => nz (by rw [z]; exact FC.is)]
    exact e
  have hT0 : LamX.TabS H PL lamQ := ⟨#[], hPL, trivial, fun p cv hc => by cases hc⟩
  refine wb_cons ⟨_, ps_set (i := 1) ndLaw rfl (by first | exact Or.inl rfl | exact Or.inr rfl) (pe_call (E := L2.E0) Gb (hr.mono (by omega)) rfl mb kb bb .nil pass0 (pa_cons (pe_var (i := 0) rfl (by first | exact Or.inl rfl | exact Or.inr (Or.inl rfl) | exact Or.inr (Or.inr rfl))) pa_nil) (by decide) rfl rfl) rfl (by first | exact Or.inl rfl | exact Or.inr rfl), .ref a, rfl, ?_⟩
  refine ⟨a, hide PL H, ns, rfl, lB, da, by omega, fun d lw lc H' lH hd hlw hlc hne jj => ?_⟩
  have nT : ∀ b, H b = none → b ∉ T := fun b e z => by
    obtain ⟨⟨ps, e2, _⟩, _⟩ := t b z
    rw [e] at e2
    cases e2
  have hTD : ∀ b ∈ [d, lw, lc], b ∉ T := fun b hb => by
    rcases List.mem_cons.mp hb with z | z
    · rw [z]; exact nT d hd
    rcases List.mem_cons.mp z with z | z
    · rw [z]; exact nT lw hlw
    · rw [List.mem_singleton.mp z]; exact nT lc hlc
  have ap : Apt [d, lw, lc] (hide PL H) := fun b hb => by
    have : H b = none := by
      rcases List.mem_cons.mp hb with z | z
      · rw [z]; exact hd
      rcases List.mem_cons.mp z with z | z
      · rw [z]; exact hlw
      · rw [List.mem_singleton.mp z]; exact hlc
    exact lB.there b this
  have hT1 : LamX.TabS H' PL lamQ := tabS_le lH FC.is hT0
  have l1 : Le (hide PL H) H' := lB.trans lH
  have hlen : ((ns.map PyData.int).length : Int) ≤ 63 := by rw [List.length_map]; omega
  refine wb_cons (ws_for (ds := upto (4 + (if (10 : Int) < ((ns.map PyData.int).length : Int) then 10 else ((ns.map PyData.int).length : Int))).toNat) (tjs := [2]) (pat := patN) l1 (ei_range FA.bl.range (ee_op op_add rr_add ee_int (ee_min2 rfl FA.mn (ee_len FA.bl (ee_var (i := 0) rfl da) rfl fun x z => by cases z) ee_int)) (by split <;> omega) (by split <;> omega)) (eg_name ndLaw) (fun d hd => ⟨[d], rfl⟩) PassesOwn.never rfl
    (fun i σ' B' H' => ∃ s2 s3 s4 s5 s6 s7 s8 s9 s10, σ' = [some (.ref a), some (.ref d), s2, s3, s4, s5, s6, s7, s8, s9, s10] ∧ Le (hide PL H) B' ∧ Apt [d, lw, lc] B' ∧ B' PL = none ∧ DJ d lw lc (100 + 2000 * (14 - i)) H' ∧ LamX.TabS H' PL lamQ)
    (fun B' H2 u => ⟨none, none, none, none, none, none, none, none, none, rfl, u.b, (UpX.of u).apt cells_DJ jj ap, upx_pl (D := []) (.of u) hide_at hT1 FC.is, cells_DJ.less _ _ _ (cells_DJ.le _ _ _ jj u.h) (by decide), tabS_le u.h FC.is hT1⟩) (fun i x es us σ' B' H2 B'' H'' hi hd' lb hI u4 he dvs N2 hN => ?_) fun σ' B' H2 lb ls hI => ?_)
  · obtain ⟨s2, s3, s4, s5, s6, s7, s8, s9, s10, rfl, lB', ap', hB', j', hT'⟩ := hI
    have hi12 : i < 14 := by
      have : i < (4 + (if (10 : Int) < ((ns.map PyData.int).length : Int) then 10 else ((ns.map PyData.int).length : Int))).toNat := by
        have z := hi
        unfold upto at z
        rw [List.length_map, List.length_range] at z
        exact z
      split at this <;> omega
    cases he
    obtain ⟨y, rfl, hy⟩ := ds1 (K := K) dvs
    have ux : UpX [d, lw, lc] B' H2 B'' H'' := .of u4
    refine turn_ok FA FC N (m := 100 + 2000 * (14 - (i + 1))) (B := B'') hTD hne hr (by omega) hgd hcd u4.s (ux.apt cells_DJ j' ap') (upx_pl ux hB' hT' FC.is) ?_ (tB.le (lB'.trans u4.b)) (tabS_le u4.h FC.is hT') fun s3' s4' s5' s6' s7' s8' s9' s10' B3 H3 l3 l4 ap3 hB3 j3 hT3 => hN _ B3 H3 l3 l4 ⟨_, s3', s4', s5', s6', s7', s8', s9', s10', rfl, (lB'.trans u4.b).trans l3, ap3, hB3, j3, hT3⟩
    rw [show 100 + 2000 * (14 - (i + 1)) + 2000 = 100 + 2000 * (14 - i) by omega]
    exact cells_DJ.le _ _ _ j' u4.h
  · obtain ⟨s2, s3, s4, s5, s6, s7, s8, s9, s10, rfl, lB', ap', hB', j', hT'⟩ := hI
    refine wb_one (ws_ret (d := .bool true) ls ee_bl fun v B4 H4 u4 dv => ?_)
    cases dv
    exact q H4
theorem law_run (FA : Facts P w K mg base T) (FC : FactsC K mg base CG CS CA cL PL) (N : DrAt P w K mg base T CG CS CA fw fdw) (FB : ∃ (fb : Addr) (fdb : FuncData), FnOk P w K mg base CX0 1 fb fdb ["script"] (spBegun K) ∧ mg "_law_begun" = some (.ref fb) ∧ PySem.W.keepIn K (.ref fb) = true ∧ Binds K fdb ["script"] [])
    (F : L2.Fun K "law" "law" sLaw f fd) (hc : fd.code = .ref cL) : Cg.RunAt P w K mg base f fd "script" (spLaw K T PL) := by
  obtain ⟨oc, od, kV, doc, pm, an, cdv, ct, osl, rfl, lk, hcd⟩ := F.ex
  intro H s us vs Q E I hb hv h
  refine LamX.run_ofS (k := 12) (N := NL) (ps := ["script"]) lk hcd scLaw ⟨rfl, by decide, by decide⟩ I hb hv (by obtain ⟨a, ns, rfl, _⟩ := h; rfl) fun hr' => ?_
  obtain ⟨t, t1, t2⟩ := law_body FA FC N FB hr' (Nat.le_refl _) rfl hc h
  exact ⟨t, t1.nox, t2⟩
end
end K0


set_option Elab.async false
set_option linter.all false
set_option maxRecDepth 100000
set_option maxHeartbeats 4000000
/-! Pend: all of the program that law reaches keeps its promise. -/
namespace K0
open PySem PySem.Spec PyProof.Rows L2 GxR Tk
/-- where a def stands -/
structure DefAt (K : PySem.W.Frag) (x : Str) (st : Stmt) : Prop where
  ex : ∃ f fd, PySem.W.nsIn K mainGlobals x = some (some (.ref f)) ∧ L2.Fun K x x st f fd
/-- where a def stands whose code object, at c, has its table at Pt -/
structure TabAt (K : PySem.W.Frag) (x : Str) (st : Stmt) (c Pt : Addr) : Prop where
  ex : ∃ f fd, PySem.W.nsIn K mainGlobals x = some (some (.ref f)) ∧ L2.Fun K x x st f fd ∧ fd.code = .ref c
  tab : PySem.W.tabIn K x = some (c, Pt)
  no : K.lookup Pt = none
theorem defAt {K : PySem.W.Frag} {x : Str} {st : Stmt} {f : Addr} {od an : Option Addr} {sl : Array (Option Value)} {oc kV dc pm cd ct : Value}
    (a : PySem.W.nsIn K mainGlobals x = some (some (.ref f))) (l : K.lookup f = some ⟨oc, od, .func (PySem.W.fnOf x x (defArgs st) (defBody st) (defScope st) .none kV dc pm an cd ct), sl⟩) (c : PySem.W.codeIn K cd x = true) (k : PySem.W.keepIn K (.ref f) = true) : DefAt K x st :=
  ⟨_, _, a, fun_mk l c k⟩
theorem tabIn_of {K : PySem.W.Frag} {x : Str} {f cc Pt : Addr} {od dd : Option Addr} {sl sl2 : Array (Option Value)} {oc e : Value} {fd : FuncData} {vs : Array Value} (a : PySem.W.nsIn K mainGlobals x = some (some (.ref f)))
    (l : K.lookup f = some ⟨oc, od, .func fd, sl⟩) (hc : fd.code = .ref cc) (lc : K.lookup cc = some ⟨e, dd, .fields vs, sl2⟩) (v : vs[11]? = some (.ref Pt)) : PySem.W.tabIn K x = some (cc, Pt) := by
  unfold PySem.W.tabIn
  simp only [a, l, hc, lc, v]
theorem tabAt {K : PySem.W.Frag} {x : Str} {st : Stmt} {f cc Pt : Addr} {od an dd : Option Addr} {sl sl2 : Array (Option Value)} {oc kV dc pm ct e : Value} {vs : Array Value}
    (a : PySem.W.nsIn K mainGlobals x = some (some (.ref f))) (l : K.lookup f = some ⟨oc, od, .func (PySem.W.fnOf x x (defArgs st) (defBody st) (defScope st) .none kV dc pm an (.ref cc) ct), sl⟩) (c : PySem.W.codeIn K (.ref cc) x = true) (k : PySem.W.keepIn K (.ref f) = true) (lc : K.lookup cc = some ⟨e, dd, .fields vs, sl2⟩) (v : vs[11]? = some (.ref Pt)) (no : K.lookup Pt = none) : TabAt K x st cc Pt :=
  ⟨⟨_, _, a, fun_mk l c k, rfl⟩, tabIn_of a l rfl lc v, no⟩
/-- the classes of errors -/
structure ErrAt (K : PySem.W.Frag) (x : Str) (C CB : Addr) : Prop where
  gS : PySem.W.nsIn K mainGlobals x = some (some (.ref C))
  gB : PySem.W.nsIn K mainGlobals "BoughError" = some (some (.ref CB))
  xS : PySem.W.excIn K C [.type "ValueError", .type "Exception", .type "BaseException", .type "object"] "ValueError.__new__" = true
  kS : PySem.W.keepIn K (.ref C) = true
  bS : PySem.W.subIn K (.ref C) (.type "BaseException") = some true
  tS : PySem.W.typeIn K (.ref C) = some (.type "type")
  bB : PySem.W.subIn K (.ref CB) (.type "BaseException") = some true
  dB : PySem.W.hasDictIn K CB = true
  tB : PySem.W.typeIn K (.ref CB) = some (.type "type")
  sB : PySem.W.subIn K (.ref C) (.ref CB) = some true
  hg : PySem.W.findIn K (.ref C) "__getattribute__" = some (some (.builtin "BaseException.__getattribute__"))
  hk : PySem.W.findIn K (.ref C) "__getattr__" = some none
  hd : PySem.W.hasDictIn K C = true
  ha : PySem.W.findIn K (.ref C) "__class__" = some (some (.builtin "object.__class__"))
  hn : PySem.W.specialIn K (.builtin "object.__class__") "__get__" = some (some (.builtin "getset_descriptor.__get__"))
  ht : PySem.W.takesIn K (.builtin "object.__class__") = some true
  hm : PySem.W.mroIn K C (.type "object") = some true
structure FreeAt (K : PySem.W.Frag) : Prop where
  z1 : PySem.W.nsIn K mainGlobals "isinstance" = some none
  z2 : PySem.W.nsIn K mainGlobals "int" = some none
  z3 : PySem.W.nsIn K mainGlobals "bool" = some none
  z4 : PySem.W.nsIn K mainGlobals "str" = some none
  z5 : PySem.W.nsIn K mainGlobals "tuple" = some none
  z6 : PySem.W.nsIn K mainGlobals "list" = some none
  z7 : PySem.W.nsIn K mainGlobals "dict" = some none
  z8 : PySem.W.nsIn K mainGlobals "len" = some none
  z9 : PySem.W.nsIn K mainGlobals "all" = some none
  z10 : PySem.W.nsIn K mainGlobals "any" = some none
  z11 : PySem.W.nsIn K mainGlobals "range" = some none
  z12 : PySem.W.nsIn K mainGlobals "enumerate" = some none
  z13 : PySem.W.nsIn K mainGlobals "repr" = some none
  z14 : PySem.W.nsIn K mainGlobals "min" = some none
  z15 : PySem.W.nsIn K mainGlobals "sorted" = some none
  z16 : PySem.W.nsIn K mainGlobals "set" = some none
  z17 : PySem.W.nsIn K mainGlobals "abs" = some none
  z18 : PySem.W.nsIn K mainGlobals "max" = some none
structure AllAt (K : PySem.W.Frag) : Prop where
  d1 : DefAt K "is_number" sNum
  d2 : DefAt K "is_headed" sHead
  d3 : DefAt K "is_row" sRow
  d4 : DefAt K "is_game_row" sGRow
  d5 : DefAt K "check_game" sCkG
  d6 : DefAt K "check_side" sCkS
  d7 : DefAt K "sources_of" sSrc
  d8 : DefAt K "drawn" sDr
  d9 : DefAt K "_law_begun" sBegun
  d10 : DefAt K "_law_mixed" sMix
  d11 : DefAt K "_law_take" sTake
  d12 : DefAt K "_law_pick" sPick
  d13 : DefAt K "_law_shuffled" sShuf
  d14 : DefAt K "_law_caught" (top 29)
  d15 : DefAt K "_law_is_number" sLNum
  d16 : DefAt K "_law_goals" sLGoals
  d17 : DefAt K "_law_game" sLGame
  d18 : DefAt K "_law_bad_game" sLBadG
  d19 : DefAt K "_law_is_tuple" sLIsT
  d20 : DefAt K "_law_is_drawn" sLIsD
  d21 : DefAt K "_law_bad_aims" sLBadA
  mr : ∃ t, PySem.W.nsIn K mainGlobals "MOST_ROWS" = some (some (.int 20000 t))
  mgo : ∃ t, PySem.W.nsIn K mainGlobals "MOST_GOALS" = some (some (.int 4000 t))
  rk : ∃ t, PySem.W.nsIn K mainGlobals "RANKS" = some (some (.int 302 t))
/-- by name: aims, side, game -/
theorem kb3 {K : PySem.W.Frag} {x : Str} {st : Stmt} {f : Addr} {fd : FuncData} (F : L2.Fun K x x st f fd)
    (hb : ∀ (kV doc pm : Value) (an : Option Addr) (cdv ct a s g : Value), bindArgs (PySem.W.fnOf x x (defArgs st) (defBody st) (defScope st) Value.none kV doc pm an cdv ct) { pos := [], kw := [("aims", a), ("side", s), ("game", g)] } = pure ([("game", g), ("side", s), ("aims", a)] : List (Str × Value))) :
    KBinds K fd ["game", "side", "aims"] ["aims", "side", "game"] gW gV := by
  obtain ⟨oc, od, kV, doc, pm, an, cdv, ct, osl, rfl, _, _⟩ := F.ex
  refine ⟨fun s us ws _ hl => ?_, fun {vs us zs ws} r1 r2 => ?_⟩
  · match us, ws, hl with
    | [], [p, w, u], _ => exact .of_eq (hb kV doc pm an cdv ct p w u)
    | [], [], hl => cases hl
    | [], [_], hl => cases hl
    | [], [_, _], hl => cases hl
    | [], _ :: _ :: _ :: _ :: _, hl => cases hl
    | _ :: _, _, hl => cases hl
  · match vs, us, r1, zs, ws, r2 with
    | [], [], _, [_, _, _], [_, _, _], .cons a (.cons b (.cons c .nil)) => exact .cons c (.cons b (.cons a .nil))
    | [], [], _, [], [], _ => exact .nil
    | [], [], _, [_], [_], _ => exact .nil
    | [], [], _, [_, _], [_, _], _ => exact .nil
    | [], [], _, _ :: _ :: _ :: _ :: _, _ :: _ :: _ :: _ :: _, _ => exact .nil
    | _ :: _, _ :: _, _, _, _, _ => exact .nil
section
variable {l : PySem.W.OpenLaw} {w : World} {K : PySem.W.Frag} {h : Heap} {mg : Str → Option Value} {fa CG CS CA CB c1 c2 c3 c4 cL P1 P2 P3 P4 PL : Addr}
theorem err_of {x : Str} {C : Addr} (X : K.In h) (G : h.Ns mainGlobals mg) (er : ErrAt K x C CB) : ErrC K mg x C :=
  ⟨PySem.W.mg_of X G er.gS, ⟨er.hg, er.hk, er.bS, er.hd, er.ha, er.hn, er.ht, er.hm⟩, if_pos (by simp), CB, PySem.W.mg_of X G er.gB, PySem.W.exm_ref er.bB er.dB er.tB er.sB⟩
theorem law_at (X : K.In h) (G : h.Ns mainGlobals mg) (hfa : mg "law" = some (.ref fa)) (t1 : TabAt K "ascends" sAsc c1 P1) (t2 : TabAt K "is_numbers" sNums c2 P2) (t3 : TabAt K "are_goals" sGoals c3 P3) (t4 : TabAt K "is_game" sGame c4 P4) (tL : TabAt K "law" sLaw cL PL)
    (D : AllAt K) (erG : ErrAt K "BadGame" CG CB) (erS : ErrAt K "BadSide" CS CB) (erA : ErrAt K "BadAims" CA CB) (fr : FreeAt K) (ne : ∀ P ∈ [P1, P2, P3, P4], P ≠ PL)
    (tabs : ∀ y ∈ (["ascends", "is_numbers", "are_goals", "is_game", "law"] : List Str), ∀ c P, PySem.W.tabIn K y = some (c, P) → PySem.W.CodeHd h c P ∧ h.get? P = some { cls := .none, data := .fields #[] }) :
    ∃ (fd : FuncData) (cs : List (Addr × Addr)) (sp : Sp), (∀ p ∈ cs, PySem.W.CodeHd h p.1 p.2 ∧ h.get? p.2 = some { cls := .none, data := .fields #[] }) ∧ (∀ p ∈ cs, K.lookup p.2 = none) ∧ (∀ (s : Shared) (u : Value), BindsTo s fd ⟨[u], []⟩ [("script", u)]) ∧
      (∀ (H : Hp) (a : Addr) (ns : List Int), ns.length ≤ 63 → (∀ p ∈ cs, H p.2 = some (.tbl #[])) → SqL K H a (ns.map V.int) → sp [.ref a] H (fun v _ => v = .bl true) fun _ _ _ => False) ∧
      ∀ base : Heap, K.In base → base.Ns mainGlobals mg → (∀ p ∈ cs, LamX.TabB base mg p.1 p.2) → Cg.RunAt l.prog w K mg base fa fd "script" sp := by
  have hcs : ∀ p ∈ [(c1, P1), (c2, P2), (c3, P3), (c4, P4), (cL, PL)], PySem.W.CodeHd h p.1 p.2 ∧ h.get? p.2 = some { cls := .none, data := .fields #[] } := fun p hp => by
    simp only [List.mem_cons, List.not_mem_nil, or_false] at hp
    rcases hp with rfl | rfl | rfl | rfl | rfl
    · exact tabs _ (by simp) _ _ t1.tab
    · exact tabs _ (by simp) _ _ t2.tab
    · exact tabs _ (by simp) _ _ t3.tab
    · exact tabs _ (by simp) _ _ t4.tab
    · exact tabs _ (by simp) _ _ tL.tab
  letI : LamTab := ⟨fun a => a = PL⟩
  obtain ⟨fL, fdL, nL, FL, hcL⟩ := tL.ex
  have eL := hfa.symm.trans (PySem.W.mg_of X G nL)
  cases eL
  have mgd : ∀ {x : Str} {st : Stmt}, DefAt K x st → ∃ f fd, mg x = some (.ref f) ∧ L2.Fun K x x st f fd := fun d => by
    obtain ⟨f, fd, a, F⟩ := d.ex
    exact ⟨f, fd, PySem.W.mg_of X G a, F⟩
  have mgt : ∀ {x : Str} {st : Stmt} {c Pt : Addr}, TabAt K x st c Pt → ∃ f fd, mg x = some (.ref f) ∧ L2.Fun K x x st f fd ∧ fd.code = .ref c := fun d => by
    obtain ⟨f, fd, a, F, e⟩ := d.ex
    exact ⟨f, fd, PySem.W.mg_of X G a, F, e⟩
  have BL : Blt mg := ⟨PySem.W.mg_none_of X G fr.z1, PySem.W.mg_none_of X G fr.z2, PySem.W.mg_none_of X G fr.z3, PySem.W.mg_none_of X G fr.z4, PySem.W.mg_none_of X G fr.z5, PySem.W.mg_none_of X G fr.z6, PySem.W.mg_none_of X G fr.z7, PySem.W.mg_none_of X G fr.z8, PySem.W.mg_none_of X G fr.z9, PySem.W.mg_none_of X G fr.z10, PySem.W.mg_none_of X G fr.z11, PySem.W.mg_none_of X G fr.z12⟩
  have hrp := PySem.W.mg_none_of X G fr.z13
  have hmn := PySem.W.mg_none_of X G fr.z14
  have hso := PySem.W.mg_none_of X G fr.z15
  have hse := PySem.W.mg_none_of X G fr.z16
  have hab := PySem.W.mg_none_of X G fr.z17
  have hmx := PySem.W.mg_none_of X G fr.z18
  have hmr : ∃ t, mg "MOST_ROWS" = some (.int 20000 t) := by
    obtain ⟨t, e⟩ := D.mr
    exact ⟨t, PySem.W.mg_of X G e⟩
  have hmgo : ∃ t, mg "MOST_GOALS" = some (.int 4000 t) := by
    obtain ⟨t, e⟩ := D.mgo
    exact ⟨t, PySem.W.mg_of X G e⟩
  have hrk : ∃ t, mg "RANKS" = some (.int 302 t) := by
    obtain ⟨t, e⟩ := D.rk
    exact ⟨t, PySem.W.mg_of X G e⟩
  have eG := err_of X G erG
  have eS := err_of X G erS
  have eA := err_of X G erA
  obtain ⟨f1, fd1, m1, F1⟩ := mgd D.d1
  obtain ⟨f2, fd2, m2, F2⟩ := mgd D.d2
  obtain ⟨f3, fd3, m3, F3⟩ := mgd D.d3
  obtain ⟨f4, fd4, m4, F4⟩ := mgd D.d4
  obtain ⟨f5, fd5, m5, F5⟩ := mgd D.d5
  obtain ⟨f6, fd6, m6, F6⟩ := mgd D.d6
  obtain ⟨f7, fd7, m7, F7⟩ := mgd D.d7
  obtain ⟨f8, fd8, m8, F8⟩ := mgd D.d8
  obtain ⟨f9, fd9, m9, F9⟩ := mgd D.d9
  obtain ⟨f10, fd10, m10, F10⟩ := mgd D.d10
  obtain ⟨f11, fd11, m11, F11⟩ := mgd D.d11
  obtain ⟨f12, fd12, m12, F12⟩ := mgd D.d12
  obtain ⟨f13, fd13, m13, F13⟩ := mgd D.d13
  obtain ⟨f14, fd14, m14, F14⟩ := mgd D.d14
  obtain ⟨f15, fd15, m15, F15⟩ := mgd D.d15
  obtain ⟨f16, fd16, m16, F16⟩ := mgd D.d16
  obtain ⟨f17, fd17, m17, F17⟩ := mgd D.d17
  obtain ⟨f18, fd18, m18, F18⟩ := mgd D.d18
  obtain ⟨f19, fd19, m19, F19⟩ := mgd D.d19
  obtain ⟨f20, fd20, m20, F20⟩ := mgd D.d20
  obtain ⟨f21, fd21, m21, F21⟩ := mgd D.d21
  obtain ⟨g1, gd1, n1, G1, k1⟩ := mgt t1
  obtain ⟨g2, gd2, n2, G2, k2⟩ := mgt t2
  obtain ⟨g3, gd3, n3, G3, k3⟩ := mgt t3
  obtain ⟨g4, gd4, n4, G4, k4⟩ := mgt t4
  have b1 := F1.binds (ps := ["thing", "limit"]) fun _ _ _ _ _ _ us hl => match us, hl with | [_, _], _ => rfl
  have b2 := F2.binds (ps := ["thing", "word", "size"]) fun _ _ _ _ _ _ us hl => match us, hl with | [_, _, _], _ => rfl
  have b3 := F3.binds (ps := ["thing", "least", "most"]) fun _ _ _ _ _ _ us hl => match us, hl with | [_, _, _], _ => rfl
  have b4 := F4.binds (ps := ["thing", "many"]) fun _ _ _ _ _ _ us hl => match us, hl with | [_, _], _ => rfl
  have b5 := F5.binds (ps := ["game"]) fun _ _ _ _ _ _ us hl => match us, hl with | [_], _ => rfl
  have b6 := F6.binds (ps := ["side"]) fun _ _ _ _ _ _ us hl => match us, hl with | [_], _ => rfl
  have b7 := F7.binds (ps := ["rows"]) fun _ _ _ _ _ _ us hl => match us, hl with | [_], _ => rfl
  have b8 := F8.binds (ps := ["game", "side", "aims"]) fun _ _ _ _ _ _ us hl => match us, hl with | [_, _, _], _ => rfl
  have b9 := F9.binds (ps := ["script"]) fun _ _ _ _ _ _ us hl => match us, hl with | [_], _ => rfl
  have b10 := F10.binds (ps := ["draw"]) fun _ _ _ _ _ _ us hl => match us, hl with | [_], _ => rfl
  have b11 := F11.binds (ps := ["draw", "many"]) fun _ _ _ _ _ _ us hl => match us, hl with | [_, _], _ => rfl
  have b12 := F12.binds (ps := ["draw", "some"]) fun _ _ _ _ _ _ us hl => match us, hl with | [_, _], _ => rfl
  have b13 := F13.binds (ps := ["draw", "some"]) fun _ _ _ _ _ _ us hl => match us, hl with | [_, _], _ => rfl
  have b14 := F14.binds (ps := ["work"]) fun _ _ _ _ _ _ us hl => match us, hl with | [_], _ => rfl
  have b15 := F15.binds (ps := ["thing", "end"]) fun _ _ _ _ _ _ us hl => match us, hl with | [_, _], _ => rfl
  have b16 := F16.binds (ps := ["draw", "many", "most"]) fun _ _ _ _ _ _ us hl => match us, hl with | [_, _, _], _ => rfl
  have b17 := F17.binds (ps := ["draw", "most", "wide"]) fun _ _ _ _ _ _ us hl => match us, hl with | [_, _, _], _ => rfl
  have b18 := F18.binds (ps := ["draw"]) fun _ _ _ _ _ _ us hl => match us, hl with | [_], _ => rfl
  have b19 := F19.binds (ps := ["thing", "many"]) fun _ _ _ _ _ _ us hl => match us, hl with | [_, _], _ => rfl
  have b20 := F20.binds (ps := ["game", "side", "aims", "found"]) fun _ _ _ _ _ _ us hl => match us, hl with | [_, _, _, _], _ => rfl
  have b21 := F21.binds (ps := ["draw", "many"]) fun _ _ _ _ _ _ us hl => match us, hl with | [_, _], _ => rfl
  have a1 := G1.binds (ps := ["items"]) fun _ _ _ _ _ _ us hl => match us, hl with | [_], _ => rfl
  have a2 := G2.binds (ps := ["thing", "limit"]) fun _ _ _ _ _ _ us hl => match us, hl with | [_, _], _ => rfl
  have a3 := G3.binds (ps := ["thing", "many"]) fun _ _ _ _ _ _ us hl => match us, hl with | [_, _], _ => rfl
  have a4 := G4.binds (ps := ["thing"]) fun _ _ _ _ _ _ us hl => match us, hl with | [_], _ => rfl
  have bL := FL.binds (ps := ["script"]) fun _ _ _ _ _ _ us hl => match us, hl with | [_], _ => rfl
  have kbD := kb3 F8 fun _ _ _ _ _ _ _ _ _ => rfl
  refine ⟨fdL, [(c1, P1), (c2, P2), (c3, P3), (c4, P4), (cL, PL)], spLaw K [P1, P2, P3, P4] PL, hcs, fun p hp => ?_, fun s u => ?_, fun H a ns hl hH hS => ⟨a, ns, rfl, hl, hS, fun P hP => ?_, hH (cL, PL) (by simp), fun _ => rfl⟩, fun base kin gn TB => ?_⟩
  · simp only [List.mem_cons, List.not_mem_nil, or_false] at hp
    rcases hp with rfl | rfl | rfl | rfl | rfl
    · exact t1.no
    · exact t2.no
    · exact t3.no
    · exact t4.no
    · exact tL.no
  · obtain ⟨oc, od, kV, doc, pm, an, cdv, ct, osl, rfl, _, _⟩ := FL.ex
    exact .of_eq rfl
  · refine ⟨⟨#[], ?_, trivial⟩, ne P hP⟩
    simp only [List.mem_cons, List.not_mem_nil, or_false] at hP
    rcases hP with rfl | rfl | rfl | rfl
    · exact hH (c1, P) (by simp)
    · exact hH (c2, P) (by simp)
    · exact hH (c3, P) (by simp)
    · exact hH (c4, P) (by simp)
  · have tb : ∀ {c Pt : Addr}, (c, Pt) ∈ [(c1, P1), (c2, P2), (c3, P3), (c4, P4), (cL, PL)] → GxR.TabB base mg c Pt := fun {c Pt} hm => by
      have z := TB (c, Pt) hm
      exact ⟨z.code, z.bm, z.gP⟩
    have K1 : Kn l.prog w K mg base 1 "is_number" ["thing", "limit"] (spF K [P1, P2, P3, P4] 2 numP numF) := Kn.mk' F1 m1 (ok_num BL F1) b1
    have K2 : Kn l.prog w K mg base 1 "is_headed" ["thing", "word", "size"] (spF K [P1, P2, P3, P4] 3 headP headF) := Kn.mk' F2 m2 (ok_head BL F2) b2
    have K3 : Kn l.prog w K mg base 1 "is_row" ["thing", "least", "most"] (spF K [P1, P2, P3, P4] 3 rowP rowF) := Kn.mk' F3 m3 (ok_row BL F3) b3
    have KA : Kn l.prog w K mg base 2 "ascends" ["items"] (spF K [P1, P2, P3, P4] 1 ascP ascF) := Kn.mk' G1 n1 (ok_asc BL G1 k1 (tb (c := c1) (Pt := P1) (by simp)) (by simp)) a1
    have KNs : Kn l.prog w K mg base 4 "is_numbers" ["thing", "limit"] (spF K [P1, P2, P3, P4] 2 okMP numsF) := Kn.mk' G2 n2 (ok_nums BL K1 KA G2 k2 (tb (c := c2) (Pt := P2) (by simp)) (by simp)) a2
    have KGo : Kn l.prog w K mg base 3 "are_goals" ["thing", "many"] (spF K [P1, P2, P3, P4] 2 okMP goalsF) := Kn.mk' G3 n3 (ok_goals BL hse hmgo K1 K3 G3 k3 (tb (c := c3) (Pt := P3) (by simp)) (by simp)) a3
    have KGr : Kn l.prog w K mg base 4 "is_game_row" ["thing", "many"] (spF K [P1, P2, P3, P4] 2 okMP growF) := Kn.mk' F4 m4 (ok_grow hrk K1 K3 KGo F4) b4
    have KG : Kn l.prog w K mg base 6 "is_game" ["thing"] (spF K [P1, P2, P3, P4] 1 okP gameF) := Kn.mk' G4 n4 (ok_game BL hmr K2 K3 KGr G4 k4 (tb (c := c4) (Pt := P4) (by simp)) (by simp)) a4
    have okCG : FnOk l.prog w K mg base (L2.CX l.prog w) 7 f5 fd5 ["game"] (spChk K [P1, P2, P3, P4] gameB CG) := ok_ckG KG erG.xS eG.m erG.kS erG.bS erG.tS F5
    have okCS : FnOk l.prog w K mg base (L2.CX l.prog w) 7 f6 fd6 ["side"] (spChk K [P1, P2, P3, P4] sideB CS) := ok_ckS K1 erS.xS eS.m erS.kS erS.bS erS.tS F6
    have KS : Kn l.prog w K mg base 1 "sources_of" ["rows"] (spF K [P1, P2, P3, P4] 1 srcP srcF) := Kn.mk' F7 m7 (ok_src BL.enumerate F7) b7
    have okD : FnOk l.prog w K mg base (L2.CX l.prog w) 8 f8 fd8 ["game", "side", "aims"] (spDr K [P1, P2, P3, P4] CG CS CA) := ok_dr BL okCG m5 F5.kp b5 okCS m6 F6.kp b6 KNs KS erA.xS eA.m erA.kS erA.bS erA.tS F8
    have N : DrAt l.prog w K mg base [P1, P2, P3, P4] CG CS CA f8 fd8 := ⟨okD, m8, F8.kp, b8, kbD⟩
    have Jt : ∀ d lw lc, (∀ a ∈ [d, lw, lc], a ∉ [P1, P2, P3, P4]) → lw ≠ lc → KnTake l.prog w K mg base [P1, P2, P3, P4] d lw lc := fun d lw lc hTD hne => Kn.mk' F11 m11 (ok_take BL hTD hne (Kn.mk' F10 m10 (ok_mix BL hTD F10) b10) F11) b11
    have Jp : ∀ d lw lc, (∀ a ∈ [d, lw, lc], a ∉ [P1, P2, P3, P4]) → lw ≠ lc → KnPick l.prog w K mg base [P1, P2, P3, P4] d lw lc := fun d lw lc hTD hne => Kn.mk' F12 m12 (ok_pick BL hTD (Jt d lw lc hTD hne) F12) b12
    have Js : ∀ d lw lc, (∀ a ∈ [d, lw, lc], a ∉ [P1, P2, P3, P4]) → lw ≠ lc → KnShuf l.prog w K mg base [P1, P2, P3, P4] d lw lc := fun d lw lc hTD hne => Kn.mk' F13 m13 (ok_shuf BL hTD (Jt d lw lc hTD hne) F13) b13
    have Jg : ∀ d lw lc, (∀ a ∈ [d, lw, lc], a ∉ [P1, P2, P3, P4]) → lw ≠ lc → KnJ l.prog w K mg base 4 "_law_goals" ["draw", "many", "most"] [P1, P2, P3, P4] d lw lc 2 91 lgP lgR := fun d lw lc hTD hne => Kn.mk' F16 m16 (ok_lgoals BL hTD (Jt d lw lc hTD hne) (Js d lw lc hTD hne) F16) b16
    have KLn : Kn l.prog w K mg base 1 "_law_is_number" ["thing", "end"] (spF K [P1, P2, P3, P4] 2 numP numF) := Kn.mk' F15 m15 (ok_lnum BL F15) b15
    have KLt : Kn l.prog w K mg base 1 "_law_is_tuple" ["thing", "many"] (spF K [P1, P2, P3, P4] 2 numP isTF) := Kn.mk' F19 m19 (ok_lisT BL F19) b19
    have FA : Facts l.prog w K mg base [P1, P2, P3, P4] :=
      { bl := BL, rp := hrp, mn := hmn, so := hso, take := Jt, pick := Jp, shuf := Js
        game := fun d lw lc hTD hne => Kn.mk' F17 m17 (ok_lgame BL hmn hTD (Jt d lw lc hTD hne) (Jp d lw lc hTD hne) (Js d lw lc hTD hne) (Jg d lw lc hTD hne) F17) b17
        badG := fun d lw lc hTD hne => Kn.mk' F18 m18 (ok_lbadG BL hTD (Jp d lw lc hTD hne) F18) b18
        badA := fun d lw lc hTD hne => Kn.mk' F21 m21 (ok_lbadA BL hTD (Jp d lw lc hTD hne) F21) b21
        isD := Kn.mk' F20 m20 (ok_lisD BL hmn hmx KLt KLn F20) b20 }
    have FC : FactsC K mg base CG CS CA cL PL := ⟨⟨f14, fd14, F14, m14, b14⟩, eG, eS, eA, TB (cL, PL) (by simp), rfl⟩
    exact law_run FA FC N ⟨f9, fd9, ok_begun BL hab F9, m9, F9.kp, b9⟩ FL hcL
end
end K0


set_option Elab.async false
set_option linter.all false
set_option maxRecDepth 100000
open PySem PySem.W PyProof.Rows
set_option maxRecDepth 100000 in
set_option maxHeartbeats 0 in
theorem PySem.Challenge.cw_allboughs_k09_whole_plays_drawn_to_rows_holds : PySem.Challenge.rw_allboughs_k09_whole_plays_drawn_to_rows.Holds := by
  w_on; o_law; k_head; (case hw => w_witness2)
  k_fill
  refine Cg.walk_at (l := PySem.Challenge.rw_allboughs_k09_whole_plays_drawn_to_rows) (n := 63) (x := "script") rfl (by decide) rfl (fun w h Y => PySem.W.km_in_of Y) ?F
  case F =>
    intro w mg fa h Y KX G hmg tabs
    refine' K0.law_at KX G hmg ?t1 ?t2 ?t3 ?t4 ?tL ?D ?erG ?erS ?erA ?fr ?ne ?tabs
    case t1 => (refine' K0.tabAt ?a ?l ?c ?k ?lc ?v ?no; (case a => k_is); (case l => k_is); (case c => k_is); (case k => k_is); (case lc => k_is); (case v => rfl); (case no => first | k_is | kernel_rfl))
    case t2 => (refine' K0.tabAt ?a ?l ?c ?k ?lc ?v ?no; (case a => k_is); (case l => k_is); (case c => k_is); (case k => k_is); (case lc => k_is); (case v => rfl); (case no => first | k_is | kernel_rfl))
    case t3 => (refine' K0.tabAt ?a ?l ?c ?k ?lc ?v ?no; (case a => k_is); (case l => k_is); (case c => k_is); (case k => k_is); (case lc => k_is); (case v => rfl); (case no => first | k_is | kernel_rfl))
    case t4 => (refine' K0.tabAt ?a ?l ?c ?k ?lc ?v ?no; (case a => k_is); (case l => k_is); (case c => k_is); (case k => k_is); (case lc => k_is); (case v => rfl); (case no => first | k_is | kernel_rfl))
    case tL => (refine' K0.tabAt ?a ?l ?c ?k ?lc ?v ?no; (case a => k_is); (case l => k_is); (case c => k_is); (case k => k_is); (case lc => k_is); (case v => rfl); (case no => first | k_is | kernel_rfl))
    case ne => decide
    case D =>
      refine ⟨?_, ?_, ?_, ?_, ?_, ?_, ?_, ?_, ?_, ?_, ?_, ?_, ?_, ?_, ?_, ?_, ?_, ?_, ?_, ?_, ?_, ?mr, ?mgo, ?rk⟩
      case mr => exact ⟨_, by k_is⟩
      case mgo => exact ⟨_, by k_is⟩
      case rk => exact ⟨_, by k_is⟩
      all_goals (refine' K0.defAt ?a ?l ?c ?k; (case a => k_is); (case l => k_is); (case c => k_is); (case k => k_is))
    case erG =>
      refine' ⟨?gS, ?gB, ?xS, ?kS, ?bS, ?tS, ?bB, ?dB, ?tB, ?sB, ?hg, ?hk, ?hd, ?ha, ?hn, ?ht, ?hm⟩
      (case gS => k_is); (case gB => k_is); (case xS => k_exc); (case kS => k_is); (case bS => k_is); (case tS => k_is); (case bB => k_is); (case dB => k_is); (case tB => k_is); (case sB => k_is)
      (case hg => k_is); (case hk => k_is); (case hd => k_is); (case ha => k_is); (case hn => k_is); (case ht => k_is); (case hm => k_is)
    case erS =>
      refine' ⟨?gS, ?gB, ?xS, ?kS, ?bS, ?tS, ?bB, ?dB, ?tB, ?sB, ?hg, ?hk, ?hd, ?ha, ?hn, ?ht, ?hm⟩
      (case gS => k_is); (case gB => k_is); (case xS => k_exc); (case kS => k_is); (case bS => k_is); (case tS => k_is); (case bB => k_is); (case dB => k_is); (case tB => k_is); (case sB => k_is)
      (case hg => k_is); (case hk => k_is); (case hd => k_is); (case ha => k_is); (case hn => k_is); (case ht => k_is); (case hm => k_is)
    case erA =>
      refine' ⟨?gS, ?gB, ?xS, ?kS, ?bS, ?tS, ?bB, ?dB, ?tB, ?sB, ?hg, ?hk, ?hd, ?ha, ?hn, ?ht, ?hm⟩
      (case gS => k_is); (case gB => k_is); (case xS => k_exc); (case kS => k_is); (case bS => k_is); (case tS => k_is); (case bB => k_is); (case dB => k_is); (case tB => k_is); (case sB => k_is)
      (case hg => k_is); (case hk => k_is); (case hd => k_is); (case ha => k_is); (case hn => k_is); (case ht => k_is); (case hm => k_is)
    case fr => refine ⟨?_, ?_, ?_, ?_, ?_, ?_, ?_, ?_, ?_, ?_, ?_, ?_, ?_, ?_, ?_, ?_, ?_, ?_⟩ <;> k_is
    case tabs =>
      intro y hy c P ht
      simp only [List.mem_cons, List.not_mem_nil, or_false] at hy
      rcases hy with rfl | rfl | rfl | rfl | rfl
      · exact tabs _ c P _ rfl ht
      · exact tabs _ c P _ rfl ht
      · exact tabs _ c P _ rfl ht
      · exact tabs _ c P _ rfl ht
      · exact tabs _ c P _ rfl ht


