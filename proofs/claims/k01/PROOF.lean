import PyProof.Rows.All
import Wide.All
import OpenK.AllK
import Wide.FinOn
import PyProof.EqAt
import PyProof.EqKinds
import PyProof.TupleCall
import KE.KNest
import HandS.ForMost
import HandS.AnyAll
import HandS.GenOver
import PyProof.JoinWalk
import HandS.JoinGen
import PyProof.StrLawsIn
import HandS.Exc
import HandS.ExcOwn
import HandS.Conv
import HandS.IsInst
import HandS.Style
import HandS.Defaults
import PySem.Challenge.RW_slabfloor_k01_slabs_that_may
import HandS.Codes
import HandS.More
import HandS.EndOwn
set_option Elab.async false
set_option linter.all false
set_option maxRecDepth 100000
set_option maxHeartbeats 2000000
/-! A generator expression of two clauses (for x in ..: for y in x), walked by any. -/
namespace Gx2
open PySem PySem.Spec PyProof.Rows L2
open Sem (wp)

theorem eval_gen2 (elt target iter : Expr) (g2 : Comprehension) (scope : Scope) (pos : Pos) (env : Env) (hco : scope.isCoroutine = false) :
    eval (.GeneratorExp elt [⟨target, iter, [], 0⟩, g2] scope pos) env = (do
      let x ← eval iter env
      standAt iter.pos
      let x ← genFold iter env x
      let it ← holding [x] (pyIter x)
      enterFrame
      let cl ← closureFor scope env
      let code ← genexprCode env pos (env.qual ++ "<genexpr>") scope
      let bi ← builtinsFor env.globals env.builtins
      let cenv ← newFunctionEnv scope env.globals cl [(".0", it)] (env.qual ++ "<genexpr>.") none code none bi
      newGenerator (.compStart (.GeneratorExp elt [⟨target, iter, [], 0⟩, g2] scope pos) 0 it .none cenv) "<genexpr>" (env.qual ++ "<genexpr>")) := by
  rw [arm_eval_GeneratorExp]
  simp only [hco, Bool.false_eq_true, if_false]
  cases iter <;> rfl

theorem turn0 (elt t1 iter t2 : Expr) (y : Str) (py : Pos) (scope : Scope) (pos : Pos) (it acc : Value) (env : Env) :
    compTurn (.GeneratorExp elt [⟨t1, iter, [], 0⟩, ⟨t2, .Name y py, [], 0⟩] scope pos) 0 it acc env = (do
      standAt iter.pos
      match ← pyNext it with
      | none => pure (.done .next)
      | some v =>
        letOwnedTupleGo t1 it v
        assign t1 env v
        let x ← eval (.Name y py) env
        standAt py
        let J ← holding [x] (pyIter x)
        let _ ← runOwn (.compStart (.GeneratorExp elt [⟨t1, iter, [], 0⟩, ⟨t2, .Name y py, [], 0⟩] scope pos) 1 J acc env) env
        again (.compLoop (.GeneratorExp elt [⟨t1, iter, [], 0⟩, ⟨t2, .Name y py, [], 0⟩] scope pos) 0 it acc env)) := by
  rfl
theorem turn1 (elt t1 iter t2 iter2 : Expr) (scope : Scope) (pos : Pos) (it acc : Value) (env : Env) :
    compTurn (.GeneratorExp elt [⟨t1, iter, [], 0⟩, ⟨t2, iter2, [], 0⟩] scope pos) 1 it acc env = (do
      standAt iter2.pos
      match ← pyNext it with
      | none => pure (.done .next)
      | some v =>
        letOwnedTupleGo t2 it v
        assign t2 env v
        (do let v ← eval elt env; standAt elt.pos; let _ ← yieldOut env v)
        again (.compLoop (.GeneratorExp elt [⟨t1, iter, [], 0⟩, ⟨t2, iter2, [], 0⟩] scope pos) 1 it acc env)) := by
  rfl

/-- the generator's run since s₀: below B all but its frame and the iterator's own cells is kept -/
def Since (B : Nat) (C : Addr) (wr : List Addr) (s₀ s : Shared) : Prop :=
  ∃ h' tk, s = { s₀ with heap := h', toks := tk } ∧ ∀ b o, b < B → b ≠ C → b ∉ wr → s₀.heap.get? b = some o → h'.get? b = some o
theorem Since.refl (B : Nat) (C : Addr) (wr : List Addr) (s : Shared) : Since B C wr s s := ⟨s.heap, s.toks, rfl, fun _ _ _ _ _ e => e⟩
theorem Since.step {B : Nat} {C : Addr} {wr : List Addr} {s₀ s : Shared} (x : Since B C wr s₀ s) {h' : Heap} {tk : Nat} (hk : ∀ b o, b < B → b ≠ C → b ∉ wr → s.heap.get? b = some o → h'.get? b = some o) :
    Since B C wr s₀ { s with heap := h', toks := tk } := by
  obtain ⟨h₁, tk₁, rfl, hk₁⟩ := x
  exact ⟨h', tk, rfl, fun b o hB hC hw e => hk b o hB hC hw (hk₁ b o hB hC hw e)⟩
/-- what was there at the generator's making -/
def Kept (B : Nat) (C : Addr) (wr : List Addr) (href h : Heap) : Prop := ∀ b o, b < B → b ≠ C → b ∉ wr → href.get? b = some o → h.get? b = some o
theorem Kept.step {B : Nat} {C : Addr} {wr : List Addr} {href h h' : Heap} (x : Kept B C wr href h) (k : ∀ b o, b < B → b ≠ C → b ∉ wr → h.get? b = some o → h'.get? b = some o) : Kept B C wr href h' :=
  fun b o hB hC hw e => k b o hB hC hw (x b o hB hC hw e)
def proto (B : Nat) (C : Addr) (wr : List Addr) (N : Nat) (F : Nat → Value → Prop) : Protocol := fun m s₀ v s kap =>
  F (N - 1 - m) v ∧ Since B C wr s₀ s ∧ ∀ s'' : Shared, (∀ b o, s.heap.get? b = some o → s''.heap.get? b = some o) → kap (.send .none) s''
abbrev gend (B : Nat) (C : Addr) (wr : List Addr) : GenEnd := fun n s₀ r s₁ => r = .ok .next ∧ (n = 0 ∧ Since B C wr s₀ s₁)

abbrev gx (elt iter : Expr) (x y : Str) (px py qy : Pos) (scope : Scope) (pos : Pos) : Expr := .GeneratorExp elt [⟨.Name x px, iter, [], 0⟩, ⟨.Name y py, .Name x qy, [], 0⟩] scope pos
theorem lt_of_none {h : Heap} {J b : Addr} {o : Obj} (e : h.get? b = some o) (hj : h.objs.size ≤ J) : b ≠ J := fun z => by
  rw [z] at e
  exact absurd (Nat.lt_of_lt_of_le (Heap.lt_size e) hj) (Nat.lt_irrefl _)

section
variable {prog : Program} {w : World} {A : Around} {elt iter : Expr} {x y : Str} {px py qy : Pos} {scope : Scope} {pos : Pos} {cenv : Env} {B N : Nat} {wr fp : List Addr} {F : Nat → Value → Prop} {St₀ : Nat → Heap → Prop} {href : Heap} {pb : Nat → Bool}

theorem seg_inner {a : Str} {J : Addr} {St₁ : Nat → Heap → Prop} {i r : Nat} {kk : Result → Sem PySem.Fin} {c : Code} {p : Pos} {l : List Value} {ret_g : Bool}
    (hh : A.handled = none) (hg : ret_g = false) (hfr : ∀ (i : Nat) (h h' : Heap), St₀ i h → (∀ b ∈ fp, ∀ o, h.get? b = some o → h'.get? b = some o) → St₀ i h')
    (hfp : ∀ b ∈ fp, b < B) (hC : cenv.locals ∉ fp) (hCB : cenv.locals < B) (hwr : ∀ b ∈ wr, b < B) (hJ : B ≤ J)
    (W₁ : ∀ A' : Around, A'.handled = none → Walks prog w A' J [J] [J] a.cps.size (SignAt a) St₁)
    (hy : cenv.kindOf y = some .local) (hp : (cenv.scope.kind == .class || (cenv.scope.kind == .module && cenv.locals != cenv.globals)) = false) (hco : cenv.scope.isCoroutine = false)
    (hel : ∀ (A' : Around) (E' : Value → Shared → Prop) (c : Nat) (u : Tok) (s₂ : Shared) (m₂ : Str → Option Value), A'.handled = none → s₂.heap.Ns cenv.locals m₂ → m₂ y = some (.str ⟨#[c]⟩ u) → Kept B cenv.locals wr href s₂.heap →
      wpAny (model prog w) A' (eval elt cenv) (fun v s₃ => v = .bool (pb c) ∧ Keeps s₂ s₃) E' s₂)
    (hidx : ∀ j c, a.cps[j]? = some c → F (N - 1 - ((a.cps.size - (j + 1)) + r)) (.bool (pb c)))
    (hcont : ∀ (s₀ s : Shared) (m : Str → Option Value), St₀ i s.heap → s.heap.Ns cenv.locals m → Since B cenv.locals wr s₀ s → Kept B cenv.locals wr href s.heap →
      Seg (model prog w) A (gend B cenv.locals wr) (proto B cenv.locals wr N F) r s₀ c (kk (.ok .next)) [] s) :
    ∀ (k j : Nat) (s₀ s : Shared) (m : Str → Option Value), a.cps.size - j = k → j ≤ a.cps.size → St₁ j s.heap → St₀ i s.heap → s.heap.Ns cenv.locals m → Since B cenv.locals wr s₀ s → Kept B cenv.locals wr href s.heap →
      Seg (model prog w) A (gend B cenv.locals wr) (proto B cenv.locals wr N F) (k + r) s₀ (.compLoop (gx elt iter x y px py qy scope pos) 1 (.ref J) .none cenv)
        ((model prog w).den (.compLoop (gx elt iter x y px py qy scope pos) 1 (.ref J) .none cenv)) [.ret kk none ret_g l c p []] s := by
  have hh' : (A.over (.compLoop (gx elt iter x y px py qy scope pos) 1 (.ref J) .none cenv) [.ret kk none ret_g l c p []]).handled = none := hh
  have nJ : ∀ b, b < B → b ∉ [J] := fun b hb hm => by
    rw [List.mem_singleton.mp hm] at hb
    exact absurd (Nat.lt_of_lt_of_le hb hJ) (Nat.lt_irrefl _)
  have nCJ : cenv.locals ∉ [J] := nJ _ hCB
  intro k
  induction k with
  | zero =>
    intro j s₀ s m hk hj hst₁ hst hn hsince hkp
    have hjn : j = a.cps.size := by omega
    subst hjn
    show Seg _ A _ _ _ s₀ _ ((compTurn (gx elt iter x y px py qy scope pos) 1 (.ref J) .none cenv).onRaise (fun e => do noteFrame e cenv; theTreesLotGoes e)) _ s
    rw [turn1, Sem.onRaise_eq_wrap]
    refine seg_bind_wrap (wpAny_standAt ?_)
    refine seg_bind_wrap ((W₁ _ hh').done s _ _ hst₁ fun h' tk hk' => ?_)
    have k1 : ∀ b o, b < B → s.heap.get? b = some o → h'.get? b = some o := fun b o hb e => hk' b o (nJ b hb) e
    refine seg_leaf (.ok .next) ?_
    rw [Nat.zero_add]
    exact hcont s₀ _ m (hfr _ _ _ hst fun b hb o e => k1 b o (hfp b hb) e) (hn.at' fun o e => k1 _ o hCB e) (hsince.step fun b o hb _ _ e => k1 b o hb e) (hkp.step fun b o hb _ _ e => k1 b o hb e)
  | succ k ih =>
    intro j s₀ s m hk hj hst₁ hst hn hsince hkp
    have hlt : j < a.cps.size := by omega
    show Seg _ A _ _ _ s₀ _ ((compTurn (gx elt iter x y px py qy scope pos) 1 (.ref J) .none cenv).onRaise (fun e => do noteFrame e cenv; theTreesLotGoes e)) _ s
    rw [turn1, Sem.onRaise_eq_wrap]
    refine seg_bind_wrap (wpAny_standAt ?_)
    refine seg_bind_wrap ((W₁ _ hh').item j s _ _ hlt hst₁ fun v h₁ tk₁ hPv hst₁' hk₁ => ?_)
    obtain ⟨cc, u, hcc, rfl⟩ := hPv
    have k1 : ∀ b o, b < B → s.heap.get? b = some o → h₁.get? b = some o := fun b o hb e => hk₁ b o (nJ b hb) e
    refine seg_bind_wrap (wpAny_of_eq (rfl : letOwnedTupleGo (.Name y py) (.ref J) _ = pure ()) ?_)
    refine seg_bind_wrap (wpAny_assign_Name (wpAny_storeName_local hy (hn.at' fun o e => k1 _ o hCB e) (fun h₂ hn₂ hs₂ => ?_) hp))
    have k2 : ∀ b o, b < B → b ≠ cenv.locals → s.heap.get? b = some o → h₂.get? b = some o := fun b o hb hbC e => hs₂.extBut b o hbC (k1 b o hb e)
    have hst₁₂ : St₁ (j + 1) h₂ := (W₁ A hh).frame _ _ _ hst₁' fun b hb o e => hs₂.extBut b o (fun z => nCJ (z ▸ hb)) e
    have hst₂ : St₀ i h₂ := hfr _ _ _ hst fun b hb o e => k2 b o (hfp b hb) (fun z => hC (z ▸ hb)) e
    have hkp₂ : Kept B cenv.locals wr href h₂ := hkp.step fun b o hb hbC _ e => k2 b o hb hbC e
    have hy' : ∀ v, yieldOut cenv v = yieldValue v := fun v => by simp only [yieldOut, hco, Bool.false_eq_true, if_false]
    simp only [hy']
    rw [Sem.bind_eq_wrap', Sem.bind_eq_wrap', Sem.wrap_wrap, Sem.wrap_wrap]
    refine seg_wrap (wpAny_mono (hel _ _ cc u _ _ hh' hn₂ (by simp) hkp₂) (fun yv s₄ h₄ => ?_) fun _ _ e => e)
    obtain ⟨rfl, h₄', tk₄, rfl, hk₄⟩ := h₄
    have ek : k = a.cps.size - (j + 1) := by omega
    rw [Nat.succ_add]
    have hF : F (N - 1 - (k + r)) (.bool (pb cc)) := by
      rw [ek]
      exact hidx j cc hcc
    have hfg : ([Frame.ret kk none ret_g l c p []].any Frame.guarded) = false := by
      subst hg
      rfl
    refine seg_at (seg_yield rfl rfl hfg ⟨hF, hsince.step fun b o hb hbC _ e => hk₄ b o (k2 b o hb hbC e), fun s'' hal => ?_⟩)
    have k5 : ∀ b o, h₂.get? b = some o → s''.heap.get? b = some o := fun b o e => hal b o (hk₄ b o e)
    refine seg_again rfl (ih (j + 1) s'' s'' _ ek.symm hlt ((W₁ A hh).frame _ _ _ hst₁₂ fun b _ o e => k5 b o e) (hfr _ _ _ hst₂ fun b _ o e => k5 b o e) (hn₂.at' fun o e => k5 _ o e) (Since.refl _ _ _ _) (hkp₂.step fun b o _ _ _ e => k5 b o e))

/-- the signs of all rows -/
abbrev flat (ws : List Str) : List Nat := ws.flatMap (fun a => a.cps.toList)
theorem flat_at {ws : List Str} {i j c : Nat} {a : Str} (ha : ws[i]? = some a) (hc : a.cps[j]? = some c) :
    (flat ws)[(flat ws).length - 1 - ((a.cps.size - (j + 1)) + (flat (ws.drop (i + 1))).length)]? = some c := by
  obtain ⟨hi, e⟩ := List.getElem?_eq_some_iff.mp ha
  obtain ⟨hj, e2⟩ := Array.getElem?_eq_some_iff.mp hc
  have d : ws = ws.take i ++ a :: ws.drop (i + 1) := by
    rw [← e, List.getElem_cons_drop, List.take_append_drop]
  have f : flat ws = flat (ws.take i) ++ (a.cps.toList ++ flat (ws.drop (i + 1))) := by
    show ws.flatMap _ = _
    rw [d]
    simp only [List.flatMap_append, List.flatMap_cons]
    rw [← d]
  have la : a.cps.toList.length = a.cps.size := by simp
  rw [f, List.length_append, List.length_append, la]
  have n1 : (flat (ws.take i)).length + (a.cps.size + (flat (ws.drop (i + 1))).length) - 1 - (a.cps.size - (j + 1) + (flat (ws.drop (i + 1))).length) = (flat (ws.take i)).length + j := by omega
  rw [n1, List.getElem?_append_right (by omega), Nat.add_sub_cancel_left, List.getElem?_append_left (by omega), Array.getElem?_toList]
  exact hc
theorem flat_drop {ws : List Str} {i : Nat} {a : Str} (ha : ws[i]? = some a) : (flat (ws.drop i)).length = a.cps.size + (flat (ws.drop (i + 1))).length := by
  obtain ⟨hi, e⟩ := List.getElem?_eq_some_iff.mp ha
  rw [List.drop_eq_getElem_cons hi, e]
  show ((a :: ws.drop (i + 1)).flatMap _).length = _
  rw [List.flatMap_cons, List.length_append]
  simp
theorem seg_outer {ws : List Str} {I : Addr} {P : Nat → Value → Prop} {a₀ : Addr}
    (hh : A.handled = none) (hB : B = a₀ + 1) (ha₀ : ∃ o, href.get? a₀ = some o) (hal : a₀ ≠ cenv.locals) (haw : a₀ ∉ wr)
    (hfp : ∀ b ∈ fp, b < B) (hC : cenv.locals ∉ fp) (hCB : cenv.locals < B)
    (W₀ : ∀ A' : Around, A'.handled = none → Walks prog w A' I fp wr ws.length P St₀) (hP : ∀ i v, P i v → ∃ a t, ws[i]? = some a ∧ v = .str a t)
    (hx : cenv.kindOf x = some .local) (hy : cenv.kindOf y = some .local) (hkf : cenv.scope.kind = .function) (hp : (cenv.scope.kind == .class || (cenv.scope.kind == .module && cenv.locals != cenv.globals)) = false) (hco : cenv.scope.isCoroutine = false)
    (hel : ∀ (A' : Around) (E' : Value → Shared → Prop) (c : Nat) (u : Tok) (s₂ : Shared) (m₂ : Str → Option Value), A'.handled = none → s₂.heap.Ns cenv.locals m₂ → m₂ y = some (.str ⟨#[c]⟩ u) → Kept B cenv.locals wr href s₂.heap →
      wpAny (model prog w) A' (eval elt cenv) (fun v s₃ => v = .bool (pb c) ∧ Keeps s₂ s₃) E' s₂)
    (hdx : (x == ("__debug__" : Str)) = false) :
    ∀ (k i : Nat) (s₀ s : Shared) (m : Str → Option Value), ws.length - i = k → i ≤ ws.length → St₀ i s.heap → s.heap.Ns cenv.locals m → Since B cenv.locals wr s₀ s → Kept B cenv.locals wr href s.heap →
      Seg (model prog w) A (gend B cenv.locals wr) (proto B cenv.locals wr (flat ws).length (fun n v => ∃ c, (flat ws)[n]? = some c ∧ v = .bool (pb c))) (flat (ws.drop i)).length s₀ (.compLoop (gx elt iter x y px py qy scope pos) 0 (.ref I) .none cenv)
        ((model prog w).den (.compLoop (gx elt iter x y px py qy scope pos) 0 (.ref I) .none cenv)) [] s := by
  have hh' : (A.over (.compLoop (gx elt iter x y px py qy scope pos) 0 (.ref I) .none cenv) []).handled = none := hh
  have hsub : ∀ b ∈ wr, b ∈ fp := fun b hb => (W₀ A hh).sub b hb
  have hwr : ∀ b ∈ wr, b < B := fun b hb => hfp b (hsub b hb)
  have hCw : cenv.locals ∉ wr := fun h => hC (hsub _ h)
  intro k
  induction k with
  | zero =>
    intro i s₀ s m hk hi hst hn hsince hkp
    have hin : i = ws.length := by omega
    subst hin
    show Seg _ A _ _ _ s₀ _ ((compTurn (gx elt iter x y px py qy scope pos) 0 (.ref I) .none cenv).onRaise (leaving cenv)) _ s
    rw [turn0, Sem.onRaise_eq_wrap]
    refine seg_bind_wrap (wpAny_standAt ?_)
    refine seg_bind_wrap ((W₀ _ hh').done s _ _ hst fun h' tk hk' => ?_)
    exact seg_end (.ok .next) ⟨rfl, by rw [List.drop_of_length_le (Nat.le_refl _)]; rfl, hsince.step fun b o _ _ hw e => hk' b o hw e⟩
  | succ k ih =>
    intro i s₀ s m hk hi hst hn hsince hkp
    have hlt : i < ws.length := by omega
    show Seg _ A _ _ _ s₀ _ ((compTurn (gx elt iter x y px py qy scope pos) 0 (.ref I) .none cenv).onRaise (leaving cenv)) _ s
    rw [turn0, Sem.onRaise_eq_wrap]
    refine seg_bind_wrap (wpAny_standAt ?_)
    refine seg_bind_wrap ((W₀ _ hh').item i s _ _ hlt hst fun v h₁ tk₁ hPv hst₁ hk₁ => ?_)
    obtain ⟨a, t, ha, rfl⟩ := hP i v hPv
    refine seg_bind_wrap (wpAny_of_eq (rfl : letOwnedTupleGo (.Name x px) (.ref I) _ = pure ()) ?_)
    refine seg_bind_wrap (wpAny_assign_Name (wpAny_storeName_local hx (hn.at' fun o e => hk₁ _ o hCw e) (fun h₂ hn₂ hs₂ => ?_) hp))
    have up₂ : ∀ b o, b ≠ cenv.locals → b ∉ wr → s.heap.get? b = some o → h₂.get? b = some o := fun b o hbC hbw e => hs₂.extBut b o hbC (hk₁ b o hbw e)
    have hst₂ : St₀ (i + 1) h₂ := (W₀ A hh).frame _ _ _ hst₁ fun b hb o e => hs₂.extBut b o (fun h => hC (h ▸ hb)) e
    have hkp₂ : Kept B cenv.locals wr href h₂ := hkp.step fun b o _ hbC hbw e => up₂ b o hbC hbw e
    have hsince₂ : Since B cenv.locals wr s₀ { s with heap := h₂, toks := tk₁ } := hsince.step fun b o _ hbC hbw e => up₂ b o hbC hbw e
    have hJ : B ≤ h₂.objs.size := by
      obtain ⟨oa, ea⟩ := ha₀
      have e1 := hkp₂ a₀ oa (by rw [hB]; exact Nat.lt_succ_self _) hal haw ea
      rw [hB]
      exact Heap.lt_size e1
    refine seg_bind_wrap (wpAny_Name (wpAny_loadName_local hkf hx hn₂ (v := .str a t) (by simp) ?_) hdx)
    refine seg_bind_wrap (wpAny_standAt ?_)
    refine seg_bind_wrap (wpAny_holding (wpAny_pyIter_str fun o St₁ W₁ hst₁₁ => ?_))
    have kp3 : ∀ b u, h₂.get? b = some u → (h₂.push o).get? b = some u := fun b u e => Heap.get?_push_of_some _ e
    refine seg_call (h := none) fun p => ?_
    have hh2 : (A.over (.compStart (gx elt iter x y px py qy scope pos) 1 (.ref h₂.objs.size) .none cenv) [.ret (fun _ => Sem.pure (.done .next)) none false [] (.compLoop (gx elt iter x y px py qy scope pos) 0 (.ref I) .none cenv) p []]).handled = none := hh
    have loop := fun (kk : Result → Sem PySem.Fin) (l : List Value) (tk : Nat) hcont => seg_inner (prog := prog) (w := w) (A := A) (elt := elt) (iter := iter) (x := x) (px := px) (py := py) (qy := qy) (scope := scope) (pos := pos) (i := i + 1) (r := (flat (ws.drop (i + 1))).length) (kk := kk) (c := .compLoop (gx elt iter x y px py qy scope pos) 0 (.ref I) .none cenv) (p := p) (l := l) (ret_g := false) (N := (flat ws).length) (F := fun n v => ∃ c, (flat ws)[n]? = some c ∧ v = .bool (pb c))
      hh rfl (fun i h h' st k => (W₀ A hh).frame i h h' st k) hfp hC hCB hwr hJ W₁ hy hp hco hel (fun j c hc => ⟨c, flat_at ha hc, rfl⟩) hcont a.cps.size 0 s₀ { s with heap := h₂.push o, toks := tk } _ (Nat.sub_zero _) (Nat.zero_le _) hst₁₁ ((W₀ A hh).frame _ _ _ hst₂ fun b _ o e => kp3 b o e) (hn₂.at' fun o e => kp3 _ o e) (hsince₂.step fun b o _ _ _ e => kp3 b o e) (hkp₂.step fun b o _ _ _ e => kp3 b o e)
    rw [flat_drop ha]
    show Seg _ A _ _ _ s₀ _ ((compStart (gx elt iter x y px py qy scope pos) 1 (.ref h₂.objs.size) .none cenv).onRaise (fun e => do noteFrame e cenv; standAt theWindowsPlace)) _ _
    unfold compStart
    rw [Sem.onRaise_eq_wrap]
    show Seg _ A _ _ _ s₀ _ ((ask >>= _).wrap _ _ _ _) _ _
    refine seg_bind_wrap (wpAny_askSetting ?_)
    split
    · refine seg_again rfl (loop _ _ _ fun s₀' s' m' a1 a2 a3 a4 => ?_)
      exact seg_again rfl (ih (i + 1) s₀' s' m' (by omega) hlt a1 a2 a3 a4)
    · refine seg_bind_wrap (wpAny_rule ?_)
      show Seg _ A _ _ _ s₀ _ ((standAt qy >>= _).wrap _ _ _ _) _ _
      refine seg_bind_wrap (wpAny_standAt ?_)
      refine seg_bind_wrap ((W₁ _ hh2).self 0 _ _ _ hst₁₁ ?_)
      refine seg_again rfl (loop _ _ _ fun s₀' s' m' a1 a2 a3 a4 => ?_)
      exact seg_again rfl (ih (i + 1) s₀' s' m' (by omega) hlt a1 a2 a3 a4)
end
end Gx2
namespace Gx2
open PySem PySem.Spec PyProof.Rows L2
open Sem (wp)
structure MovedK (B : Nat) (wr : List Addr) (G : Array GenState → Array GenState → Prop) (s s' : Shared) : Prop where
  heap : ∀ b o, b < B → b ∉ wr → s.heap.get? b = some o → s'.heap.get? b = some o
  gens : G s.gens s'.gens
  drawn : s'.drawn = s.drawn
  os : s'.os = s.os
theorem MovedK.trans {B : Nat} {wr : List Addr} {G : Array GenState → Array GenState → Prop} {s s' s'' : Shared} (hg : ∀ a b c, G a b → G b c → G a c) (x : MovedK B wr G s s') (y : MovedK B wr G s' s'') : MovedK B wr G s s'' :=
  ⟨fun b o hB hb e => y.heap b o hB hb (x.heap b o hB hb e), hg _ _ _ x.gens y.gens, y.drawn.trans x.drawn, y.os.trans x.os⟩
structure WalksK (prog : Program) (w : World) (A : Around) (I : Addr) (B : Nat) (wr : List Addr) (G : Array GenState → Array GenState → Prop) (n : Nat) (P : Nat → Value → Prop) (St : Nat → Shared → Prop) : Prop where
  gtrans : ∀ a b c, G a b → G b c → G a c
  item : ∀ i (s : Shared) (Q : Option Value → Shared → Prop) (E : Value → Shared → Prop), i < n → St i s →
    (∀ v s', P i v → St (i + 1) s' → MovedK B wr G s s' → Q (some v) s') → wpAny (model prog w) A (pyNext (.ref I)) Q E s
  done : ∀ (s : Shared) (Q : Option Value → Shared → Prop) (E : Value → Shared → Prop), St n s → (∀ s', MovedK B wr G s s' → Q none s') → wpAny (model prog w) A (pyNext (.ref I)) Q E s
  self : ∀ i (s : Shared) (Q : Value → Shared → Prop) (E : Value → Shared → Prop), St i s → Q (.ref I) s → wpAny (model prog w) A (pyIter (.ref I)) Q E s
theorem WalksK.of_in1 {prog : Program} {w : World} {A : Around} {I : Addr} {B : Nat} {wr : List Addr} {G : Array GenState → Array GenState → Prop} {n : Nat} {P : Nat → Value → Prop} {St : Nat → Shared → Prop}
    (W : WalksK prog w A.in1 I B wr G n P St) : WalksK prog w A I B wr G n P St where
  gtrans := W.gtrans
  item := fun i s Q E hi st hQ => wpAny_of_in1 (W.item i s Q E hi st hQ)
  done := fun s Q E st hQ => wpAny_of_in1 (W.done s Q E st hQ)
  self := fun i s Q E st hQ => wpAny_of_in1 (W.self i s Q E st hQ)

section
variable {prog : Program} {w : World} {A : Around} {R : Result → Shared → Prop} {I : Addr} {B : Nat} {wr : List Addr} {G : Array GenState → Array GenState → Prop} {n : Nat} {P : Nat → Value → Prop} {St : Nat → Shared → Prop}
theorem codeAny_any_loopK (W : WalksK prog w A.in1 I B wr G n P St) (tr : Nat → Bool) (htr : TruthOf prog w A.in1 P tr) : ∀ (k i : Nat) (s : Shared), n - i = k → i ≤ n → St i s →
    (∀ s', MovedK B wr G s s' → R (.ok (.ret (.bool (((List.range n).drop i).any tr)))) s') → codeAny (model prog w) A (.builtin "any.loop" ⟨[.ref I], []⟩) R s := by
  intro k
  induction k with
  | zero =>
    intro i s hk hi hst hR
    have hin : i = n := by omega
    subst hin
    refine codeAny_builtin PySem.F.entry_any_loop ?_
    rw [Around.under_plainId PySem.F.plain_any_loop _]
    show wpAny _ A.in1 (pyNext (.ref I) >>= _) _ _ s
    refine wpAny_bind (W.done s _ _ hst fun s' hm => ?_)
    refine wpAny_bind (wpAny_rule (wpAny_pure ?_))
    have := hR s' hm
    rw [List.drop_of_length_le (by simp)] at this
    exact this
  | succ k ih =>
    intro i s hk hi hst hR
    have hlt : i < n := by omega
    have hd : (List.range n).drop i = i :: (List.range n).drop (i + 1) := by
      rw [List.drop_eq_getElem_cons (by simpa using hlt)]; simp
    refine codeAny_builtin PySem.F.entry_any_loop ?_
    rw [Around.under_plainId PySem.F.plain_any_loop _]
    show wpAny _ A.in1 (pyNext (.ref I) >>= _) _ _ s
    refine wpAny_bind (W.item i s _ _ hlt hst fun v s' hP hst' hm => ?_)
    refine wpAny_bind (wpAny_holding (htr i v _ _ _ hP ?_))
    refine wpAny_bind (wpAny_letGo ?_)
    cases hb : tr i with
    | false =>
      simp only [Bool.false_eq_true, if_false]
      refine wpAny_pure ⟨plainId_quiet PySem.F.plain_any_loop _, ih (i + 1) _ (by omega) hlt hst' fun s'' hm' => ?_⟩
      have := hR s'' (hm.trans W.gtrans hm')
      rw [hd, List.any_cons, hb, Bool.false_or] at this
      exact this
    | true =>
      simp only [if_true]
      refine wpAny_bind (wpAny_rule (wpAny_pure ?_))
      have := hR s' hm
      rw [hd, List.any_cons, hb, Bool.true_or] at this
      exact this
theorem call_any_walkK {x : Value} {Q : Value → Shared → Prop} {E : Value → Shared → Prop} {s : Shared}
    (h : wpAny (model prog w) A.in1 (pyIter x) (fun it s₂ => ∃ I B wr G n P St tr, it = .ref I ∧ WalksK prog w A.in1 I B wr G n P St ∧ St 0 s₂ ∧ TruthOf prog w A.in1 P tr ∧
      ∀ s', MovedK B wr G s₂ s' → Q (.bool ((List.range n).any tr)) s') E s) :
    wpAny (model prog w) A (call (.builtin "any") [x]) Q E s := by
  refine call_function_tree PySem.F.kind_any PySem.F.plain_any PySem.F.entry_any (PySem.F.args_any1 _) ?_
  unfold Builtin.«any»
  refine wpAny_bind (m := oneArg "any" _) (wpAny_pure ?_)
  refine wpAny_bind (wpAny_mono h (fun it s₂ h₂ => ?_) fun _ _ e => e)
  obtain ⟨I, B, wr, G, n, P, St, tr, rfl, W, hst, htr, hQ⟩ := h₂
  exact wpAny_pure ⟨plainId_quiet PySem.F.plain_any_loop _, codeAny_any_loopK W tr htr n 0 s₂ rfl (Nat.zero_le _) hst fun s' hm => by simpa using hQ s' hm⟩
end

def GenAtK (prog : Program) (w : World) (A : Around) (a : Addr) (g : Nat) (C : Addr) (B : Nat) (wr : List Addr) (N : Nat) (F : Nat → Value → Prop) (j : Nat) (s : Shared) : Prop :=
  s.heap.IsGen a g ∧ s.heap.NoLimit ∧ ∃ gs, s.gens[g]? = some gs ∧ ∀ s'' : Shared, (∀ b o, s.heap.get? b = some o → s''.heap.get? b = some o) →
    gs.Goes (model prog w) A.in1 (gend B C wr) (proto B C wr N F) (N - j) (.send .none) s''

section
variable {prog : Program} {w : World} {A : Around}
theorem WalksK.gen (hh : A.handled = none) (a : Addr) (g : Nat) (C : Addr) (B : Nat) (wr : List Addr) (N : Nat) (F : Nat → Value → Prop) (haC : a ≠ C) (haB : a < B) (haw : a ∉ wr) (hroom : A.depth < recursionLimit)
    (hcs : cStatics < B) (hcC : cStatics ≠ C) (hcw : cStatics ∉ wr) :
    WalksK prog w A a B (C :: wr) (GenOnlyQ g) N F (GenAtK prog w A a g C B wr N F) where
  gtrans := fun _ _ _ x y => x.trans y
  item := fun j s Q E hj st hQ => by
    obtain ⟨hg, hl, gs, hgs, hgo⟩ := st
    obtain ⟨m, hm⟩ : ∃ m, N - j = m + 1 := ⟨N - j - 1, by omega⟩
    rw [hm] at hgo
    refine wpAny_pyNext_genexpQ (P := fun n s₀ s₁ => n = 0 ∧ Since B C wr s₀ s₁) hh hl hroom hg hgs (hgo _ fun _ _ e => e) (fun v s₁ gs' hb hv => ?_) (fun s₁ hp h' hk => ?_)
    · obtain ⟨hF, ⟨h₁, tk₁, rfl, hk₁⟩, hkap⟩ := hv
      have hidx : N - 1 - (m + 1 - 1) = j := by omega
      rw [hidx] at hF
      refine hQ v _ hF ⟨let ⟨o, nm, qn, ho, r⟩ := hg; ⟨o, nm, qn, hk₁ a o haB haC haw ho, r⟩, (let ⟨mc, hns, hnn⟩ := hl; ⟨mc, hns.at' fun o e => hk₁ cStatics o hcs hcC hcw e, hnn⟩), gs', setGen_self (gs := .running) (setGen_self hgs), fun s'' hal => ?_⟩
        ⟨fun b o hB hb e => hk₁ b o hB (fun h => hb (h ▸ List.mem_cons_self ..)) (fun h => hb (List.mem_cons_of_mem _ h)) e, GenOnlyQ.of ((GenOnly.setGen s g .running).trans (GenOnly.setGen _ g gs')) (setGen_self (gs := .running) (setGen_self hgs)) hb, rfl, rfl⟩
      have e : N - (j + 1) = m := by omega
      rw [e]
      exact hkap s'' hal
    · exact absurd hp.1 (Nat.succ_ne_zero m)
  done := fun s Q E st hQ => by
    obtain ⟨hg, hl, gs, hgs, hgo⟩ := st
    rw [Nat.sub_self] at hgo
    refine wpAny_pyNext_genexpQ (P := fun n s₀ s₁ => n = 0 ∧ Since B C wr s₀ s₁) hh hl hroom hg hgs (hgo _ fun _ _ e => e) (fun v s₁ gs' hb hv => ?_) (fun s₁ hp h' hk => ?_)
    · obtain ⟨_, _, hkap⟩ := hv
      exact False.elim (hkap s₁ fun _ _ e => e)
    · obtain ⟨_, h₁, tk₁, rfl, hk₁⟩ := hp
      exact hQ _ ⟨fun b o hB hb e => hk b o (hk₁ b o hB (fun h => hb (h ▸ List.mem_cons_self ..)) (fun h => hb (List.mem_cons_of_mem _ h)) e), GenOnlyQ.of ((GenOnly.setGen s g .running).trans (GenOnly.setGen _ g .finished)) (setGen_self (gs := .running) (setGen_self hgs)) rfl, rfl, rfl⟩
  self := fun _ _ _ _ st hQ => wpAny_pyIter_gen st.1 hQ

theorem seg_start {elt iter : Expr} {x y : Str} {px py qy : Pos} {scope : Scope} {pos : Pos} {cenv : Env} {B : Nat} {wr fp : List Addr} {St₀ : Nat → Heap → Prop} {href : Heap} {pb : Nat → Bool} {ws : List Str} {I : Addr} {P : Nat → Value → Prop} {a₀ : Addr}
    (hh : A.handled = none) (hB : B = a₀ + 1) (ha₀ : ∃ o, href.get? a₀ = some o) (hal : a₀ ≠ cenv.locals) (haw : a₀ ∉ wr)
    (hfp : ∀ b ∈ fp, b < B) (hC : cenv.locals ∉ fp) (hCB : cenv.locals < B)
    (W₀ : ∀ A' : Around, A'.handled = none → Walks prog w A' I fp wr ws.length P St₀) (hP : ∀ i v, P i v → ∃ a t, ws[i]? = some a ∧ v = .str a t)
    (hx : cenv.kindOf x = some .local) (hy : cenv.kindOf y = some .local) (hkf : cenv.scope.kind = .function) (hp : (cenv.scope.kind == .class || (cenv.scope.kind == .module && cenv.locals != cenv.globals)) = false) (hco : cenv.scope.isCoroutine = false)
    (hel : ∀ (A' : Around) (E' : Value → Shared → Prop) (c : Nat) (u : Tok) (s₂ : Shared) (m₂ : Str → Option Value), A'.handled = none → s₂.heap.Ns cenv.locals m₂ → m₂ y = some (.str ⟨#[c]⟩ u) → Kept B cenv.locals wr href s₂.heap →
      wpAny (model prog w) A' (eval elt cenv) (fun v s₃ => v = .bool (pb c) ∧ Keeps s₂ s₃) E' s₂)
    (hdx : (x == ("__debug__" : Str)) = false) (s₀ s : Shared) (m : Str → Option Value) (hst : St₀ 0 s.heap) (hn : s.heap.Ns cenv.locals m) (hsince : Since B cenv.locals wr s₀ s) (hkp : Kept B cenv.locals wr href s.heap) :
      Seg (model prog w) A (gend B cenv.locals wr) (proto B cenv.locals wr (flat ws).length (fun n v => ∃ c, (flat ws)[n]? = some c ∧ v = .bool (pb c))) (flat ws).length s₀ (.compStart (gx elt iter x y px py qy scope pos) 0 (.ref I) .none cenv)
        ((model prog w).den (.compStart (gx elt iter x y px py qy scope pos) 0 (.ref I) .none cenv)) [] s := by
  have hh' : (A.over (.compStart (gx elt iter x y px py qy scope pos) 0 (.ref I) .none cenv) []).handled = none := hh
  have loop := seg_outer (iter := iter) (px := px) (py := py) (qy := qy) (scope := scope) (pos := pos) hh hB ha₀ hal haw hfp hC hCB W₀ hP hx hy hkf hp hco hel hdx ws.length 0 s₀ s m (Nat.sub_zero _) (Nat.zero_le _) hst hn hsince hkp
  rw [List.drop_zero] at loop
  show Seg _ A _ _ _ s₀ _ ((compStart (gx elt iter x y px py qy scope pos) 0 (.ref I) .none cenv).onRaise (leaving cenv)) [] s
  unfold compStart
  rw [Sem.onRaise_eq_wrap]
  show Seg _ A _ _ _ s₀ _ ((ask >>= _).wrap _ _ _ _) [] s
  refine seg_bind_wrap (wpAny_askSetting ?_)
  split
  · exact seg_again rfl loop
  · refine seg_bind_wrap (wpAny_rule ?_)
    show Seg _ A _ _ _ s₀ _ ((standAt iter.pos >>= _).wrap _ _ _ _) [] s
    exact seg_bind_wrap (wpAny_standAt (seg_bind_wrap ((W₀ _ hh').self 0 s _ _ hst (seg_again rfl loop))))

theorem make2 {M : Model} {E : Value → Shared → Prop} {s : Shared} {env : Env} {elt target iter : Expr} {g2 : Comprehension} {scope : Scope} {cl : List (Str × Addr)} {pos : Pos} {Q : Value → Shared → Prop}
    (hco : scope.isCoroutine = false) (hclos : closureFor scope env = pure cl) (hcell : ∀ y ∈ scope.names, y.2 ≠ .cell) (h0 : scope.names.lookup (".0" : Str) = some NameKind.local) (hkind : scope.kind = .function)
    (hroom : A.depth < recursionLimit)
    (h : wpAny M A (eval iter env) (fun xv s₁ => wpAny M A (pyIter xv) (fun it s₂ => s₂.heap.NoLimit ∧
      wpAny M A (genexprCode env pos (env.qual ++ "<genexpr>") scope) (fun code s₃ => wpAny M A (builtinsFor env.globals env.builtins) (fun bi s₄ =>
        ∀ h', h'.Ns s₄.heap.objs.size (fun y => if y = ".0" then some it else none) → Heap.SameBut s₄.heap.objs.size (s₄.heap.push { cls := .type "frame", data := .dict #[] }) h' →
          Q (.ref h'.objs.size) { s₄ with
            gens := s₄.gens.push (.fresh (.compStart (.GeneratorExp elt [⟨target, iter, [], 0⟩, g2] scope pos) 0 it .none (genEnv scope cl s₄.heap.objs.size code bi env))),
            toks := s₄.toks + 1 + 1 + 1,
            heap := h'.push { cls := .type "generator", data := .fields #[.int s₄.gens.size 0, .str "<genexpr>" (s₄.toks + 1), .str (env.qual ++ "<genexpr>") (s₄.toks + 1 + 1)] } }) E s₃) E s₂) E s₁) E s)
    (hs : ∀ x, genFold iter env x = pure x) :
    wpAny M A (eval (.GeneratorExp elt [⟨target, iter, [], 0⟩, g2] scope pos) env) Q E s := by
  rw [eval_gen2 _ _ _ _ _ _ _ hco, hclos]
  refine wpAny_bind (wpAny_mono h (fun xv s₁ h₁ => ?_) fun _ _ e => e)
  refine wpAny_bind (wpAny_standAt ?_)
  refine wpAny_bind (wpAny_of_eq (hs xv) ?_)
  refine wpAny_bind (wpAny_holding (wpAny_mono h₁ (fun it s₂ h₂ => ?_) fun _ _ e => e))
  refine wpAny_bind (wpAny_enterFrame h₂.1 hroom ?_)
  refine wpAny_bind (wpAny_pure ?_)
  refine wpAny_bind (wpAny_mono h₂.2 (fun code s₃ h₃ => ?_) fun _ _ e => e)
  refine wpAny_bind (wpAny_mono h₃ (fun bi s₄ h₄ => ?_) fun _ _ e => e)
  have hbinds : ∀ y ∈ ([((".0" : Str), it)] : List (Str × Value)), scope.names.lookup y.1 = some NameKind.local := by
    intro y hy
    rcases List.mem_cons.mp hy with rfl | hy
    · exact h0
    · cases hy
  refine wpAny_bind (wpAny_newFunctionEnv hcell hbinds (fun h' hn' hs' => ?_) hkind)
  have e : (fun y : Str => ([((".0" : Str), it)] : List (Str × Value)).reverse.lookup y) = fun y : Str => if y = (".0" : Str) then some it else none := by
    funext y
    by_cases hy : y = ".0"
    · subst hy; simp
    · have : (y == (".0" : Str)) = false := by simpa using hy
      simp [List.lookup, this, hy]
  rw [e] at hn'
  simp only [newGenerator, newFields]
  refine wpAny_bind (wpAny_newGen (wpAny_bind (wpAny_mkText (wpAny_bind (wpAny_mkText (wpAny_newObj_type ?_ (by size_fits)))))))
  exact h₄ h' hn' hs'
end
end Gx2
namespace Gx2
open PySem PySem.Spec PyProof.Rows L2 GxR
section
variable {X : Cx} {pins : List (Addr × Obj)} {σ : L2.St} {H : Hp} {s : Shared}
/-- the generator's frame -/
abbrev gE (X : Cx) (scope : Scope) (C : Addr) (code : Value) : Env := genEnv scope (cloFrom X.env.cells scope.names []) C code builtinsNs X.env
/-- the element of a two-clause one: a test of the sign -/
def Elt2 (X : Cx) (P : Addr) (scope : Scope) (y : Str) (elt : Expr) (pb : Nat → Bool) : Prop :=
  ∀ (pins : List (Addr × Obj)) (σ : L2.St) (H1 : Hp) (s1 : Shared), Inv X pins σ H1 s1 → ∀ (C : Addr) (code : Value) (A' : Around) (E' : Value → Shared → Prop) (c : Nat) (u : Tok) (s₂ : Shared) (m₂ : Str → Option Value), A'.handled = none →
    (∀ b o, b ≠ P → s1.heap.get? b = some o → s₂.heap.get? b = some o) → s₂.heap.Ns C m₂ → m₂ y = some (.str ⟨#[c]⟩ u) →
    wpAny (model X.prog X.w) A' (eval elt (gE X scope C code)) (fun v s₃ => v = .bool (pb c) ∧ Keeps s₂ s₃) E' s₂
def Ready2 (X : Cx) (pins : List (Addr × Obj)) (σ : L2.St) (H1 : Hp) (P : Addr) (ws : List Str) (pb : Nat → Bool) (g : Addr) (s5 : Shared) : Prop :=
  ∃ (B : Nat) (wr : List Addr) (G : Array GenState → Array GenState → Prop) (F : Nat → Value → Prop) (St : Nat → Shared → Prop),
    WalksK X.prog X.w X.A.in1 g B wr G (flat ws).length F St ∧ St 0 s5 ∧ TruthOf X.prog X.w X.A.in1 F (trF pb (flat ws)) ∧
    ∀ s', MovedK B wr G s5 s' → ∃ H2, Tabbed P H1 H2 ∧ Inv X pins σ H2 s'

theorem gen2 {c P : Addr} {elt iter : Expr} {x y : Str} {px py qy gpos : Pos} {scope : Scope} {pb : Nat → Bool} {te : TE} {k : Nat} {Q' : Value → Shared → Prop} {R : List Str → Hp → Prop}
    (hr : Room k X.A) (TB : TabB X.base X.mg c P) (hcode : X.env.code = .ref c) (S : GenS X.env scope x) (hyl : scope.names.lookup y = some .local) (hdx : (x == ("__debug__" : Str)) = false) (hi : PE X iter te) (hel : Elt2 X P scope y elt pb)
    (hs : ∀ v, genFold iter X.env v = pure v) (I : Inv X pins σ H s) (h : te σ H fun v H1 => ∃ (yl : Addr) (ws : List Str), v = .ref yl ∧ SqL X.K H1 yl (ws.map V.str) ∧ TabG H1 P ∧ R ws H1)
    (hQ : ∀ ws H1 g s5, R ws H1 → Ready2 X pins σ H1 P ws pb g s5 → Q' (.ref g) s5) :
    wpAny (model X.prog X.w) X.A (eval (gx elt iter x y px py qy scope gpos) X.env) Q' X.xe s := by
  have hd := hr.hd
  refine make2 S.co (closure_ok S.free) S.cell S.dot S.kind (by have := hr.dp; omega) ?_ hs
  refine thn (hi.run pins s σ H _ I h) fun xv s1 ⟨v, H1, I1, r1, q1⟩ => ?_
  obtain ⟨yl, ws, rfl, hyl2, ⟨ps, hP, ht⟩, q1⟩ := q1
  obtain rfl : xv = Value.ref yl := r1
  obtain ⟨its, rv, hl, hz⟩ := I1.list hyl2
  have hIL := hl.isList
  have hlen : its.length = ws.length := by rw [← rv.length, List.length_map]
  have hat : ∀ (i : Nat) (v : Value), its.toArray[i]? = some v → ∃ (a : Str) (u : Tok), ws[i]? = some a ∧ v = .str a u := fun i v hv => by
    have hv2 : its[i]? = some v := by simpa using hv
    have hi2 : i < its.length := (List.getElem?_eq_some_iff.mp hv2).1
    obtain ⟨a, ha⟩ : ∃ a, ws[i]? = some a := ⟨ws[i]'(by omega), List.getElem?_eq_getElem _⟩
    have hb : (ws.map V.str)[i]? = some (V.str a) := by rw [List.getElem?_map, ha] <;> rfl
    obtain ⟨u, hu, ru⟩ := rv.get hb
    rw [hv2] at hu
    cases hu
    obtain ⟨t, e⟩ := (show ∃ t, v = Value.str a t from ru)
    exact ⟨a, t, ha, e⟩
  refine wpAny_pyIter_list hIL ?_
  generalize ho : ({ cls := .type "list_iterator", data := .fields #[.ref yl, .int 0 0] } : Obj) = o
  have hitr : (s1.heap.push o).IsListIter s1.heap.objs.size yl 0 := by
    subst ho
    exact ⟨_, Heap.get?_push_size _ rfl, rfl, rfl⟩
  have hylt : yl < s1.heap.objs.size := by
    obtain ⟨_, e, _⟩ := _root_.id hIL
    exact Heap.lt_size e
  have hPs : s1.heap.get? P = some { cls := .none, data := .fields ps } := I1.hok P _ hP
  have hPlt : P < s1.heap.objs.size := Heap.lt_size hPs
  have hP2 : (s1.heap.push o).get? P = some { cls := .none, data := .fields ps } := Heap.get?_push_of_some _ hPs
  have cd : PySem.W.CodeHd (s1.heap.push o) c P := TB.code.keeps fun b u e => Heap.get?_push_of_some _ (I1.bk b u e)
  have lim2 : (s1.heap.push o).NoLimit := I1.nolimit.push o
  have cont : ∀ (code : Value) (h3 : Heap) (tk : Nat) (ps' : Array Value), Heap.ExtBut P (s1.heap.push o) h3 → (s1.heap.push o).objs.size ≤ h3.objs.size → h3.get? P = some { cls := .none, data := .fields ps' } → (∃ more, ps' = ps ++ more) → TriplesOk ps'.toList →
      wpAny (model X.prog X.w) X.A (builtinsFor X.env.globals X.env.builtins) (fun bi s₄ =>
        ∀ h', h'.Ns s₄.heap.objs.size (fun y => if y = ".0" then some (.ref s1.heap.objs.size) else none) → Heap.SameBut s₄.heap.objs.size (s₄.heap.push { cls := .type "frame", data := .dict #[] }) h' →
          Q' (.ref h'.objs.size) { s₄ with
            gens := s₄.gens.push (.fresh (.compStart (gx elt iter x y px py qy scope gpos) 0 (.ref s1.heap.objs.size) .none (genEnv scope (cloFrom X.env.cells scope.names []) s₄.heap.objs.size code bi X.env))),
            toks := s₄.toks + 1 + 1 + 1,
            heap := h'.push { cls := .type "generator", data := .fields #[.int s₄.gens.size 0, .str "<genexpr>" (s₄.toks + 1), .str (X.env.qual ++ "<genexpr>") (s₄.toks + 1 + 1)] } }) X.xe { s1 with heap := h3, toks := tk } := by
    intro code h3 tk ps' hx hsz hP3 hmore ht3
    obtain ⟨bm, ob, e1, e2, e3, e4, e5, e6, e7, e8⟩ := TB.bm
    have hcP : cStatics ≠ P := fun e => by
      obtain ⟨_, hns, _⟩ := I1.nolimit
      obtain ⟨o', es, ep, ho, hd, _⟩ := hns
      rw [e, hPs] at ho
      cases ho
      cases hd
    have hcl : cStatics < s1.heap.objs.size := let ⟨_, hns, _⟩ := I1.nolimit; hns.lt
    have sz2 : (s1.heap.push o).objs.size = s1.heap.objs.size + 1 := Heap.size_push ..
    have keep3 : ∀ b u, b ≠ P → s1.heap.get? b = some u → h3.get? b = some u := fun b u hb e => hx b u hb (Heap.get?_push_of_some _ e)
    refine wpAny_builtinsFor (m := X.mg) (by rw [I1.ok.glob]; exact ((I1.mod.glob.keeps I1.bk).push o).extBut hx TB.gP) e1 e2 (keep3 _ _ e4 (I1.bk _ _ e5)) e6 e7 e8 ?_
    have hylP : yl ≠ P := fun z => by
      obtain ⟨_, e, hc1, _, hd1⟩ := _root_.id hIL
      rw [z, hPs] at e
      cases e
      cases hd1
    have hIL3 : h3.IsList yl its.toArray := by
      obtain ⟨ob, e, r⟩ := _root_.id hIL
      exact ⟨ob, keep3 _ _ hylP e, r⟩
    have hItr3 : h3.IsListIter s1.heap.objs.size yl 0 := hitr.at fun u e => hx _ u (Nat.ne_of_gt hPlt) e
    have lim3 : h3.NoLimit := lim2.extBut hx hcP
    intro h' hn' hs'
    have hszc : h'.objs.size = h3.objs.size + 1 := by
      have q := hs'.1
      rw [Heap.size_push] at q
      exact q
    have keep' : ∀ b u, h3.get? b = some u → h'.get? b = some u := fun b u e => hs'.extBut b u (Nat.ne_of_lt (Heap.lt_size e)) (Heap.get?_push_of_some _ e)
    generalize hgo : ({ cls := .type "generator", data := .fields #[.int s1.gens.size 0, .str "<genexpr>" (tk + 1), .str (X.env.qual ++ "<genexpr>") (tk + 1 + 1)] } : Obj) = go
    have keep5 : ∀ b u, h3.get? b = some u → (h'.push go).get? b = some u := fun b u e => Heap.get?_push_of_some _ (keep' b u e)
    have haC : h'.objs.size ≠ h3.objs.size := by rw [hszc]; exact Nat.succ_ne_self _
    have sz1 : s1.heap.objs.size < h3.objs.size := by omega
    have nI : s1.heap.objs.size ≠ h3.objs.size := Nat.ne_of_lt sz1
    have haI : h'.objs.size ∉ [s1.heap.objs.size] := fun hm => by
      have z := List.mem_singleton.mp hm
      omega
    have hsI : cStatics ∉ [s1.heap.objs.size] := fun hm => Nat.ne_of_lt hcl (List.mem_singleton.mp hm)
    have hcl3 : cStatics < h3.objs.size := Nat.lt_trans hcl sz1
    have oldB : ∀ b u, s1.heap.get? b = some u → b < h'.objs.size + 1 ∧ b ≠ h3.objs.size ∧ b ∉ [s1.heap.objs.size] := fun b u e => by
      have hl := Heap.lt_size e
      refine ⟨?_, ?_, fun hm => ?_⟩
      · rw [hszc]
        exact Nat.lt_succ_of_lt (Nat.lt_succ_of_lt (Nat.lt_trans hl sz1))
      · exact Nat.ne_of_lt (Nat.lt_trans hl sz1)
      · exact Nat.ne_of_lt hl (List.mem_singleton.mp hm)
    have hgg : (h'.push go).IsGen h'.objs.size s1.gens.size := by
      subst hgo
      exact ⟨_, _, _, Heap.get?_push_size _ rfl, rfl, rfl, rfl⟩
    have hns5 : (h'.push go).Ns h3.objs.size (fun y => if y = ".0" then some (.ref s1.heap.objs.size) else none) := hn'.push _
    refine hQ ws H1 _ _ q1 ⟨h'.objs.size + 1, _, _, _, _, WalksK.gen (A := X.A.in1) hd h'.objs.size s1.gens.size h3.objs.size (h'.objs.size + 1) [s1.heap.objs.size] (flat ws).length (fun n v => ∃ c, (flat ws)[n]? = some c ∧ v = .bool (pb c)) haC (Nat.lt_succ_self _) haI (by have := hr.dp; show X.A.depth < recursionLimit; omega) (by rw [hszc]; exact Nat.lt_succ_of_lt (Nat.lt_succ_of_lt hcl3)) (Nat.ne_of_lt hcl3) hsI, ?_, ?_, fun s' hm => ?_⟩
    · refine ⟨hgg, lim3.keeps keep5, _, Array.getElem?_push_size .., fun s'' hal => ⟨rfl, ?_⟩⟩
      rw [Nat.sub_zero]
      refine seg_start (A := X.A.in1.in1) (cenv := gE X scope h3.objs.size code) (fp := [s1.heap.objs.size, yl]) (href := h'.push go) (St₀ := fun i h => h.IsListIter s1.heap.objs.size yl i ∧ h.IsList yl its.toArray) (P := fun i v => its.toArray[i]? = some v) (a₀ := h'.objs.size)
        hd rfl (let ⟨o, _, _, e, _⟩ := hgg; ⟨o, e⟩) haC haI ?_ ?_ ?_ (fun A' hA => ?_) (fun i v hv => ?_) S.loc hyl S.kind (by show ((scope.kind == .class) || (scope.kind == .module && _)) = false; rw [S.kind]; rfl) S.co ?_ hdx s'' s'' _ ?_ (hns5.at' fun o e => hal _ o e) (Since.refl _ _ _ _) (fun b o _ _ _ e => hal b o e)
      · intro b hb
        rcases List.mem_cons.mp hb with z | z
        · rw [z, hszc]
          exact Nat.lt_succ_of_lt (Nat.lt_succ_of_lt sz1)
        · rw [List.mem_singleton.mp z, hszc]
          exact Nat.lt_succ_of_lt (Nat.lt_succ_of_lt (Nat.lt_trans hylt sz1))
      · intro hm
        rcases List.mem_cons.mp hm with z | z
        · exact nI z.symm
        · exact Nat.ne_of_gt (Nat.lt_trans hylt sz1) (List.mem_singleton.mp z)
      · show h3.objs.size < h'.objs.size + 1
        rw [hszc]
        exact Nat.lt_succ_of_lt (Nat.lt_succ_self _)
      · have W := Walks.list (prog := X.prog) (w := X.w) hA s1.heap.objs.size yl (Nat.ne_of_lt hylt) its.toArray
        have hn5 : its.toArray.size = ws.length := by rw [List.size_toArray, hlen]
        rw [hn5] at W
        exact W
      · obtain ⟨a, u, ha, e⟩ := hat i v hv
        exact ⟨a, u, ha, e⟩
      · intro A' E' c u s₂ m₂ hA hn2 hm2 hk2
        refine hel pins σ H1 s1 I1 h3.objs.size code A' E' c u s₂ m₂ hA (fun b o hbP e => ?_) hn2 hm2
        obtain ⟨z1, z2, z3⟩ := oldB b o e
        exact hk2 b o z1 z2 z3 (keep5 b o (keep3 b o hbP e))
      · exact ⟨hItr3.at fun u e => hal _ u (keep5 _ u e), let ⟨ob, e, r⟩ := hIL3; ⟨ob, hal _ ob (keep5 _ ob e), r⟩⟩
    · intro j v sj Qj Ej hy hQj
      obtain ⟨cc, hcc, rfl⟩ := hy
      have hQ2 : Qj (trF pb (flat ws) j) sj := hQj
      rw [trF_some hcc] at hQ2
      exact wpAny_truthy_bool hQ2
    · obtain ⟨more, em⟩ := hmore
      have nw : ∀ b u, s1.heap.get? b = some u → b ∉ h3.objs.size :: [s1.heap.objs.size] := fun b u e hb => by
        obtain ⟨_, z2, z3⟩ := oldB b u e
        rcases List.mem_cons.mp hb with z | z
        · exact z2 z
        · exact z3 z
      have hgens : AllBare s'.gens := (I1.bare.push (g := .fresh (.compStart (gx elt iter x y px py qy scope gpos) 0 (.ref s1.heap.objs.size) .none (gE X scope h3.objs.size code))) rfl).moved hm.gens
      have J := inv_tab (more := more) (h' := s'.heap) (g' := s'.gens) (d' := s'.drawn) (t' := s'.toks) I1 hP (fun b u hb e => hm.heap b u (oldB b u e).1 (nw b u e) (keep5 b u (keep3 b u hb e)))
        (by rw [← em]; exact hm.heap P _ (oldB P _ hPs).1 (nw P _ hPs) (keep5 P _ hP3)) hgens
      rw [sh_eta s1 s' hm.os] at J
      exact ⟨upd H1 P (.tbl (ps ++ more)), ⟨⟨ps ++ more, upd_same, by rw [← em]; exact ht3⟩, fun b hb => upd_ne hb⟩, J⟩
  refine ⟨lim2, ?_⟩
  cases hf : codeAmong gpos ps.toList with
  | none =>
    refine wpAny_genexprCodeX hcode (cd.code hP2 ht) (cd.tab hP2) hf fun c' h' tk hx hge hlt hco' _ htab' _ => ?_
    obtain ⟨o1, vs, f1, tf, fl, tg, inF, tx, tt, op, _, _, _, _, _, _, _, _, _, htr, _⟩ := hco'
    exact cont _ h' tk _ hx (Nat.le_trans hge (Nat.le_of_lt hlt)) htab'.2 ⟨_, rfl⟩ htr
  | some cv =>
    refine wpAny_genexprCode_hit hcode (cd.code hP2 ht) hf ?_
    exact cont cv (s1.heap.push o) s1.toks ps (Heap.ExtBut.refl _ _) (Nat.le_refl _) hP2 ⟨#[], by simp⟩ ht

/-- any(test of y for x in e for y in x), e a list of texts -/
def tAny2 (K : PySem.W.Frag) (P : Addr) (pb : Nat → Bool) (te : TE) : TE := fun σ H Q => te σ H fun v H1 => ∃ (yl : Addr) (ws : List Str), v = .ref yl ∧ SqL K H1 yl (ws.map V.str) ∧ TabG H1 P ∧ ∀ H2, Tabbed P H1 H2 → Q (.bl ((flat ws).any pb)) H2
theorem pe_any2 {c P : Addr} {elt iter : Expr} {x y : Str} {px py qy p pos gpos : Pos} {scope : Scope} {pb : Nat → Bool} {te : TE} {k : Nat}
    (hr : Room k X.A) (hg : Gl X "any") (hm : X.mg "any" = none) (TB : TabB X.base X.mg c P) (hcode : X.env.code = .ref c) (S : GenS X.env scope x) (hyl : scope.names.lookup y = some .local) (hdx : (x == ("__debug__" : Str)) = false) (hi : PE X iter te) (hel : Elt2 X P scope y elt pb)
    (hs : ∀ v, genFold iter X.env v = pure v)
    (he : starEach [gx elt iter x y px py qy scope gpos] X.env = (false, eval (gx elt iter x y px py qy scope gpos) X.env) :: starEach [] X.env := by rfl) :
    PE X (.Call (.Name "any" p) [gx elt iter x y px py qy scope gpos] [] pos) (tAny2 X.K P pb te) := by
  refine ⟨fun pins s σ H Q I h => ?_⟩
  refine wpAny_Call_Name_kw (ld_blt I hg hm boot_any ?_)
  refine PyProof.Rows.callWith_builtin1 ?_ he (by rfl)
  rw [he]
  show wpAny _ _ (spliced ((false, eval (gx elt iter x y px py qy scope gpos) X.env) :: backTo pos (starEach [] X.env))) _ _ s
  refine Calls.spliced_cons (gen2 (R := fun ws H1 => ∀ H2, Tabbed P H1 H2 → Q (.bl ((flat ws).any pb)) H2) hr TB hcode S hyl hdx hi hel hs I h fun ws H1 g s5 hR hG => ?_)
  obtain ⟨B, wr, G, F, St, W, hst, htr, hI⟩ := hG
  refine Calls.spliced_nil ?_
  refine call_any_walkK (W.self 0 _ _ _ hst ⟨g, B, wr, G, _, F, St, _, rfl, W, hst, htr, fun s' hmv => ?_⟩)
  obtain ⟨H2, hT, J⟩ := hI s' hmv
  refine ⟨.bl _, H2, J, rfl, ?_⟩
  rw [any_trF]
  exact hR H2 hT
end
end Gx2
namespace Gx2
open PySem PySem.Spec PyProof.Rows L2 GxR
/-- the test at place j -/
def trS (pb : Str → Bool) (l : List Str) (j : Nat) : Bool := match l[j]? with
  | some b => pb b
  | none => false
theorem trS_some {pb : Str → Bool} {l : List Str} {j : Nat} {b : Str} (h : l[j]? = some b) : trS pb l j = pb b := by
  unfold trS
  rw [h]
theorem any_trS (l : List Str) (pb : Str → Bool) : (List.range l.length).any (trS pb l) = l.any pb := by
  rw [Bool.eq_iff_iff, List.any_eq_true, List.any_eq_true]
  constructor
  · intro ⟨j, hj, h⟩
    have hj' := List.mem_range.mp hj
    rw [trS_some (List.getElem?_eq_getElem hj')] at h
    exact ⟨l[j], List.getElem_mem hj', h⟩
  · intro ⟨b, hb, h⟩
    obtain ⟨j, hj, e⟩ := List.getElem_of_mem hb
    refine ⟨j, List.mem_range.mpr hj, ?_⟩
    rw [trS_some (List.getElem?_eq_getElem hj), e]
    exact h
section
variable {X : Cx} {pins : List (Addr × Obj)} {σ : L2.St} {H : Hp} {s : Shared}
def Elt1 (X : Cx) (P : Addr) (scope : Scope) (x : Str) (elt : Expr) (Ex : L2.St → Addr → List Str → Prop) (pb : List Str → Str → Bool) : Prop :=
  ∀ (pins : List (Addr × Obj)) (σ : L2.St) (H1 : Hp) (s1 : Shared) (yl : Addr) (ws : List Str), Inv X pins σ H1 s1 → SqL X.K H1 yl (ws.map V.str) → H1 P ≠ none → (∃ ps, H1 P = some (.tbl ps)) → Ex σ yl ws → ∀ (C : Addr) (code : Value) (A' : Around) (E' : Value → Shared → Prop) (a : Str) (t : Tok) (s₂ : Shared) (m₂ : Str → Option Value), A'.handled = none →
    (∀ b o, b ≠ P → s1.heap.get? b = some o → s₂.heap.get? b = some o) → a ∈ ws → s₂.heap.Ns C m₂ → m₂ x = some (.str a t) →
    wpAny (model X.prog X.w) A' (eval elt (gE X scope C code)) (fun v s₃ => v = .bool (pb ws a) ∧ Keeps s₂ s₃) E' s₂
def Ready1 (X : Cx) (pins : List (Addr × Obj)) (σ : L2.St) (H1 : Hp) (P : Addr) (ws : List Str) (pb : Str → Bool) (g : Addr) (s5 : Shared) : Prop :=
  ∃ (fp wr : List Addr) (G : Array GenState → Array GenState → Prop) (F : Nat → Value → Prop) (St : Nat → Shared → Prop),
    WalksS X.prog X.w X.A.in1 g fp wr G ws.length F St ∧ St 0 s5 ∧ TruthOf X.prog X.w X.A.in1 F (trS pb ws) ∧
    ∀ s', Moved wr G s5 s' → ∃ H2, Tabbed P H1 H2 ∧ Inv X pins σ H2 s'

theorem gen1 {c P : Addr} {elt iter : Expr} {x : Str} {px gpos : Pos} {scope : Scope} {Ex : L2.St → Addr → List Str → Prop} {pb : List Str → Str → Bool} {te : TE} {k : Nat} {Q' : Value → Shared → Prop} {R : List Str → Hp → Prop}
    (hr : Room k X.A) (TB : TabB X.base X.mg c P) (hcode : X.env.code = .ref c) (S : GenS X.env scope x) (hi : PE X iter te) (hel : Elt1 X P scope x elt Ex pb)
    (hs : ∀ v, genFold iter X.env v = pure v) (I : Inv X pins σ H s) (h : te σ H fun v H1 => ∃ (yl : Addr) (ws : List Str), v = .ref yl ∧ SqL X.K H1 yl (ws.map V.str) ∧ Ex σ yl ws ∧ TabG H1 P ∧ R ws H1)
    (hQ : ∀ ws H1 g s5, R ws H1 → Ready1 X pins σ H1 P ws (pb ws) g s5 → Q' (.ref g) s5) :
    wpAny (model X.prog X.w) X.A (eval (.GeneratorExp elt [⟨.Name x px, iter, [], 0⟩] scope gpos) X.env) Q' X.xe s := by
  refine wpAny_GeneratorExp_walksQ hr.hd S.co (closure_ok S.free) S.cell S.dot S.loc S.kind (by have := hr.dp; omega) ?_ hs
  refine thn (hi.run pins s σ H _ I h) fun xv s1 ⟨v, H1, I1, r1, q1⟩ => ?_
  obtain ⟨yl, ws, rfl, hyl, hEx, ⟨ps, hP, ht⟩, q1⟩ := q1
  obtain rfl : xv = Value.ref yl := r1
  obtain ⟨its, rv, hl, hz⟩ := I1.list hyl
  have hIL := hl.isList
  have hlen : its.length = ws.length := by rw [← rv.length, List.length_map]
  have hat : ∀ (i : Nat) (v : Value), its.toArray[i]? = some v → ∃ (a : Str) (u : Tok), ws[i]? = some a ∧ v = .str a u := fun i v hv => by
    have hv2 : its[i]? = some v := by simpa using hv
    have hi2 : i < its.length := (List.getElem?_eq_some_iff.mp hv2).1
    obtain ⟨a, ha⟩ : ∃ a, ws[i]? = some a := ⟨ws[i]'(by omega), List.getElem?_eq_getElem _⟩
    have hb : (ws.map V.str)[i]? = some (V.str a) := by rw [List.getElem?_map, ha] <;> rfl
    obtain ⟨u, hu, ru⟩ := rv.get hb
    rw [hv2] at hu
    cases hu
    obtain ⟨t, e⟩ := (show ∃ t, v = Value.str a t from ru)
    exact ⟨a, t, ha, e⟩
  refine wpAny_pyIter_list hIL ?_
  generalize ho : ({ cls := .type "list_iterator", data := .fields #[.ref yl, .int 0 0] } : Obj) = o
  have hitr : (s1.heap.push o).IsListIter s1.heap.objs.size yl 0 := by
    subst ho
    exact ⟨_, Heap.get?_push_size _ rfl, rfl, rfl⟩
  have hylt : yl < s1.heap.objs.size := by
    obtain ⟨_, e, _⟩ := _root_.id hIL
    exact Heap.lt_size e
  have hPs : s1.heap.get? P = some { cls := .none, data := .fields ps } := I1.hok P _ hP
  have hPlt : P < s1.heap.objs.size := Heap.lt_size hPs
  have hP2 : (s1.heap.push o).get? P = some { cls := .none, data := .fields ps } := Heap.get?_push_of_some _ hPs
  have cd : PySem.W.CodeHd (s1.heap.push o) c P := TB.code.keeps fun b u e => Heap.get?_push_of_some _ (I1.bk b u e)
  have lim2 : (s1.heap.push o).NoLimit := I1.nolimit.push o
  have cont : ∀ (code : Value) (h3 : Heap) (tk : Nat) (ps' : Array Value), Heap.ExtBut P (s1.heap.push o) h3 → (s1.heap.push o).objs.size ≤ h3.objs.size → h3.get? P = some { cls := .none, data := .fields ps' } → (∃ more, ps' = ps ++ more) → TriplesOk ps'.toList →
      wpAny (model X.prog X.w) X.A (builtinsFor X.env.globals X.env.builtins) (fun bi s₄ =>
        ∃ Ia fp wr n₀ Pf St₀ pz F, Value.ref s1.heap.objs.size = .ref Ia ∧ (∀ A' : Around, A'.handled = none → Walks X.prog X.w A' Ia fp wr n₀ Pf St₀) ∧ St₀ 0 s₄.heap ∧ (∀ b ∈ fp, b < s₄.heap.objs.size) ∧ s₄.heap.NoLimit ∧ cStatics ∉ wr ∧
          (∀ href : Heap, (∀ b o, s₄.heap.get? b = some o → href.get? b = some o) →
            QuietGen X.prog X.w (genEnv scope (cloFrom X.env.cells scope.names []) s₄.heap.objs.size code bi X.env) x [] elt (List.range s₄.heap.objs.size) wr Pf pz F href) ∧
          (∀ a h₅ tk gs, gs.bare = true → s₄.heap.objs.size < a → h₅.objs.size = a + 1 → (∀ b o, s₄.heap.get? b = some o → h₅.get? b = some o) →
            WalksS X.prog X.w X.A.in4 a (a :: s₄.heap.objs.size :: List.range s₄.heap.objs.size) (s₄.heap.objs.size :: wr) (GenOnlyQ s₄.gens.size) (passing pz n₀ 0).length
              (fun j y => ∃ i, (passing pz n₀ 0)[j]? = some i ∧ F i y) (GenAt X.prog X.w X.A.in4 a s₄.gens.size s₄.heap.objs.size (List.range s₄.heap.objs.size) wr pz n₀ F) →
            GenAt X.prog X.w X.A.in4 a s₄.gens.size s₄.heap.objs.size (List.range s₄.heap.objs.size) wr pz n₀ F 0 { s₄ with gens := s₄.gens.push gs, toks := tk, heap := h₅ } →
            Q' (.ref a) { s₄ with gens := s₄.gens.push gs, toks := tk, heap := h₅ })) X.xe { s1 with heap := h3, toks := tk } := by
    intro code h3 tk ps' hx hsz hP3 hmore ht3
    obtain ⟨bm, ob, e1, e2, e3, e4, e5, e6, e7, e8⟩ := TB.bm
    have hcP : cStatics ≠ P := fun e => by
      obtain ⟨_, hns, _⟩ := I1.nolimit
      obtain ⟨o', es, ep, ho, hd, _⟩ := hns
      rw [e, hPs] at ho
      cases ho
      cases hd
    have hcl : cStatics < s1.heap.objs.size := let ⟨_, hns, _⟩ := I1.nolimit; hns.lt
    have sz2 : (s1.heap.push o).objs.size = s1.heap.objs.size + 1 := Heap.size_push ..
    have keep3 : ∀ b u, b ≠ P → s1.heap.get? b = some u → h3.get? b = some u := fun b u hb e => hx b u hb (Heap.get?_push_of_some _ e)
    refine wpAny_builtinsFor (m := X.mg) (by rw [I1.ok.glob]; exact ((I1.mod.glob.keeps I1.bk).push o).extBut hx TB.gP) e1 e2 (keep3 _ _ e4 (I1.bk _ _ e5)) e6 e7 e8 ?_
    have hylP : yl ≠ P := fun z => by
      obtain ⟨_, e, hc1, _, hd1⟩ := _root_.id hIL
      rw [z, hPs] at e
      cases e
      cases hd1
    have hIL3 : h3.IsList yl its.toArray := by
      obtain ⟨ob, e, r⟩ := _root_.id hIL
      exact ⟨ob, keep3 _ _ hylP e, r⟩
    have hItr3 : h3.IsListIter s1.heap.objs.size yl 0 := hitr.at fun u e => hx _ u (Nat.ne_of_gt hPlt) e
    refine ⟨s1.heap.objs.size, [s1.heap.objs.size, yl], [s1.heap.objs.size], its.toArray.size, (fun i v => its.toArray[i]? = some v), (fun i h => h.IsListIter s1.heap.objs.size yl i ∧ h.IsList yl its.toArray), (fun _ => true),
      (fun i y => ∃ (a : Str), ws[i]? = some a ∧ y = .bool (pb ws a)), rfl, (fun A' hA => Walks.list hA _ _ (Nat.ne_of_lt hylt) _), ⟨hItr3, hIL3⟩, ?_, lim2.extBut hx hcP, ?_, ?_, ?_⟩
    · intro b hb
      rcases List.mem_cons.mp hb with z | z
      · rw [z]
        show s1.heap.objs.size < h3.objs.size
        omega
      · rcases List.mem_cons.mp z with z | z
        · rw [z]
          have e9 : s1.heap.objs.size ≤ h3.objs.size := by omega
          exact Nat.lt_of_lt_of_le hylt e9
        · cases z
    · intro z
      rcases List.mem_cons.mp z with z | z
      · exact Nat.ne_of_lt hcl z
      · cases z
    · intro href hhref
      refine ⟨fun A' E' i v s₂ m₂ hA hPv hn hm hk => ?_, fun A' E' i v s₂ m₂ hA hPv hp hn hm hk => ?_⟩
      · simp only [List.forIn_nil]
        exact wpAny_pure ⟨rfl, GxR.keeps_refl _⟩
      · obtain ⟨a, u, ha, rfl⟩ := hat i v hPv
        refine wpAny_mono (hel pins σ H1 s1 yl ws I1 hyl (by rw [hP]; simp) ⟨ps, hP⟩ hEx _ code A' E' a u s₂ m₂ hA (fun b o hbP e => ?_) (List.mem_of_getElem? ha) hn hm) (fun y s3 r => ?_) fun _ _ e => e
        · have hl := Heap.lt_size e
          refine hk b (List.mem_range.mpr ?_) (fun z => Nat.ne_of_lt hl (List.mem_singleton.mp z)) o (hhref b o (keep3 b o hbP e))
          show b < h3.objs.size
          have e9 : s1.heap.objs.size ≤ h3.objs.size := by omega
          exact Nat.lt_of_lt_of_le hl e9
        · exact ⟨⟨a, ha, r.1⟩, r.2⟩
    · intro g h5 tk5 gs hgb hag hsz5 hk5 W5 hgat
      simp only [GxR.passing_true, List.length_range] at W5
      have hn5 : its.toArray.size = ws.length := by rw [List.size_toArray, hlen]
      rw [hn5] at W5 hgat
      refine hQ ws H1 g _ q1 ⟨_, _, _, _, _, W5.in4_1, hgat, ?_, fun s' hm => ?_⟩
      · intro j v sj Qj Ej hy hQj
        obtain ⟨i, hij, a, ha, rfl⟩ := hy
        obtain ⟨hj, ej⟩ := List.getElem?_eq_some_iff.mp hij
        rw [List.getElem_range] at ej
        subst ej
        have hQ2 : Qj (trS (pb ws) ws j) sj := hQj
        rw [trS_some ha] at hQ2
        exact wpAny_truthy_bool hQ2
      · obtain ⟨more, em⟩ := hmore
        have nwr : ∀ b u, s1.heap.get? b = some u → b ∉ h3.objs.size :: [s1.heap.objs.size] := fun b u e hb => by
          have hl := Heap.lt_size e
          rcases List.mem_cons.mp hb with z | z
          · rw [z] at hl
            have h9 : (h3.objs.size : Nat) < s1.heap.objs.size := hl
            omega
          · rcases List.mem_cons.mp z with z | z
            · rw [z] at hl
              exact Nat.lt_irrefl _ hl
            · cases z
        have J := GxR.inv_tab (more := more) (h' := s'.heap) (g' := s'.gens) (d' := s'.drawn) (t' := s'.toks) I1 hP (fun b u hb e => hm.heap b u (nwr b u e) (hk5 b u (keep3 b u hb e)))
          (by rw [← em]; exact hm.heap P _ (nwr P _ hPs) (hk5 P _ hP3)) (AllBare.movedS (I1.bare.push hgb) hm)
        rw [GxR.sh_eta s1 s' hm.os] at J
        refine ⟨upd H1 P (.tbl (ps ++ more)), ⟨⟨ps ++ more, upd_same, by rw [← em]; exact ht3⟩, fun b hb => upd_ne hb⟩, J⟩
  refine ⟨lim2, ?_⟩
  cases hf : codeAmong gpos ps.toList with
  | none =>
    refine wpAny_genexprCodeX hcode (cd.code hP2 ht) (cd.tab hP2) hf fun c' h' tk hx hge hlt hco' _ htab' _ => ?_
    obtain ⟨o1, vs, f1, tf, fl, tg, inF, tx, tt, op, _, _, _, _, _, _, _, _, _, htr, _⟩ := hco'
    exact cont _ h' tk _ hx (Nat.le_trans hge (Nat.le_of_lt hlt)) htab'.2 ⟨_, rfl⟩ htr
  | some cv =>
    refine wpAny_genexprCode_hit hcode (cd.code hP2 ht) hf ?_
    exact cont cv (s1.heap.push o) s1.toks ps (Heap.ExtBut.refl _ _) (Nat.le_refl _) hP2 ⟨#[], by simp⟩ ht

/-- any(test of x for x in e), e a list of texts -/
def tAny1 (K : PySem.W.Frag) (P : Addr) (Ex : L2.St → Addr → List Str → Prop) (pb : List Str → Str → Bool) (te : TE) : TE := fun σ H Q => te σ H fun v H1 => ∃ (yl : Addr) (ws : List Str), v = .ref yl ∧ SqL K H1 yl (ws.map V.str) ∧ Ex σ yl ws ∧ TabG H1 P ∧ ∀ H2, Tabbed P H1 H2 → Q (.bl (ws.any (pb ws))) H2
theorem pe_any1 {c P : Addr} {elt iter : Expr} {x : Str} {px p pos gpos : Pos} {scope : Scope} {Ex : L2.St → Addr → List Str → Prop} {pb : List Str → Str → Bool} {te : TE} {k : Nat}
    (hr : Room k X.A) (hg : Gl X "any") (hm : X.mg "any" = none) (TB : TabB X.base X.mg c P) (hcode : X.env.code = .ref c) (S : GenS X.env scope x) (hi : PE X iter te) (hel : Elt1 X P scope x elt Ex pb)
    (hs : ∀ v, genFold iter X.env v = pure v)
    (he : starEach [.GeneratorExp elt [⟨.Name x px, iter, [], 0⟩] scope gpos] X.env = (false, eval (.GeneratorExp elt [⟨.Name x px, iter, [], 0⟩] scope gpos) X.env) :: starEach [] X.env := by rfl) :
    PE X (.Call (.Name "any" p) [.GeneratorExp elt [⟨.Name x px, iter, [], 0⟩] scope gpos] [] pos) (tAny1 X.K P Ex pb te) := by
  refine ⟨fun pins s σ H Q I h => ?_⟩
  refine wpAny_Call_Name_kw (ld_blt I hg hm boot_any ?_)
  refine PyProof.Rows.callWith_builtin1 ?_ he (by rfl)
  rw [he]
  show wpAny _ _ (spliced ((false, eval (.GeneratorExp elt [⟨.Name x px, iter, [], 0⟩] scope gpos) X.env) :: backTo pos (starEach [] X.env))) _ _ s
  refine Calls.spliced_cons (gen1 (R := fun ws H1 => ∀ H2, Tabbed P H1 H2 → Q (.bl (ws.any (pb ws))) H2) hr TB hcode S hi hel hs I h fun ws H1 g s5 hR hG => ?_)
  obtain ⟨fp, wr, G, F, St, W, hst, htr, hI⟩ := hG
  refine Calls.spliced_nil ?_
  refine call_any_walkS (W.self 0 _ _ _ hst ⟨g, fp, wr, G, _, F, St, _, rfl, W, hst, htr, fun s' hmv => ?_⟩)
  obtain ⟨H2, hT, J⟩ := hI s' hmv
  refine ⟨.bl _, H2, J, rfl, ?_⟩
  rw [any_trS]
  exact hR H2 hT
end

/-! ### elements -/
section
variable {prog : Program} {w : World} {A : Around} {E : Value → Shared → Prop} {s : Shared} {cenv : Env}
theorem el_name {x : Str} {p : Pos} {v : Value} {m : Str → Option Value} {Q : Value → Shared → Prop} (hk : cenv.scope.kind = .function) (hx : cenv.kindOf x = some .local) (hn : s.heap.Ns cenv.locals m) (hm : m x = some v) (h : Q v s) (hd : (x == ("__debug__" : Str)) = false := by decide) :
    wpAny (model prog w) A (eval (.Name x p) cenv) Q E s := wpAny_Name (wpAny_loadName_local hk hx hn hm h) hd
theorem el_glob {x : Str} {p : Pos} {v : Value} {mg : Str → Option Value} {Q : Value → Shared → Prop} (hk : cenv.scope.kind = .function) (hx : cenv.kindOf x = some .globalImplicit) (hg : s.heap.Ns cenv.globals mg) (hm : mg x = some v) (h : Q v s) (hd : (x == ("__debug__" : Str)) = false := by decide) :
    wpAny (model prog w) A (eval (.Name x p) cenv) Q E s := Calls.Name_function_global hk hx (Calls.loadGlobal_global hg hm h) hd
theorem el_blt {x : Str} {p : Pos} {v : Value} {mg mb : Str → Option Value} {Q : Value → Shared → Prop} (hk : cenv.scope.kind = .function) (hx : cenv.kindOf x = some .globalImplicit) (hg : s.heap.Ns cenv.globals mg) (hmiss : mg x = none) (hb : s.heap.Ns cenv.builtins mb) (hv : mb x = some v) (h : Q v s) (hd : (x == ("__debug__" : Str)) = false := by decide) :
    wpAny (model prog w) A (eval (.Name x p) cenv) Q E s := Calls.Name_function_global hk hx (Calls.loadGlobal_builtin hg hmiss hb hv h) hd
/-- len(e) of a text -/
theorem el_len {e : Expr} {p1 p3 : Pos} {mg mb : Str → Option Value} {Q : Value → Shared → Prop} {R : Str → Shared → Prop} (hk : cenv.scope.kind = .function) (hx : cenv.kindOf "len" = some .globalImplicit) (hg : s.heap.Ns cenv.globals mg) (hmiss : mg "len" = none) (hb : s.heap.Ns cenv.builtins mb) (hv : mb "len" = some (.builtin "len"))
    (he1 : wpAny (model prog w) A (eval e cenv) (fun v s' => ∃ a t, v = .str a t ∧ a.length ≤ 1000 ∧ R a s') E s)
    (h : ∀ a s' tk u, R a s' → Q (.int a.length u) { s' with toks := tk })
    (he : starEach [e] cenv = (false, eval e cenv) :: starEach [] cenv := by rfl) :
    wpAny (model prog w) A (eval (.Call (.Name "len" p1) [e] [] p3) cenv) Q E s := by
  refine wpAny_Call_Name_kw (el_blt hk hx hg hmiss hb hv ?_)
  refine PyProof.Rows.callWith_builtin1 ?_ he (by rfl)
  rw [he]
  show wpAny _ _ (spliced ((false, eval e cenv) :: backTo p3 (starEach [] cenv))) _ _ s
  refine Calls.spliced_cons (wpAny_mono he1 (fun v s' hv => ?_) fun _ _ e => e)
  obtain ⟨a, t, rfl, hl, hR⟩ := hv
  refine Calls.spliced_nil ?_
  exact PyProof.Rows.len_str (by omega) (h a s' _ _ hR)
end
end Gx2
namespace Gx2
open PySem PySem.Spec PyProof.Rows L2 GxR
section
variable {X : Cx} {P : Addr} {scope : Scope}
theorem base_keeps {pins : List (Addr × Obj)} {σ : L2.St} {H1 : Hp} {s1 s₂ : Shared} (I : Inv X pins σ H1 s1) (hP : H1 P ≠ none) (hk : ∀ b o, b ≠ P → s1.heap.get? b = some o → s₂.heap.get? b = some o) :
    ∀ b o, X.base.get? b = some o → s₂.heap.get? b = some o := fun b o e => by
  obtain ⟨e1, e2⟩ := I.bs b o e
  refine hk b o (fun z => ?_) e1
  rw [z] at e2
  exact hP e2
/-- len(row) > MOST -/
theorem elt_gt {x cN : Str} {n : Int} {t0 : Tok} {p1 p2 p3 p4 p5 : Pos} (hk : scope.kind = .function) (hl : scope.names.lookup ("len" : Str) = some .globalImplicit) (hc : scope.names.lookup cN = some .globalImplicit) (hx : scope.names.lookup x = some .local)
    (hmg : X.mg "len" = none) (hmc : X.mg cN = some (.int n t0)) (hdx : (x == ("__debug__" : Str)) = false := by decide) (hdc : (cN == ("__debug__" : Str)) = false := by decide) :
    Elt1 X P scope x (.Compare (.Call (.Name "len" p1) [.Name x p2] [] p3) [.Gt] [.Name cN p4] p5) (fun _ _ ws => ∀ a ∈ ws, a.length ≤ 1000) (fun _ a => decide (n < (a.length : Int))) := by
  intro pins σ H1 s1 yl ws I hS hP hPt hEx C code A' E' a t s₂ m₂ hA hkeep ha hn hm
  have hB := base_keeps I hP hkeep
  have hg : s₂.heap.Ns mainGlobals X.mg := I.mod.glob.keeps hB
  obtain ⟨mb, hb0, hb1⟩ := I.mod.blt
  have hb : s₂.heap.Ns builtinsNs mb := hb0.keeps hB
  have eG : (gE X scope C code).globals = mainGlobals := I.ok.glob
  refine wpAny_Compare1 ?_
  refine el_len (R := fun b s' => b = a ∧ s' = s₂) hk hl (by rw [eG]; exact hg) hmg hb ((hb1 "len" (by decide)).trans PySem.boot_len) ?_ ?_
  · exact el_name hk hx hn hm ⟨a, t, rfl, hEx a ha, rfl, rfl⟩ hdx
  · rintro b s' tk u ⟨rfl, rfl⟩
    refine el_glob hk hc (by rw [eG]; exact hg) hmc ?_ hdc
    exact PyProof.Rows.gt_int ⟨rfl, keeps_tok _ _⟩
/-- len(row) != len(rows[0]) -/
theorem elt_ne {x r : Str} {i : Nat} {p1 p2 p3 p4 p5 p6 p7 p8 p9 : Pos} {k0 : Nat} (hk : scope.kind = .function) (hl : scope.names.lookup ("len" : Str) = some .globalImplicit) (hx : scope.names.lookup x = some .local) (hr : scope.names.lookup r = some .free)
    (hfree : ∀ c, X.env.cells.lookup r = some c → (cloFrom X.env.cells scope.names []).lookup r = some c) (hN : X.N[i]? = some r) (hv : X.env.kindOf r = some .cell)
    (hmg : X.mg "len" = none) (hdx : (x == ("__debug__" : Str)) = false := by decide) (hdr : (r == ("__debug__" : Str)) = false := by decide) (hdcr : (r == ("__classdict__" : Str)) = false := by decide) :
    Elt1 X P scope x (.Compare (.Call (.Name "len" p1) [.Name x p2] [] p3) [.NotEq] [.Call (.Name "len" p4) [.Subscript (.Name r p5) (.Constant (.int 0) k0 p6) p7] [] p8] p9)
      (fun σ yl ws => (∀ a ∈ ws, a.length ≤ 1000) ∧ σ[i]? = some (some (.ref yl))) (fun ws a => (a.length : Int) != ((ws.headD "").length : Int)) := by
  intro pins σ H1 s1 yl ws I hS hP hPt hEx C code A' E' a t s₂ m₂ hA hkeep ha hn hm
  obtain ⟨hEx, hσ⟩ := hEx
  have hB := base_keeps I hP hkeep
  have hg : s₂.heap.Ns mainGlobals X.mg := I.mod.glob.keeps hB
  obtain ⟨mb, hb0, hb1⟩ := I.mod.blt
  have hb : s₂.heap.Ns builtinsNs mb := hb0.keeps hB
  have eG : (gE X scope C code).globals = mainGlobals := I.ok.glob
  obtain ⟨ps, hPt⟩ := hPt
  have hPs : s1.heap.get? P = some { cls := .none, data := .fields ps } := I.hok P _ hPt
  -- rows itself
  obtain ⟨m, hn0, hl0⟩ := I.loc
  obtain ⟨u, ru, lk⟩ := hl0 i r _ hN hσ (.inr (.inl hv))
  obtain rfl : u = Value.ref yl := ru
  have hcell : ∃ c, X.env.cells.lookup r = some c ∧ s1.heap.IsCell c (some (.ref yl)) := by
    rcases lk with ⟨hk2, _⟩ | ⟨_, c, hc, hcell⟩
    · rw [hv] at hk2
      cases hk2
    · exact ⟨c, hc, hcell⟩
  obtain ⟨c, hc, oc, hoc, hdc⟩ := hcell
  have hcP : c ≠ P := fun z => by
    rw [z, hPs] at hoc
    cases hoc
    cases hdc
  have hcell2 : s₂.heap.IsCell c (some (.ref yl)) := ⟨oc, hkeep c oc hcP hoc, hdc⟩
  obtain ⟨its, rv, hl2, hz⟩ := I.list hS
  have hIL := hl2.isList
  have hylP : yl ≠ P := fun z => by
    obtain ⟨_, e, hc1, _, hd1⟩ := _root_.id hIL
    rw [z, hPs] at e
    cases e
    cases hd1
  have hIL2 : s₂.heap.IsList yl its.toArray := by
    obtain ⟨ob, e, q⟩ := _root_.id hIL
    exact ⟨ob, hkeep yl ob hylP e, q⟩
  obtain ⟨b0, rest, rfl⟩ : ∃ b0 rest, ws = b0 :: rest := by
    cases ws with
    | nil => cases ha
    | cons b0 rest => exact ⟨b0, rest, rfl⟩
  obtain ⟨u0, hu0, ru0⟩ := rv.get (i := 0) (x := V.str b0) rfl
  obtain ⟨t0, rfl⟩ := (show ∃ t, u0 = Value.str b0 t from ru0)
  refine wpAny_Compare1 ?_
  refine el_len (R := fun b s' => b = a ∧ s' = s₂) hk hl (by rw [eG]; exact hg) hmg hb ((hb1 "len" (by decide)).trans PySem.boot_len) ?_ ?_
  · exact el_name hk hx hn hm ⟨a, t, rfl, hEx a ha, rfl, rfl⟩ hdx
  · rintro b s' tk u ⟨rfl, rfl⟩
    refine el_len (R := fun b s3 => b = b0 ∧ ∃ tk3, s3 = { s' with toks := tk3 }) hk hl (by rw [eG]; exact hg) hmg hb ((hb1 "len" (by decide)).trans PySem.boot_len) ?_ ?_
    · refine Subscript_ (wpAny_Name (wpAny_loadName_free hk hr (hfree c hc) hcell2 ?_ hdcr) hdr)
      refine wpAny_Constant_int ?_
      exact item_listR hIL2 (by decide) (by decide) (by simpa using hu0) ⟨b0, t0, rfl, hEx b0 List.mem_cons_self, rfl, _, rfl⟩ (by with_unfolding_all rfl)
    · rintro b s3 tk2 u2 ⟨rfl, tk3, rfl⟩
      exact PyProof.Rows.ne_int ⟨rfl, keeps_tok _ _⟩
/-- sign not in SIGNS -/
theorem elt_notin {y cN : Str} {z : Str} {t0 : Tok} {p1 p2 p3 : Pos} (hk : scope.kind = .function) (hc : scope.names.lookup cN = some .globalImplicit) (hy : scope.names.lookup y = some .local) (hmc : X.mg cN = some (.str z t0)) (hgP : mainGlobals ≠ P) (hdy : (y == ("__debug__" : Str)) = false := by decide) (hdc : (cN == ("__debug__" : Str)) = false := by decide) :
    Elt2 X P scope y (.Compare (.Name y p1) [.NotIn] [.Name cN p2] p3) (fun c => !decide (c ∈ z.cps.toList)) := by
  intro pins σ H1 s1 I C code A' E' c u s₂ m₂ hA hkeep hn hm
  have eG : (gE X scope C code).globals = mainGlobals := I.ok.glob
  have hg : s₂.heap.Ns mainGlobals X.mg := (I.mod.glob.keeps I.bk).at' fun o e => hkeep _ o hgP e
  refine wpAny_Compare1 ?_
  refine el_name hk hy hn hm ?_ hdy
  refine el_glob hk hc (by rw [eG]; exact hg) hmc ?_ hdc
  refine PyProof.Rows.notIn_str ?_
  rw [PySem.StrLaws.found_one]
  exact ⟨rfl, keeps_refl _⟩
end
end Gx2
namespace Sf
open PySem L2
def top (i : Nat) : Stmt := PySem.Challenge.pw_slabfloor_k01_slabs_that_may.main.body.getD i (.Pass ⟨0, 0, 0, 0⟩)
abbrev s_wall : Stmt := top 0
abbrev s_refuse_wrong : Stmt := top 12
abbrev s_sign_at : Stmt := top 13
abbrev s_neighbours : Stmt := top 14
abbrev s_neighbours_of_cells : Stmt := top 15
abbrev srefuse_no_cell : Stmt := top 16
abbrev sFloor___init__ : Stmt := inClass (top 17) 0
abbrev sFloor_cells : Stmt := inClass (top 17) 1
abbrev sFloor_has : Stmt := inClass (top 17) 2
abbrev sFloor_row_and_column : Stmt := inClass (top 17) 3
abbrev sFloor_sign : Stmt := inClass (top 17) 4
abbrev sFloor_shade : Stmt := inClass (top 17) 5
abbrev sFloor_may : Stmt := inClass (top 17) 6
abbrev sFloor_beside : Stmt := inClass (top 17) 7
abbrev s_law_cell_at : Stmt := top 19
abbrev s_law_number : Stmt := top 20
abbrev s_law_rows : Stmt := top 21
abbrev s_law_may : Stmt := top 22
abbrev s_law_cells : Stmt := top 23
abbrev s_law_whole : Stmt := top 24
abbrev s_law_listed : Stmt := top 25
abbrev s_law_truth : Stmt := top 26
abbrev s_law_two : Stmt := top 27
abbrev s_law_asked : Stmt := top 28
abbrev slaw : Stmt := top 29
/-- all that was tracked is as it was, but for the table at P, which may have grown -/
structure Sm (P : Addr) (H H' : Hp) : Prop where
  k : ∀ b o, b ≠ P → H b = some o → H' b = some o
  t : GxR.TabG H P → GxR.TabG H' P
theorem Sm.of {P : Addr} {H H' : Hp} (e : Same H H') : Sm P H H' := ⟨fun b o _ h => e b o h, fun ⟨ps, h, q⟩ => ⟨ps, e _ _ h, q⟩⟩
theorem Sm.refl (P : Addr) (H : Hp) : Sm P H H := .of (Same.refl H)
theorem Sm.trans {P : Addr} {H H1 H2 : Hp} (a : Sm P H H1) (b : Sm P H1 H2) : Sm P H H2 := ⟨fun c o hc h => b.k c o hc (a.k c o hc h), fun h => b.t (a.t h)⟩
theorem Sm.tabbed {P : Addr} {H H' : Hp} (h : GxR.Tabbed P H H') : Sm P H H' := ⟨fun b o hb e => by rw [h.2 b hb]; exact e, fun _ => h.1⟩
theorem Sm.free {P : Addr} {H H' : Hp} (e : Sm P H H') (hT : GxR.TabG H P) {l : Addr} (h : H' l = none) : H l = none := by
  by_cases hl : l = P
  · obtain ⟨ps, z, _⟩ := e.t hT
    rw [hl, z] at h
    cases h
  · cases q : H l with
    | none => rfl
    | some o =>
      rw [e.k l o hl q] at h
      cases h
theorem Sm.seq {P : Addr} {K : PySem.W.Frag} {H H' : Hp} {a : Addr} {xs : List V} (e : Sm P H H') (hT : GxR.TabG H P) (h : SqL K H a xs) : SqL K H' a xs := by
  obtain ⟨ps, z, _⟩ := hT
  rcases h with (h | ⟨o, h⟩) | h
  · exact .inl (.inl (e.k _ _ (fun q => by rw [q, z] at h; cases h) h))
  · exact .inl (.inr ⟨o, e.k _ _ (fun q => by rw [q, z] at h; cases h) h⟩)
  · exact .inr h
theorem Same.new {H : Hp} {a : Addr} {o : HO} (h : H a = none) : Same H (upd H a o) := fun b u e => by
  rw [upd_ne (ne_of_none e h)]
  exact e
/-! ### the script's cells -/
/-- script[k], 0 beyond -/
def cellN (ns : List Int) (k : Nat) : Int := ns.getD k 0
theorem int_at {ns : List Int} {j : Nat} (h : j < ns.length) : (ns.map V.int)[j]? = some (V.int (ns.getD j 0)) := by
  rw [List.getElem?_map, List.getElem?_eq_getElem h, List.getD_eq_getElem?_getD, List.getElem?_eq_getElem h] <;> rfl
def spCellAt (K : PySem.W.Frag) : Sp := fun vs H Q _ => ∃ (a : Addr) (ns : List Int) (k : Nat), vs = [.ref a, .int k] ∧ SqL K H a (ns.map V.int) ∧ Q (.int (cellN ns k)) H
def spNumber (K : PySem.W.Frag) : Sp := fun vs H Q _ => ∃ (a : Addr) (ns : List Int) (k : Nat), vs = [.ref a, .int k] ∧ SqL K H a (ns.map V.int) ∧ ns.length ≤ 63 ∧ k ≤ 100000 ∧ ∀ r : Int, Q (.int r) H
section
variable {P : Program} {w : World} {K : PySem.W.Frag} {mg : Str → Option Value} {base : Heap}
theorem scCell : FnScope ["_law_script", "_law_k"] ["_law_script", "_law_k"] (defScope s_law_cell_at) := ⟨rfl, rfl, rfl, by decide +kernel, rfl, by decide +kernel, by decide +kernel⟩
theorem ok_cell {f : Addr} {fd : FuncData} (F : Fun K "_law_cell_at" "_law_cell_at" s_law_cell_at f fd) (gL : mg "len" = none) : FnOk P w K mg base CX0 1 f fd ["_law_script", "_law_k"] (spCellAt K) := by
  refine F.ok scCell (fun vs H Q E h => ?_) (fun cdv A outer s H vs Q E hr h => ?_)
  · obtain ⟨a, ns, k, rfl, _⟩ := h
    rfl
  · obtain ⟨a, ns, k, rfl, hS, hQ⟩ := h
    refine ⟨_, pss_cons (ps_if (pt_cmpR op_lt (pv 1) (pe_callB call_len (by rfl) gL PySem.boot_len (pa_cons (pv 0) pa_nil)) (nomark _)) (pss_one (ps_ret (pe_ix ix_list (pv 0) (pv 1) (fun _ _ => rfl)))) pss_nil) (pss_one (ps_ret pe_int)), ?_⟩
    refine ⟨_, rfl, _, rfl, _, _, rfl, .inl ⟨_, hS, rfl⟩, _, _, rfl, rfl, _, rfl, ?_⟩
    rw [List.length_map]
    refine ite2 (fun hc => ?_) (fun hc => ?_)
    · have hlt : k < ns.length := by
        have := of_decide_eq_true hc
        omega
      exact ⟨_, rfl, _, rfl, _, _, _, _, rfl, rfl, hS, atI_nat (int_at hlt), hQ⟩
    · have hge : ns.length ≤ k := by
        have := of_decide_eq_false (Bool.eq_false_iff.mpr hc)
        omega
      have e : cellN ns k = 0 := by
        unfold cellN
        rw [List.getD_eq_getElem?_getD, List.getElem?_eq_none hge] <;> rfl
      rw [e] at hQ
      exact hQ
theorem scNumber : FnScope ["_law_script", "_law_k", "_law_base"] ["_law_script", "_law_k"] (defScope s_law_number) := ⟨rfl, rfl, rfl, by decide +kernel, rfl, by decide +kernel, by decide +kernel⟩
theorem ok_number {f : Addr} {fd : FuncData} (F : Fun K "_law_number" "_law_number" s_law_number f fd) (gL : mg "len" = none) : FnOk P w K mg base CX0 1 f fd ["_law_script", "_law_k"] (spNumber K) := by
  refine F.ok scNumber (fun vs H Q E h => ?_) (fun cdv A outer s H vs Q E hr h => ?_)
  · obtain ⟨a, ns, k, rfl, _⟩ := h
    rfl
  · obtain ⟨a, ns, k, rfl, hS, hl, hk, hQ⟩ := h
    refine ⟨_, pss_cons (ps_if (pt_cmpR op_eq (pe_callB call_len (by rfl) gL PySem.boot_len (pa_cons (pv 0) pa_nil)) pe_int (nomark _)) (pss_one (ps_ret (pv 1))) pss_nil)
      (pss_cons (ps_set (i := 2) scNumber.nd rfl (Or.inl rfl) (pe_op op_add (pe_ix ix_list (pv 0) (pe_op op_modN (pe_op op_add pe_int (pv 1)) (pe_callB call_len (by rfl) gL PySem.boot_len (pa_cons (pv 0) pa_nil))) (fun _ _ => rfl)) (pe_op op_mul pe_int (pe_op op_fdivN (pv 1) (pe_callB call_len (by rfl) gL PySem.boot_len (pa_cons (pv 0) pa_nil))))))
      (pss_one (ps_ret (pe_op op_mod (pe_op op_mul (pv 2) pe_int) pe_int)))), ?_⟩
    refine ⟨_, rfl, _, _, rfl, .inl ⟨_, hS, rfl⟩, rfl, _, rfl, ?_⟩
    rw [List.length_map]
    refine ite2 (fun hc => ?_) (fun hc => ?_)
    · exact ⟨_, rfl, hQ _⟩
    · have hne : ns.length ≠ 0 := by
        intro e
        apply hc
        rw [e]
        rfl
      have hpos : (0 : Int) < (ns.length : Int) := by omega
      have hm0 : 0 ≤ Int.fmod (2 + (k : Int)) (ns.length : Int) := Int.fmod_nonneg_of_pos _ hpos
      have hm1 : Int.fmod (2 + (k : Int)) (ns.length : Int) < (ns.length : Int) := Int.fmod_lt_of_pos _ hpos
      obtain ⟨j, hj⟩ : ∃ j : Nat, Int.fmod (2 + (k : Int)) (ns.length : Int) = (j : Int) := ⟨(Int.fmod (2 + (k : Int)) (ns.length : Int)).toNat, by omega⟩
      have hjl : j < ns.length := by omega
      refine ⟨_, rfl, _, rfl, _, _, rfl, rfl, _, rfl, _, _, rfl, .inl ⟨_, hS, rfl⟩, _, _, rfl, rfl, ?_, ?_⟩
      · rw [List.length_map]
        omega
      · rw [List.length_map]
        refine ⟨_, _, _, _, rfl, rfl, hS, at_of hj (int_at hjl), ?_⟩
        refine ⟨_, rfl, _, rfl, _, _, rfl, .inl ⟨_, hS, rfl⟩, _, _, rfl, rfl, ?_, ?_⟩
        · rw [List.length_map]
          exact ⟨by omega, by omega⟩
        · rw [List.length_map]
          refine ⟨_, _, rfl, rfl, .inl ⟨by decide, by decide⟩, _, _, rfl, rfl, ?_⟩
          exact ⟨_, rfl, _, _, rfl, rfl, .inr ⟨by decide, by decide⟩, _, _, rfl, rfl, (by show (0 : Int) < 65521; decide), hQ _⟩
end
end Sf
namespace Sf
open PySem L2
theorem join_flat : ∀ ws : List Str, (Txt.join ("" : Str) ws).cps.toList = Gx2.flat ws := by
  intro ws
  show (Builtin.Str.glued _ ws).cps.toList = _
  rw [StrLaws.glued_eq_join]
  have e0 : ("" : Str) = ⟨#[]⟩ := by decide +kernel
  induction ws with
  | nil => rfl
  | cons a r ih =>
    cases r with
    | nil =>
      show a.cps.toList = (a :: []).flatMap _
      simp
    | cons b r =>
      show (a ++ ("" : Str) ++ Str.join ("" : Str) (b :: r)).cps.toList = (a :: b :: r).flatMap (fun a => a.cps.toList)
      rw [Str.cps_append, Str.cps_append, Array.toList_append, Array.toList_append, ih, List.flatMap_cons, e0]
      simp
/-- a sign that a floor may have -/
def okSign (c : Nat) : Prop := c = 46 ∨ c = 45 ∨ c = 124 ∨ c = 35
def wide (ws : List Str) : Nat := (ws.headD "").length
structure Wf (ws : List Str) : Prop where
  high : ws.length ≤ 12
  len : ∀ a ∈ ws, a.length = wide ws
  wid : wide ws ≤ 12
  sign : ∀ a ∈ ws, ∀ c ∈ a.cps.toList, okSign c
theorem empty_len : ("" : Str).length = 0 := by decide +kernel
theorem Wf.of {ws : List Str} {n : Nat} (h1 : ws.length ≤ 12) (h2 : ∀ a ∈ ws, a.length = n) (h3 : n ≤ 12) (h4 : ∀ a ∈ ws, ∀ c ∈ a.cps.toList, okSign c) : Wf ws := by
  cases ws with
  | nil => exact ⟨h1, fun a ha => (by cases ha), (by show ("" : Str).length ≤ 12; rw [empty_len]; omega), h4⟩
  | cons b r =>
    have e : Sf.wide (b :: r) = n := h2 b List.mem_cons_self
    exact ⟨h1, fun a ha => (h2 a ha).trans e.symm, (by rw [e]; exact h3), h4⟩
/-- the six menus -/
def menus : List Str := [".", "....-|#.", ".-|#", "..#", "...-||", ".#-.-."]
structure MenuOk (z : Str) : Prop where
  pos : 0 < z.length
  sm : z.length ≤ 8
  sg : ∀ c ∈ z.cps.toList, okSign c
theorem menu_b : menus.all (fun z => decide (0 < z.length) && decide (z.length ≤ 8) && z.cps.toList.all (fun c => c == 46 || c == 45 || c == 124 || c == 35)) = true := by decide +kernel
theorem menu_ok : ∀ z ∈ menus, MenuOk z := fun z hz => by
  have h := List.all_eq_true.mp menu_b z hz
  simp only [Bool.and_eq_true, decide_eq_true_eq, List.all_eq_true, Bool.or_eq_true, beq_iff_eq] at h
  exact ⟨h.1.1, h.1.2, fun c hc => by
    have q := h.2 c hc
    unfold okSign
    omega⟩
theorem mod_nat (i : Int) {k : Int} (h : 0 < k) : ∃ n : Nat, i % k = (n : Int) ∧ (n : Int) < k :=
  ⟨(i % k).toNat, (Int.toNat_of_nonneg (Int.emod_nonneg _ (by omega))).symm, by rw [Int.toNat_of_nonneg (Int.emod_nonneg _ (by omega))]; exact Int.emod_lt_of_pos _ h⟩
/-- _law_rows: some rows of a floor, a new list -/
def spRows (K : PySem.W.Frag) : Sp := fun vs H Q _ => ∃ (a : Addr) (ns : List Int), vs = [.ref a] ∧ SqL K H a (ns.map V.int) ∧ ns.length ≤ 63 ∧
  ∀ (l : Addr) (ws : List Str) (H' : Hp), Wf ws → Same H H' → H l = none → H' l = some (.lst (ws.map V.str)) → Q (.ref l) H'
theorem sum_len {c n : Nat} : ∀ {ys : List Str}, (∀ y ∈ ys, y.length = c) → (ys.map (·.length)).sum = ys.length * c
  | [], _ => by simp
  | y :: r, h => by
    rw [List.map_cons, List.sum_cons, h y List.mem_cons_self, sum_len (n := n) (fun z hz => h z (List.mem_cons_of_mem _ hz)), List.length_cons, Nat.succ_mul]
    omega
theorem len_flat1 : ∀ {ys : List Str}, (∀ y ∈ ys, y.length = 1) → (Gx2.flat ys).length = ys.length
  | [], _ => rfl
  | y :: r, h => by
    have e : y.cps.toList.length = 1 := by
      rw [Array.length_toList]
      exact h y List.mem_cons_self
    show ((y :: r).flatMap _).length = _
    rw [List.flatMap_cons, List.length_append, e, List.length_cons, Nat.add_comm 1]
    show (Gx2.flat r).length + 1 = _
    rw [len_flat1 (fun z hz => h z (List.mem_cons_of_mem _ hz))]
section
variable {P : Program} {w : World} {K : PySem.W.Frag} {mg : Str → Option Value} {base : Heap}
def nRows : List Str := ["_law_script", "_law_first", "_law_high", "_law_wide", "_law_menu", "_law_rows_here", "_law_row", "_law_signs", "_law_column"]
theorem scRows : FnScope nRows ["_law_script"] (defScope s_law_rows) := ⟨rfl, rfl, rfl, by decide +kernel, rfl, by decide +kernel, by decide +kernel⟩
theorem ok_rows {f fc fn : Addr} {fd fdc fdn : FuncData} (F : Fun K "_law_rows" "_law_rows" s_law_rows f fd)
    (GC : FnOk P w K mg base CX0 1 fc fdc ["_law_script", "_law_k"] (spCellAt K)) (gC : mg "_law_cell_at" = some (.ref fc)) (kC : PySem.W.keepIn K (.ref fc) = true) (bC : Binds K fdc ["_law_script", "_law_k"] [])
    (GN : FnOk P w K mg base CX0 1 fn fdn ["_law_script", "_law_k"] (spNumber K)) (gN : mg "_law_number" = some (.ref fn)) (kN : PySem.W.keepIn K (.ref fn) = true) (bN : Binds K fdn ["_law_script", "_law_k"] [])
    (gL : mg "len" = none) (gR : mg "range" = none) : FnOk P w K mg base CX0 2 f fd ["_law_script"] (spRows K) := by
  refine F.ok scRows (fun vs H Q E h => ?_) (fun cdv A outer s H vs Q E hr h => ?_)
  · obtain ⟨a, ns, rfl, _⟩ := h
    rfl
  · obtain ⟨a, ns, rfl, hS, hl, hQ⟩ := h
    refine ⟨_, pss_cons (ps_set (i := 1) scRows.nd rfl (Or.inl rfl) (pe_call GC hr rfl gC kC bC .nil pass0 (pa_cons (pv 0) (pa_cons pe_int pa_nil))))
      (pss_cons (ps_set (i := 2) scRows.nd rfl (Or.inl rfl) (pe_op op_mod (pv 1) pe_int))
      (pss_cons (ps_set (i := 3) scRows.nd rfl (Or.inr rfl) (pe_op op_mod (pe_op op_fdiv (pv 1) pe_int) pe_int))
      (C8.pss_cut (ps_if (pt_cmpR op_eq (pe_op op_mod (pe_op op_fdiv (pv 1) pe_int) pe_int) pe_int (nomark _)) (pss_cons (ps_set (i := 2) scRows.nd rfl (Or.inl rfl) (pe_op op_mod (pe_op op_fdiv (pv 1) pe_int) pe_int)) (pss_one (ps_set (i := 3) scRows.nd rfl (Or.inr rfl) (pe_op op_mod (pe_op op_fdiv (pv 1) pe_int) pe_int)))) pss_nil)
      (C8.pss_cut (ps_if (pt_cmpR op_eq (pe_op op_mod (pe_op op_fdiv (pv 1) pe_int) pe_int) pe_int (nomark _)) (pss_cons (ps_set (i := 2) scRows.nd rfl (Or.inl rfl) (pe_op op_mod (pe_op op_fdiv (pv 1) pe_int) pe_int)) (pss_one (ps_set (i := 3) scRows.nd rfl (Or.inr rfl) (pe_op op_mod (pe_op op_fdiv (pv 1) pe_int) pe_int)))) pss_nil)
      (C8.pss_cut (ps_if (PW.pt (pw_and (pt_cmpR op_eq (pe_op op_mod (pe_op op_fdiv (pv 1) pe_int) pe_int) pe_int (nomark _)) (pw_and1 (pt_cmpR op_eq (pe_op op_mod (pe_op op_fdiv (pv 1) pe_int) pe_int) pe_int (nomark _))))) (pss_cons (ps_set (i := 2) scRows.nd rfl (Or.inl rfl) (pe_op op_mod (pe_op op_fdiv (pv 1) pe_int) pe_int)) (pss_one (ps_set (i := 3) scRows.nd rfl (Or.inr rfl) (pe_op op_mod (pe_op op_fdiv (pv 1) pe_int) pe_int)))) pss_nil)
      (pss_cons (ps_set (i := 4) scRows.nd rfl (Or.inr rfl) (pe_ix ix_list (pe_lst (pa_cons pe_str (pa_cons pe_str (pa_cons pe_str (pa_cons pe_str (pa_cons pe_str (pa_cons pe_str pa_nil))))))) (pe_op op_mod (pe_call GC hr rfl gC kC bC .nil pass0 (pa_cons (pv 0) (pa_cons pe_int pa_nil))) pe_int) (fun _ _ => rfl)))
      (pss_cons (ps_set (i := 5) scRows.nd rfl (Or.inl rfl) (pe_lst pa_nil))
      (pss_cons (ps_for PassesOwn.never rfl (pi_range1 rfl gR (pa_cons (pv 2) pa_nil)) (pg_name (i := 6) scRows.nd rfl (Or.inr rfl))
        (pss_cons (ps_setLc (i := 7) (own := [("_law_column", 8)]) (g := gName 8) (tt := tYes) rfl scRows.nd rfl rfl (sw_true rfl rfl rfl (by decide +kernel)) (pi_range1 rfl gR (pa_cons (pv 3) pa_nil)) (blkOk_by (N := nRows) (sc := defScope s_law_rows) (by decide +kernel)) (fun _ _ _ _ _ => pg_name (i := 8) scRows.nd rfl (Or.inl rfl)) (fun _ _ _ _ _ => pts_nil)
            (fun _ _ _ _ _ => pe_ix ix_str (pv 4) (pe_op op_modN (pe_call GN hr rfl gN kN bN .nil pass0 (pa_cons (pv 0) (pa_cons (pe_op op_add (pe_op op_mul (pv 6) (pv 3)) (pv 8)) pa_nil))) (pe_callB call_len_str (by rfl) gL PySem.boot_len (pa_cons (pv 4) pa_nil))) (fun _ _ => rfl)))
        (pss_one (ps_expr (pe_bm PySem.F.plainAttrs_list PySem.F.slot_list_append PySem.F.type_list_append mt_append (pv 5) (pa_cons (pe_join pe_str (pv 7)) pa_nil))))))
      (pss_one (ps_ret (pv 5))))))))))), ?_⟩
    refine ⟨_, rfl, a, ns, 0, rfl, hS, ?_⟩
    refine ⟨_, rfl, _, _, rfl, rfl, (by show (0 : Int) < 7; decide), ?_⟩
    refine ⟨_, rfl, _, _, rfl, rfl, ⟨by decide, by decide⟩, _, _, rfl, rfl, (by show (0 : Int) < 7; decide), ?_⟩
    generalize cellN ns 0 = first
    let Mid : L2.St → Hp → Prop := fun σ' H' => ∃ hi wd : Nat, hi ≤ 12 ∧ wd ≤ 12 ∧ H = H' ∧ σ' = [some (.ref a), some (.int first), some (.int hi), some (.int wd), none, none, none, none, none]
    have mk : ∀ {i j : Int} {k1 k2 : Int}, 0 < k1 → k1 ≤ 13 → 0 < k2 → k2 ≤ 13 → Mid [some (.ref a), some (.int first), some (.int (i % k1)), some (.int (j % k2)), none, none, none, none, none] H := fun {i j k1 k2} h1 h2 h3 h4 => by
      obtain ⟨n1, e1, l1⟩ := mod_nat i h1
      obtain ⟨n2, e2, l2⟩ := mod_nat j h3
      exact ⟨n1, n2, by omega, by omega, rfl, by rw [e1, e2]⟩
    refine ⟨Mid, ?_, ?_⟩
    · refine ⟨_, rfl, _, _, rfl, rfl, ⟨by decide, by decide⟩, _, _, rfl, rfl, (by show (0 : Int) < 8; decide), rfl, _, rfl, ?_⟩
      refine ite2 (fun hc => ?_) (fun hc => ?_)
      · refine ⟨_, rfl, _, _, rfl, rfl, ⟨by decide, by decide⟩, _, _, rfl, rfl, (by show (0 : Int) < 13; decide), ?_⟩
        refine ⟨_, rfl, _, _, rfl, rfl, ⟨by decide, by decide⟩, _, _, rfl, rfl, (by show (0 : Int) < 5; decide), ?_⟩
        exact mk (by decide) (by decide) (by decide) (by decide)
      · exact mk (by decide) (by decide) (by decide) (by decide)
    rintro _ _ ⟨hi, wd, h1, h2, rfl, rfl⟩
    refine ⟨Mid, ?_, ?_⟩
    · refine ⟨_, rfl, _, _, rfl, rfl, ⟨by decide, by decide⟩, _, _, rfl, rfl, (by show (0 : Int) < 8; decide), rfl, _, rfl, ?_⟩
      refine ite2 (fun hc => ?_) (fun hc => ?_)
      · refine ⟨_, rfl, _, _, rfl, rfl, ⟨by decide, by decide⟩, _, _, rfl, rfl, (by show (0 : Int) < 5; decide), ?_⟩
        refine ⟨_, rfl, _, _, rfl, rfl, ⟨by decide, by decide⟩, _, _, rfl, rfl, (by show (0 : Int) < 13; decide), ?_⟩
        exact mk (by decide) (by decide) (by decide) (by decide)
      · exact ⟨hi, wd, h1, h2, rfl, rfl⟩
    clear h1 h2
    rintro _ _ ⟨hi, wd, h1, h2, rfl, rfl⟩
    refine ⟨Mid, ?_, ?_⟩
    · refine ⟨_, rfl, _, _, rfl, rfl, ⟨by decide, by decide⟩, _, _, rfl, rfl, (by show (0 : Int) < 8; decide), rfl, _, rfl, ?_⟩
      refine ite2 (fun hc => ?_) (fun hc => ?_)
      · refine ⟨_, rfl, _, _, rfl, rfl, ⟨by decide, by decide⟩, _, _, rfl, rfl, (by show (0 : Int) < 4; decide), rfl, _, rfl, ?_⟩
        refine ite2 (fun hc => ?_) (fun hc => ?_)
        · refine ⟨_, rfl, _, _, rfl, rfl, ⟨by decide, by decide⟩, _, _, rfl, rfl, (by show (0 : Int) < 13; decide), ?_⟩
          refine ⟨_, rfl, _, _, rfl, rfl, ⟨by decide, by decide⟩, _, _, rfl, rfl, (by show (0 : Int) < 13; decide), ?_⟩
          exact mk (by decide) (by decide) (by decide) (by decide)
        · exact ⟨hi, wd, h1, h2, rfl, rfl⟩
      · exact ⟨hi, wd, h1, h2, rfl, rfl⟩
    clear h1 h2
    rintro _ _ ⟨hi, wd, h1, h2, rfl, rfl⟩
    clear mk Mid
    -- the menu
    refine ⟨(by show 6 ≤ sizeLine; decide), fun lm hlm => ?_⟩
    have s0 : Same H (upd H lm (.lst (menus.map V.str))) := Same.new hlm
    refine ⟨_, rfl, a, ns, 1, rfl, s0.seq hS, _, _, rfl, rfl, (by show (0 : Int) < 6; decide), ?_⟩
    obtain ⟨mi, hmi, hml⟩ := mod_nat (cellN ns 1) (k := 6) (by decide)
    have hml2 : mi < 6 := by omega
    obtain ⟨z, hz⟩ : ∃ z, menus[mi]? = some z := ⟨_, List.getElem?_eq_getElem (show mi < menus.length from hml2)⟩
    have Z := menu_ok z (List.mem_of_getElem? hz)
    refine ⟨lm, menus.map V.str, _, .str z, rfl, rfl, .inl (.inl upd_same), at_of hmi (by rw [List.getElem?_map, hz] <;> rfl), ?_⟩
    refine ⟨(by show 0 ≤ sizeLine; decide), fun lr hlr => ?_⟩
    have s1 : Same H (upd (upd H lm (.lst (menus.map V.str))) lr (.lst [])) := s0.trans (Same.new hlr)
    have hlr0 : H lr = none := s0.free hlr
    -- for row in range(high)
    refine ⟨_, rfl, (hi : Int), rfl, by omega, by omega, for_range (n := (hi : Int).toNat) (fun i σ H2 => ∃ (ws : List Str) (v6 v7 : Option V), σ = [some (.ref a), some (.int first), some (.int hi), some (.int wd), some (.str z), some (.ref lr), v6, v7, none] ∧ Same H H2 ∧ H2 lr = some (.lst (ws.map V.str)) ∧ ws.length = i ∧ (∀ x ∈ ws, x.length = wd) ∧ ∀ x ∈ ws, ∀ c ∈ x.cps.toList, okSign c)
      ⟨[], none, none, rfl, s1, upd_same, rfl, (fun x hx => by cases hx), fun x hx => by cases hx⟩ ?_ ?_⟩
    · rintro i σ H2 hi2 ⟨ws, v6, v7, rfl, s2, hw, hwl, hw1, hw2⟩
      have hil : i < hi := by omega
      -- signs = [..]
      refine ⟨_, rfl, (wd : Int), rfl, by omega, by omega, fun D hD => ?_⟩
      refine lc_range (lo := 0) (n := (wd : Int).toNat) (fun j H3 => ∃ ys : List Str, Same H2 H3 ∧ H3 D = some (.lst (ys.map V.str)) ∧ ys.length = j ∧ (∀ y ∈ ys, y.length = 1) ∧ ∀ y ∈ ys, ∀ c ∈ y.cps.toList, okSign c) ?_ ?_ ?_
      · exact ⟨[], Same.new hD, upd_same, rfl, fun x hx => (by cases hx), fun x hx => (by cases hx)⟩
      · rintro j H3 hj ⟨ys, s3, hD3, hyl, hy1, hy2⟩
        have hjl : j < wd := by omega
        refine ⟨rfl, ?_⟩
        refine ⟨_, rfl, _, rfl, _, rfl, _, rfl, _, _, rfl, rfl, .inl ⟨by omega, by omega⟩, _, rfl, _, _, rfl, rfl, a, ns, i * wd + j, ?_, s3.seq (s2.seq hS), hl, ?_, fun r => ?_⟩
        · show [V.ref a, V.int ((0 + (i : Int)) * (wd : Int) + (0 + (j : Int)))] = [V.ref a, V.int ((i * wd + j : Nat) : Int)]
          rw [Int.zero_add, Int.zero_add, Int.natCast_add, Int.natCast_mul]
        · have : i * wd ≤ 12 * 12 := Nat.mul_le_mul (by omega) h2
          omega
        · have hp := Z.pos
          have hs8 := Z.sm
          have hzs : z.length ≤ sizeLine := Nat.le_trans hs8 (by decide)
          refine ⟨_, rfl, z, rfl, hzs, _, _, rfl, rfl, by omega, ?_⟩
          have hm0 : 0 ≤ Int.fmod r (z.length : Int) := Int.fmod_nonneg_of_pos _ (by omega)
          have hm1 : Int.fmod r (z.length : Int) < (z.length : Int) := Int.fmod_lt_of_pos _ (by omega)
          obtain ⟨jj, hjj⟩ : ∃ jj : Nat, Int.fmod r (z.length : Int) = (jj : Int) := ⟨(Int.fmod r (z.length : Int)).toNat, (Int.toNat_of_nonneg hm0).symm⟩
          have hjj2 : jj < z.cps.size := by
            have : (z.length : Int) = (z.cps.size : Int) := rfl
            omega
          have hcc : z.cps.toList[jj]? = some z.cps[jj] := by rw [Array.getElem?_toList, Array.getElem?_eq_getElem hjj2]
          refine ⟨z, _, z.cps[jj], rfl, rfl, hzs, by rw [hjj]; exact atI_nat hcc, ys.map V.str, hD3, ?_, ys ++ [⟨#[z.cps[jj]]⟩], ?_, ?_, ?_, ?_, ?_⟩
          · rw [List.length_map]
            exact small1000 (by omega)
          · exact fun b o e => by rw [upd_ne (ne_of_none e hD)]; exact s3 b o e
          · rw [upd_same, List.map_append] <;> rfl
          · rw [List.length_append, hyl] <;> rfl
          · intro y hy
            rcases List.mem_append.mp hy with q | q
            · exact hy1 y q
            · rw [List.mem_singleton.mp q] <;> rfl
          · intro y hy c hc
            rcases List.mem_append.mp hy with q | q
            · exact hy2 y q c hc
            · rw [List.mem_singleton.mp q] at hc
              have e : c = z.cps[jj] := List.mem_singleton.mp hc
              rw [e]
              exact Z.sg _ (List.mem_of_getElem? hcc)
      · rintro H3 ⟨ys, s3, hD3, hyl, hy1, hy2⟩
        have hyl2 : ys.length = wd := by omega
        have nD : D ≠ lr := fun e => by rw [e, hw] at hD; cases hD
        have jl : (Gx2.flat ys).length = wd := by rw [len_flat1 hy1, hyl2]
        have jc : (Txt.join ("" : Str) ys).cps.toList = Gx2.flat ys := join_flat ys
        have jlen : (Txt.join ("" : Str) ys).length = wd := by
          show (Txt.join ("" : Str) ys).cps.size = wd
          rw [← Array.length_toList, jc, jl]
        have hw3 : H3 lr = some (.lst (ws.map V.str)) := s3 _ _ hw
        refine ⟨_, rfl, .inl ⟨rfl, _, SqL.of hw3⟩, ⟨_, rfl⟩, _, rfl, _, D, ys, rfl, rfl, .inl (SqL.of hD3), ?_, ?_⟩
        · rw [sum_len (n := 0) hy1, hyl2, empty_len]
          omega
        · refine ⟨lr, _, _, rfl, rfl, hw3, by rw [List.length_map]; exact small1000 (by omega), ?_⟩
          refine ⟨ws ++ [Txt.join ("" : Str) ys], _, _, rfl, ?_, ?_, ?_, ?_, ?_⟩
          · exact fun b o e => by rw [upd_ne (ne_of_none e hlr0)]; exact s3 b o (s2 b o e)
          · rw [upd_same, List.map_append] <;> rfl
          · rw [List.length_append, hwl] <;> rfl
          · intro x hx
            rcases List.mem_append.mp hx with q | q
            · exact hw1 x q
            · rw [List.mem_singleton.mp q]
              exact jlen
          · intro x hx c hc
            rcases List.mem_append.mp hx with q | q
            · exact hw2 x q c hc
            · rw [List.mem_singleton.mp q, jc] at hc
              obtain ⟨y, hy, hcy⟩ := List.mem_flatMap.mp hc
              exact hy2 y hy c hcy
    · rintro σ H2 ⟨ws, v6, v7, rfl, s2, hw, hwl, hw1, hw2⟩
      exact ⟨_, rfl, hQ lr ws H2 (Wf.of (by omega) hw1 h2 hw2) s2 hlr0 hw⟩
end
end Sf
namespace Sf
open PySem L2 Gx2
/-- a def whose code object stands at c -/
structure FunC (K : PySem.W.Frag) (x qual : Str) (st : Stmt) (f : Addr) (fd : FuncData) (c : Addr) : Prop where
  ex : ∃ (oc : Value) (od : Option Addr) (kV doc pm : Value) (an : Option Addr) (ct : Value) (osl : Array (Option Value)),
    fd = PySem.W.fnOf x qual (defArgs st) (defBody st) (defScope st) .none kV doc pm an (.ref c) ct ∧ K.lookup f = some ⟨oc, od, .func fd, osl⟩ ∧ PySem.W.codeIn K (.ref c) qual = true
  kp : PySem.W.keepIn K (.ref f) = true
/-- _refuse_wrong of rows that are a floor's -/
def spRefuse (K : PySem.W.Frag) (P : Addr) : Sp := fun vs H Q _ => ∃ (l : Addr) (ws : List Str), vs = [.ref l] ∧ SqL K H l (ws.map V.str) ∧ Wf ws ∧ GxR.TabG H P ∧ ∀ H', Sm P H H' → Q .non H'
theorem any_false {α : Type} {l : List α} {p : α → Bool} (h : ∀ a ∈ l, p a = false) : l.any p = false := by
  rw [List.any_eq_false]
  intro a ha
  rw [h a ha]
  exact Bool.false_ne_true
theorem free_none {names : List (Str × NameKind)} {cells : List (Str × Addr)} (h : (names.all fun y => !decide (y.2 = .free)) = true) : ∀ y ∈ names, y.2 = .free → ∃ c, cells.lookup y.1 = some c := fun y hy e => by
  have q := List.all_eq_true.mp h y hy
  rw [e] at q
  cases q
theorem free_one {names : List (Str × NameKind)} {cells : List (Str × Addr)} {x : Str} {c : Addr} (h : (names.all fun y => !decide (y.2 = .free) || decide (y.1 = x)) = true) (hc : cells.lookup x = some c) : ∀ y ∈ names, y.2 = .free → ∃ c, cells.lookup y.1 = some c := fun y hy e => by
  have q := List.all_eq_true.mp h y hy
  rw [e] at q
  have q2 : y.1 = x := by simpa using q
  rw [q2]
  exact ⟨c, hc⟩
theorem iteTd {c A B : Prop} [Decidable c] (hc : c) (h : A) : if decide c = true then A else B := by
  rw [decide_eq_true hc]
  exact iteT h
theorem iteNS2 {c A B : Prop} [Decidable c] (hc : ¬ c) (h : B) : if decide c = true then A else B := by
  rw [decide_eq_false hc]
  exact iteF h
section
variable {P : Program} {w : World} {K : PySem.W.Frag} {mg : Str → Option Value} {base : Heap}
theorem scRefuse : FnScope ["rows"] ["rows"] (defScope s_refuse_wrong) := ⟨rfl, rfl, rfl, by decide +kernel, rfl, by decide +kernel, by decide +kernel⟩
theorem ok_refuse {f c Pt : Addr} {fd : FuncData} {tM tS : Tok} (F : FunC K "_refuse_wrong" "_refuse_wrong" s_refuse_wrong f fd c) (TB : GxR.TabB base mg c Pt) (gL : mg "len" = none) (gA : mg "any" = none) (gM : mg "MOST" = some (.int 12 tM)) (gS : mg "SIGNS" = some (.str ".-|#" tS)) :
    FnOk P w K mg base CX0 1 f fd ["rows"] (spRefuse K Pt) := by
  obtain ⟨oc, od, kV, doc, pm, an, ct, osl, rfl, lk, hcd⟩ := F.ex
  refine fn_of lk hcd scRefuse (fun vs H Q E h => ?_) fun A outer s H vs Q E hr hsp => ?_
  · obtain ⟨l, ws, rfl, _⟩ := h
    rfl
  · obtain ⟨l, ws, rfl, hS, hw, hT, hQ⟩ := hsp
    have hs1000 : ∀ a ∈ ws, a.length ≤ 1000 := fun a ha => by
      have := hw.len a ha
      have := hw.wid
      omega
    refine ⟨_, pss_cons (ps_if (PW.pt (pw_or (pt_cmpR op_gt (pe_callB call_len (by rfl) gL PySem.boot_len (pa_cons (pv 0) pa_nil)) (pe_glob (v := .int 12) rfl gM ⟨_, rfl⟩) (nomark _))
        (pw_or1 (pt_val (pe_any1 hr rfl gA TB rfl ⟨rfl, rfl, by decide +kernel, rfl, rfl, free_none (by decide +kernel)⟩ (pv 0) (elt_gt rfl rfl rfl rfl gL gM) (fun _ => rfl)))))) (pss_one ps_never) pss_nil)
      (pss_cons (ps_if (pt_val (pe_any1 hr rfl gA TB rfl ⟨rfl, rfl, by decide +kernel, rfl, rfl, free_one (by decide +kernel) (x := "rows") (c := s.heap.objs.size + 1) rfl⟩ (pv 0) (elt_ne (i := 0) rfl rfl rfl rfl (fun c hc => by (show (List.lookup _ [(_, (List.lookup _ _).getD 0)]) = _; rw [hc]; rfl)) rfl rfl gL) (fun _ => rfl))) (pss_one ps_never) pss_nil)
      (pss_one (ps_if (pt_val (pe_any2 hr rfl gA TB rfl ⟨rfl, rfl, by decide +kernel, rfl, rfl, free_none (by decide +kernel)⟩ rfl rfl (pv 0) (elt_notin rfl rfl rfl gS TB.gP) (fun _ => rfl))) (pss_one ps_never) pss_nil))), ?_⟩
    refine ⟨_, rfl, _, _, rfl, .inl ⟨_, hS, rfl⟩, _, _, rfl, rfl, _, rfl, ?_⟩
    have hh := hw.high
    refine iteNS2 (by rw [List.length_map]; omega) ?_
    refine ⟨_, rfl, l, ws, rfl, hS, hs1000, hT, fun H1 hT1 => ?_⟩
    have S1 := Sm.tabbed hT1
    have e1 : ws.any (fun a => decide ((12 : Int) < (a.length : Int))) = false := any_false fun a ha => decide_eq_false (by have := hw.len a ha; have := hw.wid; omega)
    refine ⟨_, rfl, ?_⟩
    rw [e1]
    refine iteF ?_
    refine ⟨_, rfl, l, ws, rfl, S1.seq hT hS, ⟨hs1000, rfl⟩, hT1.1, fun H2 hT2 => ?_⟩
    have S2 := S1.trans (Sm.tabbed hT2)
    have e2 : ws.any (fun a => (a.length : Int) != ((ws.headD "").length : Int)) = false := any_false fun a ha => by
      have := hw.len a ha
      rw [this]
      exact bne_self_eq_false _
    refine ⟨_, rfl, ?_⟩
    rw [e2]
    refine iteF ?_
    refine ⟨_, rfl, l, ws, rfl, S2.seq hT hS, hT2.1, fun H3 hT3 => ?_⟩
    have S3 := S2.trans (Sm.tabbed hT3)
    have e3 : (flat ws).any (fun c => !decide (c ∈ (".-|#" : Str).cps.toList)) = false := any_false fun c hc => by
      obtain ⟨a, ha, hca⟩ := List.mem_flatMap.mp hc
      have q := hw.sign a ha c hca
      have ez : (".-|#" : Str).cps.toList = [46, 45, 124, 35] := by decide +kernel
      rw [ez]
      unfold okSign at q
      rcases q with q | q | q | q <;> (rw [q]; decide)
    refine ⟨_, rfl, ?_⟩
    rw [e3]
    refine iteF ?_
    exact hQ _ S3
end
end Sf
namespace Sf
open PySem L2
/-! ### the floor as plain functions -/
def signAt (ws : List Str) (r c : Nat) : Nat := (ws.getD r ("" : Str)).cps.getD c 35
def sgN (ws : List Str) (r c : Int) : Nat := if 0 ≤ r ∧ r < (ws.length : Int) ∧ 0 ≤ c ∧ c < (wide ws : Int) then signAt ws r.toNat c.toNat else 35
def sg1 (n : Nat) : Str := ⟨#[n]⟩
def steps : List (Int × Int × Str) := [(-1, 0, ".|"), (0, -1, ".-"), (0, 1, ".-"), (1, 0, ".|")]
def tk (z : Str) (n : Nat) : Bool := decide (n ∈ z.cps.toList)
def stepOk (ws : List Str) (r c : Int) (p : Int × Int × Str) : Bool := tk p.2.2 (sgN ws r c) && tk p.2.2 (sgN ws (r + p.1) (c + p.2.1))
def stepTo (wd : Nat) (r c : Int) (p : Int × Int × Str) : Int := (r + p.1) * (wd : Int) + c + p.2.1
def nbs (ws : List Str) (r c : Int) : List Int := (steps.filter (stepOk ws r c)).map (stepTo (wide ws) r c)
theorem Same.sqT {K : PySem.W.Frag} {H H' : Hp} {a : Addr} {xs : List V} (e : Same H H') (h : SqT K H a xs) : SqT K H' a xs := by
  rcases h with (h | ⟨o, h⟩) | h
  · exact .inl (.inl (e _ _ h))
  · exact .inl (.inr ⟨o, e _ _ h⟩)
  · exact .inr h
theorem row_at {ws : List Str} {r : Nat} (h : r < ws.length) : ws[r]? = some (ws.getD r ("" : Str)) := by
  rw [List.getD_eq_getElem?_getD, List.getElem?_eq_getElem h] <;> rfl
theorem Wf.rlen {ws : List Str} (w : Wf ws) {r : Nat} (h : r < ws.length) : (ws.getD r ("" : Str)).length = wide ws := w.len _ (List.mem_of_getElem? (row_at h))
theorem sign_at {ws : List Str} (w : Wf ws) {r c : Nat} (h : r < ws.length) (hc : c < wide ws) : (ws.getD r ("" : Str)).cps.toList[c]? = some (signAt ws r c) := by
  have e : (ws.getD r ("" : Str)).cps.size = wide ws := w.rlen h
  have hc2 : c < (ws.getD r ("" : Str)).cps.size := by omega
  unfold signAt
  rw [Array.getElem?_toList, Array.getElem?_eq_getElem hc2, Array.getD_eq_getD_getElem?, Array.getElem?_eq_getElem hc2] <;> rfl
theorem sgN_in {ws : List Str} {r c : Nat} (h : r < ws.length) (hc : c < wide ws) : sgN ws (r : Int) (c : Int) = signAt ws r c := by
  unfold sgN
  rw [if_pos ⟨by omega, by omega, by omega, by omega⟩]
  rfl
theorem str_at {ws : List Str} {r : Nat} (h : r < ws.length) : (ws.map V.str)[r]? = some (V.str (ws.getD r ("" : Str))) := by
  rw [List.getElem?_map, row_at h] <;> rfl
def spSignAt (K : PySem.W.Frag) : Sp := fun vs H Q _ => ∃ (l : Addr) (ws : List Str) (r c : Int), vs = [.ref l, .int r, .int c] ∧ SqT K H l (ws.map V.str) ∧ Wf ws ∧ Q (.str (sg1 (sgN ws r c))) H
def spNbs (K : PySem.W.Frag) : Sp := fun vs H Q _ => ∃ (l : Addr) (ws : List Str) (r c : Nat), vs = [.ref l, .int r, .int c] ∧ SqT K H l (ws.map V.str) ∧ Wf ws ∧ r < ws.length ∧ c < wide ws ∧
  ∀ (lf : Addr) (H' : Hp), Same H H' → H lf = none → H' lf = some (.lst ((nbs ws r c).map V.int)) → Q (.ref lf) H'
/-- STEPS, as the top has written it -/
def StepsAt (K : PySem.W.Frag) (t0 : Addr) : Prop := ∃ ts : List Addr, ts.length = 4 ∧ (∀ H, SqT K H t0 (ts.map V.ref)) ∧ ∀ (i : Nat) (t : Addr) (p : Int × Int × Str), ts[i]? = some t → steps[i]? = some p → ∀ H, SqT K H t [.int p.1, .int p.2.1, .str p.2.2]
section
variable {P : Program} {w : World} {K : PySem.W.Frag} {mg : Str → Option Value} {base : Heap}
theorem scSignAt : FnScope ["rows", "row", "column"] ["rows", "row", "column"] (defScope s_sign_at) := ⟨rfl, rfl, rfl, by decide +kernel, rfl, by decide +kernel, by decide +kernel⟩
theorem ok_signAt {f : Addr} {fd : FuncData} {tP : Tok} (F : Fun K "_sign_at" "_sign_at" s_sign_at f fd) (gL : mg "len" = none) (gP : mg "PILLAR" = some (.str "#" tP)) : FnOk P w K mg base CX0 1 f fd ["rows", "row", "column"] (spSignAt K) := by
  refine F.ok scSignAt (fun vs H Q E h => ?_) (fun cdv A outer s H vs Q E hr h => ?_)
  · obtain ⟨l, ws, r, c, rfl, _⟩ := h
    rfl
  · obtain ⟨l, ws, r, c, rfl, hS, hw, hQ⟩ := h
    have hh := hw.high
    have hwd := hw.wid
    have eP : ("#" : Str) = sg1 35 := by decide +kernel
    have out : ¬ (0 ≤ r ∧ r < (ws.length : Int) ∧ 0 ≤ c ∧ c < (wide ws : Int)) → Q (.str ("#" : Str)) H := fun hn => by
      rw [eP]
      have e : sgN ws r c = 35 := by
        unfold sgN
        rw [if_neg hn]
      rw [e] at hQ
      exact hQ
    refine ⟨_, pss_cons (ps_if (PW.pt (pw_and (pt_chain op_le op_lt pe_int (pv 1) (pe_callB call_len (by rfl) gL PySem.boot_len (pa_cons (pv 0) pa_nil)))
        (pw_and1 (pt_chain op_le op_lt pe_int (pv 2) (pe_callB call_len_str (by rfl) gL PySem.boot_len (pa_cons (pe_ix ix_tup (pv 0) (pv 1) (fun _ _ => rfl)) pa_nil)))))) (pss_one (ps_ret (pe_ix ix_str (pe_ix ix_tup (pv 0) (pv 1) (fun _ _ => rfl)) (pv 2) (fun _ _ => rfl)))) pss_nil)
      (pss_one (ps_ret (pe_glob (v := .str "#") rfl gP ⟨_, rfl⟩))), ?_⟩
    refine ⟨_, rfl, _, _, rfl, rfl, _, rfl, ?_⟩
    refine ite2 (fun h1 => ?_) (fun h1 => ?_)
    · have h1' : 0 ≤ r := of_decide_eq_true h1
      refine ⟨_, rfl, _, _, rfl, .inr ⟨_, hS, rfl⟩, _, _, rfl, rfl, _, rfl, ?_⟩
      rw [List.length_map]
      refine ite2 (fun h2 => ?_) (fun h2 => ?_)
      · have h2' : r < (ws.length : Int) := of_decide_eq_true h2
        obtain ⟨rn, rfl⟩ : ∃ rn : Nat, r = (rn : Int) := ⟨r.toNat, by omega⟩
        have hrn : rn < ws.length := by omega
        have hlr := hw.rlen hrn
        refine ⟨_, rfl, _, _, rfl, rfl, _, rfl, ?_⟩
        refine ite2 (fun h3 => ?_) (fun h3 => ?_)
        · have h3' : 0 ≤ c := of_decide_eq_true h3
          refine ⟨_, rfl, _, rfl, _, _, _, _, rfl, rfl, hS, atI_nat (str_at hrn), _, rfl, Nat.le_trans (by rw [hlr]; exact hwd) (by decide), _, _, rfl, rfl, _, rfl, ?_⟩
          rw [hlr]
          refine ite2 (fun h4 => ?_) (fun h4 => ?_)
          · have h4' : c < (wide ws : Int) := of_decide_eq_true h4
            obtain ⟨cn, rfl⟩ : ∃ cn : Nat, c = (cn : Int) := ⟨c.toNat, by omega⟩
            have hcn : cn < wide ws := by omega
            refine ⟨_, rfl, _, rfl, _, _, _, _, rfl, rfl, hS, atI_nat (str_at hrn), _, rfl, _, _, _, rfl, rfl, Nat.le_trans (by rw [hlr]; exact hwd) (by decide), atI_nat (sign_at hw hrn hcn), ?_⟩
            rw [sgN_in hrn hcn] at hQ
            exact hQ
          · exact out fun q => h4 (decide_eq_true q.2.2.2)
        · exact ⟨false, rfl, out fun q => h3 (decide_eq_true q.2.2.1)⟩
      · exact out fun q => h2 (decide_eq_true q.2.1)
    · exact ⟨false, rfl, out fun q => h1 (decide_eq_true q.1)⟩
def nNbs : List Str := ["rows", "row", "column", "wide", "sign", "found", "down", "right", "takers"]
theorem scNbs : FnScope nNbs ["rows", "row", "column"] (defScope s_neighbours) := ⟨rfl, rfl, rfl, by decide +kernel, rfl, by decide +kernel, by decide +kernel⟩
theorem ok_nbs {f fs t0 : Addr} {fd fds : FuncData} (F : Fun K "_neighbours" "_neighbours" s_neighbours f fd) (GS : FnOk P w K mg base CX0 1 fs fds ["rows", "row", "column"] (spSignAt K)) (gS : mg "_sign_at" = some (.ref fs)) (kS : PySem.W.keepIn K (.ref fs) = true) (bS : Binds K fds ["rows", "row", "column"] [])
    (gL : mg "len" = none) (gT : mg "STEPS" = some (.ref t0)) (T : StepsAt K t0) : FnOk P w K mg base CX0 2 f fd ["rows", "row", "column"] (spNbs K) := by
  refine F.ok scNbs (fun vs H Q E h => ?_) (fun cdv A outer s H vs Q E hr h => ?_)
  · obtain ⟨l, ws, r, c, rfl, _⟩ := h
    rfl
  · obtain ⟨l, ws, r, c, rfl, hS, hw, hr1, hc1, hQ⟩ := h
    have hh := hw.high
    have hwd := hw.wid
    have hlr := hw.rlen hr1
    have sz : (ws.getD r ("" : Str)).length ≤ sizeLine := Nat.le_trans (by rw [hlr]; exact hwd) (by decide)
    obtain ⟨ts, htl, hT0, hT⟩ := T
    refine ⟨_, pss_cons (ps_set (i := 3) scNbs.nd rfl (Or.inl rfl) (pe_callB call_len_str (by rfl) gL PySem.boot_len (pa_cons (pe_ix ix_tup (pv 0) (pv 1) (fun _ _ => rfl)) pa_nil)))
      (pss_cons (ps_set (i := 4) scNbs.nd rfl (Or.inl rfl) (pe_ix ix_str (pe_ix ix_tup (pv 0) (pv 1) (fun _ _ => rfl)) (pv 2) (fun _ _ => rfl)))
      (pss_cons (ps_set (i := 5) scNbs.nd rfl (Or.inl rfl) (pe_lst pa_nil))
      (pss_cons (ps_for PassesOwn.never rfl (pi_tup (pe_glob (v := .ref t0) rfl gT rfl)) (pg_tup (by rfl) (pgs_cons (pg_name (i := 6) scNbs.nd rfl (Or.inl rfl)) (pgs_cons (pg_name (i := 7) scNbs.nd rfl (Or.inl rfl)) (pgs_cons (pg_name (i := 8) scNbs.nd rfl (Or.inl rfl)) pgs_nil))))
        (pss_one (ps_if (PW.pt (pw_and (pt_cmpR op_in_sign (pv 4) (pv 8) rfl) (pw_and1 (pt_cmpR op_in_sign (pe_call GS hr rfl gS kS bS .nil pass0 (pa_cons (pv 0) (pa_cons (pe_op op_add (pv 1) (pv 6)) (pa_cons (pe_op op_add (pv 2) (pv 7)) pa_nil)))) (pv 8) rfl))))
          (pss_one (ps_expr (pe_bm PySem.F.plainAttrs_list PySem.F.slot_list_append PySem.F.type_list_append mt_append (pv 5) (pa_cons (pe_op op_add (pe_op op_add (pe_op op_mul (pe_op op_add (pv 1) (pv 6)) (pv 3)) (pv 2)) (pv 7)) pa_nil)))) pss_nil)))
      (pss_one (ps_ret (pv 5)))))), ?_⟩
    refine ⟨_, rfl, _, rfl, _, _, _, _, rfl, rfl, hS, atI_nat (str_at hr1), _, rfl, sz, ?_⟩
    rw [hlr]
    refine ⟨_, rfl, _, rfl, _, _, _, _, rfl, rfl, hS, atI_nat (str_at hr1), _, rfl, _, _, _, rfl, rfl, sz, atI_nat (sign_at hw hr1 hc1), ?_⟩
    refine ⟨(by show 0 ≤ sizeLine; decide), fun lf hlf => ?_⟩
    refine ⟨t0, rfl, ⟨_, hT0 _⟩, for_tup (K := K) (a := t0) (xs := ts.map V.ref) (fun i σ H2 => ∃ v6 v7 v8 : Option V, σ = [some (.ref l), some (.int r), some (.int c), some (.int (wide ws)), some (.str ⟨#[signAt ws r c]⟩), some (.ref lf), v6, v7, v8] ∧ Same H H2 ∧
      H2 lf = some (.lst ((((steps.take i).filter (stepOk ws r c)).map (stepTo (wide ws) r c)).map V.int))) ⟨none, none, none, rfl, Same.new hlf, upd_same⟩ (fun _ _ _ _ _ => hT0 _) ?_ ?_⟩
    · rintro i y σ H2 hi ⟨v6, v7, v8, rfl, s2, h5⟩
      have hil : i < 4 := by
        have := (List.getElem?_eq_some_iff.mp hi).1
        rw [List.length_map] at this
        omega
      obtain ⟨t, ht, rfl⟩ : ∃ t, ts[i]? = some t ∧ y = V.ref t := by
        rw [List.getElem?_map] at hi
        cases e : ts[i]? with
        | none => rw [e] at hi; cases hi
        | some t => rw [e] at hi; exact ⟨t, rfl, (Option.some.inj hi).symm⟩
      obtain ⟨p, hp⟩ : ∃ p, steps[i]? = some p := ⟨_, List.getElem?_eq_getElem (show i < steps.length from hil)⟩
      obtain ⟨d, e, z⟩ := p
      have hstep := hT i t _ ht hp
      have tke : steps.take (i + 1) = steps.take i ++ [(d, e, z)] := by
        rw [List.take_add_one, hp] <;> rfl
      have en : sgN ws (r : Int) (c : Int) = signAt ws r c := sgN_in hr1 hc1
      have noK : ¬ stepOk ws r c (d, e, z) = true → ((steps.take (i + 1)).filter (stepOk ws r c)).map (stepTo (wide ws) r c) = ((steps.take i).filter (stepOk ws r c)).map (stepTo (wide ws) r c) := fun hn => by
        rw [tke, List.filter_append, List.filter_cons_of_neg hn, List.filter_nil, List.append_nil]
      have yesK : stepOk ws r c (d, e, z) = true → ((steps.take (i + 1)).filter (stepOk ws r c)).map (stepTo (wide ws) r c) = ((steps.take i).filter (stepOk ws r c)).map (stepTo (wide ws) r c) ++ [stepTo (wide ws) r c (d, e, z)] := fun hn => by
        rw [tke, List.filter_append, List.filter_cons_of_pos hn, List.filter_nil, List.map_append] <;> rfl
      have hdb : d.natAbs ≤ 1 ∧ e.natAbs ≤ 1 := by
        have : ∀ q ∈ steps, q.1.natAbs ≤ 1 ∧ q.2.1.natAbs ≤ 1 := by decide +kernel
        exact this _ (List.mem_of_getElem? hp)
      refine ⟨t, _, rfl, hstep _, rfl, _, _, rfl, _, _, rfl, _, _, rfl, rfl, ?_⟩
      refine ⟨_, rfl, _, rfl, _, _, rfl, rfl, _, rfl, ?_⟩
      refine ite2 (fun h1 => ?_) (fun h1 => ?_)
      · refine ⟨_, rfl, _, rfl, _, rfl, _, _, rfl, rfl, _, rfl, _, rfl, _, _, rfl, rfl, l, ws, _, _, rfl, Same.sqT s2 hS, hw, ?_⟩
        refine ⟨_, rfl, _, _, rfl, rfl, _, rfl, ?_⟩
        refine ite2 (fun h2 => ?_) (fun h2 => ?_)
        · have hok : stepOk ws r c (d, e, z) = true := by
            unfold stepOk tk
            rw [en]
            exact Bool.and_eq_true_iff.mpr ⟨h1, h2⟩
          refine ⟨_, rfl, .inl ⟨rfl, _, SqL.of h5⟩, _, rfl, _, rfl, _, _, rfl, rfl, _, rfl, _, _, rfl, rfl, .inl ⟨by omega, by omega⟩, _, rfl, _, _, rfl, rfl, _, rfl, _, _, rfl, rfl, lf, _, _, rfl, rfl, h5, ?_, ?_⟩
          · rw [List.length_map, List.length_map]
            refine small1000 (Nat.le_trans (List.length_filter_le _ _) ?_)
            rw [List.length_take]
            omega
          · refine ⟨_, _, _, rfl, ?_, ?_⟩
            · exact fun b o q => by rw [upd_ne (ne_of_none q hlf)]; exact s2 b o q
            · rw [upd_same, yesK hok, List.map_append] <;> rfl
        · refine ⟨_, _, _, rfl, s2, ?_⟩
          rw [noK]
          · exact h5
          · intro q
            unfold stepOk tk at q
            exact h2 (Bool.and_eq_true_iff.mp q).2
      · refine ⟨_, _, _, rfl, s2, ?_⟩
        rw [noK]
        · exact h5
        · intro q
          unfold stepOk tk at q
          rw [en] at q
          exact h1 (Bool.and_eq_true_iff.mp q).1
    · rintro σ H2 ⟨v6, v7, v8, rfl, s2, h5⟩
      refine ⟨_, rfl, hQ lf H2 s2 hlf ?_⟩
      rw [h5]
      have e4 : steps.take (ts.map V.ref).length = steps := by
        rw [List.length_map, htl]
        rfl
      rw [e4]
      rfl
end
end Sf
namespace Sf
open PySem L2
/-- the sign at a place -/
def atP (ws : List Str) (p : Nat) : Nat := signAt ws (p / wide ws) (p % wide ws)
/-- the cells among the first n places -/
def cellsTo (ws : List Str) (n : Nat) : List Nat := (List.range n).filter fun p => decide (atP ws p ≠ 35)
def cellsOf (ws : List Str) : List Nat := cellsTo ws (ws.length * wide ws)
def nbsP (ws : List Str) (p : Nat) : List Int := nbs ws ((p / wide ws : Nat) : Int) ((p % wide ws : Nat) : Int)
theorem cellsTo_succ (ws : List Str) (n : Nat) : cellsTo ws (n + 1) = if atP ws n ≠ 35 then cellsTo ws n ++ [n] else cellsTo ws n := by
  unfold cellsTo
  rw [List.range_succ, List.filter_append]
  by_cases h : atP ws n ≠ 35
  · rw [if_pos h]
    simp [List.filter_cons, h]
  · rw [if_neg h]
    simp only [Decidable.not_not] at h
    simp [List.filter_cons, h]
theorem cellsTo_lt {ws : List Str} {n p : Nat} (h : p ∈ cellsTo ws n) : p < n := List.mem_range.mp (List.mem_filter.mp h).1
theorem cellsTo_mem {ws : List Str} {n p : Nat} : p ∈ cellsTo ws n ↔ p < n ∧ atP ws p ≠ 35 := by
  unfold cellsTo
  rw [List.mem_filter, List.mem_range, decide_eq_true_eq]
theorem cellsTo_len (ws : List Str) (n : Nat) : (cellsTo ws n).length ≤ n := by
  have := List.length_filter_le (fun p => decide (atP ws p ≠ 35)) (List.range n)
  rw [List.length_range] at this
  exact this
/-- the table: each cell's place, and the address of the list of the cells beside it -/
def tab (f : Nat → Addr) (ps : List Nat) : List (Key × V) := ps.map fun (p : Nat) => ((Sum.inl (p : Int) : Key), V.ref (f p))
theorem valV_tab (f : Nat → Addr) (i : Int) : ∀ ps : List Nat, valV (tab f ps) (Sum.inl i : Key) = if (0 ≤ i ∧ i.toNat ∈ ps) then some (.ref (f i.toNat)) else none
  | [] => by
    rw [if_neg (fun q => by cases q.2)]
    rfl
  | p :: r => by
    show valV (((Sum.inl (p : Int) : Key), V.ref (f p)) :: tab f r) _ = _
    by_cases e : (p : Int) = i
    · subst e
      rw [valV_pos rfl, if_pos ⟨by omega, by rw [Int.toNat_natCast]; exact List.mem_cons_self⟩, Int.toNat_natCast]
    · rw [valV_neg (fun q => e (Sum.inl.inj q)), valV_tab f i r]
      by_cases h : 0 ≤ i ∧ i.toNat ∈ r
      · rw [if_pos h, if_pos ⟨h.1, List.mem_cons_of_mem _ h.2⟩]
      · rw [if_neg h, if_neg]
        rintro ⟨h0, h1⟩
        rcases List.mem_cons.mp h1 with q | q
        · exact e (by omega)
        · exact h ⟨h0, q⟩
theorem tab_congr {f g : Nat → Addr} {ps : List Nat} (h : ∀ p ∈ ps, f p = g p) : tab f ps = tab g ps := by
  unfold tab
  exact List.map_congr_left fun p hp => by rw [h p hp]
/-- the table stands at d -/
structure TabAt (H : Hp) (d : Addr) (ws : List Str) (ps : List Nat) (f : Nat → Addr) : Prop where
  dc : H d = some (.dK (tab f ps))
  ls : ∀ p ∈ ps, H (f p) = some (.lst ((nbsP ws p).map V.int))
theorem TabAt.same {H H' : Hp} {d : Addr} {ws : List Str} {ps : List Nat} {f : Nat → Addr} (t : TabAt H d ws ps f) (s : Same H H') : TabAt H' d ws ps f := ⟨s _ _ t.dc, fun p hp => s _ _ (t.ls p hp)⟩
theorem ne_tbl {H : Hp} {P a : Addr} {o : HO} (hT : GxR.TabG H P) (h : H a = some o) (ho : ∀ ps, o ≠ .tbl ps) : a ≠ P := fun e => by
  obtain ⟨ps, z, _⟩ := hT
  rw [e, z] at h
  exact ho ps (Option.some.inj h).symm
theorem TabAt.sm {P : Addr} {H H' : Hp} {d : Addr} {ws : List Str} {ps : List Nat} {f : Nat → Addr} (t : TabAt H d ws ps f) (hT : GxR.TabG H P) (s : Sm P H H') : TabAt H' d ws ps f :=
  ⟨s.k _ _ (ne_tbl hT t.dc (fun _ z => by cases z)) t.dc, fun p hp => s.k _ _ (ne_tbl hT (t.ls p hp) (fun _ z => by cases z)) (t.ls p hp)⟩
def spTable (K : PySem.W.Frag) : Sp := fun vs H Q _ => ∃ (l : Addr) (ws : List Str), vs = [.ref l, .int (wide ws)] ∧ SqT K H l (ws.map V.str) ∧ Wf ws ∧
  ∀ (d : Addr) (f : Nat → Addr) (H' : Hp), Same H H' → H d = none → TabAt H' d ws (cellsOf ws) f → (∀ p ∈ cellsOf ws, H (f p) = none) → Q (.ref d) H'
section
variable {P : Program} {w : World} {K : PySem.W.Frag} {mg : Str → Option Value} {base : Heap}
def nTable : List Str := ["rows", "wide", "table", "row", "column"]
theorem scTable : FnScope nTable ["rows", "wide"] (defScope s_neighbours_of_cells) := ⟨rfl, rfl, rfl, by decide +kernel, rfl, by decide +kernel, by decide +kernel⟩
theorem ok_table {f fn : Addr} {fd fdn : FuncData} {tP : Tok} (F : Fun K "_neighbours_of_cells" "_neighbours_of_cells" s_neighbours_of_cells f fd) (GN : FnOk P w K mg base CX0 2 fn fdn ["rows", "row", "column"] (spNbs K)) (gN : mg "_neighbours" = some (.ref fn)) (kN : PySem.W.keepIn K (.ref fn) = true) (bN : Binds K fdn ["rows", "row", "column"] [])
    (gL : mg "len" = none) (gR : mg "range" = none) (gP : mg "PILLAR" = some (.str "#" tP)) : FnOk P w K mg base CX0 3 f fd ["rows", "wide"] (spTable K) := by
  refine F.ok scTable (fun vs H Q E h => ?_) (fun cdv A outer s H vs Q E hr h => ?_)
  · obtain ⟨l, ws, rfl, _⟩ := h
    rfl
  · obtain ⟨l, ws, rfl, hS, hw, hQ⟩ := h
    have hu := hu_of hr
    have hh := hw.high
    have hwd := hw.wid
    refine ⟨_, pss_cons (ps_set (i := 2) scTable.nd rfl (Or.inl rfl) pe_dnewK)
      (pss_cons (ps_for PassesOwn.never rfl (pi_range1 rfl gR (pa_cons (pe_callB call_len (by rfl) gL PySem.boot_len (pa_cons (pv 0) pa_nil)) pa_nil)) (pg_name (i := 3) scTable.nd rfl (Or.inl rfl))
        (pss_one (ps_for PassesOwn.never rfl (pi_range1 rfl gR (pa_cons (pv 1) pa_nil)) (pg_name (i := 4) scTable.nd rfl (Or.inl rfl))
          (pss_one (ps_if (pt_cmpR op_ne (pe_ix ix_str (pe_ix ix_tup (pv 0) (pv 3) (fun _ _ => rfl)) (pv 4) (fun _ _ => rfl)) (pe_glob (v := .str "#") rfl gP ⟨_, rfl⟩) (nomark _))
            (pss_one (ps_dput hu (pv 2) (pe_op op_add (pe_op op_mul (pv 3) (pv 1)) (pv 4)) (pe_call GN hr rfl gN kN bN .nil pass0 (pa_cons (pv 0) (pa_cons (pv 3) (pa_cons (pv 4) pa_nil)))) rfl)) pss_nil)))))
      (pss_one (ps_ret (pv 2)))), ?_⟩
    intro d hd
    refine ⟨_, rfl, _, _, rfl, .inr ⟨_, Same.sqT (Same.new hd) hS, rfl⟩, ?_⟩
    rw [List.length_map]
    refine ⟨_, rfl, by omega, by omega, for_range (n := ((ws.length : Nat) : Int).toNat) (fun i σ H2 => ∃ (v3 v4 : Option V) (f : Nat → Addr), σ = [some (.ref l), some (.int (wide ws)), some (.ref d), v3, v4] ∧ Same H H2 ∧ TabAt H2 d ws (cellsTo ws (i * wide ws)) f ∧ ∀ p ∈ cellsTo ws (i * wide ws), H (f p) = none)
      ⟨none, none, fun _ => 0, rfl, Same.new hd, ?_, ?_⟩ ?_ ?_⟩
    · rw [Nat.zero_mul]
      exact ⟨upd_same, fun p hp => by cases hp⟩
    · rw [Nat.zero_mul]
      exact fun p hp => by cases hp
    · rintro i σ H2 hi ⟨v3, v4, f, rfl, s2, T2, n2⟩
      have hil : i < ws.length := by omega
      refine ⟨_, rfl, _, rfl, by omega, by omega, for_range (n := ((wide ws : Nat) : Int).toNat) (fun j σ H3 => ∃ (v4 : Option V) (f : Nat → Addr), σ = [some (.ref l), some (.int (wide ws)), some (.ref d), some (.int (0 + (i : Int))), v4] ∧ Same H H3 ∧ TabAt H3 d ws (cellsTo ws (i * wide ws + j)) f ∧ ∀ p ∈ cellsTo ws (i * wide ws + j), H (f p) = none)
        ⟨v4, f, rfl, s2, T2, n2⟩ ?_ ?_⟩
      · clear T2 n2 f v4
        rintro j σ H3 hj ⟨v4, f, rfl, s3, T3, n3⟩
        have hjl : j < wide ws := by omega
        have sz : (ws.getD i ("" : Str)).length ≤ sizeLine := Nat.le_trans (by rw [hw.rlen hil]; exact hwd) (by decide)
        have e1 : (i * wide ws + j) / wide ws = i := by
          rw [Nat.mul_comm, Nat.mul_add_div (by omega), Nat.div_eq_of_lt hjl, Nat.add_zero]
        have e2 : (i * wide ws + j) % wide ws = j := by
          rw [Nat.mul_comm, Nat.mul_add_mod, Nat.mod_eq_of_lt hjl]
        have ea : atP ws (i * wide ws + j) = signAt ws i j := by
          unfold atP
          rw [e1, e2]
        have z1 : (0 : Int) + (i : Int) = (i : Int) := Int.zero_add _
        have z2 : (0 : Int) + (j : Int) = (j : Int) := Int.zero_add _
        have nb : nbsP ws (i * wide ws + j) = nbs ws i j := by
          unfold nbsP
          rw [e1, e2]
        refine ⟨_, rfl, _, rfl, _, _, _, _, rfl, rfl, Same.sqT s3 hS, by rw [z1]; exact atI_nat (str_at hil), _, rfl, _, _, _, rfl, rfl, sz, by rw [z2]; exact atI_nat (sign_at hw hil hjl), ?_⟩
        have eP : ("#" : Str) = sg1 35 := by decide +kernel
        refine ⟨rfl, _, rfl, ?_⟩
        rw [eP]
        have ed : (V.str ⟨#[signAt ws i j]⟩ = V.str (sg1 35)) ↔ signAt ws i j = 35 := ⟨fun q => by
          have q1 := V.str.inj q
          unfold sg1 at q1
          injection q1 with q2
          have q3 := congrArg (fun a : Array Nat => a.toList) q2
          exact (List.cons.inj q3).1, fun q => by rw [q]; rfl⟩
        by_cases h35 : signAt ws i j = 35
        · rw [decide_eq_true (ed.mpr h35)]
          refine iteF ?_
          refine ⟨_, f, rfl, s3, ?_, ?_⟩
          · rw [← Nat.add_assoc, cellsTo_succ, if_neg (by rw [ea, h35]; simp)]
            exact T3
          · rw [← Nat.add_assoc, cellsTo_succ, if_neg (by rw [ea, h35]; simp)]
            exact n3
        · rw [decide_eq_false (fun q => h35 (ed.mp q))]
          refine iteT ?_
          refine ⟨_, rfl, _, rfl, _, rfl, l, ws, i, j, by rw [z1, z2] <;> rfl, Same.sqT s3 hS, hw, hil, hjl, fun lf H4 s4 hlf h4 => ?_⟩
          have T4 := T3.same s4
          have hlf0 : H lf = none := s3.free hlf
          have key : V.int ((0 + (i : Int)) * (wide ws : Int) + (0 + (j : Int))) = kV (Sum.inl ((i * wide ws + j : Nat) : Int)) := by
            rw [z1, z2]
            show V.int _ = V.int _
            rw [Int.natCast_add, Int.natCast_mul]
          have nin : ¬ (i * wide ws + j) ∈ cellsTo ws (i * wide ws + j) := fun q => Nat.lt_irrefl _ (cellsTo_lt q)
          have vn : valV (tab f (cellsTo ws (i * wide ws + j))) (Sum.inl ((i * wide ws + j : Nat) : Int) : Key) = none := by
            rw [valV_tab, if_neg]
            rintro ⟨_, q⟩
            rw [Int.toNat_natCast] at q
            exact nin q
          have ndl : lf ≠ d := fun e => by
            have q := s4 _ _ T3.dc
            rw [e, q] at h4
            cases h4
          refine ⟨_, rfl, _, rfl, _, rfl, _, _, rfl, rfl, .inl ⟨by omega, by omega⟩, _, rfl, _, _, rfl, rfl, d, _, rfl, by show DPut H4 d (V.int ((0 + (i : Int)) * (wide ws : Int) + (0 + (j : Int)))) _ _; rw [key]; exact DPut.k T4.dc (small1000 (by
            unfold tab
            rw [List.length_map]
            have := cellsTo_len ws (i * wide ws + j)
            have : i * wide ws ≤ 12 * 12 := Nat.mul_le_mul (by omega) hwd
            omega)), ?_⟩
          let f' : Nat → Addr := fun p => if p = i * wide ws + j then lf else f p
          have ff : ∀ p ∈ cellsTo ws (i * wide ws + j), f p = f' p := fun p hp => (if_neg (fun e : p = i * wide ws + j => nin (by rw [e] at hp; exact hp))).symm
          have fn : f' (i * wide ws + j) = lf := if_pos rfl
          refine ⟨_, f', rfl, ?_, ?_, ?_⟩
          · exact fun b o q => by rw [upd_ne (ne_of_none q hd)]; exact s4 b o (s3 b o q)
          · rw [← Nat.add_assoc, cellsTo_succ, if_pos (by rw [ea]; exact h35)]
            refine ⟨?_, fun p hp => ?_⟩
            · rw [upd_same, putK_new _ vn]
              unfold tab
              rw [List.map_append, List.map_cons, List.map_nil, fn]
              show some (HO.dK (tab f _ ++ _)) = some (HO.dK (tab f' _ ++ _))
              rw [tab_congr ff]
            · rcases List.mem_append.mp hp with q | q
              · rw [← ff p q, upd_ne (fun e => by
                  have z := T4.dc
                  rw [← e, T4.ls p q] at z
                  cases z)]
                exact T4.ls p q
              · rw [List.mem_singleton.mp q, fn, upd_ne ndl, nb]
                exact h4
          · rw [← Nat.add_assoc, cellsTo_succ, if_pos (by rw [ea]; exact h35)]
            intro p hp
            rcases List.mem_append.mp hp with q | q
            · rw [← ff p q]
              exact n3 p q
            · rw [List.mem_singleton.mp q, fn]
              exact hlf0
      · rintro σ H3 ⟨v4, f, rfl, s3, T3, n3⟩
        have ew : ((wide ws : Nat) : Int).toNat = wide ws := Int.toNat_natCast _
        rw [ew] at T3 n3
        refine ⟨_, _, f, rfl, s3, ?_, ?_⟩
        · rw [Nat.succ_mul]
          exact T3
        · rw [Nat.succ_mul]
          exact n3
    · rintro σ H2 ⟨v3, v4, f, rfl, s2, T2, n2⟩
      rw [Int.toNat_natCast] at T2 n2
      exact ⟨_, rfl, hQ d f H2 s2 hd T2 n2⟩
end
end Sf
namespace Sf
open PySem L2
/-! ### the Floor object -/
def flds (lr : Addr) (ws : List Str) (d lt : Addr) : List (Str × V) := putF "_neighbours" (.ref d) (putF "_signs" (.ref lt) (putF "wide" (.int (wide ws)) (putF "high" (.int ws.length) (putF "rows" (.ref lr) []))))
theorem fne : ¬ (("rows" : Str) = "high") ∧ ¬ (("rows" : Str) = "wide") ∧ ¬ (("rows" : Str) = "_neighbours") ∧ ¬ (("high" : Str) = "wide") ∧ ¬ (("high" : Str) = "_neighbours") ∧ ¬ (("wide" : Str) = "_neighbours") ∧ ¬ (("rows" : Str) = "_signs") ∧ ¬ (("high" : Str) = "_signs") ∧ ¬ (("wide" : Str) = "_signs") ∧ ¬ (("_signs" : Str) = "_neighbours") := by decide +kernel
theorem flds_rows (lr : Addr) (ws : List Str) (d lt : Addr) : (flds lr ws d lt).lookup ("rows" : Str) = some (.ref lr) := by
  obtain ⟨a, b, c, e, f, g, h, i, j, k⟩ := fne
  unfold flds
  rw [lookup_putF, if_neg c, lookup_putF, if_neg h, lookup_putF, if_neg b, lookup_putF, if_neg a, lookup_putF, if_pos rfl]
theorem flds_high (lr : Addr) (ws : List Str) (d lt : Addr) : (flds lr ws d lt).lookup ("high" : Str) = some (.int ws.length) := by
  obtain ⟨a, b, c, e, f, g, h, i, j, k⟩ := fne
  unfold flds
  rw [lookup_putF, if_neg f, lookup_putF, if_neg i, lookup_putF, if_neg e, lookup_putF, if_pos rfl]
theorem flds_wide (lr : Addr) (ws : List Str) (d lt : Addr) : (flds lr ws d lt).lookup ("wide" : Str) = some (.int (wide ws)) := by
  obtain ⟨a, b, c, e, f, g, h, i, j, k⟩ := fne
  unfold flds
  rw [lookup_putF, if_neg g, lookup_putF, if_neg j, lookup_putF, if_pos rfl]
theorem flds_signs (lr : Addr) (ws : List Str) (d lt : Addr) : (flds lr ws d lt).lookup ("_signs" : Str) = some (.ref lt) := by
  obtain ⟨a, b, c, e, f, g, h, i, j, k⟩ := fne
  unfold flds
  rw [lookup_putF, if_neg k, lookup_putF, if_pos rfl]
theorem flds_nbs (lr : Addr) (ws : List Str) (d lt : Addr) : (flds lr ws d lt).lookup ("_neighbours" : Str) = some (.ref d) := by
  unfold flds
  rw [lookup_putF, if_pos rfl]
theorem flds_no (lr : Addr) (ws : List Str) (d lt : Addr) {m : Str} (h1 : ¬ m = "_neighbours") (h2 : ¬ m = "wide") (h3 : ¬ m = "high") (h4 : ¬ m = "rows") (h5 : ¬ m = "_signs" := by decide +kernel) : (flds lr ws d lt).lookup m = none := by
  unfold flds
  rw [lookup_putF, if_neg h1, lookup_putF, if_neg h5, lookup_putF, if_neg h2, lookup_putF, if_neg h3, lookup_putF, if_neg h4]
  all_goals rfl
/-- where the tuple of the signs stands: ahead of no cell -/
def topP (ws : List Str) : Nat := ws.length * wide ws
theorem topP_no {ws : List Str} {p : Nat} (h : p ∈ cellsOf ws) : p ≠ topP ws := Nat.ne_of_lt (cellsTo_lt h)
/-- a Floor of the rows ws stands at x -/
structure FloorAt (C : Addr) (H : Hp) (x dx lr d : Addr) (f : Nat → Addr) (ws : List Str) : Prop where
  ob : H x = some (.ins C dx (flds lr ws d (f (topP ws))))
  rw : H lr = some (.lst (ws.map V.str))
  tb : TabAt H d ws (cellsOf ws) f
  sg : H (f (topP ws)) = some (.tup (ws.map V.str))
theorem FloorAt.same {C : Addr} {H H' : Hp} {x dx lr d : Addr} {f : Nat → Addr} {ws : List Str} (a : FloorAt C H x dx lr d f ws) (s : Same H H') : FloorAt C H' x dx lr d f ws := ⟨s _ _ a.ob, s _ _ a.rw, a.tb.same s, s _ _ a.sg⟩
/-- its parts are new -/
structure FNew (H0 : Hp) (lr d : Addr) (f : Nat → Addr) (ws : List Str) : Prop where
  rw : H0 lr = none
  dc : H0 d = none
  ls : ∀ p ∈ cellsOf ws, H0 (f p) = none
  sg : H0 (f (topP ws)) = none
theorem SqL_but {K : PySem.W.Frag} {H H' : Hp} {x l : Addr} {xs : List V} (h : SqL K H l xs) (nx : ∀ ys, H x ≠ some (.lst ys)) (nf : ∀ o u, H x ≠ some (.frz o u)) (k : ∀ b o, b ≠ x → H b = some o → H' b = some o) : SqL K H' l xs := by
  rcases h with (h | ⟨o, h⟩) | h
  · exact .inl (.inl (k _ _ (fun e => by rw [e] at h; exact nx _ h) h))
  · exact .inl (.inr ⟨o, k _ _ (fun e => by rw [e] at h; exact nf _ _ h) h⟩)
  · exact .inr h
def spInit (K : PySem.W.Frag) (Pt C : Addr) : Sp := fun vs H Q _ => ∃ (x dx l : Addr) (ws : List Str), vs = [.ref x, .ref l] ∧ H x = some (.ins C dx []) ∧ SqL K H l (ws.map V.str) ∧ Wf ws ∧ GxR.TabG H Pt ∧
  ∀ (lr d : Addr) (f : Nat → Addr) (H' : Hp), FNew H lr d f ws → (∀ b o, b ≠ x → b ≠ Pt → H b = some o → H' b = some o) → GxR.TabG H' Pt → FloorAt C H' x dx lr d f ws → Q .non H'
def isCell (ws : List Str) (i : Int) : Bool := decide (0 ≤ i ∧ i.toNat ∈ cellsOf ws)
def mayB (ws : List Str) (i j : Int) : Bool := isCell ws i && decide (j ∈ nbsP ws i.toNat)
def nats (ps : List Nat) : List V := ps.map fun (p : Nat) => V.int (p : Int)
def spCells (C : Addr) : Sp := fun vs H Q _ => ∃ (x dx lr d : Addr) (f : Nat → Addr) (ws : List Str), vs = [.ref x] ∧ FloorAt C H x dx lr d f ws ∧ ∀ (l : Addr) (H' : Hp), Same H H' → H l = none → H' l = some (.lst (nats (cellsOf ws))) → Q (.ref l) H'
def spHas (C : Addr) : Sp := fun vs H Q _ => ∃ (x dx lr d : Addr) (f : Nat → Addr) (ws : List Str) (i : Int), vs = [.ref x, .int i] ∧ FloorAt C H x dx lr d f ws ∧ Q (.bl (isCell ws i)) H
def spMay (C : Addr) : Sp := fun vs H Q _ => ∃ (x dx lr d : Addr) (f : Nat → Addr) (ws : List Str) (i j : Int), vs = [.ref x, .int i, .int j] ∧ FloorAt C H x dx lr d f ws ∧ Q (.bl (mayB ws i j)) H
/-- the class as the top has made it -/
structure FTxt (K : PySem.W.Frag) (mg : Str → Option Value) (C : Addr) : Prop where
  cl : Cls K C
  nR : NoAttr K C "rows"
  nH : NoAttr K C "high"
  nW : NoAttr K C "wide"
  nN : NoAttr K C "_neighbours"
  nS : NoAttr K C "_signs"
  mgC : mg "Floor" = some (.ref C)
theorem in_ints (j : Int) : ∀ l : List Int, inV (V.int j) (l.map V.int) = decide (j ∈ l)
  | [] => rfl
  | a :: r => by
    have ih := in_ints j r
    unfold inV at ih ⊢
    rw [List.map_cons, List.any_cons, ih, Bool.eq_iff_iff, Bool.or_eq_true, decide_eq_true_eq, decide_eq_true_eq, List.mem_cons]
    show (eqV (V.int a) (V.int j) = true ∨ _) ↔ _
    have e : eqV (V.int a) (V.int j) = true ↔ j = a := by
      simp [eqV]
      exact ⟨fun h => h.symm, fun h => h.symm⟩
    rw [e]
theorem flat_ints (l : List Int) : (l.map V.int).all flatV = true := List.all_eq_true.mpr fun x hx => by
  obtain ⟨i, _, rfl⟩ := List.mem_map.mp hx
  rfl
section
variable {P : Program} {w : World} {K : PySem.W.Frag} {mg : Str → Option Value} {base : Heap}
theorem scInit : FnScope ["self", "rows"] ["self", "rows"] (defScope sFloor___init__) := ⟨rfl, rfl, rfl, by decide +kernel, rfl, by decide +kernel, by decide +kernel⟩
theorem ok_init {f fr ft C Pt : Addr} {fd fdr fdt : FuncData} (F : Fun K "__init__" "Floor.__init__" sFloor___init__ f fd) (T : FTxt K mg C) (GR : FnOk P w K mg base CX0 1 fr fdr ["rows"] (spRefuse K Pt)) (gR : mg "_refuse_wrong" = some (.ref fr)) (kR : PySem.W.keepIn K (.ref fr) = true) (bR : Binds K fdr ["rows"] [])
    (GT : FnOk P w K mg base CX0 3 ft fdt ["rows", "wide"] (spTable K)) (gT : mg "_neighbours_of_cells" = some (.ref ft)) (kT : PySem.W.keepIn K (.ref ft) = true) (bT : Binds K fdt ["rows", "wide"] []) (gL : mg "len" = none) (gl : mg "list" = none) (gt : mg "tuple" = none) :
    FnOk P w K mg base CX0 4 f fd ["self", "rows"] (spInit K Pt C) := by
  refine F.ok scInit (fun vs H Q E h => ?_) (fun cdv A outer s H vs Q E hr h => ?_)
  · obtain ⟨x, dx, l, ws, rfl, _⟩ := h
    rfl
  · obtain ⟨x, dx, l, ws, rfl, hx, hS, hw, hT, hQ⟩ := h
    have hu := hu_of hr
    have hr1 : Room 1 _ := hr.mono (by decide)
    refine ⟨_, pss_cons (ps_expr (pe_call GR hr1 rfl gR kR bR .nil pass0 (pa_cons (pv 1) pa_nil)))
      (pss_cons (ps_fld (pv 0) (pe_callTy call_list_of (by rfl) gl (by decide +kernel) (pa_cons (pv 1) pa_nil)) rfl)
      (pss_cons (ps_fld (pv 0) (pe_callB call_len (by rfl) gL PySem.boot_len (pa_cons (pv 1) pa_nil)) rfl)
      (C8.pss_cut (ps_fld (pv 0) (pe_ifExp (pt_truth (pv 1) (by intro _; rfl)) (pe_callB call_len_str (by rfl) gL PySem.boot_len (pa_cons (pe_ix ix_list (pv 1) pe_int (fun _ _ => rfl)) pa_nil)) pe_int) rfl)
      (pss_cons (ps_fld (pv 0) (pe_callTy call_tuple_of (by rfl) gt (by decide +kernel) (pa_cons (pv 1) pa_nil)) rfl)
      (pss_one (ps_fld (pv 0) (pe_call GT hr rfl gT kT bT .nil pass0 (pa_cons (pe_fld (pv 0) rfl) (pa_cons (pe_fld (pv 0) rfl) pa_nil))) rfl)))))), ?_⟩
    refine ⟨_, rfl, l, ws, rfl, hS, hw, hT, fun H1 S1 => ?_⟩
    have hT1 := S1.t hT
    have hS1 := S1.seq hT hS
    have hx1 : H1 x = some (.ins C dx []) := S1.k _ _ (ne_tbl hT hx (fun _ z => by cases z)) hx
    refine ⟨_, rfl, l, _, rfl, .inl hS1, fun lr hlr => ?_⟩
    have nxl : x ≠ lr := ne_of_none hx1 hlr
    refine ⟨_, rfl, x, C, dx, _, rfl, (by rw [upd_ne nxl]; exact hx1), T.cl, T.nR, (by show 0 < 1000; decide), ?_⟩
    -- what stands now: H2
    generalize h2 : upd (upd H1 lr (.lst (ws.map V.str))) x (.ins C dx (putF "rows" (.ref lr) [])) = H2
    have k2 : ∀ b o, b ≠ x → H1 b = some o → H2 b = some o := fun b o hb e => by
      rw [← h2, upd_ne hb, upd_ne (ne_of_none e hlr)]
      exact e
    have hx2 : H2 x = some (.ins C dx (putF "rows" (.ref lr) [])) := by rw [← h2, upd_same]
    have hl2 : H2 lr = some (.lst (ws.map V.str)) := by rw [← h2, upd_ne nxl.symm, upd_same]
    have hS2 : SqL K H2 l (ws.map V.str) := SqL_but hS1 (fun _ z => by rw [hx1] at z; cases z) (fun _ _ z => by rw [hx1] at z; cases z) k2
    refine ⟨_, rfl, _, _, rfl, .inl ⟨_, hS2, rfl⟩, _, rfl, x, C, dx, _, rfl, hx2, T.cl, T.nH, (by show 1 < 1000; decide), ?_⟩
    rw [List.length_map]
    generalize h3 : upd H2 x (.ins C dx (putF "high" (.int ((ws.length : Nat) : Int)) (putF "rows" (.ref lr) []))) = H3
    have k3 : ∀ b o, b ≠ x → H2 b = some o → H3 b = some o := fun b o hb e => by
      rw [← h3, upd_ne hb]
      exact e
    have hx3 : H3 x = some (.ins C dx (putF "high" (.int ((ws.length : Nat) : Int)) (putF "rows" (.ref lr) []))) := by rw [← h3, upd_same]
    have hS3 : SqL K H3 l (ws.map V.str) := SqL_but hS2 (fun _ z => by rw [hx2] at z; cases z) (fun _ _ z => by rw [hx2] at z; cases z) k3
    refine ⟨fun σ' H' => σ' = [some (.ref x), some (.ref l)] ∧ H' = upd H3 x (.ins C dx (putF "wide" (.int ((wide ws : Nat) : Int)) (putF "high" (.int ((ws.length : Nat) : Int)) (putF "rows" (.ref lr) [])))), ?_, ?_⟩
    · refine ⟨_, rfl, _, .inl ⟨_, hS3, rfl⟩, ?_⟩
      cases ws with
      | nil =>
        refine iteF ?_
        refine ⟨_, rfl, x, C, dx, _, rfl, hx3, T.cl, T.nW, (by show 2 < 1000; decide), rfl, ?_⟩
        have e0 : wide ([] : List Str) = 0 := empty_len
        rw [e0]
        rfl
      | cons a r =>
        refine iteT ?_
        have ea : wide (a :: r) = a.length := rfl
        have wl := hw.wid
        refine ⟨_, rfl, _, _, _, _, rfl, rfl, hS3, atI_nat (j := 0) rfl, a, rfl, Nat.le_trans (by rw [← ea]; exact wl) (by decide), ?_⟩
        exact ⟨_, rfl, x, C, dx, _, rfl, hx3, T.cl, T.nW, (by show 2 < 1000; decide), rfl, rfl⟩
    · rintro _ H4 ⟨rfl, h4⟩
      have hx4 : H4 x = some (.ins C dx (putF "wide" (.int ((wide ws : Nat) : Int)) (putF "high" (.int ((ws.length : Nat) : Int)) (putF "rows" (.ref lr) [])))) := by rw [h4, upd_same]
      have k4 : ∀ b o, b ≠ x → H3 b = some o → H4 b = some o := fun b o hb e => by
        rw [h4, upd_ne hb]
        exact e
      have hS4 : SqL K H4 l (ws.map V.str) := SqL_but hS3 (fun _ z => by rw [hx3] at z; cases z) (fun _ _ z => by rw [hx3] at z; cases z) k4
      refine ⟨_, rfl, l, _, rfl, .inl ⟨hS4, fun lt hlt => ?_⟩⟩
      have nxt : x ≠ lt := ne_of_none hx4 hlt
      have nPx : x ≠ Pt := ne_tbl hT hx (fun _ z => by cases z)
      let fs5 : List (Str × V) := putF "_signs" (.ref lt) (putF "wide" (.int ((wide ws : Nat) : Int)) (putF "high" (.int ((ws.length : Nat) : Int)) (putF "rows" (.ref lr) [])))
      refine ⟨_, rfl, x, C, dx, _, rfl, (by rw [upd_ne nxt]; exact hx4), T.cl, T.nS, (by show 3 < 1000; decide), ?_⟩
      generalize h5 : upd (upd H4 lt (.tup (ws.map V.str))) x (.ins C dx (putF "_signs" (.ref lt) (putF "wide" (.int ((wide ws : Nat) : Int)) (putF "high" (.int ((ws.length : Nat) : Int)) (putF "rows" (.ref lr) []))))) = H5
      have k5 : ∀ b o, b ≠ x → H4 b = some o → H5 b = some o := fun b o hb e => by
        rw [← h5, upd_ne hb, upd_ne (ne_of_none e hlt)]
        exact e
      have hx5 : H5 x = some (.ins C dx fs5) := by rw [← h5, upd_same]
      have ht5 : H5 lt = some (.tup (ws.map V.str)) := by rw [← h5, upd_ne nxt.symm, upd_same]
      have lw : fs5.lookup ("wide" : Str) = some (V.int ((wide ws : Nat) : Int)) := by
        show (putF "_signs" _ _).lookup _ = _
        rw [lookup_putF, if_neg fne.2.2.2.2.2.2.2.2.1, lookup_putF, if_pos rfl]
      have lg : fs5.lookup ("_signs" : Str) = some (V.ref lt) := by
        show (putF "_signs" _ _).lookup _ = _
        rw [lookup_putF, if_pos rfl]
      refine ⟨_, rfl, x, C, dx, _, _, rfl, hx5, T.cl, T.nS, lg, _, rfl, x, C, dx, _, _, rfl, hx5, T.cl, T.nW, lw, lt, ws, rfl, SqT.of ht5, hw, fun d f H6 s6 hd t6 n6 => ?_⟩
      have hx6 := s6 _ _ hx5
      refine ⟨_, rfl, x, C, dx, _, rfl, hx6, T.cl, T.nN, (by show 4 < 1000; decide), ?_⟩
      have up1 : ∀ b o, b ≠ x → H1 b = some o → H5 b = some o := fun b o hb e => k5 b o hb (k4 b o hb (k3 b o hb (k2 b o hb e)))
      have nd : ∀ b o, H5 b = some o → b ≠ d := fun b o e => ne_of_none e hd
      have f0 : ∀ b, b ≠ x → H5 b = none → H b = none := fun b hb e => by
        cases q : H b with
        | none => rfl
        | some o =>
          by_cases hbp : b = Pt
          · obtain ⟨ps, z, _⟩ := hT1
            have := up1 b _ hb (by rw [hbp]; exact z)
            rw [e] at this
            cases this
          · have := up1 b o hb (S1.k b o hbp q)
            rw [e] at this
            cases this
      have ft : H lt = none := by
        cases q : H lt with
        | none => rfl
        | some o =>
          by_cases hbp : lt = Pt
          · obtain ⟨ps, z, _⟩ := hT1
            have := k4 lt _ nxt.symm (k3 _ _ nxt.symm (k2 _ _ nxt.symm (by rw [hbp]; exact z)))
            rw [hlt] at this
            cases this
          · have := k4 lt _ nxt.symm (k3 _ _ nxt.symm (k2 _ _ nxt.symm (S1.k _ o hbp q)))
            rw [hlt] at this
            cases this
      have lr5 : H5 lr = some (.lst (ws.map V.str)) := k5 _ _ nxl.symm (k4 _ _ nxl.symm (k3 _ _ nxl.symm hl2))
      have hdx : d ≠ x := (nd _ _ hx5).symm
      have hfx : ∀ p ∈ cellsOf ws, f p ≠ x := fun p hp e => by
        have := n6 p hp
        rw [e, hx5] at this
        cases this
      let f' : Nat → Addr := fun p => if p = topP ws then lt else f p
      have ff : ∀ p ∈ cellsOf ws, f p = f' p := fun p hp => (if_neg (topP_no hp)).symm
      have ft' : f' (topP ws) = lt := if_pos rfl
      refine hQ lr d f' _ ⟨S1.free hT hlr, f0 d hdx hd, fun p hp => by rw [← ff p hp]; exact f0 _ (hfx p hp) (n6 p hp), by rw [ft']; exact ft⟩ (fun b o hb hp e => ?_) ?_ ⟨?_, ?_, ⟨?_, fun p hp => ?_⟩, ?_⟩
      · rw [upd_ne hb]
        exact s6 b o (up1 b o hb (S1.k b o hp e))
      · obtain ⟨ps, z, q⟩ := hT1
        exact ⟨ps, by rw [upd_ne nPx.symm]; exact s6 _ _ (up1 _ _ nPx.symm z), q⟩
      · rw [upd_same, ft']
        rfl
      · rw [upd_ne nxl.symm]
        exact s6 _ _ lr5
      · rw [upd_ne hdx, t6.dc, tab_congr ff]
      · rw [← ff p hp, upd_ne (hfx p hp)]
        exact t6.ls p hp
      · rw [ft', upd_ne nxt.symm]
        exact s6 _ _ ht5
theorem scCells : FnScope ["self"] ["self"] (defScope sFloor_cells) := ⟨rfl, rfl, rfl, by decide +kernel, rfl, by decide +kernel, by decide +kernel⟩
theorem tab_keys (f : Nat → Addr) (ps : List Nat) : ((tab f ps).map fun kv => kV kv.1) = nats ps := by
  unfold tab nats
  rw [List.map_map]
  rfl
theorem ok_cells {f C : Addr} {fd : FuncData} (F : Fun K "cells" "Floor.cells" sFloor_cells f fd) (T : FTxt K mg C) (gl : mg "list" = none) : FnOk P w K mg base CX0 1 f fd ["self"] (spCells C) := by
  refine F.ok scCells (fun vs H Q E h => ?_) (fun cdv A outer s H vs Q E hr h => ?_)
  · obtain ⟨x, dx, lr, d, g, ws, rfl, _⟩ := h
    rfl
  · obtain ⟨x, dx, lr, d, g, ws, rfl, a, hQ⟩ := h
    refine ⟨_, pss_one (ps_ret (pe_callTy (call_listD rfl) (by rfl) gl (by decide +kernel) (pa_cons (pe_fld (pv 0) rfl) pa_nil))), ?_⟩
    refine ⟨_, rfl, x, C, dx, _, _, rfl, a.ob, T.cl, T.nN, flds_nbs _ _ _ _, d, _, rfl, .inl a.tb.dc, fun l hl => ?_⟩
    refine hQ l _ (Same.new hl) hl ?_
    rw [upd_same, tab_keys]
theorem scHas : FnScope ["self", "place"] ["self", "place"] (defScope sFloor_has) := ⟨rfl, rfl, rfl, by decide +kernel, rfl, by decide +kernel, by decide +kernel⟩
theorem ok_has {f C : Addr} {fd : FuncData} (F : Fun K "has" "Floor.has" sFloor_has f fd) (T : FTxt K mg C) : FnOk P w K mg base CX0 1 f fd ["self", "place"] (spHas C) := by
  refine F.ok scHas (fun vs H Q E h => ?_) (fun cdv A outer s H vs Q E hr h => ?_)
  · obtain ⟨x, dx, lr, d, g, ws, i, rfl, _⟩ := h
    rfl
  · obtain ⟨x, dx, lr, d, g, ws, i, rfl, a, hQ⟩ := h
    have hu := hu_of hr
    refine ⟨_, pss_one (ps_ret (pe_cmp (pc_din hu (pv 1) (pe_fld (pv 0) rfl)) rfl)), ?_⟩
    refine ⟨_, rfl, _, rfl, x, C, dx, _, _, rfl, a.ob, T.cl, T.nN, flds_nbs _ _ _ _, d, _, rfl, DGet.k (k := Sum.inl i) a.tb.dc, ?_⟩
    have e : (valV (tab g (cellsOf ws)) (Sum.inl i : Key)).isSome = isCell ws i := by
      rw [valV_tab]
      unfold isCell
      by_cases h : 0 ≤ i ∧ i.toNat ∈ cellsOf ws
      · rw [if_pos h, decide_eq_true h] <;> rfl
      · rw [if_neg h, decide_eq_false h] <;> rfl
    rw [e]
    exact hQ
end
end Sf
namespace Sf
open PySem L2
/-! ### the law's own telling, and that it is the same -/
def lmay (ws : List Str) (i j : Int) : Bool :=
  if 0 ≤ i ∧ i < ((wide ws * ws.length : Nat) : Int) ∧ 0 ≤ j ∧ j < ((wide ws * ws.length : Nat) : Int) then
    if i / (wide ws : Int) = j / (wide ws : Int) ∧ (i - j).natAbs = 1 then tk ".-" (atP ws i.toNat) && tk ".-" (atP ws j.toNat)
    else if i % (wide ws : Int) = j % (wide ws : Int) ∧ (i / (wide ws : Int) - j / (wide ws : Int)).natAbs = 1 then tk ".|" (atP ws i.toNat) && tk ".|" (atP ws j.toNat)
    else false
  else false
theorem ifc {α : Type} {b c : Prop} [Decidable b] [Decidable c] {x y u v : α} (h : b ↔ c) (h1 : x = u) (h2 : y = v) : (if b then x else y) = if c then u else v := by
  by_cases hb : b
  · rw [if_pos hb, if_pos (h.mp hb), h1]
  · rw [if_neg hb, if_neg (fun q => hb (h.mpr q)), h2]
theorem lmay_symm (ws : List Str) (i j : Int) : lmay ws i j = lmay ws j i := by
  unfold lmay
  refine ifc ⟨fun q => ⟨q.2.2.1, q.2.2.2, q.1, q.2.1⟩, fun q => ⟨q.2.2.1, q.2.2.2, q.1, q.2.1⟩⟩ (ifc ⟨fun q => ⟨q.1.symm, by omega⟩, fun q => ⟨q.1.symm, by omega⟩⟩ (Bool.and_comm _ _) (ifc ⟨fun q => ⟨q.1.symm, by omega⟩, fun q => ⟨q.1.symm, by omega⟩⟩ (Bool.and_comm _ _) rfl)) rfl
theorem tk_pillar : tk ".-" 35 = false ∧ tk ".|" 35 = false := by decide +kernel
theorem coord {wd r c r' c' : Nat} (h : c < wd) (h' : c' < wd) (e : r * wd + c = r' * wd + c') : r = r' ∧ c = c' := by
  have d1 : (r * wd + c) / wd = r := by rw [Nat.mul_comm, Nat.mul_add_div (by omega), Nat.div_eq_of_lt h, Nat.add_zero]
  have d2 : (r' * wd + c') / wd = r' := by rw [Nat.mul_comm, Nat.mul_add_div (by omega), Nat.div_eq_of_lt h', Nat.add_zero]
  have m1 : (r * wd + c) % wd = c := by rw [Nat.mul_comm, Nat.mul_add_mod, Nat.mod_eq_of_lt h]
  have m2 : (r' * wd + c') % wd = c' := by rw [Nat.mul_comm, Nat.mul_add_mod, Nat.mod_eq_of_lt h']
  constructor
  · rw [← d1, ← d2, e]
  · rw [← m1, ← m2, e]
theorem sgN_ne {ws : List Str} {r c : Int} (h : sgN ws r c ≠ 35) : 0 ≤ r ∧ r < (ws.length : Int) ∧ 0 ≤ c ∧ c < (wide ws : Int) ∧ sgN ws r c = signAt ws r.toNat c.toNat := by
  unfold sgN at h ⊢
  by_cases q : 0 ≤ r ∧ r < (ws.length : Int) ∧ 0 ≤ c ∧ c < (wide ws : Int)
  · exact ⟨q.1, q.2.1, q.2.2.1, q.2.2.2, if_pos q⟩
  · rw [if_neg q] at h
    exact absurd rfl h
/-- the places, by row and column -/
theorem place {ws : List Str} {i : Int} (h0 : 0 ≤ i) (h1 : i < ((wide ws * ws.length : Nat) : Int)) : ∃ r c : Nat, r < ws.length ∧ c < wide ws ∧ i = ((r * wide ws + c : Nat) : Int) ∧ i / (wide ws : Int) = (r : Int) ∧ i % (wide ws : Int) = (c : Int) ∧ atP ws i.toNat = signAt ws r c ∧
    i.toNat / wide ws = r ∧ i.toNat % wide ws = c := by
  obtain ⟨p, rfl⟩ : ∃ p : Nat, i = (p : Int) := ⟨i.toNat, by omega⟩
  have hp : p < wide ws * ws.length := by omega
  have hw : 0 < wide ws := by
    rcases Nat.eq_zero_or_pos (wide ws) with e | e
    · rw [e, Nat.zero_mul] at hp
      omega
    · exact e
  refine ⟨p / wide ws, p % wide ws, ?_, Nat.mod_lt _ hw, ?_, ?_, ?_, ?_, ?_, ?_⟩
  · exact Nat.div_lt_of_lt_mul hp
  · rw [Nat.mul_comm, Nat.div_add_mod]
  · exact (Int.natCast_ediv _ _).symm
  · exact (Int.natCast_emod _ _).symm
  · rfl
  · rfl
  · rfl
theorem isCell_iff {ws : List Str} {i : Int} : isCell ws i = true ↔ 0 ≤ i ∧ i < ((wide ws * ws.length : Nat) : Int) ∧ atP ws i.toNat ≠ 35 := by
  unfold isCell cellsOf
  rw [decide_eq_true_eq, cellsTo_mem, Nat.mul_comm]
  constructor
  · rintro ⟨h0, h1, h2⟩
    exact ⟨h0, by omega, h2⟩
  · rintro ⟨h0, h1, h2⟩
    exact ⟨h0, by omega, h2⟩
/-- what is beside, told by coordinates -/
def near (ws : List Str) (r c r' c' : Nat) : Prop := ∃ p ∈ steps, tk p.2.2 (signAt ws r c) = true ∧ tk p.2.2 (signAt ws r' c') = true ∧ (r' : Int) = r + p.1 ∧ (c' : Int) = c + p.2.1
theorem tk_ne {p : Int × Int × Str} (hp : p ∈ steps) {n : Nat} (h : tk p.2.2 n = true) : n ≠ 35 := fun e => by
  have q : ∀ p ∈ steps, tk p.2.2 35 = false := by decide +kernel
  rw [e, q p hp] at h
  cases h
theorem mem_nbs {ws : List Str} {r c : Nat} (hr : r < ws.length) (hc : c < wide ws) {j : Int} : j ∈ nbs ws r c ↔ ∃ r' c' : Nat, r' < ws.length ∧ c' < wide ws ∧ j = ((r' * wide ws + c' : Nat) : Int) ∧ near ws r c r' c' := by
  unfold nbs
  rw [List.mem_map]
  constructor
  · rintro ⟨p, hp, rfl⟩
    obtain ⟨hps, hok⟩ := List.mem_filter.mp hp
    unfold stepOk at hok
    obtain ⟨h1, h2⟩ := Bool.and_eq_true_iff.mp hok
    rw [sgN_in hr hc] at h1
    obtain ⟨a1, a2, a3, a4, a5⟩ := sgN_ne (tk_ne hps h2)
    rw [a5] at h2
    refine ⟨((r : Int) + p.1).toNat, ((c : Int) + p.2.1).toNat, by omega, by omega, ?_, p, hps, h1, h2, by omega, by omega⟩
    unfold stepTo
    rw [Int.natCast_add, Int.natCast_mul, Int.toNat_of_nonneg a1, Int.toNat_of_nonneg a3]
    omega
  · rintro ⟨r', c', hr', hc', rfl, p, hps, h1, h2, e1, e2⟩
    refine ⟨p, List.mem_filter.mpr ⟨hps, ?_⟩, ?_⟩
    · unfold stepOk
      rw [sgN_in hr hc, ← e1, ← e2, sgN_in hr' hc', h1, h2] <;> rfl
    · unfold stepTo
      rw [Int.natCast_add, Int.natCast_mul, ← e1]
      omega
theorem near_iff {ws : List Str} {r c r' c' : Nat} : near ws r c r' c' ↔ (r = r' ∧ ((c' : Int) - c).natAbs = 1 ∧ tk ".-" (signAt ws r c) = true ∧ tk ".-" (signAt ws r' c') = true) ∨ (c = c' ∧ ((r' : Int) - r).natAbs = 1 ∧ tk ".|" (signAt ws r c) = true ∧ tk ".|" (signAt ws r' c') = true) := by
  unfold near steps
  constructor
  · rintro ⟨p, hp, h1, h2, e1, e2⟩
    rcases List.mem_cons.mp hp with rfl | hp
    · exact .inr ⟨by simp only at e2; omega, by simp only at e1; omega, h1, h2⟩
    rcases List.mem_cons.mp hp with rfl | hp
    · exact .inl ⟨by simp only at e1; omega, by simp only at e2; omega, h1, h2⟩
    rcases List.mem_cons.mp hp with rfl | hp
    · exact .inl ⟨by simp only at e1; omega, by simp only at e2; omega, h1, h2⟩
    rcases List.mem_cons.mp hp with rfl | hp
    · exact .inr ⟨by simp only at e2; omega, by simp only at e1; omega, h1, h2⟩
    · cases hp
  · rintro (⟨rfl, h, h1, h2⟩ | ⟨rfl, h, h1, h2⟩)
    · by_cases hc : (c' : Int) = c + 1
      · exact ⟨(0, 1, ".-"), by simp, h1, h2, by simp only; omega, by simp only; omega⟩
      · exact ⟨(0, -1, ".-"), by simp, h1, h2, by simp only; omega, by simp only; omega⟩
    · by_cases hc : (r' : Int) = r + 1
      · exact ⟨(1, 0, ".|"), by simp, h1, h2, by simp only; omega, by simp only; omega⟩
      · exact ⟨(-1, 0, ".|"), by simp, h1, h2, by simp only; omega, by simp only; omega⟩
theorem may_eq (ws : List Str) (i j : Int) : mayB ws i j = lmay ws i j := by
  by_cases hi : 0 ≤ i ∧ i < ((wide ws * ws.length : Nat) : Int)
  · obtain ⟨r, c, hr, hc, ei, e1, e2, e3, e4, e5⟩ := place hi.1 hi.2
    have enb : nbsP ws i.toNat = nbs ws r c := by
      unfold nbsP
      rw [e4, e5]
    by_cases hj : 0 ≤ j ∧ j < ((wide ws * ws.length : Nat) : Int)
    · obtain ⟨r', c', hr', hc', ej, f1, f2, f3, f4, f5⟩ := place hj.1 hj.2
      have nr : j ∈ nbs ws r c ↔ near ws r c r' c' := by
        rw [mem_nbs hr hc]
        constructor
        · rintro ⟨r2, c2, h1, h2, e, h⟩
          rw [ej] at e
          obtain ⟨rfl, rfl⟩ := coord hc' h2 (Int.ofNat.inj e)
          exact h
        · exact fun h => ⟨r', c', hr', hc', ej, h⟩
      unfold lmay
      rw [if_pos ⟨hi.1, hi.2, hj.1, hj.2⟩, e1, f1, e2, f2, e3, f3]
      have key : mayB ws i j = true ↔ near ws r c r' c' := by
        unfold mayB
        rw [Bool.and_eq_true_iff, decide_eq_true_eq, enb, nr]
        constructor
        · exact fun h => h.2
        · intro h
          refine ⟨isCell_iff.mpr ⟨hi.1, hi.2, ?_⟩, h⟩
          rw [e3]
          obtain ⟨p, hp, h1, _⟩ := h
          exact tk_ne hp h1
      rw [Bool.eq_iff_iff, key, near_iff]
      by_cases c1 : (r : Int) = (r' : Int) ∧ (i - j).natAbs = 1
      · rw [if_pos c1, Bool.and_eq_true_iff]
        have er : r = r' := by omega
        subst er
        have hcc : ((c' : Int) - c).natAbs = 1 := by omega
        constructor
        · rintro (h | h)
          · exact h.2.2
          · omega
        · exact fun h => .inl ⟨rfl, hcc, h⟩
      · rw [if_neg c1]
        have n1 : ¬ (r = r' ∧ ((c' : Int) - c).natAbs = 1) := by
          rintro ⟨rfl, h⟩
          exact c1 ⟨rfl, by omega⟩
        by_cases c2 : (c : Int) = (c' : Int) ∧ ((r : Int) - (r' : Int)).natAbs = 1
        · rw [if_pos c2, Bool.and_eq_true_iff]
          constructor
          · rintro (h | h)
            · exact absurd ⟨h.1, h.2.1⟩ n1
            · exact h.2.2
          · exact fun h => .inr ⟨by omega, by omega, h⟩
        · rw [if_neg c2]
          constructor
          · rintro (h | h)
            · exact absurd ⟨h.1, h.2.1⟩ n1
            · exact absurd ⟨by omega, by omega⟩ c2
          · exact fun h => absurd h Bool.false_ne_true
    · have e : lmay ws i j = false := by
        unfold lmay
        rw [if_neg (fun q => hj ⟨q.2.2.1, q.2.2.2⟩)]
      rw [e]
      unfold mayB
      rw [enb, Bool.and_eq_false_iff]
      refine .inr (decide_eq_false ?_)
      rw [mem_nbs hr hc]
      rintro ⟨r', c', h1, h2, rfl, _⟩
      refine hj ⟨by omega, ?_⟩
      have : r' * wide ws + c' < wide ws * ws.length := by
        have q : (r' + 1) * wide ws ≤ ws.length * wide ws := Nat.mul_le_mul_right _ h1
        rw [Nat.succ_mul] at q
        rw [Nat.mul_comm (wide ws)]
        omega
      omega
  · have e : lmay ws i j = false := by
      unfold lmay
      rw [if_neg (fun q => hi ⟨q.1, q.2.1⟩)]
    rw [e]
    unfold mayB
    rw [Bool.and_eq_false_iff]
    refine .inl ?_
    rw [Bool.eq_false_iff]
    intro q
    obtain ⟨h0, h1, _⟩ := isCell_iff.mp q
    exact hi ⟨h0, h1⟩
/-! ### the signs in one text -/
theorem flat_len {wd : Nat} : ∀ {ws : List Str}, (∀ a ∈ ws, a.length = wd) → (Gx2.flat ws).length = ws.length * wd
  | [], _ => by rw [List.length_nil, Nat.zero_mul] <;> rfl
  | a :: r, h => by
    have ha : a.cps.toList.length = wd := by rw [Array.length_toList]; exact h a List.mem_cons_self
    show ((a :: r).flatMap _).length = _
    rw [List.flatMap_cons, List.length_append, ha, List.length_cons, Nat.succ_mul]
    have := flat_len (ws := r) fun z hz => h z (List.mem_cons_of_mem _ hz)
    show wd + (Gx2.flat r).length = _
    omega
theorem flat_row {wd : Nat} : ∀ {ws : List Str}, (∀ a ∈ ws, a.length = wd) → ∀ (r c : Nat), r < ws.length → c < wd → (Gx2.flat ws)[r * wd + c]? = (ws.getD r ("" : Str)).cps.toList[c]?
  | [], _, r, c, h, _ => by cases h
  | a :: t, h, 0, c, _, hc => by
    have ha : a.cps.toList.length = wd := by rw [Array.length_toList]; exact h a List.mem_cons_self
    show ((a :: t).flatMap (fun a : Str => a.cps.toList))[0 * wd + c]? = _
    rw [List.flatMap_cons, Nat.zero_mul, Nat.zero_add, List.getElem?_append_left (by omega)]
    rfl
  | a :: t, h, r + 1, c, hr, hc => by
    have ha : a.cps.toList.length = wd := by rw [Array.length_toList]; exact h a List.mem_cons_self
    show ((a :: t).flatMap (fun a : Str => a.cps.toList))[(r + 1) * wd + c]? = _
    rw [List.flatMap_cons, List.getElem?_append_right (by rw [ha, Nat.succ_mul]; omega), ha]
    have e : (r + 1) * wd + c - wd = r * wd + c := by
      rw [Nat.succ_mul]
      omega
    rw [e]
    have := flat_row (ws := t) (fun z hz => h z (List.mem_cons_of_mem _ hz)) r c (Nat.lt_of_succ_lt_succ hr) hc
    rw [show (t.flatMap fun a : Str => a.cps.toList) = Gx2.flat t from rfl, this]
    rfl
theorem flat_atP {ws : List Str} (w : Wf ws) {p : Nat} (hp : p < ws.length * wide ws) : (Gx2.flat ws)[p]? = some (atP ws p) := by
  have hw : 0 < wide ws := by
    rcases Nat.eq_zero_or_pos (wide ws) with e | e
    · rw [e, Nat.mul_zero] at hp
      omega
    · exact e
  have hr : p / wide ws < ws.length := Nat.div_lt_of_lt_mul (by rw [Nat.mul_comm]; exact hp)
  have hc : p % wide ws < wide ws := Nat.mod_lt _ hw
  have e : p / wide ws * wide ws + p % wide ws = p := by rw [Nat.mul_comm, Nat.div_add_mod]
  have := flat_row (fun a ha => w.len a ha) (p / wide ws) (p % wide ws) hr hc
  rw [e] at this
  rw [this, sign_at w hr hc]
  rfl
end Sf
namespace Sf
open PySem L2
def spLMay (K : PySem.W.Frag) : Sp := fun vs H Q _ => ∃ (l : Addr) (ws : List Str) (i j : Int), vs = [.ref l, .int i, .int j] ∧ SqL K H l (ws.map V.str) ∧ Wf ws ∧ Q (.bl (lmay ws i j)) H
theorem iteNot {c A B : Prop} [Decidable c] (h1 : c → B) (h2 : ¬ c → A) : if (!decide c) = true then A else B := by
  by_cases h : c
  · rw [decide_eq_true h]
    exact iteF (h1 h)
  · rw [decide_eq_false h]
    exact iteT (h2 h)
theorem abs_one (n : Int) : (V.int (if n < 0 then -n else n) = V.int 1) ↔ n.natAbs = 1 := by
  constructor
  · intro q
    have q := V.int.inj q
    split at q <;> omega
  · intro q
    congr 1
    split <;> omega
section
variable {P : Program} {w : World} {K : PySem.W.Frag} {mg : Str → Option Value} {base : Heap}
def nLMay : List Str := ["_law_rows_here", "_law_one", "_law_other", "_law_wide", "_law_a", "_law_b"]
theorem scLMay : FnScope nLMay ["_law_rows_here", "_law_one", "_law_other"] (defScope s_law_may) := ⟨rfl, rfl, rfl, by decide +kernel, rfl, by decide +kernel, by decide +kernel⟩
theorem ok_lmay {f : Addr} {fd : FuncData} (F : Fun K "_law_may" "_law_may" s_law_may f fd) (gL : mg "len" = none) (gA : mg "abs" = none) : FnOk P w K mg base CX0 1 f fd ["_law_rows_here", "_law_one", "_law_other"] (spLMay K) := by
  refine F.ok scLMay (fun vs H Q E h => ?_) (fun cdv A outer s H vs Q E hr h => ?_)
  · obtain ⟨l, ws, i, j, rfl, _⟩ := h
    rfl
  · obtain ⟨l, ws, i, j, rfl, hS, hw, hQ⟩ := h
    have hh := hw.high
    have hwd := hw.wid
    refine ⟨_, C8.pss_cut (ps_set (i := 3) scLMay.nd rfl (Or.inl rfl) (pe_ifExp (pt_cmpR op_gt (pe_callB call_len (by rfl) gL PySem.boot_len (pa_cons (pv 0) pa_nil)) pe_int (nomark _)) (pe_callB call_len_str (by rfl) gL PySem.boot_len (pa_cons (pe_ix ix_list (pv 0) pe_int (fun _ _ => rfl)) pa_nil)) pe_int))
      (pss_cons (ps_if (PW.pt (pw_or (pt_not (pt_chain op_le op_lt pe_int (pv 1) (pe_op op_mul (pv 3) (pe_callB call_len (by rfl) gL PySem.boot_len (pa_cons (pv 0) pa_nil))))) (pw_or1 (pt_not (pt_chain op_le op_lt pe_int (pv 2) (pe_op op_mul (pv 3) (pe_callB call_len (by rfl) gL PySem.boot_len (pa_cons (pv 0) pa_nil)))))))) (pss_one (ps_ret pe_bl)) pss_nil)
      (pss_cons (ps_set (i := 4) scLMay.nd rfl (Or.inl rfl) (pe_ix ix_str (pe_ix ix_list (pv 0) (pe_op op_fdiv (pv 1) (pv 3)) (fun _ _ => rfl)) (pe_op op_mod (pv 1) (pv 3)) (fun _ _ => rfl)))
      (pss_cons (ps_set (i := 5) scLMay.nd rfl (Or.inl rfl) (pe_ix ix_str (pe_ix ix_list (pv 0) (pe_op op_fdiv (pv 2) (pv 3)) (fun _ _ => rfl)) (pe_op op_mod (pv 2) (pv 3)) (fun _ _ => rfl)))
      (C8.pss_cut (ps_if (PW.pt (pw_and (pt_cmpR op_eq (pe_op op_fdiv (pv 1) (pv 3)) (pe_op op_fdiv (pv 2) (pv 3)) (nomark _)) (pw_and1 (pt_cmpR op_eq (pe_callB call_abs (by rfl) gA PyProof.Rows.boot_abs (pa_cons (pe_op op_sub (pv 1) (pv 2)) pa_nil)) pe_int (nomark _)))))
        (pss_one (ps_ret (pe_and (pe_cmpR op_in_sign (pv 4) pe_str (by rfl)) (pe_one (pe_cmpR op_in_sign (pv 5) pe_str (by rfl)))))) pss_nil)
      (C8.pss_cut (ps_if (PW.pt (pw_and (pt_cmpR op_eq (pe_op op_mod (pv 1) (pv 3)) (pe_op op_mod (pv 2) (pv 3)) (nomark _)) (pw_and1 (pt_cmpR op_eq (pe_callB call_abs (by rfl) gA PyProof.Rows.boot_abs (pa_cons (pe_op op_sub (pe_op op_fdiv (pv 1) (pv 3)) (pe_op op_fdiv (pv 2) (pv 3))) pa_nil)) pe_int (nomark _)))))
        (pss_one (ps_ret (pe_and (pe_cmpR op_in_sign (pv 4) pe_str (by rfl)) (pe_one (pe_cmpR op_in_sign (pv 5) pe_str (by rfl)))))) pss_nil)
      (pss_one (ps_ret pe_bl))))))), ?_⟩
    refine ⟨fun σ' H' => σ' = [some (.ref l), some (.int i), some (.int j), some (.int (wide ws)), none, none] ∧ H' = H, ?_, ?_⟩
    · refine ⟨_, rfl, _, _, rfl, .inl ⟨_, hS, rfl⟩, _, _, rfl, rfl, _, rfl, ?_⟩
      rw [List.length_map]
      cases ws with
      | nil =>
        refine iteF ?_
        have e0 : wide ([] : List Str) = 0 := empty_len
        rw [e0]
        exact ⟨rfl, rfl⟩
      | cons a r =>
        refine iteTd (by rw [List.length_cons]; omega) ?_
        have ea : wide (a :: r) = a.length := rfl
        refine ⟨_, rfl, _, _, _, _, rfl, rfl, hS, atI_nat (j := 0) rfl, a, rfl, Nat.le_trans (by rw [← ea]; exact hwd) (by decide), rfl, rfl⟩
    · rintro _ H' ⟨rfl, rfl⟩
      have eN : ((wide ws : Nat) : Int) * ((ws.length : Nat) : Int) = ((wide ws * ws.length : Nat) : Int) := (Int.natCast_mul _ _).symm
      have out : ∀ h : ¬ (0 ≤ i ∧ i < ((wide ws * ws.length : Nat) : Int) ∧ 0 ≤ j ∧ j < ((wide ws * ws.length : Nat) : Int)), Q (.bl false) H' := fun h => by
        have e : lmay ws i j = false := by
          unfold lmay
          rw [if_neg h]
        rw [e] at hQ
        exact hQ
      refine ⟨_, rfl, _, _, rfl, rfl, _, rfl, ?_⟩
      refine ite2 (fun i0 => ?_) (fun i0 => ?ee)
      case ee => exact ⟨false, rfl, out fun q => i0 (decide_eq_true q.1)⟩
      refine ⟨_, rfl, _, rfl, _, _, rfl, .inl ⟨_, hS, rfl⟩, _, _, rfl, rfl, .inl ⟨by omega, by omega⟩, _, _, rfl, rfl, _, rfl, ?_⟩
      rw [List.length_map, eN]
      refine iteNot (fun i1 => ?_) (fun i1 => ?ee)
      case ee => exact out fun q => i1 q.2.1
      refine ⟨_, rfl, _, _, rfl, rfl, _, rfl, ?_⟩
      refine ite2 (fun j0 => ?_) (fun j0 => ?ee)
      case ee => exact ⟨false, rfl, out fun q => j0 (decide_eq_true q.2.2.1)⟩
      refine ⟨_, rfl, _, rfl, _, _, rfl, .inl ⟨_, hS, rfl⟩, _, _, rfl, rfl, .inl ⟨by omega, by omega⟩, _, _, rfl, rfl, _, rfl, ?_⟩
      rw [List.length_map, eN]
      refine iteNot (fun j1 => ?_) (fun j1 => ?ee)
      case ee => exact out fun q => j1 q.2.2.2
      have i0' : 0 ≤ i := of_decide_eq_true i0
      have j0' : 0 ≤ j := of_decide_eq_true j0
      have el : lmay ws i j = if i / (wide ws : Int) = j / (wide ws : Int) ∧ (i - j).natAbs = 1 then tk ".-" (atP ws i.toNat) && tk ".-" (atP ws j.toNat)
          else if i % (wide ws : Int) = j % (wide ws : Int) ∧ (i / (wide ws : Int) - j / (wide ws : Int)).natAbs = 1 then tk ".|" (atP ws i.toNat) && tk ".|" (atP ws j.toNat) else false := by
        unfold lmay
        rw [if_pos ⟨i0', i1, j0', j1⟩]
      rw [el] at hQ
      obtain ⟨r, c, hr1, hc1, ei, d1, m1, a1, _, _⟩ := place i0' i1
      obtain ⟨r', c', hr2, hc2, ej, d2, m2, a2, _, _⟩ := place j0' j1
      have hw0 : (0 : Int) < ((wide ws : Nat) : Int) := by omega
      have hw1 : ((wide ws : Nat) : Int) < 1073741824 := by omega
      have sz : ∀ n, n < ws.length → (ws.getD n ("" : Str)).length ≤ sizeLine := fun n hn => Nat.le_trans (by rw [hw.rlen hn]; exact hwd) (by decide)
      refine ⟨_, rfl, _, rfl, _, rfl, _, _, rfl, rfl, ⟨hw0, hw1⟩, _, _, _, _, rfl, rfl, hS, by rw [d1]; exact atI_nat (str_at hr1), _, rfl, _, rfl, _, _, rfl, rfl, hw0, _, _, _, rfl, rfl, sz r hr1, by rw [m1]; exact atI_nat (sign_at hw hr1 hc1), ?_⟩
      refine ⟨_, rfl, _, rfl, _, rfl, _, _, rfl, rfl, ⟨hw0, hw1⟩, _, _, _, _, rfl, rfl, hS, by rw [d2]; exact atI_nat (str_at hr2), _, rfl, _, rfl, _, _, rfl, rfl, hw0, _, _, _, rfl, rfl, sz r' hr2, by rw [m2]; exact atI_nat (sign_at hw hr2 hc2), ?_⟩
      rw [a1, a2] at hQ
      -- the first test
      have veq : ∀ a b : Int, (V.int a = V.int b) ↔ a = b := fun a b => ⟨fun q => V.int.inj q, fun q => by rw [q]⟩
      refine ⟨fun σ' H2 => σ' = [some (.ref l), some (.int i), some (.int j), some (.int (wide ws)), some (.str ⟨#[signAt ws r c]⟩), some (.str ⟨#[signAt ws r' c']⟩)] ∧ H' = H2 ∧ ¬ (i / (wide ws : Int) = j / (wide ws : Int) ∧ (i - j).natAbs = 1), ?_, ?_⟩
      · refine ⟨_, rfl, _, rfl, _, _, rfl, rfl, ⟨hw0, hw1⟩, _, rfl, _, rfl, _, _, rfl, rfl, ⟨hw0, hw1⟩, rfl, _, rfl, ?_⟩
        refine ite2 (fun z1 => ?_) (fun z1 => ?ee)
        case ee => exact ⟨rfl, rfl, fun q => z1 (decide_eq_true ((veq _ _).mpr q.1))⟩
        have z1' := (veq _ _).mp (of_decide_eq_true z1)
        refine ⟨_, rfl, _, rfl, _, _, rfl, rfl, _, rfl, rfl, _, rfl, ?_⟩
        refine ite2 (fun z2 => ?_) (fun z2 => ?ee)
        case ee => exact ⟨rfl, rfl, fun q => z2 (decide_eq_true ((abs_one _).mpr q.2))⟩
        have z2' := (abs_one _).mp (of_decide_eq_true z2)
        rw [if_pos ⟨z1', z2'⟩] at hQ
        refine ⟨_, rfl, _, _, rfl, rfl, _, rfl, ?_⟩
        refine ite2 (fun t1 => ?_) (fun t1 => ?_)
        · refine ⟨_, rfl, _, _, rfl, rfl, ?_⟩
          have e : tk ".-" (signAt ws r c) = true := t1
          rw [e, Bool.true_and] at hQ
          exact hQ
        · have e : tk ".-" (signAt ws r c) = false := Bool.eq_false_iff.mpr t1
          rw [e, Bool.false_and] at hQ
          exact hQ
      rintro _ _ ⟨rfl, rfl, nz⟩
      rw [if_neg nz] at hQ
      refine ⟨fun σ' H2 => σ' = [some (.ref l), some (.int i), some (.int j), some (.int (wide ws)), some (.str ⟨#[signAt ws r c]⟩), some (.str ⟨#[signAt ws r' c']⟩)] ∧ H' = H2 ∧ ¬ (i % (wide ws : Int) = j % (wide ws : Int) ∧ (i / (wide ws : Int) - j / (wide ws : Int)).natAbs = 1), ?_, ?_⟩
      · refine ⟨_, rfl, _, rfl, _, _, rfl, rfl, hw0, _, rfl, _, rfl, _, _, rfl, rfl, hw0, rfl, _, rfl, ?_⟩
        refine ite2 (fun z1 => ?_) (fun z1 => ?ee)
        case ee => exact ⟨rfl, rfl, fun q => z1 (decide_eq_true ((veq _ _).mpr q.1))⟩
        have z1' := (veq _ _).mp (of_decide_eq_true z1)
        refine ⟨_, rfl, _, rfl, _, _, rfl, rfl, ⟨hw0, hw1⟩, _, rfl, _, rfl, _, _, rfl, rfl, ⟨hw0, hw1⟩, _, _, rfl, rfl, _, rfl, rfl, _, rfl, ?_⟩
        refine ite2 (fun z2 => ?_) (fun z2 => ?ee)
        case ee => exact ⟨rfl, rfl, fun q => z2 (decide_eq_true ((abs_one _).mpr q.2))⟩
        have z2' := (abs_one _).mp (of_decide_eq_true z2)
        rw [if_pos ⟨z1', z2'⟩] at hQ
        refine ⟨_, rfl, _, _, rfl, rfl, _, rfl, ?_⟩
        refine ite2 (fun t1 => ?_) (fun t1 => ?_)
        · refine ⟨_, rfl, _, _, rfl, rfl, ?_⟩
          have e : tk ".|" (signAt ws r c) = true := t1
          rw [e, Bool.true_and] at hQ
          exact hQ
        · have e : tk ".|" (signAt ws r c) = false := Bool.eq_false_iff.mpr t1
          rw [e, Bool.false_and] at hQ
          exact hQ
      rintro _ _ ⟨rfl, rfl, nz2⟩
      rw [if_neg nz2] at hQ
      exact hQ
end
end Sf
namespace Sf
open PySem L2
def natI (ps : List Nat) : List Int := ps.map fun (p : Nat) => (p : Int)
theorem nats_eq (ps : List Nat) : nats ps = (natI ps).map V.int := by
  unfold nats natI
  rw [List.map_map]
  rfl
theorem mem_natI {ps : List Nat} {i : Int} : i ∈ natI ps ↔ 0 ≤ i ∧ i.toNat ∈ ps := by
  unfold natI
  rw [List.mem_map]
  constructor
  · rintro ⟨p, hp, rfl⟩
    exact ⟨by omega, by rw [Int.toNat_natCast]; exact hp⟩
  · rintro ⟨h0, h1⟩
    exact ⟨_, h1, by omega⟩
theorem dp_ints {K : PySem.W.Frag} {H : Hp} : ∀ xs : List Int, DpAll K H (xs.map V.int) (xs.map PyData.int)
  | [] => .nil
  | x :: r => .cons (.int x) (dp_ints r)
theorem dp_strs {K : PySem.W.Frag} {H : Hp} : ∀ xs : List Str, DpAll K H (xs.map V.str) (xs.map PyData.str)
  | [] => .nil
  | x :: r => .cons (.str x) (dp_strs r)
theorem shaped_atoms {ds : List PyData} (h : ∀ d ∈ ds, d.canLay0 = true ∧ d.depth = 0) : SeqAt.shaped (.list ds) = true := by
  have h1 : ∀ ds : List PyData, (∀ d ∈ ds, d.canLay0 = true ∧ d.depth = 0) → PyData.canLayAll0 ds = true ∧ PyData.depthAll ds = 0 := by
    intro ds
    induction ds with
    | nil => exact fun _ => ⟨rfl, rfl⟩
    | cons d r ih =>
      intro h
      obtain ⟨a, b⟩ := ih fun z hz => h z (List.mem_cons_of_mem _ hz)
      obtain ⟨c, e⟩ := h d List.mem_cons_self
      refine ⟨?_, ?_⟩
      · show (PyData.canLay0 d && PyData.canLayAll0 r) = true
        rw [c, a] <;> rfl
      · show max (PyData.depth d) (PyData.depthAll r) = 0
        rw [e, b] <;> rfl
  obtain ⟨a, b⟩ := h1 ds h
  unfold SeqAt.shaped
  have e1 : (PyData.list ds).canLay0 = true := a
  have e2 : (PyData.list ds).depth = PyData.depthAll ds + 1 := rfl
  rw [e1, e2, b]
  decide
theorem shaped_ints (xs : List Int) : SeqAt.shaped (.list (xs.map PyData.int)) = true := shaped_atoms fun d hd => by
  obtain ⟨i, _, rfl⟩ := List.mem_map.mp hd
  exact ⟨rfl, rfl⟩
def spLCells (K : PySem.W.Frag) : Sp := fun vs H Q _ => ∃ (l : Addr) (ws : List Str), vs = [.ref l] ∧ SqL K H l (ws.map V.str) ∧ Wf ws ∧ ∀ (lc : Addr) (H' : Hp), Same H H' → H lc = none → H' lc = some (.lst (nats (cellsOf ws))) → Q (.ref lc) H'
def spWhole : Sp := fun vs H Q _ => ∃ i : Int, vs = [.int i] ∧ Q (.bl true) H
def spListed (K : PySem.W.Frag) : Sp := fun vs H Q _ => ∃ (a b : Addr) (xs : List Int), vs = [.ref a, .ref b] ∧ H a = some (.lst (xs.map V.int)) ∧ SqL K H b (xs.map V.int) ∧ Q (.bl true) H
section
variable {P : Program} {w : World} {K : PySem.W.Frag} {mg : Str → Option Value} {base : Heap}
def nLCells : List Str := ["_law_rows_here", "_law_signs", "_law_place"]
theorem scLCells : FnScope nLCells ["_law_rows_here"] (defScope s_law_cells) := ⟨rfl, rfl, rfl, by decide +kernel, rfl, by decide +kernel, by decide +kernel⟩
theorem sg_ne {a b : Nat} : (V.str ⟨#[a]⟩ = V.str (sg1 b)) ↔ a = b := ⟨fun q => by
  have q1 := V.str.inj q
  unfold sg1 at q1
  injection q1 with q2
  have q3 := congrArg (fun a : Array Nat => a.toList) q2
  exact (List.cons.inj q3).1, fun q => by rw [q]; rfl⟩
theorem ok_lcells {f : Addr} {fd : FuncData} (F : Fun K "_law_cells" "_law_cells" s_law_cells f fd) (gL : mg "len" = none) (gR : mg "range" = none) : FnOk P w K mg base CX0 1 f fd ["_law_rows_here"] (spLCells K) := by
  refine F.ok scLCells (fun vs H Q E h => ?_) (fun cdv A outer s H vs Q E hr h => ?_)
  · obtain ⟨l, ws, rfl, _⟩ := h
    rfl
  · obtain ⟨l, ws, rfl, hS, hw, hQ⟩ := h
    have hh := hw.high
    have hwd := hw.wid
    have flen : (Gx2.flat ws).length = ws.length * wide ws := flat_len fun a ha => hw.len a ha
    have small : ws.length * wide ws ≤ 12 * 12 := Nat.mul_le_mul hh hwd
    refine ⟨_, pss_cons (ps_set (i := 1) scLCells.nd rfl (Or.inr rfl) (pe_join pe_str (pv 0)))
      (pss_one (ps_ret (pe_lc (own := [("_law_place", 2)]) (g := gName 2) rfl scLCells.nd (pi_range1 rfl gR (pa_cons (pe_callB call_len_str (by rfl) gL PySem.boot_len (pa_cons (pv 1) pa_nil)) pa_nil)) (blkOk_by (N := nLCells) (sc := defScope s_law_cells) (by decide +kernel)) (fun _ _ _ _ _ => pg_name (i := 2) scLCells.nd rfl (Or.inl rfl))
        (fun _ _ _ _ _ => pts_one (pt_cmpR op_ne (pe_ix ix_str (pv 1) (pv 2) (fun _ _ => rfl)) pe_str (nomark _))) (fun _ _ _ _ _ => pv 2)))), ?_⟩
    refine ⟨⟨_, rfl⟩, _, rfl, _, l, ws, rfl, rfl, .inl hS, ?_, ?_⟩
    · rw [sum_len (n := 0) (fun a ha => hw.len a ha), empty_len]
      omega
    · have jc : (Txt.join ("" : Str) ws).cps.toList = Gx2.flat ws := join_flat ws
      have jl : (Txt.join ("" : Str) ws).length = ws.length * wide ws := by
        show (Txt.join ("" : Str) ws).cps.size = _
        rw [← Array.length_toList, jc, flen]
      generalize Txt.join ("" : Str) ws = z at jc jl
      have zs : z.length ≤ sizeLine := Nat.le_trans (by rw [jl]; exact small) (by decide)
      refine ⟨_, rfl, z, rfl, zs, _, rfl, by omega, by omega, fun D hD => ?_⟩
      refine lc_range (lo := 0) (n := ((z.length : Nat) : Int).toNat) (fun j H3 => Same H H3 ∧ H3 D = some (.lst (nats (cellsTo ws j)))) ⟨Same.new hD, upd_same⟩ ?_ ?_
      · rintro j H3 hj ⟨s3, h3⟩
        have hj2 : j < ws.length * wide ws := by rw [Int.toNat_natCast, jl] at hj; exact hj
        have z2 : (0 : Int) + (j : Int) = (j : Int) := Int.zero_add _
        have ga : z.cps.toList[j]? = some (atP ws j) := by rw [jc]; exact flat_atP hw hj2
        refine ⟨rfl, _, rfl, _, rfl, z, _, _, rfl, rfl, zs, by rw [z2]; exact atI_nat ga, rfl, _, rfl, ?_⟩
        have eP : ("#" : Str) = sg1 35 := by decide +kernel
        rw [eP]
        by_cases h35 : atP ws j = 35
        · rw [decide_eq_true (sg_ne.mpr h35)]
          refine iteF ?_
          refine ⟨s3, ?_⟩
          rw [cellsTo_succ, if_neg (by rw [h35]; simp)]
          exact h3
        · rw [decide_eq_false (fun q => h35 (sg_ne.mp q))]
          refine iteT ?_
          refine ⟨_, rfl, _, h3, ?_, ?_, ?_⟩
          · unfold nats
            rw [List.length_map]
            have := cellsTo_len ws j
            exact small1000 (by omega)
          · exact fun b o e => by rw [upd_ne (ne_of_none e hD)]; exact s3 b o e
          · rw [upd_same, cellsTo_succ, if_pos h35]
            unfold nats
            rw [List.map_append, z2] <;> rfl
      · rintro H3 ⟨s3, h3⟩
        rw [Int.toNat_natCast, jl] at h3
        exact hQ D H3 s3 hD h3
theorem scWhole : FnScope ["_law_found"] ["_law_found"] (defScope s_law_whole) := ⟨rfl, rfl, rfl, by decide +kernel, rfl, by decide +kernel, by decide +kernel⟩
theorem ok_whole {f : Addr} {fd : FuncData} (F : Fun K "_law_whole" "_law_whole" s_law_whole f fd) (gI : mg "isinstance" = none) (gi : mg "int" = none) (gb : mg "bool" = none) : FnOk P w K mg base CX0 1 f fd ["_law_found"] spWhole := by
  refine F.ok scWhole (fun vs H Q E h => ?_) (fun cdv A outer s H vs Q E hr h => ?_)
  · obtain ⟨i, rfl, _⟩ := h
    rfl
  · obtain ⟨i, rfl, hQ⟩ := h
    refine ⟨_, pss_one (ps_ret (pe_and (pe_callB call_isi (by rfl) gI PyProof.Rows.boot_isinstance (pa_cons (pv 0) (pa_cons (pe_bltn (v := .ty "int") (by rfl) gi PyProof.Rows.boot_int rfl) pa_nil)))
      (pe_one (pe_not (pe_callB call_isi (by rfl) gI PyProof.Rows.boot_isinstance (pa_cons (pv 0) (pa_cons (pe_bltn (v := .ty "bool") (by rfl) gb PyProof.Rows.boot_bool rfl) pa_nil))))))), ?_⟩
    refine ⟨_, rfl, .int i, .ty "int", .type "int", .type "int", true, rfl, .ty _, .base (.int i), kit_ty (by decide +kernel), _, rfl, ?_⟩
    refine iteT ?_
    exact ⟨_, rfl, .int i, .ty "bool", .type "int", .type "bool", false, rfl, .ty _, .base (.int i), kit_ty (by decide +kernel), _, rfl, hQ⟩
def nListed : List Str := ["_law_found", "_law_due", "_law_one"]
theorem scListed : FnScope nListed ["_law_found", "_law_due"] (defScope s_law_listed) := ⟨rfl, rfl, rfl, by decide +kernel, rfl, by decide +kernel, by decide +kernel⟩
theorem ok_listed {f fw : Addr} {fd fdw : FuncData} (F : Fun K "_law_listed" "_law_listed" s_law_listed f fd) (GW : FnOk P w K mg base CX0 1 fw fdw ["_law_found"] spWhole) (gW : mg "_law_whole" = some (.ref fw)) (kW : PySem.W.keepIn K (.ref fw) = true) (bW : Binds K fdw ["_law_found"] [])
    (gI : mg "isinstance" = none) (gl : mg "list" = none) (gL : mg "len" = none) : FnOk P w K mg base CX0 2 f fd ["_law_found", "_law_due"] (spListed K) := by
  refine F.ok scListed (fun vs H Q E h => ?_) (fun cdv A outer s H vs Q E hr h => ?_)
  · obtain ⟨a, b, xs, rfl, _⟩ := h
    rfl
  · obtain ⟨a, b, xs, rfl, ha, hb, hQ⟩ := h
    refine ⟨_, pss_cons (ps_if (PW.pt (pw_or (pt_not (pt_val (pe_callB call_isi (by rfl) gI PyProof.Rows.boot_isinstance (pa_cons (pv 0) (pa_cons (pe_bltn (v := .ty "list") (by rfl) gl PySem.Pv.boot_list rfl) pa_nil))))) (pw_or1 (pt_cmpR op_ne (pe_callB call_len (by rfl) gL PySem.boot_len (pa_cons (pv 0) pa_nil)) (pe_callB call_len (by rfl) gL PySem.boot_len (pa_cons (pv 1) pa_nil)) (nomark _))))) (pss_one (ps_ret pe_bl)) pss_nil)
      (pss_cons (ps_for PassesOwn.never rfl (pi_list (pv 0)) (pg_name (i := 2) scListed.nd rfl (Or.inl rfl)) (pss_one (ps_if (pt_not (pt_val (pe_call GW hr rfl gW kW bW .nil pass0 (pa_cons (pv 2) pa_nil)))) (pss_one (ps_ret pe_bl)) pss_nil)))
      (pss_one (ps_ret (pe_cmpR (op_eqD hr.units) (pv 0) (pv 1) (nomark _))))), ?_⟩
    refine ⟨_, rfl, .ref a, .ty "list", .type "list", .type "list", true, rfl, .ty _, .base (.lst ha), kit_ty (by decide +kernel), _, rfl, ?_⟩
    refine ⟨_, rfl, _, _, rfl, .inl ⟨_, SqL.of ha, rfl⟩, _, rfl, _, _, rfl, .inl ⟨_, hb, rfl⟩, rfl, _, rfl, ?_⟩
    refine iteNS rfl ?_
    refine ⟨_, rfl, a, rfl, ⟨_, SqL.of ha⟩, for_list (K := K) (a := a) (xs := xs.map V.int) (fun i σ H2 => ∃ v : Option V, σ = [some (.ref a), some (.ref b), v] ∧ H2 = H) ⟨none, rfl, rfl⟩ (fun i σ H2 _ ⟨_, _, e⟩ => by rw [e]; exact SqL.of ha) ?_ ?_⟩
    · rintro i y σ H2 hi ⟨v, rfl, rfl⟩
      obtain ⟨z, rfl⟩ : ∃ z, y = V.int z := by
        rw [List.getElem?_map] at hi
        cases e : xs[i]? with
        | none => rw [e] at hi; cases hi
        | some z => rw [e] at hi; exact ⟨z, (Option.some.inj hi).symm⟩
      refine ⟨_, rfl, z, rfl, _, rfl, ?_⟩
      exact ⟨_, rfl, rfl⟩
    · rintro σ H2 ⟨v, rfl, rfl⟩
      refine ⟨_, rfl, _, rfl, _, _, .lst (SqL.of ha) (dp_ints xs), .lst hb (dp_ints xs), ?_, ?_, ?_⟩
      · exact shaped_ints xs
      · exact shaped_ints xs
      · rw [SeqAt.eqv_refl _ (SeqAt.canLay_of_shaped (shaped_ints xs))]
        exact hQ
end
end Sf
namespace Sf
open PySem L2
section
variable {P : Program} {w : World} {K : PySem.W.Frag} {mg : Str → Option Value} {base : Heap}
theorem scMay : FnScope ["self", "one", "other"] ["self", "one", "other"] (defScope sFloor_may) := ⟨rfl, rfl, rfl, by decide +kernel, rfl, by decide +kernel, by decide +kernel⟩
theorem ok_may {f fh C : Addr} {fd fdh : FuncData} (F : Fun K "may" "Floor.may" sFloor_may f fd) (T : FTxt K mg C) (GH : FnOk P w K mg base CX0 1 fh fdh ["self", "place"] (spHas C)) (mH : Meth K C "has" fh) (bH : Binds K fdh ["self", "place"] []) : FnOk P w K mg base CX0 2 f fd ["self", "one", "other"] (spMay C) := by
  refine F.ok scMay (fun vs H Q E h => ?_) (fun cdv A outer s H vs Q E hr h => ?_)
  · obtain ⟨x, dx, lr, d, g, ws, i, j, rfl, _⟩ := h
    rfl
  · obtain ⟨x, dx, lr, d, g, ws, i, j, rfl, a, hQ⟩ := h
    have hu := hu_of hr
    refine ⟨_, pss_one (ps_ret (pe_and (pe_meth (pv 0) T.cl mH GH hr bH .nil pass0 (pa_cons (pv 1) pa_nil)) (pe_one (pe_cmpR op_in_seq (pv 2) (pe_dget hu (pe_fld (pv 0) rfl) (pv 1) (fun _ _ => rfl)) (by rfl))))), ?_⟩
    refine ⟨_, rfl, x, dx, _, rfl, a.ob, flds_no _ _ _ _ (by decide +kernel) (by decide +kernel) (by decide +kernel) (by decide +kernel), _, rfl, x, dx, lr, d, g, ws, i, rfl, a, _, rfl, ?_⟩
    by_cases hc : 0 ≤ i ∧ i.toNat ∈ cellsOf ws
    · have e : isCell ws i = true := decide_eq_true hc
      rw [e]
      refine iteT ?_
      refine ⟨_, rfl, _, rfl, x, C, dx, _, _, rfl, a.ob, T.cl, T.nN, flds_nbs _ _ _ _, _, rfl, d, .ref (g i.toNat), rfl, ?_, ?_⟩
      · have q := DGet.k (k := (Sum.inl i : Key)) a.tb.dc
        rw [valV_tab, if_pos hc] at q
        exact q
      · refine ⟨_, _, rfl, .inl (SqL.of (a.tb.ls _ hc.2)), rfl, flat_ints _, ?_⟩
        rw [in_ints]
        unfold mayB at hQ
        rw [e] at hQ
        exact hQ
    · have e : isCell ws i = false := decide_eq_false hc
      rw [e]
      refine iteF ?_
      unfold mayB at hQ
      rw [e] at hQ
      exact hQ
end
end Sf
namespace Sf
open PySem L2
def spTruth : Sp := fun vs H Q _ => ∃ b : Bool, vs = [.bl b, .bl b] ∧ Q (.bl true) H
section
variable {P : Program} {w : World} {K : PySem.W.Frag} {mg : Str → Option Value} {base : Heap}
theorem scTruth : FnScope ["_law_found", "_law_due"] ["_law_found", "_law_due"] (defScope s_law_truth) := ⟨rfl, rfl, rfl, by decide +kernel, rfl, by decide +kernel, by decide +kernel⟩
theorem ok_truth {f : Addr} {fd : FuncData} (F : Fun K "_law_truth" "_law_truth" s_law_truth f fd) : FnOk P w K mg base CX0 1 f fd ["_law_found", "_law_due"] spTruth := by
  refine F.ok scTruth (fun vs H Q E h => ?_) (fun cdv A outer s H vs Q E hr h => ?_)
  · obtain ⟨b, rfl, _⟩ := h
    rfl
  · obtain ⟨b, rfl, hQ⟩ := h
    refine ⟨_, pss_cons (ps_if (pt_val (pv 1)) (pss_one (ps_ret (pe_cmpR op_isBl (pv 0) pe_bl (nomark _)))) pss_nil) (pss_one (ps_ret (pe_cmpR op_isBl (pv 0) pe_bl (nomark _)))), ?_⟩
    refine ⟨_, rfl, _, rfl, ?_⟩
    cases b with
    | true =>
      refine iteT ?_
      exact ⟨_, rfl, _, _, rfl, rfl, hQ⟩
    | false =>
      refine iteF ?_
      exact ⟨_, rfl, _, _, rfl, rfl, hQ⟩
end
end Sf
namespace Sf
open PySem L2
theorem op_mulS {X : Cx} : OpR X (binaryOp .Mult) (fun x y H Q => ∃ (z : Str) (i : Int), x = .str z ∧ y = .int i ∧ MulOk z i ∧ Q (.str (Txt.mul z i)) H) := by
  intro pins s σ H x y v u Q I rx ry h
  obtain ⟨z, i, rfl, rfl, hok, q⟩ := h
  obtain ⟨t, rfl⟩ := rx
  obtain ⟨t', rfl⟩ := ry
  exact SB.mul hok fun t' k => ⟨.str _, H, I.tok k, ⟨_, rfl⟩, q⟩
theorem mulOk_small {z : Str} {n : Int} (hz : z.length ≤ 64) (h0 : 0 ≤ n) (h1 : n ≤ 1000) : MulOk z n := by
  refine ⟨?_, fun hn _ => ?_, fun hn _ => ?_⟩
  · rw [decide_eq_false (by omega), decide_eq_false (by omega)] <;> rfl
  · intro hc
    have hp : 0 < n := by omega
    have hm : (z.length : Int) * n ≤ 2 ^ 63 - 1 := by
      have a : (z.length : Int) * n ≤ 64 * 1000 := Int.mul_le_mul (by omega) h1 h0 (by decide)
      have b : (64 * 1000 : Int) ≤ 2 ^ 63 - 1 := by decide
      omega
    have := (Int.le_ediv_iff_mul_le hp).mpr hm
    omega
  · have hm : z.length * n.toNat ≤ 64 * 1000 := Nat.mul_le_mul hz (by omega)
    unfold Builtin.Str.tooLong
    simp only [decide_eq_false_iff_not]
    have : (64 * 1000 : Nat) ≤ sizeLine := by decide
    omega
def spTwo (K : PySem.W.Frag) : Sp := fun vs H Q _ => ∃ (a : Addr) (ns : List Int) (k wd tot : Nat), vs = [.ref a, .int k, .int wd, .int tot] ∧ SqL K H a (ns.map V.int) ∧ ns.length ≤ 63 ∧ k ≤ 9 ∧ wd ≤ 12 ∧ tot ≤ 144 ∧
  ∀ (p : Addr) (i j : Int) (H' : Hp), Same H H' → H p = none → H' p = some (.tup [.int i, .int j]) → Q (.ref p) H'
def spAsked (K : PySem.W.Frag) (C : Addr) : Sp := fun vs H Q _ => ∃ (x dx lr d l lc : Addr) (f : Nat → Addr) (ws : List Str) (i j : Int), vs = [.ref x, .ref l, .ref lc, .int i, .int j] ∧ FloorAt C H x dx lr d f ws ∧ SqL K H l (ws.map V.str) ∧ Wf ws ∧ SqL K H lc (nats (cellsOf ws)) ∧ Q (.bl true) H
section
variable {P : Program} {w : World} {K : PySem.W.Frag} {mg : Str → Option Value} {base : Heap}
def nTwo : List Str := ["_law_script", "_law_k", "_law_wide", "_law_total", "_law_number_here", "_law_one", "_law_step"]
theorem scTwo : FnScope nTwo ["_law_script", "_law_k", "_law_wide", "_law_total"] (defScope s_law_two) := ⟨rfl, rfl, rfl, by decide +kernel, rfl, by decide +kernel, by decide +kernel⟩
theorem ok_two {f fc fn : Addr} {fd fdc fdn : FuncData} (F : Fun K "_law_two" "_law_two" s_law_two f fd)
    (GC : FnOk P w K mg base CX0 1 fc fdc ["_law_script", "_law_k"] (spCellAt K)) (gC : mg "_law_cell_at" = some (.ref fc)) (kC : PySem.W.keepIn K (.ref fc) = true) (bC : Binds K fdc ["_law_script", "_law_k"] [])
    (GN : FnOk P w K mg base CX0 1 fn fdn ["_law_script", "_law_k"] (spNumber K)) (gN : mg "_law_number" = some (.ref fn)) (kN : PySem.W.keepIn K (.ref fn) = true) (bN : Binds K fdn ["_law_script", "_law_k"] []) :
    FnOk P w K mg base CX0 2 f fd ["_law_script", "_law_k", "_law_wide", "_law_total"] (spTwo K) := by
  refine F.ok scTwo (fun vs H Q E h => ?_) (fun cdv A outer s H vs Q E hr h => ?_)
  · obtain ⟨a, ns, k, wd, tot, rfl, _⟩ := h
    rfl
  · obtain ⟨a, ns, k, wd, tot, rfl, hS, hl, hk, hwd, htot, hQ⟩ := h
    refine ⟨_, pss_cons (ps_set (i := 4) scTwo.nd rfl (Or.inl rfl) (pe_call GN hr rfl gN kN bN .nil pass0 (pa_cons (pv 0) (pa_cons (pe_op op_add (pe_op op_mul pe_int (pv 1)) pe_int) pa_nil))))
      (pss_cons (ps_set (i := 5) scTwo.nd rfl (Or.inl rfl) (pe_op op_sub (pe_op op_mod (pe_op op_add (pe_call GC hr rfl gC kC bC .nil pass0 (pa_cons (pv 0) (pa_cons pe_int pa_nil))) (pe_op op_mul pe_int (pv 1))) (pe_op op_add (pv 3) pe_int)) pe_int))
      (pss_cons (ps_set (i := 6) scTwo.nd rfl (Or.inl rfl) (pe_ix ix_list (pe_lst (pa_cons pe_int (pa_cons (pe_un un_neg pe_int) (pa_cons (pv 2) (pa_cons (pe_un un_neg (pv 2)) (pa_cons pe_int (pa_cons (pe_op op_add (pv 2) pe_int) (pa_cons pe_int (pa_cons (pe_op op_mul pe_int (pv 2)) pa_nil))))))))) (pe_op op_mod (pe_op op_fdiv (pv 4) pe_int) pe_int) (fun _ _ => rfl)))
      (pss_cons (ps_if (pt_cmpR op_lt (pe_op op_mod (pv 4) pe_int) pe_int (nomark _)) (pss_one (ps_ret (pe_tup (pa_cons (pv 5) (pa_cons (pe_op op_add (pv 5) (pv 6)) pa_nil))))) pss_nil)
      (pss_cons (ps_if (pt_cmpR op_lt (pe_op op_mod (pv 4) pe_int) pe_int (nomark _)) (pss_one (ps_ret (pe_tup (pa_cons (pv 5) (pa_cons (pe_op op_sub (pe_op op_mod (pe_call GC hr rfl gC kC bC .nil pass0 (pa_cons (pv 0) (pa_cons (pe_op op_add pe_int (pv 1)) pa_nil))) (pe_op op_add (pv 3) pe_int)) pe_int) pa_nil))))) pss_nil)
      (pss_one (ps_ret (pe_tup (pa_cons (pe_call GC hr rfl gC kC bC .nil pass0 (pa_cons (pv 0) (pa_cons (pe_op op_add pe_int (pv 1)) pa_nil))) (pa_cons (pe_call GC hr rfl gC kC bC .nil pass0 (pa_cons (pv 0) (pa_cons (pe_op op_add pe_int (pv 1)) pa_nil))) pa_nil))))))))), ?_⟩
    have c2 : ∀ (H : Hp) (p : Addr) (i j : Int), H p = none → Same H (upd H p (.tup [.int i, .int j])) := fun H p i j h => Same.new h
    have cat : ∀ m : Nat, (V.int ((m : Int) + (k : Int))) = V.int ((m + k : Nat) : Int) := fun m => by rw [Int.natCast_add]
    refine ⟨_, rfl, _, rfl, _, _, rfl, rfl, .inl ⟨by decide, by decide⟩, _, _, rfl, rfl, a, ns, 7 * k + 3, ?_, hS, hl, by omega, fun nh => ?_⟩
    · show [V.ref a, V.int (7 * (k : Int) + 3)] = [V.ref a, V.int ((7 * k + 3 : Nat) : Int)]
      rw [Int.natCast_add, Int.natCast_mul] <;> rfl
    refine ⟨_, rfl, a, ns, 2, rfl, hS, _, rfl, _, _, rfl, rfl, .inl ⟨by decide, by decide⟩, _, _, rfl, rfl, _, rfl, _, _, rfl, rfl, _, _, rfl, rfl, (by show (0 : Int) < (tot : Int) + 4; omega), _, _, rfl, rfl, ?_⟩
    refine ⟨_, rfl, _, rfl, _, rfl, _, rfl, _, rfl, _, _, rfl, rfl, _, rfl, _, _, rfl, rfl, .inl ⟨by decide, by decide⟩, (by show 8 ≤ sizeLine; decide), fun ll hll => ?_⟩
    have s1 : ∀ xs, Same H (upd H ll (.lst xs)) := fun xs => Same.new hll
    refine ⟨_, rfl, _, _, rfl, rfl, ⟨by decide, by decide⟩, _, _, rfl, rfl, (by show (0 : Int) < 8; decide), ?_⟩
    obtain ⟨mi, hmi, hml⟩ := mod_nat (nh / 8) (k := 8) (by decide)
    have hml2 : mi < 8 := by omega
    let xs : List Int := [1, -1, wd, -(wd : Int), 0, (wd : Int) + 1, 2, 2 * (wd : Int)]
    obtain ⟨z, hz⟩ : ∃ z, xs[mi]? = some z := ⟨_, List.getElem?_eq_getElem (show mi < xs.length from hml2)⟩
    refine ⟨ll, xs.map V.int, _, .int z, rfl, rfl, .inl (.inl upd_same), at_of hmi (by rw [List.getElem?_map, hz] <;> rfl), ?_⟩
    have s2 := s1 (xs.map V.int)
    refine ⟨_, rfl, _, _, rfl, rfl, (by show (0 : Int) < 8; decide), _, _, rfl, rfl, _, rfl, ?_⟩
    refine ite2 (fun z1 => ?_) (fun z1 => ?_)
    · refine ⟨_, rfl, _, rfl, _, rfl, _, _, rfl, rfl, (by show 2 ≤ sizeLine; decide), fun p hp => ?_⟩
      exact hQ p _ _ _ (s2.trans (Same.new hp)) (s2.free hp) upd_same
    · refine ⟨_, rfl, _, _, rfl, rfl, (by show (0 : Int) < 8; decide), _, _, rfl, rfl, _, rfl, ?_⟩
      refine ite2 (fun z2 => ?_) (fun z2 => ?_)
      · refine ⟨_, rfl, _, rfl, _, rfl, _, _, rfl, rfl, a, ns, 4 + k, ?_, s2.seq hS, _, rfl, _, _, rfl, rfl, _, _, rfl, rfl, (by show (0 : Int) < (tot : Int) + 4; omega), _, _, rfl, rfl, (by show 2 ≤ sizeLine; decide), fun p hp => ?_⟩
        · show [V.ref a, V.int (4 + (k : Int))] = [V.ref a, V.int ((4 + k : Nat) : Int)]
          rw [Int.natCast_add] <;> rfl
        · exact hQ p _ _ _ (s2.trans (Same.new hp)) (s2.free hp) upd_same
      · refine ⟨_, rfl, _, rfl, _, _, rfl, rfl, a, ns, 4 + k, ?_, s2.seq hS, _, rfl, _, rfl, _, _, rfl, rfl, a, ns, 5 + k, ?_, s2.seq hS, (by show 2 ≤ sizeLine; decide), fun p hp => ?_⟩
        · show [V.ref a, V.int (4 + (k : Int))] = [V.ref a, V.int ((4 + k : Nat) : Int)]
          rw [Int.natCast_add] <;> rfl
        · show [V.ref a, V.int (5 + (k : Int))] = [V.ref a, V.int ((5 + k : Nat) : Int)]
          rw [Int.natCast_add] <;> rfl
        · exact hQ p _ _ _ (s2.trans (Same.new hp)) (s2.free hp) upd_same
def nAsked : List Str := ["_law_floor", "_law_rows_here", "_law_cells_here", "_law_one", "_law_other", "_law_due"]
theorem scAsked : FnScope nAsked ["_law_floor", "_law_rows_here", "_law_cells_here", "_law_one", "_law_other"] (defScope s_law_asked) := ⟨rfl, rfl, rfl, by decide +kernel, rfl, by decide +kernel, by decide +kernel⟩
theorem ok_asked {f fm ft fM fH C : Addr} {fd fdm fdt fdM fdH : FuncData} (F : Fun K "_law_asked" "_law_asked" s_law_asked f fd) (T : FTxt K mg C)
    (Gm : FnOk P w K mg base CX0 1 fm fdm ["_law_rows_here", "_law_one", "_law_other"] (spLMay K)) (gm : mg "_law_may" = some (.ref fm)) (km : PySem.W.keepIn K (.ref fm) = true) (bm : Binds K fdm ["_law_rows_here", "_law_one", "_law_other"] [])
    (Gt : FnOk P w K mg base CX0 1 ft fdt ["_law_found", "_law_due"] spTruth) (gt : mg "_law_truth" = some (.ref ft)) (kt : PySem.W.keepIn K (.ref ft) = true) (bt : Binds K fdt ["_law_found", "_law_due"] [])
    (GM : FnOk P w K mg base CX0 2 fM fdM ["self", "one", "other"] (spMay C)) (mM : Meth K C "may" fM) (bM : Binds K fdM ["self", "one", "other"] [])
    (GH : FnOk P w K mg base CX0 1 fH fdH ["self", "place"] (spHas C)) (mH : Meth K C "has" fH) (bH : Binds K fdH ["self", "place"] []) :
    FnOk P w K mg base CX0 3 f fd ["_law_floor", "_law_rows_here", "_law_cells_here", "_law_one", "_law_other"] (spAsked K C) := by
  refine F.ok scAsked (fun vs H Q E h => ?_) (fun cdv A outer s H vs Q E hr h => ?_)
  · obtain ⟨x, dx, lr, d, l, lc, g, ws, i, j, rfl, _⟩ := h
    rfl
  · obtain ⟨x, dx, lr, d, l, lc, g, ws, i, j, rfl, a, hS, hw, hC, hQ⟩ := h
    have hr1 : Room 1 _ := hr.mono (by decide)
    refine ⟨_, pss_cons (ps_set (i := 5) scAsked.nd rfl (Or.inl rfl) (pe_call Gm hr1 rfl gm km bm .nil pass0 (pa_cons (pv 1) (pa_cons (pv 3) (pa_cons (pv 4) pa_nil)))))
      (pss_cons (ps_if (PW.pt (pw_or (pt_not (pt_val (pe_call Gt hr1 rfl gt kt bt .nil pass0 (pa_cons (pe_meth (pv 0) T.cl mM GM hr bM .nil pass0 (pa_cons (pv 3) (pa_cons (pv 4) pa_nil))) (pa_cons (pv 5) pa_nil)))))
          (pw_or1 (pt_not (pt_val (pe_call Gt hr1 rfl gt kt bt .nil pass0 (pa_cons (pe_meth (pv 0) T.cl mM GM hr bM .nil pass0 (pa_cons (pv 4) (pa_cons (pv 3) pa_nil))) (pa_cons (pv 5) pa_nil)))))))) (pss_one (ps_ret pe_bl)) pss_nil)
      (pss_one (ps_ret (pe_and (pe_call Gt hr1 rfl gt kt bt .nil pass0 (pa_cons (pe_meth (pv 0) T.cl mH GH hr1 bH .nil pass0 (pa_cons (pv 3) pa_nil)) (pa_cons (pe_cmpR op_in_seq (pv 3) (pv 2) (by rfl)) pa_nil)))
        (pe_one (pe_call Gt hr1 rfl gt kt bt .nil pass0 (pa_cons (pe_meth (pv 0) T.cl mH GH hr1 bH .nil pass0 (pa_cons (pv 4) pa_nil)) (pa_cons (pe_cmpR op_in_seq (pv 4) (pv 2) (by rfl)) pa_nil)))))))), ?_⟩
    have nM : (flds lr ws d (g (topP ws))).lookup ("may" : Str) = none := flds_no _ _ _ _ (by decide +kernel) (by decide +kernel) (by decide +kernel) (by decide +kernel)
    have nH : (flds lr ws d (g (topP ws))).lookup ("has" : Str) = none := flds_no _ _ _ _ (by decide +kernel) (by decide +kernel) (by decide +kernel) (by decide +kernel)
    refine ⟨_, rfl, _, rfl, _, rfl, l, ws, i, j, rfl, hS, hw, ?_⟩
    rw [← may_eq]
    refine ⟨_, rfl, x, dx, _, rfl, a.ob, nM, _, rfl, _, rfl, x, dx, lr, d, g, ws, i, j, rfl, a, _, rfl, _, rfl, _, rfl, ?_⟩
    refine iteF ?_
    refine ⟨_, rfl, x, dx, _, rfl, a.ob, nM, _, rfl, _, rfl, x, dx, lr, d, g, ws, j, i, rfl, a, _, rfl, mayB ws i j, ?_, ?_⟩
    · rw [may_eq, may_eq, lmay_symm] <;> rfl
    refine ⟨_, rfl, ?_⟩
    refine iteF ?_
    have inc : ∀ i : Int, inV (V.int i) (nats (cellsOf ws)) = isCell ws i := fun i => by
      rw [nats_eq, in_ints]
      unfold isCell
      exact decide_eq_decide.mpr mem_natI
    have fl : (nats (cellsOf ws)).all flatV = true := by
      rw [nats_eq]
      exact flat_ints _
    refine ⟨_, rfl, x, dx, _, rfl, a.ob, nH, _, rfl, x, dx, lr, d, g, ws, i, rfl, a, _, rfl, _, rfl, lc, _, rfl, .inl hC, rfl, fl, isCell ws i, ?_, ?_⟩
    · show [V.bl _, V.bl (inV (V.int i) (nats (cellsOf ws)))] = _
      rw [inc]
    refine ⟨_, rfl, ?_⟩
    refine iteT ?_
    refine ⟨_, rfl, x, dx, _, rfl, a.ob, nH, _, rfl, x, dx, lr, d, g, ws, j, rfl, a, _, rfl, _, rfl, lc, _, rfl, .inl hC, rfl, fl, isCell ws j, ?_, hQ⟩
    show [V.bl _, V.bl (inV (V.int j) (nats (cellsOf ws)))] = _
    rw [inc]
end
end Sf
namespace Sf
open PySem L2
/-- law's: a list of at most 63 ints is handed in, True comes out -/
def spLaw (K : PySem.W.Frag) (Pt : Addr) : Sp := fun vs H Q _ => ∃ (a : Addr) (ns : List Int), vs = [.ref a] ∧ SqL K H a (ns.map V.int) ∧ ns.length ≤ 63 ∧ GxR.TabG H Pt ∧ ∀ H', Q (.bl true) H'
theorem shaped_strs {ws : List Str} (w : Wf ws) : SeqAt.shaped (.list (ws.map PyData.str)) = true := shaped_atoms fun d hd => by
  obtain ⟨a, ha, rfl⟩ := List.mem_map.mp hd
  refine ⟨?_, rfl⟩
  show a.cps.all (· < 0x110000) = true
  rw [← Array.all_toList, List.all_eq_true]
  intro c hc
  have q := w.sign a ha c hc
  unfold okSign at q
  rw [decide_eq_true_eq]
  omega
theorem FloorAt.upd {C : Addr} {H : Hp} {x dx lr d : Addr} {f : Nat → Addr} {ws : List Str} (a : FloorAt C H x dx lr d f ws) {b : Addr} {o : HO} (h1 : x ≠ b) (h2 : lr ≠ b) (h3 : d ≠ b) (h4 : ∀ p ∈ cellsOf ws, f p ≠ b) (h5 : f (topP ws) ≠ b) : FloorAt C (upd H b o) x dx lr d f ws :=
  ⟨by rw [upd_ne h1]; exact a.ob, by rw [upd_ne h2]; exact a.rw, ⟨by rw [upd_ne h3]; exact a.tb.dc, fun p hp => by rw [upd_ne (h4 p hp)]; exact a.tb.ls p hp⟩, by rw [upd_ne h5]; exact a.sg⟩
theorem SqL_via {K : PySem.W.Frag} {H H' : Hp} {a : Addr} {xs : List V} (h : SqL K H a xs) (k : ∀ b o, (∀ ps, o ≠ .tbl ps) → H b = some o → H' b = some o) : SqL K H' a xs := by
  rcases h with (h | ⟨o, h⟩) | h
  · exact .inl (.inl (k _ _ (fun _ z => by cases z) h))
  · exact .inl (.inr ⟨o, k _ _ (fun _ z => by cases z) h⟩)
  · exact .inr h
section
variable {P : Program} {w : World} {K : PySem.W.Frag} {mg : Str → Option Value} {base : Heap}
def nLaw : List Str := ["_law_script", "_law_rows_here", "_law_wide", "_law_handed", "_law_floor", "_law_cells_here", "_law_k", "_law_one", "_law_other"]
theorem scLaw : FnScope nLaw ["_law_script"] (defScope slaw) := ⟨rfl, rfl, rfl, by decide +kernel, rfl, by decide +kernel, by decide +kernel⟩
theorem ok_law {f fR fI fC fT fA fL fK C Pt : Addr} {fd fdR fdI fdC fdT fdA fdL fdK : FuncData} {tM : Tok} (F : Fun K "law" "law" slaw f fd) (T : FTxt K mg C) (M : Mk K C fI)
    (GR : FnOk P w K mg base CX0 2 fR fdR ["_law_script"] (spRows K)) (gR : mg "_law_rows" = some (.ref fR)) (kR : PySem.W.keepIn K (.ref fR) = true) (bR : Binds K fdR ["_law_script"] [])
    (GI : FnOk P w K mg base CX0 4 fI fdI ["self", "rows"] (spInit K Pt C)) (bI : Binds K fdI ["self", "rows"] [])
    (GC : FnOk P w K mg base CX0 1 fC fdC ["_law_rows_here"] (spLCells K)) (gC : mg "_law_cells" = some (.ref fC)) (kC : PySem.W.keepIn K (.ref fC) = true) (bC : Binds K fdC ["_law_rows_here"] [])
    (GT : FnOk P w K mg base CX0 2 fT fdT ["_law_script", "_law_k", "_law_wide", "_law_total"] (spTwo K)) (gT : mg "_law_two" = some (.ref fT)) (kT : PySem.W.keepIn K (.ref fT) = true) (bT : Binds K fdT ["_law_script", "_law_k", "_law_wide", "_law_total"] [])
    (GA : FnOk P w K mg base CX0 3 fA fdA ["_law_floor", "_law_rows_here", "_law_cells_here", "_law_one", "_law_other"] (spAsked K C)) (gA : mg "_law_asked" = some (.ref fA)) (kA : PySem.W.keepIn K (.ref fA) = true) (bA : Binds K fdA ["_law_floor", "_law_rows_here", "_law_cells_here", "_law_one", "_law_other"] [])
    (GL : FnOk P w K mg base CX0 2 fL fdL ["_law_found", "_law_due"] (spListed K)) (gL : mg "_law_listed" = some (.ref fL)) (kL : PySem.W.keepIn K (.ref fL) = true) (bL : Binds K fdL ["_law_found", "_law_due"] [])
    (GK : FnOk P w K mg base CX0 1 fK fdK ["self"] (spCells C)) (mK : Meth K C "cells" fK) (bK : Binds K fdK ["self"] [])
    (gn : mg "len" = none) (gl : mg "list" = none) (gr : mg "range" = none) (gi : mg "isinstance" = none) (gM : mg "MOST" = some (.int 12 tM)) :
    FnOk P w K mg base CX0 6 f fd ["_law_script"] (spLaw K Pt) := by
  refine F.ok scLaw (fun vs H Q E h => ?_) (fun cdv A outer s H vs Q E hr h => ?_)
  · obtain ⟨a, ns, rfl, _⟩ := h
    rfl
  · obtain ⟨a, ns, rfl, hS, hl, hT, hQ⟩ := h
    have hr1 : Room 1 _ := hr.mono (by decide)
    have hr2 : Room 2 _ := hr.mono (by decide)
    have hr3 : Room 3 _ := hr.mono (by decide)
    refine ⟨_, pss_cons (ps_set (i := 1) scLaw.nd rfl (Or.inl rfl) (pe_call GR hr2 rfl gR kR bR .nil pass0 (pa_cons (pv 0) pa_nil)))
      (C8.pss_cut (ps_set (i := 2) scLaw.nd rfl (Or.inl rfl) (pe_ifExp (pt_cmpR op_gt (pe_callB call_len (by rfl) gn PySem.boot_len (pa_cons (pv 1) pa_nil)) pe_int (nomark _)) (pe_callB call_len_str (by rfl) gn PySem.boot_len (pa_cons (pe_ix ix_list (pv 1) pe_int (fun _ _ => rfl)) pa_nil)) pe_int))
      (pss_cons (ps_set (i := 3) scLaw.nd rfl (Or.inl rfl) (pe_callTy call_list_of (by rfl) gl (by decide +kernel) (pa_cons (pv 1) pa_nil)))
      (pss_cons (ps_set (i := 4) scLaw.nd rfl (Or.inl rfl) (pe_make M GI hr rfl T.mgC bI .nil pass0 (pa_cons (pv 3) pa_nil)))
      (pss_cons (ps_set (i := 5) scLaw.nd rfl (Or.inl rfl) (pe_call GC hr1 rfl gC kC bC .nil pass0 (pa_cons (pv 1) pa_nil)))
      (pss_cons (ps_for PassesOwn.never rfl (pi_range1 rfl gr (pa_cons pe_int pa_nil)) (pg_name (i := 6) scLaw.nd rfl (Or.inl rfl))
        (pss_cons (ps_asg (pe_call GT hr2 rfl gT kT bT .nil pass0 (pa_cons (pv 0) (pa_cons (pv 6) (pa_cons (pv 2) (pa_cons (pe_op op_mul (pv 2) (pe_callB call_len (by rfl) gn PySem.boot_len (pa_cons (pv 1) pa_nil))) pa_nil))))) (pg_tup (by rfl) (pgs_cons (pg_name (i := 7) scLaw.nd rfl (Or.inl rfl)) (pgs_cons (pg_name (i := 8) scLaw.nd rfl (Or.inl rfl)) pgs_nil))))
        (pss_one (ps_if (pt_not (pt_val (pe_call GA hr3 rfl gA kA bA .nil pass0 (pa_cons (pv 4) (pa_cons (pv 1) (pa_cons (pv 5) (pa_cons (pv 7) (pa_cons (pv 8) pa_nil)))))))) (pss_one (ps_ret pe_bl)) pss_nil))))
      (pss_cons (ps_if (PW.pt (pw_or (pt_not (pt_val (pe_call GL hr2 rfl gL kL bL .nil pass0 (pa_cons (pe_meth0 (pv 4) T.cl mK GK hr1 bK .nil pass0) (pa_cons (pv 5) pa_nil)))))
        (pw_or1 (pt_not (pt_val (pe_call GL hr2 rfl gL kL bL .nil pass0 (pa_cons (pe_lst (pa_cons (pe_fld (pv 4) rfl) (pa_cons (pe_fld (pv 4) rfl) (pa_cons (pe_glob (v := .int 12) rfl gM ⟨_, rfl⟩) pa_nil)))) (pa_cons (pe_lst (pa_cons (pe_callB call_len (by rfl) gn PySem.boot_len (pa_cons (pv 1) pa_nil)) (pa_cons (pv 2) (pa_cons pe_int pa_nil)))) pa_nil)))))))) (pss_one (ps_ret pe_bl)) pss_nil)
      (pss_cons (ps_if (PW.pt (pw_or (pt_not (pt_val (pe_callB call_isi (by rfl) gi PyProof.Rows.boot_isinstance (pa_cons (pe_fld (pv 4) rfl) (pa_cons (pe_bltn (v := .ty "list") (by rfl) gl PySem.Pv.boot_list rfl) pa_nil)))))
        (pw_or (pt_cmpR (op_neD hr.units) (pe_fld (pv 4) rfl) (pv 1) (nomark _)) (pw_or1 (pt_cmpR (op_neD hr.units) (pv 3) (pv 1) (nomark _)))))) (pss_one (ps_ret pe_bl)) pss_nil)
      (pss_cons (ps_expr (pe_bm PySem.F.plainAttrs_list PySem.F.slot_list_append PySem.F.type_list_append mt_append (pv 3) (pa_cons (pe_op op_mulS pe_str (pv 2)) pa_nil)))
      (pss_cons (ps_expr (pe_bm0 PySem.F.plainAttrs_list PySem.F.slot_list_clear PySem.F.type_list_clear mt_clear (pe_meth0 (pv 4) T.cl mK GK hr1 bK .nil pass0)))
      (pss_cons (ps_asg (pe_call GT hr2 rfl gT kT bT .nil pass0 (pa_cons (pv 0) (pa_cons pe_int (pa_cons (pv 2) (pa_cons (pe_op op_mul (pv 2) (pe_callB call_len (by rfl) gn PySem.boot_len (pa_cons (pv 1) pa_nil))) pa_nil))))) (pg_tup (by rfl) (pgs_cons (pg_name (i := 7) scLaw.nd rfl (Or.inl rfl)) (pgs_cons (pg_name (i := 8) scLaw.nd rfl (Or.inl rfl)) pgs_nil))))
      (pss_one (ps_ret (pe_and (pe_cmpR (op_eqD hr.units) (pe_fld (pv 4) rfl) (pv 1) (nomark _)) (pe_and (pe_call GA hr3 rfl gA kA bA .nil pass0 (pa_cons (pv 4) (pa_cons (pv 1) (pa_cons (pv 5) (pa_cons (pv 7) (pa_cons (pv 8) pa_nil))))))
        (pe_one (pe_call GL hr2 rfl gL kL bL .nil pass0 (pa_cons (pe_meth0 (pv 4) T.cl mK GK hr1 bK .nil pass0) (pa_cons (pv 5) pa_nil)))))))))))))))))), ?_⟩
    refine ⟨_, rfl, a, ns, rfl, hS, hl, fun l ws H1 hw s1 hl0 hl1 => ?_⟩
    have hh := hw.high
    have hwd := hw.wid
    refine ⟨fun σ' H' => σ' = [some (.ref a), some (.ref l), some (.int (wide ws)), none, none, none, none, none, none] ∧ H1 = H', ?_, ?_⟩
    · refine ⟨_, rfl, _, _, rfl, .inl ⟨_, SqL.of hl1, rfl⟩, _, _, rfl, rfl, _, rfl, ?_⟩
      rw [List.length_map]
      cases ws with
      | nil =>
        refine iteF ?_
        have e0 : wide ([] : List Str) = 0 := empty_len
        rw [e0]
        exact ⟨rfl, rfl⟩
      | cons a r =>
        refine iteTd (by rw [List.length_cons]; omega) ?_
        have ea : wide (a :: r) = a.length := rfl
        refine ⟨_, rfl, _, _, _, _, rfl, rfl, SqL.of hl1, atI_nat (j := 0) rfl, a, rfl, Nat.le_trans (by rw [← ea]; exact hwd) (by decide), rfl, rfl⟩
    rintro _ _ ⟨rfl, rfl⟩
    -- handed
    refine ⟨_, rfl, l, _, rfl, .inl (SqL.of hl1), fun lh hlh => ?_⟩
    have hT1 : GxR.TabG H1 Pt := (Sm.of s1 (P := Pt)).t hT
    have s2 : Same H1 (upd H1 lh (.lst (ws.map V.str))) := Same.new hlh
    generalize e2 : upd H1 lh (.lst (ws.map V.str)) = H2 at s2
    have hlh2 : H2 lh = some (.lst (ws.map V.str)) := by rw [← e2, upd_same]
    have hT2 : GxR.TabG H2 Pt := (Sm.of s2 (P := Pt)).t hT1
    -- floor
    refine ⟨_, rfl, fun x dx nx ndx nex => ?_⟩
    have s3 : Same H2 (upd (upd H2 dx (.own x)) x (.ins C dx [])) := fun b o e => by
      rw [upd_ne (ne_of_none e nx), upd_ne (ne_of_none e ndx)]
      exact e
    have hT3 := (Sm.of s3 (P := Pt)).t hT2
    refine ⟨x, dx, lh, ws, rfl, upd_same, s3.seq (SqL.of hlh2), hw, hT3, fun lr d g H4 nw kp hT4 fa => ⟨rfl, ?_⟩⟩
    have nPx : x ≠ Pt := fun e => by
      obtain ⟨ps, z, _⟩ := hT2
      rw [e, z] at nx
      cases nx
    have k4 : ∀ b o, b ≠ Pt → H2 b = some o → H4 b = some o := fun b o hb e => kp b o (ne_of_none e nx) hb (s3 b o e)
    have up : ∀ b o, (∀ ps, o ≠ .tbl ps) → H2 b = some o → H4 b = some o := fun b o ho e => k4 b o (ne_tbl hT2 e ho) e
    have l4 : H4 l = some (.lst (ws.map V.str)) := up _ _ (fun _ z => by cases z) (s2 _ _ hl1)
    have lh4 : H4 lh = some (.lst (ws.map V.str)) := up _ _ (fun _ z => by cases z) hlh2
    have S4 : SqL K H4 a (ns.map V.int) := by
      have q : Sm Pt H2 H4 := ⟨k4, fun _ => hT4⟩
      exact q.seq hT2 (s2.seq (s1.seq hS))
    -- cells
    refine ⟨_, rfl, l, ws, rfl, SqL.of l4, hw, fun lc H5 s5 hlc h5 => ?_⟩
    have fa5 := fa.same s5
    have l5 := s5 _ _ l4
    have lh5 := s5 _ _ lh4
    have S5 := s5.seq S4
    have small : ws.length * wide ws ≤ 12 * 12 := Nat.mul_le_mul hh hwd
    have tot : ((wide ws : Nat) : Int) * ((ws.length : Nat) : Int) = ((wide ws * ws.length : Nat) : Int) := (Int.natCast_mul _ _).symm
    have tot2 : wide ws * ws.length ≤ 144 := by rw [Nat.mul_comm]; exact small
    -- eight times
    refine ⟨8, rfl, by decide, by decide, for_range (n := 8) (fun i σ H6 => ∃ v6 v7 v8 : Option V, σ = [some (.ref a), some (.ref l), some (.int (wide ws)), some (.ref lh), some (.ref x), some (.ref lc), v6, v7, v8] ∧ Same H5 H6)
      ⟨none, none, none, rfl, Same.refl _⟩ ?_ ?_⟩
    · rintro i σ H6 hi ⟨v6, v7, v8, rfl, s6⟩
      refine ⟨_, rfl, _, rfl, _, rfl, _, rfl, _, rfl, _, _, rfl, .inl ⟨_, SqL.of (s6 _ _ l5), rfl⟩, _, _, rfl, rfl, .inl ⟨by omega, by omega⟩, a, ns, i, wide ws, wide ws * ws.length, ?_, s6.seq S5, hl, by omega, hwd, tot2, fun p z1 z2 H7 s7 hp h7 => ?_⟩
      · show [V.ref a, V.int (0 + (i : Int)), V.int (wide ws), V.int (((wide ws : Nat) : Int) * (((ws.map V.str).length : Nat) : Int))] = _
        rw [List.length_map, tot, Int.zero_add]
      · refine ⟨p, _, rfl, SqT.of h7, rfl, _, _, rfl, _, _, rfl, rfl, ?_⟩
        have s57 := s6.trans s7
        refine ⟨_, rfl, _, rfl, _, rfl, _, rfl, _, rfl, x, dx, lr, d, l, lc, g, ws, z1, z2, rfl, fa5.same s57, SqL.of (s57 _ _ l5), hw, SqL.of (s57 _ _ h5), ?_⟩
        refine ⟨_, rfl, ?_⟩
        exact ⟨_, _, _, rfl, s57⟩
    rintro σ H6 ⟨v6, v7, v8, rfl, s6⟩
    have fa6 := fa5.same s6
    have l6 := s6 _ _ l5
    have lh6 := s6 _ _ lh5
    have lc6 := s6 _ _ h5
    have nK : (flds lr ws d (g (topP ws))).lookup ("cells" : Str) = none := flds_no _ _ _ _ (by decide +kernel) (by decide +kernel) (by decide +kernel) (by decide +kernel)
    -- cells, high, wide, MOST
    refine ⟨_, rfl, x, dx, _, rfl, fa6.ob, nK, x, dx, lr, d, g, ws, rfl, fa6, fun l7 H7 s7 hl7 h7 => ?_⟩
    have fa7 := fa6.same s7
    refine ⟨_, rfl, l7, lc, natI (cellsOf ws), rfl, by rw [← nats_eq]; exact h7, by rw [← nats_eq]; exact SqL.of (s7 _ _ lc6), _, rfl, ?_⟩
    refine iteF ?_
    refine ⟨_, rfl, x, C, dx, _, _, rfl, fa7.ob, T.cl, T.nH, flds_high _ _ _ _, _, rfl, x, C, dx, _, _, rfl, fa7.ob, T.cl, T.nW, flds_wide _ _ _ _, (by show 3 ≤ sizeLine; decide), fun l8 hl8 => ?_⟩
    have s8 : Same H7 (upd H7 l8 (.lst [.int ws.length, .int (wide ws), .int 12])) := Same.new hl8
    generalize e8 : upd H7 l8 (.lst [.int ws.length, .int (wide ws), .int 12]) = H8 at s8
    have h8 : H8 l8 = some (.lst [.int ws.length, .int (wide ws), .int 12]) := by rw [← e8, upd_same]
    refine ⟨_, rfl, _, _, rfl, .inl ⟨_, SqL.of (s8 _ _ (s7 _ _ l6)), rfl⟩, _, rfl, (by show 3 ≤ sizeLine; decide), fun l9 hl9 => ?_⟩
    rw [List.length_map]
    have s9 : Same H8 (upd H8 l9 (.lst [.int ws.length, .int (wide ws), .int 12])) := Same.new hl9
    generalize e9 : upd H8 l9 (.lst [.int ws.length, .int (wide ws), .int 12]) = H9 at s9
    have h9 : H9 l9 = some (.lst [.int ws.length, .int (wide ws), .int 12]) := by rw [← e9, upd_same]
    refine ⟨l8, l9, [(ws.length : Int), (wide ws : Int), 12], rfl, s9 _ _ h8, SqL.of h9, _, rfl, ?_⟩
    refine iteF ?_
    have s69 := s7.trans (s8.trans s9)
    have fa9 := fa6.same s69
    have l10 := s69 _ _ l6
    have lh10 := s69 _ _ lh6
    have lc10 := s69 _ _ lc6
    -- rows
    have dp : ∀ b, H9 b = some (.lst (ws.map V.str)) → Dp K H9 (.ref b) (.list (ws.map PyData.str)) := fun b e => .lst (SqL.of e) (dp_strs ws)
    have sh := shaped_strs hw
    have rf : PyData.eqv (.list (ws.map PyData.str)) (.list (ws.map PyData.str)) = true := SeqAt.eqv_refl _ (SeqAt.canLay_of_shaped sh)
    refine ⟨_, rfl, x, C, dx, _, _, rfl, fa9.ob, T.cl, T.nR, flds_rows _ _ _ _, .ref lr, .ty "list", .type "list", .type "list", true, rfl, .ty _, .base (.lst fa9.rw), kit_ty (by decide +kernel), _, rfl, ?_⟩
    refine iteF ?_
    refine ⟨_, rfl, x, C, dx, _, _, rfl, fa9.ob, T.cl, T.nR, flds_rows _ _ _ _, _, rfl, _, _, dp _ fa9.rw, dp _ l10, sh, sh, _, rfl, ?_⟩
    rw [rf]
    refine iteF ?_
    refine ⟨_, rfl, _, rfl, _, _, dp _ lh10, dp _ l10, sh, sh, _, rfl, ?_⟩
    rw [rf]
    refine iteF ?_
    -- handed.append
    refine ⟨_, rfl, .inl ⟨rfl, _, SqL.of lh10⟩, _, rfl, _, _, rfl, rfl, mulOk_small (by decide +kernel) (by omega) (by omega), lh, _, _, rfl, rfl, lh10, by rw [List.length_map]; exact small1000 (by omega), ?_⟩
    generalize e11 : upd H9 lh (.lst (ws.map V.str ++ [.str (Txt.mul ("." : Str) (wide ws : Int))])) = H11
    have k11 : ∀ b o, b ≠ lh → H9 b = some o → H11 b = some o := fun b o hb e => by rw [← e11, upd_ne hb]; exact e
    have nxlh : x ≠ lh := fun e => by rw [e, hlh2] at nx; cases nx
    have ne3 : ∀ b, upd (upd H2 dx (.own x)) x (.ins C dx []) b = none → b ≠ lh := fun b hb e => by
      rw [e, s3 _ _ hlh2] at hb
      cases hb
    have fa11 : FloorAt C H11 x dx lr d g ws := by
      rw [← e11]
      exact fa9.upd nxlh (ne3 _ nw.rw) (ne3 _ nw.dc) (fun p hp => ne3 _ (nw.ls p hp)) (ne3 _ nw.sg)
    have l11 : H11 l = some (.lst (ws.map V.str)) := k11 _ _ (ne_of_none hl1 hlh) l10
    have lc11 : H11 lc = some (.lst (nats (cellsOf ws))) := k11 _ _ (fun e => by rw [e, lh4] at hlc; cases hlc) lc10
    have S11 : SqL K H11 a (ns.map V.int) := SqL_via (s1.seq hS) fun b o ho e => k11 b o (ne_of_none e hlh) (s69 b o (s6 b o (s5 b o (up b o ho (s2 b o e)))))
    -- floor.cells().clear()
    refine ⟨_, rfl, x, dx, _, rfl, fa11.ob, nK, x, dx, lr, d, g, ws, rfl, fa11, fun l12 H12 s12 hl12 h12 => ?_⟩
    refine ⟨.inl ⟨rfl, _, SqL.of h12⟩, l12, _, rfl, rfl, h12, ?_⟩
    have s13 : Same H11 (upd H12 l12 (.lst [])) := fun b o e => by
      rw [upd_ne (ne_of_none e hl12)]
      exact s12 b o e
    generalize upd H12 l12 (.lst []) = H13 at s13
    -- once more
    refine ⟨_, rfl, _, rfl, _, rfl, _, rfl, _, _, rfl, .inl ⟨_, SqL.of (s13 _ _ l11), rfl⟩, _, _, rfl, rfl, .inl ⟨by omega, by omega⟩, a, ns, 9, wide ws, wide ws * ws.length, ?_, s13.seq S11, hl, by omega, hwd, tot2, fun p z1 z2 H14 s14 hp h14 => ?_⟩
    · show [V.ref a, V.int 9, V.int (wide ws), V.int (((wide ws : Nat) : Int) * (((ws.map V.str).length : Nat) : Int))] = _
      rw [List.length_map, tot] <;> rfl
    refine ⟨p, _, rfl, SqT.of h14, rfl, _, _, rfl, _, _, rfl, rfl, ?_⟩
    have s34 := s13.trans s14
    have fa14 := fa11.same s34
    have l14 := s34 _ _ l11
    have lc14 := s34 _ _ lc11
    have dp : ∀ b, H14 b = some (.lst (ws.map V.str)) → Dp K H14 (.ref b) (.list (ws.map PyData.str)) := fun b e => .lst (SqL.of e) (dp_strs ws)
    refine ⟨_, rfl, x, C, dx, _, _, rfl, fa14.ob, T.cl, T.nR, flds_rows _ _ _ _, _, rfl, _, _, dp _ fa14.rw, dp _ l14, sh, sh, _, rfl, ?_⟩
    rw [rf]
    refine iteT ?_
    refine ⟨_, rfl, _, rfl, _, rfl, _, rfl, _, rfl, x, dx, lr, d, l, lc, g, ws, z1, z2, rfl, fa14, SqL.of l14, hw, SqL.of lc14, _, rfl, ?_⟩
    refine iteT ?_
    refine ⟨_, rfl, x, dx, _, rfl, fa14.ob, nK, x, dx, lr, d, g, ws, rfl, fa14, fun l15 H15 s15 hl15 h15 => ?_⟩
    exact ⟨_, rfl, l15, lc, natI (cellsOf ws), rfl, by rw [← nats_eq]; exact h15, by rw [← nats_eq]; exact SqL.of (s15 _ _ lc14), hQ _⟩
end
end Sf
namespace Sf
open PySem L2
theorem tri0 : TriplesOk (#[] : Array Value).toList := by
  show TriplesOk []
  simp [TriplesOk]
theorem walk {l : PySem.W.OpenLaw} {k : Nat} {q : Program} {loose : List Str} {XP : (Str → Option Value) → Heap → Prop} {YP : World → Heap → Prop} {d : DefRec} {K : Params → PySem.W.Frag}
    (hn : l.most = some 63) (hdf : d.params.defaults = []) (hr : Room k callerA) (hrec : ((PyProof.Rows.recsOf q).any fun e => e.name == ("_refuse_wrong" : Str)) = true) (hY : ∀ (w : World) (h : Heap), YP w h → (K w.params).In h)
    (F : ∀ (w : World) (mg : Str → Option Value) (fa : Addr) (h : Heap), (K w.params).In h → h.Ns mainGlobals mg → mg d.name = some (.ref fa) →
      (∀ (fr c P : Addr) (o : Obj) (fd : FuncData) (e : Value) (dd : Option Addr) (vs : Array Value) (sl : Array (Option Value)), mg "_refuse_wrong" = some (.ref fr) → (K w.params).lookup fr = some o → o.data = .func fd → fd.code = .ref c → (K w.params).lookup c = some ⟨e, dd, .fields vs, sl⟩ → vs[11]? = some (.ref P) → h.get? P = some { cls := .none, data := .fields #[] }) →
      LamX.LawAtS l w (K w.params) CX0 k 63 "_law_script" mg fa h) :
    PySem.W.WalkO q loose XP YP l.row.toRowW d [] (fun f vs => PySem.call f vs) := by
  refine Att.attach_callB hn hdf fun w s₀ s₁ mg mb fa o pm cd doc a vs ns G Y ho hd hcd hmg hobj hints hlen hbits hg => ?_
  have KX := hY w _ Y
  have own : ∀ (fr c P : Addr) (o : Obj) (fd : FuncData) (e : Value) (dd : Option Addr) (vs : Array Value) (sl : Array (Option Value)), mg "_refuse_wrong" = some (.ref fr) → (K w.params).lookup fr = some o → o.data = .func fd → fd.code = .ref c → (K w.params).lookup c = some ⟨e, dd, .fields vs, sl⟩ → vs[11]? = some (.ref P) → s₁.heap.get? P = some { cls := .none, data := .fields #[] } := fun fr c P o1 fd1 e dd vs1 sl k0 k1 k2 k3 k4 k5 => by
    obtain ⟨dL, hm, hn1⟩ := List.any_eq_true.mp hrec
    have hn2 : dL.name = ("_refuse_wrong" : Str) := beq_iff_eq.mp hn1
    obtain ⟨a', o', fd', c', P', h1, h2, h3, h4, h5, h6⟩ := G.T.tab dL hm
    rw [hn2, k0] at h1
    cases h1
    have g1 := KX _ _ k1
    rw [g1] at h2
    cases h2
    rw [k2] at h3
    cases h3
    rw [k3] at h4
    cases h4
    obtain ⟨⟨oc, vc, e1, _, e3, e4⟩, hP⟩ := h6
    have g2 := KX _ _ k4
    rw [g2] at e1
    cases e1
    cases e3
    rw [k5] at e4
    cases e4
    exact hP
  obtain ⟨fd, cs, sp, hT, nT, C, hb, hsp, hF⟩ := F w mg fa _ KX G.T.g hmg own
  exact LamX.law_callTs KX G.T.g G.T.b G.T.builtins G.T.nolimit hg hT nT C G.T.bmain hobj hints (Nat.le_trans hlen (by decide)) hr hF hb (fun H hH hS => hsp H a ns hlen hbits hH hS) fun H e s' z => z.elim
theorem all_mk {l : PySem.W.OpenLaw} {w : World} {K : PySem.W.Frag} {h : Heap} {mg : Str → Option Value} {fa C_Floor f0 f1 f2 f3 f4 f5 f6 f7 f8 f9 f10 f11 f12 f13 f14 f100 f101 f102 f103 t0 t1 t2 t3 t4 c_refuse Pt  : Addr} (X : K.In h) (G : h.Ns mainGlobals mg) (hfa : mg "law" = some (.ref fa))
    (tabs : ∀ (fr c P : Addr) (o : Obj) (fd : FuncData) (e : Value) (dd : Option Addr) (vs : Array Value) (sl : Array (Option Value)), mg "_refuse_wrong" = some (.ref fr) → K.lookup fr = some o → o.data = .func fd → fd.code = .ref c → K.lookup c = some ⟨e, dd, .fields vs, sl⟩ → vs[11]? = some (.ref P) → h.get? P = some { cls := .none, data := .fields #[] })
    {od0 an0 od1 an1 od2 an2 od3 an3 od4 an4 od5 an5 od6 an6 od7 an7 od8 an8 od9 an9 od10 an10 od11 an11 od12 an12 od13 an13 od14 an14 od100 an100 od101 an101 od102 an102 od103 an103 ot0 ot1 ot2 ot3 ot4 dcr : Option Addr} {sl0 sl1 sl2 sl3 sl4 sl5 sl6 sl7 sl8 sl9 sl10 sl11 sl12 sl13 sl14 sl100 sl101 sl102 sl103 st0 st1 st2 st3 st4 scr : Array (Option Value)} {oc0 kV0 dc0 pm0 ct0 oc1 kV1 dc1 pm1 ct1 cd1 oc2 kV2 dc2 pm2 ct2 cd2 oc3 kV3 dc3 pm3 ct3 cd3 oc4 kV4 dc4 pm4 ct4 cd4 oc5 kV5 dc5 pm5 ct5 cd5 oc6 kV6 dc6 pm6 ct6 cd6 oc7 kV7 dc7 pm7 ct7 cd7 oc8 kV8 dc8 pm8 ct8 cd8 oc9 kV9 dc9 pm9 ct9 cd9 oc10 kV10 dc10 pm10 ct10 cd10 oc11 kV11 dc11 pm11 ct11 cd11 oc12 kV12 dc12 pm12 ct12 cd12 oc13 kV13 dc13 pm13 ct13 cd13 oc14 kV14 dc14 pm14 ct14 cd14 oc100 kV100 dc100 pm100 ct100 cd100 oc101 kV101 dc101 pm101 ct101 cd101 oc102 kV102 dc102 pm102 ct102 cd102 oc103 kV103 dc103 pm103 ct103 cd103 ecr : Value} {vcr : Array Value} {nt0 nt1 nt2 nt3 nt4 : Nat} {ua1 ub1 uc1 ua2 ub2 uc2 ua3 ub3 uc3 ua4 ub4 uc4 u_MOST u_PILLAR u_SIGNS : Tok} 
    (aC_Floor : PySem.W.nsIn K mainGlobals "Floor" = some (some (.ref C_Floor)))
    (a0 : PySem.W.nsIn K mainGlobals "_refuse_wrong" = some (some (.ref f0)))
    (l0 : K.lookup f0 = some ⟨oc0, od0, .func (PySem.W.fnOf "_refuse_wrong" "_refuse_wrong" (defArgs s_refuse_wrong) (defBody s_refuse_wrong) (defScope s_refuse_wrong) .none kV0 dc0 pm0 an0 (.ref c_refuse) ct0), sl0⟩)
    (c0 : PySem.W.codeIn K (.ref c_refuse) "_refuse_wrong" = true)
    (k0 : PySem.W.keepIn K (.ref f0) = true)
    (a1 : PySem.W.nsIn K mainGlobals "_sign_at" = some (some (.ref f1)))
    (l1 : K.lookup f1 = some ⟨oc1, od1, .func (PySem.W.fnOf "_sign_at" "_sign_at" (defArgs s_sign_at) (defBody s_sign_at) (defScope s_sign_at) .none kV1 dc1 pm1 an1 cd1 ct1), sl1⟩)
    (c1 : PySem.W.codeIn K cd1 "_sign_at" = true)
    (k1 : PySem.W.keepIn K (.ref f1) = true)
    (a2 : PySem.W.nsIn K mainGlobals "_neighbours" = some (some (.ref f2)))
    (l2 : K.lookup f2 = some ⟨oc2, od2, .func (PySem.W.fnOf "_neighbours" "_neighbours" (defArgs s_neighbours) (defBody s_neighbours) (defScope s_neighbours) .none kV2 dc2 pm2 an2 cd2 ct2), sl2⟩)
    (c2 : PySem.W.codeIn K cd2 "_neighbours" = true)
    (k2 : PySem.W.keepIn K (.ref f2) = true)
    (a3 : PySem.W.nsIn K mainGlobals "_neighbours_of_cells" = some (some (.ref f3)))
    (l3 : K.lookup f3 = some ⟨oc3, od3, .func (PySem.W.fnOf "_neighbours_of_cells" "_neighbours_of_cells" (defArgs s_neighbours_of_cells) (defBody s_neighbours_of_cells) (defScope s_neighbours_of_cells) .none kV3 dc3 pm3 an3 cd3 ct3), sl3⟩)
    (c3 : PySem.W.codeIn K cd3 "_neighbours_of_cells" = true)
    (k3 : PySem.W.keepIn K (.ref f3) = true)
    (a4 : PySem.W.nsIn K mainGlobals "_law_cell_at" = some (some (.ref f4)))
    (l4 : K.lookup f4 = some ⟨oc4, od4, .func (PySem.W.fnOf "_law_cell_at" "_law_cell_at" (defArgs s_law_cell_at) (defBody s_law_cell_at) (defScope s_law_cell_at) .none kV4 dc4 pm4 an4 cd4 ct4), sl4⟩)
    (c4 : PySem.W.codeIn K cd4 "_law_cell_at" = true)
    (k4 : PySem.W.keepIn K (.ref f4) = true)
    (a5 : PySem.W.nsIn K mainGlobals "_law_number" = some (some (.ref f5)))
    (l5 : K.lookup f5 = some ⟨oc5, od5, .func (PySem.W.fnOf "_law_number" "_law_number" (defArgs s_law_number) (defBody s_law_number) (defScope s_law_number) .none kV5 dc5 pm5 an5 cd5 ct5), sl5⟩)
    (c5 : PySem.W.codeIn K cd5 "_law_number" = true)
    (k5 : PySem.W.keepIn K (.ref f5) = true)
    (a6 : PySem.W.nsIn K mainGlobals "_law_rows" = some (some (.ref f6)))
    (l6 : K.lookup f6 = some ⟨oc6, od6, .func (PySem.W.fnOf "_law_rows" "_law_rows" (defArgs s_law_rows) (defBody s_law_rows) (defScope s_law_rows) .none kV6 dc6 pm6 an6 cd6 ct6), sl6⟩)
    (c6 : PySem.W.codeIn K cd6 "_law_rows" = true)
    (k6 : PySem.W.keepIn K (.ref f6) = true)
    (a7 : PySem.W.nsIn K mainGlobals "_law_may" = some (some (.ref f7)))
    (l7 : K.lookup f7 = some ⟨oc7, od7, .func (PySem.W.fnOf "_law_may" "_law_may" (defArgs s_law_may) (defBody s_law_may) (defScope s_law_may) .none kV7 dc7 pm7 an7 cd7 ct7), sl7⟩)
    (c7 : PySem.W.codeIn K cd7 "_law_may" = true)
    (k7 : PySem.W.keepIn K (.ref f7) = true)
    (a8 : PySem.W.nsIn K mainGlobals "_law_cells" = some (some (.ref f8)))
    (l8 : K.lookup f8 = some ⟨oc8, od8, .func (PySem.W.fnOf "_law_cells" "_law_cells" (defArgs s_law_cells) (defBody s_law_cells) (defScope s_law_cells) .none kV8 dc8 pm8 an8 cd8 ct8), sl8⟩)
    (c8 : PySem.W.codeIn K cd8 "_law_cells" = true)
    (k8 : PySem.W.keepIn K (.ref f8) = true)
    (a9 : PySem.W.nsIn K mainGlobals "_law_whole" = some (some (.ref f9)))
    (l9 : K.lookup f9 = some ⟨oc9, od9, .func (PySem.W.fnOf "_law_whole" "_law_whole" (defArgs s_law_whole) (defBody s_law_whole) (defScope s_law_whole) .none kV9 dc9 pm9 an9 cd9 ct9), sl9⟩)
    (c9 : PySem.W.codeIn K cd9 "_law_whole" = true)
    (k9 : PySem.W.keepIn K (.ref f9) = true)
    (a10 : PySem.W.nsIn K mainGlobals "_law_listed" = some (some (.ref f10)))
    (l10 : K.lookup f10 = some ⟨oc10, od10, .func (PySem.W.fnOf "_law_listed" "_law_listed" (defArgs s_law_listed) (defBody s_law_listed) (defScope s_law_listed) .none kV10 dc10 pm10 an10 cd10 ct10), sl10⟩)
    (c10 : PySem.W.codeIn K cd10 "_law_listed" = true)
    (k10 : PySem.W.keepIn K (.ref f10) = true)
    (a11 : PySem.W.nsIn K mainGlobals "_law_truth" = some (some (.ref f11)))
    (l11 : K.lookup f11 = some ⟨oc11, od11, .func (PySem.W.fnOf "_law_truth" "_law_truth" (defArgs s_law_truth) (defBody s_law_truth) (defScope s_law_truth) .none kV11 dc11 pm11 an11 cd11 ct11), sl11⟩)
    (c11 : PySem.W.codeIn K cd11 "_law_truth" = true)
    (k11 : PySem.W.keepIn K (.ref f11) = true)
    (a12 : PySem.W.nsIn K mainGlobals "_law_two" = some (some (.ref f12)))
    (l12 : K.lookup f12 = some ⟨oc12, od12, .func (PySem.W.fnOf "_law_two" "_law_two" (defArgs s_law_two) (defBody s_law_two) (defScope s_law_two) .none kV12 dc12 pm12 an12 cd12 ct12), sl12⟩)
    (c12 : PySem.W.codeIn K cd12 "_law_two" = true)
    (k12 : PySem.W.keepIn K (.ref f12) = true)
    (a13 : PySem.W.nsIn K mainGlobals "_law_asked" = some (some (.ref f13)))
    (l13 : K.lookup f13 = some ⟨oc13, od13, .func (PySem.W.fnOf "_law_asked" "_law_asked" (defArgs s_law_asked) (defBody s_law_asked) (defScope s_law_asked) .none kV13 dc13 pm13 an13 cd13 ct13), sl13⟩)
    (c13 : PySem.W.codeIn K cd13 "_law_asked" = true)
    (k13 : PySem.W.keepIn K (.ref f13) = true)
    (a14 : PySem.W.nsIn K mainGlobals "law" = some (some (.ref f14)))
    (l14 : K.lookup f14 = some ⟨oc14, od14, .func (PySem.W.fnOf "law" "law" (defArgs slaw) (defBody slaw) (defScope slaw) .none kV14 dc14 pm14 an14 cd14 ct14), sl14⟩)
    (c14 : PySem.W.codeIn K cd14 "law" = true)
    (k14 : PySem.W.keepIn K (.ref f14) = true)
    (a100 : PySem.W.findIn K (.ref C_Floor) "__init__" = some (some (.ref f100)))
    (i100 : PySem.W.isFn K (.ref f100) = true)
    (l100 : K.lookup f100 = some ⟨oc100, od100, .func (PySem.W.fnOf "__init__" "Floor.__init__" (defArgs sFloor___init__) (defBody sFloor___init__) (defScope sFloor___init__) .none kV100 dc100 pm100 an100 cd100 ct100), sl100⟩)
    (c100 : PySem.W.codeIn K cd100 "Floor.__init__" = true)
    (k100 : PySem.W.keepIn K (.ref f100) = true)
    (a101 : PySem.W.findIn K (.ref C_Floor) "cells" = some (some (.ref f101)))
    (i101 : PySem.W.isFn K (.ref f101) = true)
    (l101 : K.lookup f101 = some ⟨oc101, od101, .func (PySem.W.fnOf "cells" "Floor.cells" (defArgs sFloor_cells) (defBody sFloor_cells) (defScope sFloor_cells) .none kV101 dc101 pm101 an101 cd101 ct101), sl101⟩)
    (c101 : PySem.W.codeIn K cd101 "Floor.cells" = true)
    (k101 : PySem.W.keepIn K (.ref f101) = true)
    (a102 : PySem.W.findIn K (.ref C_Floor) "has" = some (some (.ref f102)))
    (i102 : PySem.W.isFn K (.ref f102) = true)
    (l102 : K.lookup f102 = some ⟨oc102, od102, .func (PySem.W.fnOf "has" "Floor.has" (defArgs sFloor_has) (defBody sFloor_has) (defScope sFloor_has) .none kV102 dc102 pm102 an102 cd102 ct102), sl102⟩)
    (c102 : PySem.W.codeIn K cd102 "Floor.has" = true)
    (k102 : PySem.W.keepIn K (.ref f102) = true)
    (a103 : PySem.W.findIn K (.ref C_Floor) "may" = some (some (.ref f103)))
    (i103 : PySem.W.isFn K (.ref f103) = true)
    (l103 : K.lookup f103 = some ⟨oc103, od103, .func (PySem.W.fnOf "may" "Floor.may" (defArgs sFloor_may) (defBody sFloor_may) (defScope sFloor_may) .none kV103 dc103 pm103 an103 cd103 ct103), sl103⟩)
    (c103 : PySem.W.codeIn K cd103 "Floor.may" = true)
    (k103 : PySem.W.keepIn K (.ref f103) = true)
    (pg_Floor : PySem.W.plainGet K C_Floor Str.empty = true)
    (hd_Floor : PySem.W.hasDictIn K C_Floor = true)
    (po_Floor : PySem.W.plainOver K C_Floor = true)
    (sa_Floor : PySem.W.findIn K (.ref C_Floor) "__setattr__" = some (some (.builtin "object.__setattr__")))
    (mk_Floor : PySem.W.makesIn K C_Floor = true)
    (kc_Floor : PySem.W.keepIn K (.ref C_Floor) = true)
    (n_Floor_rows : PySem.W.findIn K (.ref C_Floor) "rows" = some none)
    (n_Floor_high : PySem.W.findIn K (.ref C_Floor) "high" = some none)
    (n_Floor_wide : PySem.W.findIn K (.ref C_Floor) "wide" = some none)
    (n_Floor_neighbours : PySem.W.findIn K (.ref C_Floor) "_neighbours" = some none)
    (n_Floor_signs : PySem.W.findIn K (.ref C_Floor) "_signs" = some none)
    (z_len : PySem.W.nsIn K mainGlobals "len" = some none)
    (z_any : PySem.W.nsIn K mainGlobals "any" = some none)
    (z_range : PySem.W.nsIn K mainGlobals "range" = some none)
    (z_list : PySem.W.nsIn K mainGlobals "list" = some none)
    (z_tuple : PySem.W.nsIn K mainGlobals "tuple" = some none)
    (z_abs : PySem.W.nsIn K mainGlobals "abs" = some none)
    (z_isinstance : PySem.W.nsIn K mainGlobals "isinstance" = some none)
    (z_int : PySem.W.nsIn K mainGlobals "int" = some none)
    (z_bool : PySem.W.nsIn K mainGlobals "bool" = some none)
    (q_MOST : PySem.W.nsIn K mainGlobals "MOST" = some (some (.int 12 u_MOST)))
    (q_PILLAR : PySem.W.nsIn K mainGlobals "PILLAR" = some (some (.str "#" u_PILLAR)))
    (q_SIGNS : PySem.W.nsIn K mainGlobals "SIGNS" = some (some (.str ".-|#" u_SIGNS)))
    (q_STEPS : PySem.W.nsIn K mainGlobals "STEPS" = some (some (.ref t0)))
    (lt0 : K.lookup t0 = some ⟨.type "tuple", ot0, .seq #[.ref t1, .ref t2, .ref t3, .ref t4] nt0, st0⟩)
    (lt1 : K.lookup t1 = some ⟨.type "tuple", ot1, .seq #[.int (-1) ua1, .int (0) ub1, .str ".|" uc1] nt1, st1⟩)
    (lt2 : K.lookup t2 = some ⟨.type "tuple", ot2, .seq #[.int (0) ua2, .int (-1) ub2, .str ".-" uc2] nt2, st2⟩)
    (lt3 : K.lookup t3 = some ⟨.type "tuple", ot3, .seq #[.int (0) ua3, .int (1) ub3, .str ".-" uc3] nt3, st3⟩)
    (lt4 : K.lookup t4 = some ⟨.type "tuple", ot4, .seq #[.int (1) ua4, .int (0) ub4, .str ".|" uc4] nt4, st4⟩)
    (lcr : K.lookup c_refuse = some ⟨ecr, dcr, .fields vcr, scr⟩)
    (v11 : vcr[11]? = some (.ref Pt))
    (nPt : K.lookup Pt = none)
    (hdc : PySem.W.codeHdIn K c_refuse Pt = true) :
    LamX.LawAtS l w K CX0 6 63 "_law_script" mg fa h := by
  have e := hfa.symm.trans (PySem.W.mg_of X G a14)
  cases e
  have F0 : FunC K "_refuse_wrong" "_refuse_wrong" s_refuse_wrong f0 _ c_refuse := ⟨⟨_, _, _, _, _, _, _, _, rfl, l0, c0⟩, k0⟩
  have b0 := (fun_mk (st := s_refuse_wrong) l0 c0 k0).binds (ps := ["rows"]) fun _ _ _ _ _ _ us hl => match us, hl with | [_], _ => rfl
  have g0 : mg "_refuse_wrong" = some (.ref f0) := PySem.W.mg_of X G a0
  have F1 := fun_mk (st := s_sign_at) l1 c1 k1
  have b1 := F1.binds (ps := ["rows", "row", "column"]) fun _ _ _ _ _ _ us hl => match us, hl with | [_, _, _], _ => rfl
  have g1 : mg "_sign_at" = some (.ref f1) := PySem.W.mg_of X G a1
  have F2 := fun_mk (st := s_neighbours) l2 c2 k2
  have b2 := F2.binds (ps := ["rows", "row", "column"]) fun _ _ _ _ _ _ us hl => match us, hl with | [_, _, _], _ => rfl
  have g2 : mg "_neighbours" = some (.ref f2) := PySem.W.mg_of X G a2
  have F3 := fun_mk (st := s_neighbours_of_cells) l3 c3 k3
  have b3 := F3.binds (ps := ["rows", "wide"]) fun _ _ _ _ _ _ us hl => match us, hl with | [_, _], _ => rfl
  have g3 : mg "_neighbours_of_cells" = some (.ref f3) := PySem.W.mg_of X G a3
  have F4 := fun_mk (st := s_law_cell_at) l4 c4 k4
  have b4 := F4.binds (ps := ["_law_script", "_law_k"]) fun _ _ _ _ _ _ us hl => match us, hl with | [_, _], _ => rfl
  have g4 : mg "_law_cell_at" = some (.ref f4) := PySem.W.mg_of X G a4
  have F5 := fun_mk (st := s_law_number) l5 c5 k5
  have b5 := F5.binds (ps := ["_law_script", "_law_k"]) fun _ _ _ _ _ _ us hl => match us, hl with | [_, _], _ => rfl
  have g5 : mg "_law_number" = some (.ref f5) := PySem.W.mg_of X G a5
  have F6 := fun_mk (st := s_law_rows) l6 c6 k6
  have b6 := F6.binds (ps := ["_law_script"]) fun _ _ _ _ _ _ us hl => match us, hl with | [_], _ => rfl
  have g6 : mg "_law_rows" = some (.ref f6) := PySem.W.mg_of X G a6
  have F7 := fun_mk (st := s_law_may) l7 c7 k7
  have b7 := F7.binds (ps := ["_law_rows_here", "_law_one", "_law_other"]) fun _ _ _ _ _ _ us hl => match us, hl with | [_, _, _], _ => rfl
  have g7 : mg "_law_may" = some (.ref f7) := PySem.W.mg_of X G a7
  have F8 := fun_mk (st := s_law_cells) l8 c8 k8
  have b8 := F8.binds (ps := ["_law_rows_here"]) fun _ _ _ _ _ _ us hl => match us, hl with | [_], _ => rfl
  have g8 : mg "_law_cells" = some (.ref f8) := PySem.W.mg_of X G a8
  have F9 := fun_mk (st := s_law_whole) l9 c9 k9
  have b9 := F9.binds (ps := ["_law_found"]) fun _ _ _ _ _ _ us hl => match us, hl with | [_], _ => rfl
  have g9 : mg "_law_whole" = some (.ref f9) := PySem.W.mg_of X G a9
  have F10 := fun_mk (st := s_law_listed) l10 c10 k10
  have b10 := F10.binds (ps := ["_law_found", "_law_due"]) fun _ _ _ _ _ _ us hl => match us, hl with | [_, _], _ => rfl
  have g10 : mg "_law_listed" = some (.ref f10) := PySem.W.mg_of X G a10
  have F11 := fun_mk (st := s_law_truth) l11 c11 k11
  have b11 := F11.binds (ps := ["_law_found", "_law_due"]) fun _ _ _ _ _ _ us hl => match us, hl with | [_, _], _ => rfl
  have g11 : mg "_law_truth" = some (.ref f11) := PySem.W.mg_of X G a11
  have F12 := fun_mk (st := s_law_two) l12 c12 k12
  have b12 := F12.binds (ps := ["_law_script", "_law_k", "_law_wide", "_law_total"]) fun _ _ _ _ _ _ us hl => match us, hl with | [_, _, _, _], _ => rfl
  have g12 : mg "_law_two" = some (.ref f12) := PySem.W.mg_of X G a12
  have F13 := fun_mk (st := s_law_asked) l13 c13 k13
  have b13 := F13.binds (ps := ["_law_floor", "_law_rows_here", "_law_cells_here", "_law_one", "_law_other"]) fun _ _ _ _ _ _ us hl => match us, hl with | [_, _, _, _, _], _ => rfl
  have g13 : mg "_law_asked" = some (.ref f13) := PySem.W.mg_of X G a13
  have F14 := fun_mk (st := slaw) l14 c14 k14
  have F100 := fun_mk (st := sFloor___init__) l100 c100 k100
  have b100 := F100.binds (ps := ["self", "rows"]) fun _ _ _ _ _ _ us hl => match us, hl with | [_, _], _ => rfl
  have M100 : Meth K C_Floor "__init__" f100 := ⟨a100, i100, k100⟩
  have F101 := fun_mk (st := sFloor_cells) l101 c101 k101
  have b101 := F101.binds (ps := ["self"]) fun _ _ _ _ _ _ us hl => match us, hl with | [_], _ => rfl
  have M101 : Meth K C_Floor "cells" f101 := ⟨a101, i101, k101⟩
  have F102 := fun_mk (st := sFloor_has) l102 c102 k102
  have b102 := F102.binds (ps := ["self", "place"]) fun _ _ _ _ _ _ us hl => match us, hl with | [_, _], _ => rfl
  have M102 : Meth K C_Floor "has" f102 := ⟨a102, i102, k102⟩
  have F103 := fun_mk (st := sFloor_may) l103 c103 k103
  have b103 := F103.binds (ps := ["self", "one", "other"]) fun _ _ _ _ _ _ us hl => match us, hl with | [_, _, _], _ => rfl
  have M103 : Meth K C_Floor "may" f103 := ⟨a103, i103, k103⟩
  have zlen : mg "len" = none := PySem.W.mg_none_of X G z_len
  have zany : mg "any" = none := PySem.W.mg_none_of X G z_any
  have zrange : mg "range" = none := PySem.W.mg_none_of X G z_range
  have zlist : mg "list" = none := PySem.W.mg_none_of X G z_list
  have ztuple : mg "tuple" = none := PySem.W.mg_none_of X G z_tuple
  have zabs : mg "abs" = none := PySem.W.mg_none_of X G z_abs
  have zisinstance : mg "isinstance" = none := PySem.W.mg_none_of X G z_isinstance
  have zint : mg "int" = none := PySem.W.mg_none_of X G z_int
  have zbool : mg "bool" = none := PySem.W.mg_none_of X G z_bool
  have mMOST : mg "MOST" = some (.int 12 u_MOST) := PySem.W.mg_of X G q_MOST
  have mPILLAR : mg "PILLAR" = some (.str "#" u_PILLAR) := PySem.W.mg_of X G q_PILLAR
  have mSIGNS : mg "SIGNS" = some (.str ".-|#" u_SIGNS) := PySem.W.mg_of X G q_SIGNS
  have mSTEPS : mg "STEPS" = some (.ref t0) := PySem.W.mg_of X G q_STEPS
  have hsz : ∀ n : Nat, n ≤ 4 → n ≤ sizeLine := fun n h => Nat.le_trans h (by decide)
  have TS : StepsAt K t0 := by
    refine ⟨[t1, t2, t3, t4], rfl, fun H => .inr ⟨_, _, _, lt0, rfl, rfl, hsz 4 (by decide), .cons rfl (.cons rfl (.cons rfl (.cons rfl .nil)))⟩, fun i t p ht hp H => ?_⟩
    match i, ht, hp with
    | 0, ht, hp =>
      cases ht
      cases hp
      exact .inr ⟨_, _, _, lt1, rfl, rfl, hsz 3 (by decide), .cons ⟨_, rfl⟩ (.cons ⟨_, rfl⟩ (.cons ⟨_, rfl⟩ .nil))⟩
    | 1, ht, hp =>
      cases ht
      cases hp
      exact .inr ⟨_, _, _, lt2, rfl, rfl, hsz 3 (by decide), .cons ⟨_, rfl⟩ (.cons ⟨_, rfl⟩ (.cons ⟨_, rfl⟩ .nil))⟩
    | 2, ht, hp =>
      cases ht
      cases hp
      exact .inr ⟨_, _, _, lt3, rfl, rfl, hsz 3 (by decide), .cons ⟨_, rfl⟩ (.cons ⟨_, rfl⟩ (.cons ⟨_, rfl⟩ .nil))⟩
    | 3, ht, hp =>
      cases ht
      cases hp
      exact .inr ⟨_, _, _, lt4, rfl, rfl, hsz 3 (by decide), .cons ⟨_, rfl⟩ (.cons ⟨_, rfl⟩ (.cons ⟨_, rfl⟩ .nil))⟩
    | i + 4, ht, hp => simp at ht
  refine ⟨PySem.W.fnOf "law" "law" (defArgs slaw) (defBody slaw) (defScope slaw) .none kV14 dc14 pm14 an14 cd14 ct14, [(c_refuse, Pt)], spLaw K Pt, fun p hp => ?_, fun p hp => ?_, fun p hp => ?_, fun s v => .of_eq rfl, fun H a ns hl _ hT hS => ⟨a, ns, rfl, hS, hl, ⟨#[], hT _ List.mem_cons_self, tri0⟩, fun _ => rfl⟩, fun base _ _ TBs => ?_⟩
  · rw [List.mem_singleton.mp hp]
    exact tabs f0 c_refuse Pt _ _ _ _ _ _ g0 l0 rfl rfl lcr v11
  · rw [List.mem_singleton.mp hp]
    exact nPt
  · rw [List.mem_singleton.mp hp]
    exact PySem.W.codeHd_of_K X hdc
  · have TB : GxR.TabB base mg c_refuse Pt := by
      have q := TBs (c_refuse, Pt) List.mem_cons_self
      exact ⟨q.code, q.bm, q.gP⟩
    have T : FTxt K mg C_Floor := ⟨⟨pg_Floor, hd_Floor, po_Floor, sa_Floor⟩, n_Floor_rows, n_Floor_high, n_Floor_wide, n_Floor_neighbours, n_Floor_signs, PySem.W.mg_of X G aC_Floor⟩
    have MkF : Mk K C_Floor f100 := ⟨mk_Floor, a100, i100, kc_Floor⟩
    have G_ref := ok_refuse (P := l.prog) (w := w) F0 TB zlen zany mMOST mSIGNS
    have G_sig := ok_signAt (P := l.prog) (w := w) (base := base) F1 zlen mPILLAR
    have G_nbs := ok_nbs F2 G_sig g1 k1 b1 zlen mSTEPS TS
    have G_tab := ok_table F3 G_nbs g2 k2 b2 zlen zrange mPILLAR
    have G_ini := ok_init F100 T G_ref g0 k0 b0 G_tab g3 k3 b3 zlen zlist ztuple
    have G_cel := ok_cells (P := l.prog) (w := w) (base := base) F101 T zlist
    have G_has := ok_has (P := l.prog) (w := w) (base := base) F102 T
    have G_may := ok_may F103 T G_has M102 b102
    have G_cat := ok_cell (P := l.prog) (w := w) (base := base) F4 zlen
    have G_num := ok_number (P := l.prog) (w := w) (base := base) F5 zlen
    have G_row := ok_rows F6 G_cat g4 k4 b4 G_num g5 k5 b5 zlen zrange
    have G_lma := ok_lmay (P := l.prog) (w := w) (base := base) F7 zlen zabs
    have G_lce := ok_lcells (P := l.prog) (w := w) (base := base) F8 zlen zrange
    have G_who := ok_whole (P := l.prog) (w := w) (mg := mg) (base := base) F9 zisinstance zint zbool
    have G_lis := ok_listed F10 G_who g9 k9 b9 zisinstance zlist zlen
    have G_tru := ok_truth (P := l.prog) (w := w) (mg := mg) (base := base) F11
    have G_two := ok_two F12 G_cat g4 k4 b4 G_num g5 k5 b5
    have G_ask := ok_asked F13 T G_lma g7 k7 b7 G_tru g11 k11 b11 G_may M103 b103 G_has M102 b102
    exact ok_law F14 T MkF G_row g6 k6 b6 G_ini b100 G_lce g8 k8 b8 G_two g12 k12 b12 G_ask g13 k13 b13 G_lis g10 k10 b10 G_cel M101 b101 zlen zlist zrange zisinstance mMOST
end Sf
open PySem PySem.W PyProof.Rows
set_option maxRecDepth 100000 in
set_option maxHeartbeats 0 in
theorem PySem.Challenge.cw_slabfloor_k01_slabs_that_may_holds : PySem.Challenge.rw_slabfloor_k01_slabs_that_may.Holds := by
  w_on; o_law; k_head; (case hw => w_witness2)
  k_fill
  refine Sf.walk (l := PySem.Challenge.rw_slabfloor_k01_slabs_that_may) (k := 6) rfl rfl ⟨rfl, by decide, by decide⟩ ?R (fun w h Y => PySem.W.kIn_of Y) ?F
  case R => kernel_rfl
  case F =>
    intro w mg fa h KX G hmg tabs
    refine' Sf.all_mk KX G hmg tabs ?aC_Floor ?a0 ?l0 ?c0 ?k0 ?a1 ?l1 ?c1 ?k1 ?a2 ?l2 ?c2 ?k2 ?a3 ?l3 ?c3 ?k3 ?a4 ?l4 ?c4 ?k4 ?a5 ?l5 ?c5 ?k5 ?a6 ?l6 ?c6 ?k6 ?a7 ?l7 ?c7 ?k7 ?a8 ?l8 ?c8 ?k8 ?a9 ?l9 ?c9 ?k9 ?a10 ?l10 ?c10 ?k10 ?a11 ?l11 ?c11 ?k11 ?a12 ?l12 ?c12 ?k12 ?a13 ?l13 ?c13 ?k13 ?a14 ?l14 ?c14 ?k14 ?a100 ?i100 ?l100 ?c100 ?k100 ?a101 ?i101 ?l101 ?c101 ?k101 ?a102 ?i102 ?l102 ?c102 ?k102 ?a103 ?i103 ?l103 ?c103 ?k103 ?pg_Floor ?hd_Floor ?po_Floor ?sa_Floor ?mk_Floor ?kc_Floor ?n_Floor_rows ?n_Floor_high ?n_Floor_wide ?n_Floor_neighbours ?n_Floor_signs ?z_len ?z_any ?z_range ?z_list ?z_tuple ?z_abs ?z_isinstance ?z_int ?z_bool ?q_MOST ?q_PILLAR ?q_SIGNS ?q_STEPS ?lt0 ?lt1 ?lt2 ?lt3 ?lt4 ?lcr ?v11 ?nPt ?hdc
    (case aC_Floor => k_is)
    (case a0 => k_is)
    (case l0 => k_is)
    (case c0 => k_is)
    (case k0 => k_is)
    (case a1 => k_is)
    (case l1 => k_is)
    (case c1 => k_is)
    (case k1 => k_is)
    (case a2 => k_is)
    (case l2 => k_is)
    (case c2 => k_is)
    (case k2 => k_is)
    (case a3 => k_is)
    (case l3 => k_is)
    (case c3 => k_is)
    (case k3 => k_is)
    (case a4 => k_is)
    (case l4 => k_is)
    (case c4 => k_is)
    (case k4 => k_is)
    (case a5 => k_is)
    (case l5 => k_is)
    (case c5 => k_is)
    (case k5 => k_is)
    (case a6 => k_is)
    (case l6 => k_is)
    (case c6 => k_is)
    (case k6 => k_is)
    (case a7 => k_is)
    (case l7 => k_is)
    (case c7 => k_is)
    (case k7 => k_is)
    (case a8 => k_is)
    (case l8 => k_is)
    (case c8 => k_is)
    (case k8 => k_is)
    (case a9 => k_is)
    (case l9 => k_is)
    (case c9 => k_is)
    (case k9 => k_is)
    (case a10 => k_is)
    (case l10 => k_is)
    (case c10 => k_is)
    (case k10 => k_is)
    (case a11 => k_is)
    (case l11 => k_is)
    (case c11 => k_is)
    (case k11 => k_is)
    (case a12 => k_is)
    (case l12 => k_is)
    (case c12 => k_is)
    (case k12 => k_is)
    (case a13 => k_is)
    (case l13 => k_is)
    (case c13 => k_is)
    (case k13 => k_is)
    (case a14 => k_is)
    (case l14 => k_is)
    (case c14 => k_is)
    (case k14 => k_is)
    (case a100 => k_is)
    (case i100 => k_is)
    (case l100 => k_is)
    (case c100 => k_is)
    (case k100 => k_is)
    (case a101 => k_is)
    (case i101 => k_is)
    (case l101 => k_is)
    (case c101 => k_is)
    (case k101 => k_is)
    (case a102 => k_is)
    (case i102 => k_is)
    (case l102 => k_is)
    (case c102 => k_is)
    (case k102 => k_is)
    (case a103 => k_is)
    (case i103 => k_is)
    (case l103 => k_is)
    (case c103 => k_is)
    (case k103 => k_is)
    (case pg_Floor => k_is)
    (case hd_Floor => k_is)
    (case po_Floor => k_is)
    (case sa_Floor => k_is)
    (case mk_Floor => k_is)
    (case kc_Floor => k_is)
    (case n_Floor_rows => k_is)
    (case n_Floor_high => k_is)
    (case n_Floor_wide => k_is)
    (case n_Floor_neighbours => k_is)
    (case n_Floor_signs => k_is)
    (case z_len => k_is)
    (case z_any => k_is)
    (case z_range => k_is)
    (case z_list => k_is)
    (case z_tuple => k_is)
    (case z_abs => k_is)
    (case z_isinstance => k_is)
    (case z_int => k_is)
    (case z_bool => k_is)
    (case q_MOST => k_is)
    (case q_PILLAR => k_is)
    (case q_SIGNS => k_is)
    (case q_STEPS => k_is)
    (case lt0 => k_is)
    (case lt1 => k_is)
    (case lt2 => k_is)
    (case lt3 => k_is)
    (case lt4 => k_is)
    (case lcr => k_is)
    (case v11 => rfl)
    (case nPt => first | kernel_rfl | with_unfolding_all rfl)
    (case hdc => first | kernel_rfl | with_unfolding_all rfl)
#print axioms PySem.Challenge.cw_slabfloor_k01_slabs_that_may_holds
