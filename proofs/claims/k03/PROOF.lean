import PyProof.Rows.All
import Wide.All
import OpenK.AllK
import Wide.FinOn
import PyProof.EqAt
import PyProof.EqKinds
import PyProof.TupleCall
import KE.KNest
import HandS.ForMost
import HandS.AnyAll
import HandS.GenOver
import PyProof.JoinWalk
import HandS.JoinGen
import PyProof.StrLawsIn
import HandS.Exc
import HandS.ExcOwn
import HandS.ExcIs
import HandS.HotCalls
import HandS.SetFor
import HandS.TryMany
import HandS.Conv
import HandS.IsInst
import HandS.Style
import HandS.Defaults
import PySem.Challenge.RW_slabfloor_k03_rows_refused
import HandS.Codes
import HandS.More
import HandS.WordsExc
import HandS.RaiseMore
import HandS.FStr
import HandS.Iter
import PyProof.Rows.StrJoinRep
import HandS.Text
import HandS.EndOwn
set_option Elab.async false
set_option linter.all false
set_option maxRecDepth 100000
set_option maxHeartbeats 2000000
/-! A generator expression of two clauses (for x in ..: for y in x), walked by any. -/
namespace Gx2
open PySem PySem.Spec PyProof.Rows L2
open Sem (wp)

theorem eval_gen2 (elt target iter : Expr) (g2 : Comprehension) (scope : Scope) (pos : Pos) (env : Env) (hco : scope.isCoroutine = false) :
    eval (.GeneratorExp elt [⟨target, iter, [], 0⟩, g2] scope pos) env = (do
      let x ← eval iter env
      standAt iter.pos
      let x ← genFold iter env x
      let it ← holding [x] (pyIter x)
      enterFrame
      let cl ← closureFor scope env
      let code ← genexprCode env pos (env.qual ++ "<genexpr>") scope
      let bi ← builtinsFor env.globals env.builtins
      let cenv ← newFunctionEnv scope env.globals cl [(".0", it)] (env.qual ++ "<genexpr>.") none code none bi
      newGenerator (.compStart (.GeneratorExp elt [⟨target, iter, [], 0⟩, g2] scope pos) 0 it .none cenv) "<genexpr>" (env.qual ++ "<genexpr>")) := by
  rw [arm_eval_GeneratorExp]
  simp only [hco, Bool.false_eq_true, if_false]
  cases iter <;> rfl

theorem turn0 (elt t1 iter t2 : Expr) (y : Str) (py : Pos) (scope : Scope) (pos : Pos) (it acc : Value) (env : Env) :
    compTurn (.GeneratorExp elt [⟨t1, iter, [], 0⟩, ⟨t2, .Name y py, [], 0⟩] scope pos) 0 it acc env = (do
      standAt iter.pos
      match ← pyNext it with
      | none => pure (.done .next)
      | some v =>
        letOwnedTupleGo t1 it v
        assign t1 env v
        let x ← eval (.Name y py) env
        standAt py
        let J ← holding [x] (pyIter x)
        let _ ← runOwn (.compStart (.GeneratorExp elt [⟨t1, iter, [], 0⟩, ⟨t2, .Name y py, [], 0⟩] scope pos) 1 J acc env) env
        again (.compLoop (.GeneratorExp elt [⟨t1, iter, [], 0⟩, ⟨t2, .Name y py, [], 0⟩] scope pos) 0 it acc env)) := by
  rfl
theorem turn1 (elt t1 iter t2 iter2 : Expr) (scope : Scope) (pos : Pos) (it acc : Value) (env : Env) :
    compTurn (.GeneratorExp elt [⟨t1, iter, [], 0⟩, ⟨t2, iter2, [], 0⟩] scope pos) 1 it acc env = (do
      standAt iter2.pos
      match ← pyNext it with
      | none => pure (.done .next)
      | some v =>
        letOwnedTupleGo t2 it v
        assign t2 env v
        (do let v ← eval elt env; standAt elt.pos; let _ ← yieldOut env v)
        again (.compLoop (.GeneratorExp elt [⟨t1, iter, [], 0⟩, ⟨t2, iter2, [], 0⟩] scope pos) 1 it acc env)) := by
  rfl

/-- the generator's run since s₀: below B all but its frame and the iterator's own cells is kept -/
def Since (B : Nat) (C : Addr) (wr : List Addr) (s₀ s : Shared) : Prop :=
  ∃ h' tk, s = { s₀ with heap := h', toks := tk } ∧ ∀ b o, b < B → b ≠ C → b ∉ wr → s₀.heap.get? b = some o → h'.get? b = some o
theorem Since.refl (B : Nat) (C : Addr) (wr : List Addr) (s : Shared) : Since B C wr s s := ⟨s.heap, s.toks, rfl, fun _ _ _ _ _ e => e⟩
theorem Since.step {B : Nat} {C : Addr} {wr : List Addr} {s₀ s : Shared} (x : Since B C wr s₀ s) {h' : Heap} {tk : Nat} (hk : ∀ b o, b < B → b ≠ C → b ∉ wr → s.heap.get? b = some o → h'.get? b = some o) :
    Since B C wr s₀ { s with heap := h', toks := tk } := by
  obtain ⟨h₁, tk₁, rfl, hk₁⟩ := x
  exact ⟨h', tk, rfl, fun b o hB hC hw e => hk b o hB hC hw (hk₁ b o hB hC hw e)⟩
/-- what was there at the generator's making -/
def Kept (B : Nat) (C : Addr) (wr : List Addr) (href h : Heap) : Prop := ∀ b o, b < B → b ≠ C → b ∉ wr → href.get? b = some o → h.get? b = some o
theorem Kept.step {B : Nat} {C : Addr} {wr : List Addr} {href h h' : Heap} (x : Kept B C wr href h) (k : ∀ b o, b < B → b ≠ C → b ∉ wr → h.get? b = some o → h'.get? b = some o) : Kept B C wr href h' :=
  fun b o hB hC hw e => k b o hB hC hw (x b o hB hC hw e)
def proto (B : Nat) (C : Addr) (wr : List Addr) (N : Nat) (F : Nat → Value → Prop) : Protocol := fun m s₀ v s kap =>
  F (N - 1 - m) v ∧ Since B C wr s₀ s ∧ ∀ s'' : Shared, (∀ b o, s.heap.get? b = some o → s''.heap.get? b = some o) → kap (.send .none) s''
abbrev gend (B : Nat) (C : Addr) (wr : List Addr) : GenEnd := fun n s₀ r s₁ => r = .ok .next ∧ (n = 0 ∧ Since B C wr s₀ s₁)

abbrev gx (elt iter : Expr) (x y : Str) (px py qy : Pos) (scope : Scope) (pos : Pos) : Expr := .GeneratorExp elt [⟨.Name x px, iter, [], 0⟩, ⟨.Name y py, .Name x qy, [], 0⟩] scope pos
theorem lt_of_none {h : Heap} {J b : Addr} {o : Obj} (e : h.get? b = some o) (hj : h.objs.size ≤ J) : b ≠ J := fun z => by
  rw [z] at e
  exact absurd (Nat.lt_of_lt_of_le (Heap.lt_size e) hj) (Nat.lt_irrefl _)

section
variable {prog : Program} {w : World} {A : Around} {elt iter : Expr} {x y : Str} {px py qy : Pos} {scope : Scope} {pos : Pos} {cenv : Env} {B N : Nat} {wr fp : List Addr} {F : Nat → Value → Prop} {St₀ : Nat → Heap → Prop} {href : Heap} {pb : Nat → Bool}

theorem seg_inner {a : Str} {J : Addr} {St₁ : Nat → Heap → Prop} {i r : Nat} {kk : Result → Sem PySem.Fin} {c : Code} {p : Pos} {l : List Value} {ret_g : Bool}
    (hh : A.handled = none) (hg : ret_g = false) (hfr : ∀ (i : Nat) (h h' : Heap), St₀ i h → (∀ b ∈ fp, ∀ o, h.get? b = some o → h'.get? b = some o) → St₀ i h')
    (hfp : ∀ b ∈ fp, b < B) (hC : cenv.locals ∉ fp) (hCB : cenv.locals < B) (hwr : ∀ b ∈ wr, b < B) (hJ : B ≤ J)
    (W₁ : ∀ A' : Around, A'.handled = none → Walks prog w A' J [J] [J] a.cps.size (SignAt a) St₁)
    (hy : cenv.kindOf y = some .local) (hp : (cenv.scope.kind == .class || (cenv.scope.kind == .module && cenv.locals != cenv.globals)) = false) (hco : cenv.scope.isCoroutine = false)
    (hel : ∀ (A' : Around) (E' : Value → Shared → Prop) (c : Nat) (u : Tok) (s₂ : Shared) (m₂ : Str → Option Value), A'.handled = none → s₂.heap.Ns cenv.locals m₂ → m₂ y = some (.str ⟨#[c]⟩ u) → Kept B cenv.locals wr href s₂.heap →
      wpAny (model prog w) A' (eval elt cenv) (fun v s₃ => v = .bool (pb c) ∧ Keeps s₂ s₃) E' s₂)
    (hidx : ∀ j c, a.cps[j]? = some c → F (N - 1 - ((a.cps.size - (j + 1)) + r)) (.bool (pb c)))
    (hcont : ∀ (s₀ s : Shared) (m : Str → Option Value), St₀ i s.heap → s.heap.Ns cenv.locals m → Since B cenv.locals wr s₀ s → Kept B cenv.locals wr href s.heap →
      Seg (model prog w) A (gend B cenv.locals wr) (proto B cenv.locals wr N F) r s₀ c (kk (.ok .next)) [] s) :
    ∀ (k j : Nat) (s₀ s : Shared) (m : Str → Option Value), a.cps.size - j = k → j ≤ a.cps.size → St₁ j s.heap → St₀ i s.heap → s.heap.Ns cenv.locals m → Since B cenv.locals wr s₀ s → Kept B cenv.locals wr href s.heap →
      Seg (model prog w) A (gend B cenv.locals wr) (proto B cenv.locals wr N F) (k + r) s₀ (.compLoop (gx elt iter x y px py qy scope pos) 1 (.ref J) .none cenv)
        ((model prog w).den (.compLoop (gx elt iter x y px py qy scope pos) 1 (.ref J) .none cenv)) [.ret kk none ret_g l c p []] s := by
  have hh' : (A.over (.compLoop (gx elt iter x y px py qy scope pos) 1 (.ref J) .none cenv) [.ret kk none ret_g l c p []]).handled = none := hh
  have nJ : ∀ b, b < B → b ∉ [J] := fun b hb hm => by
    rw [List.mem_singleton.mp hm] at hb
    exact absurd (Nat.lt_of_lt_of_le hb hJ) (Nat.lt_irrefl _)
  have nCJ : cenv.locals ∉ [J] := nJ _ hCB
  intro k
  induction k with
  | zero =>
    intro j s₀ s m hk hj hst₁ hst hn hsince hkp
    have hjn : j = a.cps.size := by omega
    subst hjn
    show Seg _ A _ _ _ s₀ _ ((compTurn (gx elt iter x y px py qy scope pos) 1 (.ref J) .none cenv).onRaise (fun e => do noteFrame e cenv; theTreesLotGoes e)) _ s
    rw [turn1, Sem.onRaise_eq_wrap]
    refine seg_bind_wrap (wpAny_standAt ?_)
    refine seg_bind_wrap ((W₁ _ hh').done s _ _ hst₁ fun h' tk hk' => ?_)
    have k1 : ∀ b o, b < B → s.heap.get? b = some o → h'.get? b = some o := fun b o hb e => hk' b o (nJ b hb) e
    refine seg_leaf (.ok .next) ?_
    rw [Nat.zero_add]
    exact hcont s₀ _ m (hfr _ _ _ hst fun b hb o e => k1 b o (hfp b hb) e) (hn.at' fun o e => k1 _ o hCB e) (hsince.step fun b o hb _ _ e => k1 b o hb e) (hkp.step fun b o hb _ _ e => k1 b o hb e)
  | succ k ih =>
    intro j s₀ s m hk hj hst₁ hst hn hsince hkp
    have hlt : j < a.cps.size := by omega
    show Seg _ A _ _ _ s₀ _ ((compTurn (gx elt iter x y px py qy scope pos) 1 (.ref J) .none cenv).onRaise (fun e => do noteFrame e cenv; theTreesLotGoes e)) _ s
    rw [turn1, Sem.onRaise_eq_wrap]
    refine seg_bind_wrap (wpAny_standAt ?_)
    refine seg_bind_wrap ((W₁ _ hh').item j s _ _ hlt hst₁ fun v h₁ tk₁ hPv hst₁' hk₁ => ?_)
    obtain ⟨cc, u, hcc, rfl⟩ := hPv
    have k1 : ∀ b o, b < B → s.heap.get? b = some o → h₁.get? b = some o := fun b o hb e => hk₁ b o (nJ b hb) e
    refine seg_bind_wrap (wpAny_of_eq (rfl : letOwnedTupleGo (.Name y py) (.ref J) _ = pure ()) ?_)
    refine seg_bind_wrap (wpAny_assign_Name (wpAny_storeName_local hy (hn.at' fun o e => k1 _ o hCB e) (fun h₂ hn₂ hs₂ => ?_) hp))
    have k2 : ∀ b o, b < B → b ≠ cenv.locals → s.heap.get? b = some o → h₂.get? b = some o := fun b o hb hbC e => hs₂.extBut b o hbC (k1 b o hb e)
    have hst₁₂ : St₁ (j + 1) h₂ := (W₁ A hh).frame _ _ _ hst₁' fun b hb o e => hs₂.extBut b o (fun z => nCJ (z ▸ hb)) e
    have hst₂ : St₀ i h₂ := hfr _ _ _ hst fun b hb o e => k2 b o (hfp b hb) (fun z => hC (z ▸ hb)) e
    have hkp₂ : Kept B cenv.locals wr href h₂ := hkp.step fun b o hb hbC _ e => k2 b o hb hbC e
    have hy' : ∀ v, yieldOut cenv v = yieldValue v := fun v => by simp only [yieldOut, hco, Bool.false_eq_true, if_false]
    simp only [hy']
    rw [Sem.bind_eq_wrap', Sem.bind_eq_wrap', Sem.wrap_wrap, Sem.wrap_wrap]
    refine seg_wrap (wpAny_mono (hel _ _ cc u _ _ hh' hn₂ (by simp) hkp₂) (fun yv s₄ h₄ => ?_) fun _ _ e => e)
    obtain ⟨rfl, h₄', tk₄, rfl, hk₄⟩ := h₄
    have ek : k = a.cps.size - (j + 1) := by omega
    rw [Nat.succ_add]
    have hF : F (N - 1 - (k + r)) (.bool (pb cc)) := by
      rw [ek]
      exact hidx j cc hcc
    have hfg : ([Frame.ret kk none ret_g l c p []].any Frame.guarded) = false := by
      subst hg
      rfl
    refine seg_at (seg_yield rfl rfl hfg ⟨hF, hsince.step fun b o hb hbC _ e => hk₄ b o (k2 b o hb hbC e), fun s'' hal => ?_⟩)
    have k5 : ∀ b o, h₂.get? b = some o → s''.heap.get? b = some o := fun b o e => hal b o (hk₄ b o e)
    refine seg_again rfl (ih (j + 1) s'' s'' _ ek.symm hlt ((W₁ A hh).frame _ _ _ hst₁₂ fun b _ o e => k5 b o e) (hfr _ _ _ hst₂ fun b _ o e => k5 b o e) (hn₂.at' fun o e => k5 _ o e) (Since.refl _ _ _ _) (hkp₂.step fun b o _ _ _ e => k5 b o e))

/-- the signs of all rows -/
abbrev flat (ws : List Str) : List Nat := ws.flatMap (fun a => a.cps.toList)
theorem flat_at {ws : List Str} {i j c : Nat} {a : Str} (ha : ws[i]? = some a) (hc : a.cps[j]? = some c) :
    (flat ws)[(flat ws).length - 1 - ((a.cps.size - (j + 1)) + (flat (ws.drop (i + 1))).length)]? = some c := by
  obtain ⟨hi, e⟩ := List.getElem?_eq_some_iff.mp ha
  obtain ⟨hj, e2⟩ := Array.getElem?_eq_some_iff.mp hc
  have d : ws = ws.take i ++ a :: ws.drop (i + 1) := by
    rw [← e, List.getElem_cons_drop, List.take_append_drop]
  have f : flat ws = flat (ws.take i) ++ (a.cps.toList ++ flat (ws.drop (i + 1))) := by
    show ws.flatMap _ = _
    rw [d]
    simp only [List.flatMap_append, List.flatMap_cons]
    rw [← d]
  have la : a.cps.toList.length = a.cps.size := by simp
  rw [f, List.length_append, List.length_append, la]
  have n1 : (flat (ws.take i)).length + (a.cps.size + (flat (ws.drop (i + 1))).length) - 1 - (a.cps.size - (j + 1) + (flat (ws.drop (i + 1))).length) = (flat (ws.take i)).length + j := by omega
  rw [n1, List.getElem?_append_right (by omega), Nat.add_sub_cancel_left, List.getElem?_append_left (by omega), Array.getElem?_toList]
  exact hc
theorem flat_drop {ws : List Str} {i : Nat} {a : Str} (ha : ws[i]? = some a) : (flat (ws.drop i)).length = a.cps.size + (flat (ws.drop (i + 1))).length := by
  obtain ⟨hi, e⟩ := List.getElem?_eq_some_iff.mp ha
  rw [List.drop_eq_getElem_cons hi, e]
  show ((a :: ws.drop (i + 1)).flatMap _).length = _
  rw [List.flatMap_cons, List.length_append]
  simp
theorem seg_outer {ws : List Str} {I : Addr} {P : Nat → Value → Prop} {a₀ : Addr}
    (hh : A.handled = none) (hB : B = a₀ + 1) (ha₀ : ∃ o, href.get? a₀ = some o) (hal : a₀ ≠ cenv.locals) (haw : a₀ ∉ wr)
    (hfp : ∀ b ∈ fp, b < B) (hC : cenv.locals ∉ fp) (hCB : cenv.locals < B)
    (W₀ : ∀ A' : Around, A'.handled = none → Walks prog w A' I fp wr ws.length P St₀) (hP : ∀ i v, P i v → ∃ a t, ws[i]? = some a ∧ v = .str a t)
    (hx : cenv.kindOf x = some .local) (hy : cenv.kindOf y = some .local) (hkf : cenv.scope.kind = .function) (hp : (cenv.scope.kind == .class || (cenv.scope.kind == .module && cenv.locals != cenv.globals)) = false) (hco : cenv.scope.isCoroutine = false)
    (hel : ∀ (A' : Around) (E' : Value → Shared → Prop) (c : Nat) (u : Tok) (s₂ : Shared) (m₂ : Str → Option Value), A'.handled = none → s₂.heap.Ns cenv.locals m₂ → m₂ y = some (.str ⟨#[c]⟩ u) → Kept B cenv.locals wr href s₂.heap →
      wpAny (model prog w) A' (eval elt cenv) (fun v s₃ => v = .bool (pb c) ∧ Keeps s₂ s₃) E' s₂)
    (hdx : (x == ("__debug__" : Str)) = false) :
    ∀ (k i : Nat) (s₀ s : Shared) (m : Str → Option Value), ws.length - i = k → i ≤ ws.length → St₀ i s.heap → s.heap.Ns cenv.locals m → Since B cenv.locals wr s₀ s → Kept B cenv.locals wr href s.heap →
      Seg (model prog w) A (gend B cenv.locals wr) (proto B cenv.locals wr (flat ws).length (fun n v => ∃ c, (flat ws)[n]? = some c ∧ v = .bool (pb c))) (flat (ws.drop i)).length s₀ (.compLoop (gx elt iter x y px py qy scope pos) 0 (.ref I) .none cenv)
        ((model prog w).den (.compLoop (gx elt iter x y px py qy scope pos) 0 (.ref I) .none cenv)) [] s := by
  have hh' : (A.over (.compLoop (gx elt iter x y px py qy scope pos) 0 (.ref I) .none cenv) []).handled = none := hh
  have hsub : ∀ b ∈ wr, b ∈ fp := fun b hb => (W₀ A hh).sub b hb
  have hwr : ∀ b ∈ wr, b < B := fun b hb => hfp b (hsub b hb)
  have hCw : cenv.locals ∉ wr := fun h => hC (hsub _ h)
  intro k
  induction k with
  | zero =>
    intro i s₀ s m hk hi hst hn hsince hkp
    have hin : i = ws.length := by omega
    subst hin
    show Seg _ A _ _ _ s₀ _ ((compTurn (gx elt iter x y px py qy scope pos) 0 (.ref I) .none cenv).onRaise (leaving cenv)) _ s
    rw [turn0, Sem.onRaise_eq_wrap]
    refine seg_bind_wrap (wpAny_standAt ?_)
    refine seg_bind_wrap ((W₀ _ hh').done s _ _ hst fun h' tk hk' => ?_)
    exact seg_end (.ok .next) ⟨rfl, by rw [List.drop_of_length_le (Nat.le_refl _)]; rfl, hsince.step fun b o _ _ hw e => hk' b o hw e⟩
  | succ k ih =>
    intro i s₀ s m hk hi hst hn hsince hkp
    have hlt : i < ws.length := by omega
    show Seg _ A _ _ _ s₀ _ ((compTurn (gx elt iter x y px py qy scope pos) 0 (.ref I) .none cenv).onRaise (leaving cenv)) _ s
    rw [turn0, Sem.onRaise_eq_wrap]
    refine seg_bind_wrap (wpAny_standAt ?_)
    refine seg_bind_wrap ((W₀ _ hh').item i s _ _ hlt hst fun v h₁ tk₁ hPv hst₁ hk₁ => ?_)
    obtain ⟨a, t, ha, rfl⟩ := hP i v hPv
    refine seg_bind_wrap (wpAny_of_eq (rfl : letOwnedTupleGo (.Name x px) (.ref I) _ = pure ()) ?_)
    refine seg_bind_wrap (wpAny_assign_Name (wpAny_storeName_local hx (hn.at' fun o e => hk₁ _ o hCw e) (fun h₂ hn₂ hs₂ => ?_) hp))
    have up₂ : ∀ b o, b ≠ cenv.locals → b ∉ wr → s.heap.get? b = some o → h₂.get? b = some o := fun b o hbC hbw e => hs₂.extBut b o hbC (hk₁ b o hbw e)
    have hst₂ : St₀ (i + 1) h₂ := (W₀ A hh).frame _ _ _ hst₁ fun b hb o e => hs₂.extBut b o (fun h => hC (h ▸ hb)) e
    have hkp₂ : Kept B cenv.locals wr href h₂ := hkp.step fun b o _ hbC hbw e => up₂ b o hbC hbw e
    have hsince₂ : Since B cenv.locals wr s₀ { s with heap := h₂, toks := tk₁ } := hsince.step fun b o _ hbC hbw e => up₂ b o hbC hbw e
    have hJ : B ≤ h₂.objs.size := by
      obtain ⟨oa, ea⟩ := ha₀
      have e1 := hkp₂ a₀ oa (by rw [hB]; exact Nat.lt_succ_self _) hal haw ea
      rw [hB]
      exact Heap.lt_size e1
    refine seg_bind_wrap (wpAny_Name (wpAny_loadName_local hkf hx hn₂ (v := .str a t) (by simp) ?_) hdx)
    refine seg_bind_wrap (wpAny_standAt ?_)
    refine seg_bind_wrap (wpAny_holding (wpAny_pyIter_str fun o St₁ W₁ hst₁₁ => ?_))
    have kp3 : ∀ b u, h₂.get? b = some u → (h₂.push o).get? b = some u := fun b u e => Heap.get?_push_of_some _ e
    refine seg_call (h := none) fun p => ?_
    have hh2 : (A.over (.compStart (gx elt iter x y px py qy scope pos) 1 (.ref h₂.objs.size) .none cenv) [.ret (fun _ => Sem.pure (.done .next)) none false [] (.compLoop (gx elt iter x y px py qy scope pos) 0 (.ref I) .none cenv) p []]).handled = none := hh
    have loop := fun (kk : Result → Sem PySem.Fin) (l : List Value) (tk : Nat) hcont => seg_inner (prog := prog) (w := w) (A := A) (elt := elt) (iter := iter) (x := x) (px := px) (py := py) (qy := qy) (scope := scope) (pos := pos) (i := i + 1) (r := (flat (ws.drop (i + 1))).length) (kk := kk) (c := .compLoop (gx elt iter x y px py qy scope pos) 0 (.ref I) .none cenv) (p := p) (l := l) (ret_g := false) (N := (flat ws).length) (F := fun n v => ∃ c, (flat ws)[n]? = some c ∧ v = .bool (pb c))
      hh rfl (fun i h h' st k => (W₀ A hh).frame i h h' st k) hfp hC hCB hwr hJ W₁ hy hp hco hel (fun j c hc => ⟨c, flat_at ha hc, rfl⟩) hcont a.cps.size 0 s₀ { s with heap := h₂.push o, toks := tk } _ (Nat.sub_zero _) (Nat.zero_le _) hst₁₁ ((W₀ A hh).frame _ _ _ hst₂ fun b _ o e => kp3 b o e) (hn₂.at' fun o e => kp3 _ o e) (hsince₂.step fun b o _ _ _ e => kp3 b o e) (hkp₂.step fun b o _ _ _ e => kp3 b o e)
    rw [flat_drop ha]
    show Seg _ A _ _ _ s₀ _ ((compStart (gx elt iter x y px py qy scope pos) 1 (.ref h₂.objs.size) .none cenv).onRaise (fun e => do noteFrame e cenv; standAt theWindowsPlace)) _ _
    unfold compStart
    rw [Sem.onRaise_eq_wrap]
    show Seg _ A _ _ _ s₀ _ ((ask >>= _).wrap _ _ _ _) _ _
    refine seg_bind_wrap (wpAny_askSetting ?_)
    split
    · refine seg_again rfl (loop _ _ _ fun s₀' s' m' a1 a2 a3 a4 => ?_)
      exact seg_again rfl (ih (i + 1) s₀' s' m' (by omega) hlt a1 a2 a3 a4)
    · refine seg_bind_wrap (wpAny_rule ?_)
      show Seg _ A _ _ _ s₀ _ ((standAt qy >>= _).wrap _ _ _ _) _ _
      refine seg_bind_wrap (wpAny_standAt ?_)
      refine seg_bind_wrap ((W₁ _ hh2).self 0 _ _ _ hst₁₁ ?_)
      refine seg_again rfl (loop _ _ _ fun s₀' s' m' a1 a2 a3 a4 => ?_)
      exact seg_again rfl (ih (i + 1) s₀' s' m' (by omega) hlt a1 a2 a3 a4)
end
end Gx2
namespace Gx2
open PySem PySem.Spec PyProof.Rows L2
open Sem (wp)
structure MovedK (B : Nat) (wr : List Addr) (G : Array GenState → Array GenState → Prop) (s s' : Shared) : Prop where
  heap : ∀ b o, b < B → b ∉ wr → s.heap.get? b = some o → s'.heap.get? b = some o
  gens : G s.gens s'.gens
  drawn : s'.drawn = s.drawn
  os : s'.os = s.os
theorem MovedK.trans {B : Nat} {wr : List Addr} {G : Array GenState → Array GenState → Prop} {s s' s'' : Shared} (hg : ∀ a b c, G a b → G b c → G a c) (x : MovedK B wr G s s') (y : MovedK B wr G s' s'') : MovedK B wr G s s'' :=
  ⟨fun b o hB hb e => y.heap b o hB hb (x.heap b o hB hb e), hg _ _ _ x.gens y.gens, y.drawn.trans x.drawn, y.os.trans x.os⟩
structure WalksK (prog : Program) (w : World) (A : Around) (I : Addr) (B : Nat) (wr : List Addr) (G : Array GenState → Array GenState → Prop) (n : Nat) (P : Nat → Value → Prop) (St : Nat → Shared → Prop) : Prop where
  gtrans : ∀ a b c, G a b → G b c → G a c
  item : ∀ i (s : Shared) (Q : Option Value → Shared → Prop) (E : Value → Shared → Prop), i < n → St i s →
    (∀ v s', P i v → St (i + 1) s' → MovedK B wr G s s' → Q (some v) s') → wpAny (model prog w) A (pyNext (.ref I)) Q E s
  done : ∀ (s : Shared) (Q : Option Value → Shared → Prop) (E : Value → Shared → Prop), St n s → (∀ s', MovedK B wr G s s' → Q none s') → wpAny (model prog w) A (pyNext (.ref I)) Q E s
  self : ∀ i (s : Shared) (Q : Value → Shared → Prop) (E : Value → Shared → Prop), St i s → Q (.ref I) s → wpAny (model prog w) A (pyIter (.ref I)) Q E s
theorem WalksK.of_in1 {prog : Program} {w : World} {A : Around} {I : Addr} {B : Nat} {wr : List Addr} {G : Array GenState → Array GenState → Prop} {n : Nat} {P : Nat → Value → Prop} {St : Nat → Shared → Prop}
    (W : WalksK prog w A.in1 I B wr G n P St) : WalksK prog w A I B wr G n P St where
  gtrans := W.gtrans
  item := fun i s Q E hi st hQ => wpAny_of_in1 (W.item i s Q E hi st hQ)
  done := fun s Q E st hQ => wpAny_of_in1 (W.done s Q E st hQ)
  self := fun i s Q E st hQ => wpAny_of_in1 (W.self i s Q E st hQ)

section
variable {prog : Program} {w : World} {A : Around} {R : Result → Shared → Prop} {I : Addr} {B : Nat} {wr : List Addr} {G : Array GenState → Array GenState → Prop} {n : Nat} {P : Nat → Value → Prop} {St : Nat → Shared → Prop}
theorem codeAny_any_loopK (W : WalksK prog w A.in1 I B wr G n P St) (tr : Nat → Bool) (htr : TruthOf prog w A.in1 P tr) : ∀ (k i : Nat) (s : Shared), n - i = k → i ≤ n → St i s →
    (∀ s', MovedK B wr G s s' → R (.ok (.ret (.bool (((List.range n).drop i).any tr)))) s') → codeAny (model prog w) A (.builtin "any.loop" ⟨[.ref I], []⟩) R s := by
  intro k
  induction k with
  | zero =>
    intro i s hk hi hst hR
    have hin : i = n := by omega
    subst hin
    refine codeAny_builtin PySem.F.entry_any_loop ?_
    rw [Around.under_plainId PySem.F.plain_any_loop _]
    show wpAny _ A.in1 (pyNext (.ref I) >>= _) _ _ s
    refine wpAny_bind (W.done s _ _ hst fun s' hm => ?_)
    refine wpAny_bind (wpAny_rule (wpAny_pure ?_))
    have := hR s' hm
    rw [List.drop_of_length_le (by simp)] at this
    exact this
  | succ k ih =>
    intro i s hk hi hst hR
    have hlt : i < n := by omega
    have hd : (List.range n).drop i = i :: (List.range n).drop (i + 1) := by
      rw [List.drop_eq_getElem_cons (by simpa using hlt)]; simp
    refine codeAny_builtin PySem.F.entry_any_loop ?_
    rw [Around.under_plainId PySem.F.plain_any_loop _]
    show wpAny _ A.in1 (pyNext (.ref I) >>= _) _ _ s
    refine wpAny_bind (W.item i s _ _ hlt hst fun v s' hP hst' hm => ?_)
    refine wpAny_bind (wpAny_holding (htr i v _ _ _ hP ?_))
    refine wpAny_bind (wpAny_letGo ?_)
    cases hb : tr i with
    | false =>
      simp only [Bool.false_eq_true, if_false]
      refine wpAny_pure ⟨plainId_quiet PySem.F.plain_any_loop _, ih (i + 1) _ (by omega) hlt hst' fun s'' hm' => ?_⟩
      have := hR s'' (hm.trans W.gtrans hm')
      rw [hd, List.any_cons, hb, Bool.false_or] at this
      exact this
    | true =>
      simp only [if_true]
      refine wpAny_bind (wpAny_rule (wpAny_pure ?_))
      have := hR s' hm
      rw [hd, List.any_cons, hb, Bool.true_or] at this
      exact this
theorem call_any_walkK {x : Value} {Q : Value → Shared → Prop} {E : Value → Shared → Prop} {s : Shared}
    (h : wpAny (model prog w) A.in1 (pyIter x) (fun it s₂ => ∃ I B wr G n P St tr, it = .ref I ∧ WalksK prog w A.in1 I B wr G n P St ∧ St 0 s₂ ∧ TruthOf prog w A.in1 P tr ∧
      ∀ s', MovedK B wr G s₂ s' → Q (.bool ((List.range n).any tr)) s') E s) :
    wpAny (model prog w) A (call (.builtin "any") [x]) Q E s := by
  refine call_function_tree PySem.F.kind_any PySem.F.plain_any PySem.F.entry_any (PySem.F.args_any1 _) ?_
  unfold Builtin.«any»
  refine wpAny_bind (m := oneArg "any" _) (wpAny_pure ?_)
  refine wpAny_bind (wpAny_mono h (fun it s₂ h₂ => ?_) fun _ _ e => e)
  obtain ⟨I, B, wr, G, n, P, St, tr, rfl, W, hst, htr, hQ⟩ := h₂
  exact wpAny_pure ⟨plainId_quiet PySem.F.plain_any_loop _, codeAny_any_loopK W tr htr n 0 s₂ rfl (Nat.zero_le _) hst fun s' hm => by simpa using hQ s' hm⟩
end

def GenAtK (prog : Program) (w : World) (A : Around) (a : Addr) (g : Nat) (C : Addr) (B : Nat) (wr : List Addr) (N : Nat) (F : Nat → Value → Prop) (j : Nat) (s : Shared) : Prop :=
  s.heap.IsGen a g ∧ s.heap.NoLimit ∧ ∃ gs, s.gens[g]? = some gs ∧ ∀ s'' : Shared, (∀ b o, s.heap.get? b = some o → s''.heap.get? b = some o) →
    gs.Goes (model prog w) A.in1 (gend B C wr) (proto B C wr N F) (N - j) (.send .none) s''

section
variable {prog : Program} {w : World} {A : Around}
theorem WalksK.gen (hh : A.handled = none) (a : Addr) (g : Nat) (C : Addr) (B : Nat) (wr : List Addr) (N : Nat) (F : Nat → Value → Prop) (haC : a ≠ C) (haB : a < B) (haw : a ∉ wr) (hroom : A.depth < recursionLimit)
    (hcs : cStatics < B) (hcC : cStatics ≠ C) (hcw : cStatics ∉ wr) :
    WalksK prog w A a B (C :: wr) (GenOnlyQ g) N F (GenAtK prog w A a g C B wr N F) where
  gtrans := fun _ _ _ x y => x.trans y
  item := fun j s Q E hj st hQ => by
    obtain ⟨hg, hl, gs, hgs, hgo⟩ := st
    obtain ⟨m, hm⟩ : ∃ m, N - j = m + 1 := ⟨N - j - 1, by omega⟩
    rw [hm] at hgo
    refine wpAny_pyNext_genexpQ (P := fun n s₀ s₁ => n = 0 ∧ Since B C wr s₀ s₁) hh hl hroom hg hgs (hgo _ fun _ _ e => e) (fun v s₁ gs' hb hv => ?_) (fun s₁ hp h' hk => ?_)
    · obtain ⟨hF, ⟨h₁, tk₁, rfl, hk₁⟩, hkap⟩ := hv
      have hidx : N - 1 - (m + 1 - 1) = j := by omega
      rw [hidx] at hF
      refine hQ v _ hF ⟨let ⟨o, nm, qn, ho, r⟩ := hg; ⟨o, nm, qn, hk₁ a o haB haC haw ho, r⟩, (let ⟨mc, hns, hnn⟩ := hl; ⟨mc, hns.at' fun o e => hk₁ cStatics o hcs hcC hcw e, hnn⟩), gs', setGen_self (gs := .running) (setGen_self hgs), fun s'' hal => ?_⟩
        ⟨fun b o hB hb e => hk₁ b o hB (fun h => hb (h ▸ List.mem_cons_self ..)) (fun h => hb (List.mem_cons_of_mem _ h)) e, GenOnlyQ.of ((GenOnly.setGen s g .running).trans (GenOnly.setGen _ g gs')) (setGen_self (gs := .running) (setGen_self hgs)) hb, rfl, rfl⟩
      have e : N - (j + 1) = m := by omega
      rw [e]
      exact hkap s'' hal
    · exact absurd hp.1 (Nat.succ_ne_zero m)
  done := fun s Q E st hQ => by
    obtain ⟨hg, hl, gs, hgs, hgo⟩ := st
    rw [Nat.sub_self] at hgo
    refine wpAny_pyNext_genexpQ (P := fun n s₀ s₁ => n = 0 ∧ Since B C wr s₀ s₁) hh hl hroom hg hgs (hgo _ fun _ _ e => e) (fun v s₁ gs' hb hv => ?_) (fun s₁ hp h' hk => ?_)
    · obtain ⟨_, _, hkap⟩ := hv
      exact False.elim (hkap s₁ fun _ _ e => e)
    · obtain ⟨_, h₁, tk₁, rfl, hk₁⟩ := hp
      exact hQ _ ⟨fun b o hB hb e => hk b o (hk₁ b o hB (fun h => hb (h ▸ List.mem_cons_self ..)) (fun h => hb (List.mem_cons_of_mem _ h)) e), GenOnlyQ.of ((GenOnly.setGen s g .running).trans (GenOnly.setGen _ g .finished)) (setGen_self (gs := .running) (setGen_self hgs)) rfl, rfl, rfl⟩
  self := fun _ _ _ _ st hQ => wpAny_pyIter_gen st.1 hQ

theorem seg_start {elt iter : Expr} {x y : Str} {px py qy : Pos} {scope : Scope} {pos : Pos} {cenv : Env} {B : Nat} {wr fp : List Addr} {St₀ : Nat → Heap → Prop} {href : Heap} {pb : Nat → Bool} {ws : List Str} {I : Addr} {P : Nat → Value → Prop} {a₀ : Addr}
    (hh : A.handled = none) (hB : B = a₀ + 1) (ha₀ : ∃ o, href.get? a₀ = some o) (hal : a₀ ≠ cenv.locals) (haw : a₀ ∉ wr)
    (hfp : ∀ b ∈ fp, b < B) (hC : cenv.locals ∉ fp) (hCB : cenv.locals < B)
    (W₀ : ∀ A' : Around, A'.handled = none → Walks prog w A' I fp wr ws.length P St₀) (hP : ∀ i v, P i v → ∃ a t, ws[i]? = some a ∧ v = .str a t)
    (hx : cenv.kindOf x = some .local) (hy : cenv.kindOf y = some .local) (hkf : cenv.scope.kind = .function) (hp : (cenv.scope.kind == .class || (cenv.scope.kind == .module && cenv.locals != cenv.globals)) = false) (hco : cenv.scope.isCoroutine = false)
    (hel : ∀ (A' : Around) (E' : Value → Shared → Prop) (c : Nat) (u : Tok) (s₂ : Shared) (m₂ : Str → Option Value), A'.handled = none → s₂.heap.Ns cenv.locals m₂ → m₂ y = some (.str ⟨#[c]⟩ u) → Kept B cenv.locals wr href s₂.heap →
      wpAny (model prog w) A' (eval elt cenv) (fun v s₃ => v = .bool (pb c) ∧ Keeps s₂ s₃) E' s₂)
    (hdx : (x == ("__debug__" : Str)) = false) (s₀ s : Shared) (m : Str → Option Value) (hst : St₀ 0 s.heap) (hn : s.heap.Ns cenv.locals m) (hsince : Since B cenv.locals wr s₀ s) (hkp : Kept B cenv.locals wr href s.heap) :
      Seg (model prog w) A (gend B cenv.locals wr) (proto B cenv.locals wr (flat ws).length (fun n v => ∃ c, (flat ws)[n]? = some c ∧ v = .bool (pb c))) (flat ws).length s₀ (.compStart (gx elt iter x y px py qy scope pos) 0 (.ref I) .none cenv)
        ((model prog w).den (.compStart (gx elt iter x y px py qy scope pos) 0 (.ref I) .none cenv)) [] s := by
  have hh' : (A.over (.compStart (gx elt iter x y px py qy scope pos) 0 (.ref I) .none cenv) []).handled = none := hh
  have loop := seg_outer (iter := iter) (px := px) (py := py) (qy := qy) (scope := scope) (pos := pos) hh hB ha₀ hal haw hfp hC hCB W₀ hP hx hy hkf hp hco hel hdx ws.length 0 s₀ s m (Nat.sub_zero _) (Nat.zero_le _) hst hn hsince hkp
  rw [List.drop_zero] at loop
  show Seg _ A _ _ _ s₀ _ ((compStart (gx elt iter x y px py qy scope pos) 0 (.ref I) .none cenv).onRaise (leaving cenv)) [] s
  unfold compStart
  rw [Sem.onRaise_eq_wrap]
  show Seg _ A _ _ _ s₀ _ ((ask >>= _).wrap _ _ _ _) [] s
  refine seg_bind_wrap (wpAny_askSetting ?_)
  split
  · exact seg_again rfl loop
  · refine seg_bind_wrap (wpAny_rule ?_)
    show Seg _ A _ _ _ s₀ _ ((standAt iter.pos >>= _).wrap _ _ _ _) [] s
    exact seg_bind_wrap (wpAny_standAt (seg_bind_wrap ((W₀ _ hh').self 0 s _ _ hst (seg_again rfl loop))))

theorem make2 {M : Model} {E : Value → Shared → Prop} {s : Shared} {env : Env} {elt target iter : Expr} {g2 : Comprehension} {scope : Scope} {cl : List (Str × Addr)} {pos : Pos} {Q : Value → Shared → Prop}
    (hco : scope.isCoroutine = false) (hclos : closureFor scope env = pure cl) (hcell : ∀ y ∈ scope.names, y.2 ≠ .cell) (h0 : scope.names.lookup (".0" : Str) = some NameKind.local) (hkind : scope.kind = .function)
    (hroom : A.depth < recursionLimit)
    (h : wpAny M A (eval iter env) (fun xv s₁ => wpAny M A (pyIter xv) (fun it s₂ => s₂.heap.NoLimit ∧
      wpAny M A (genexprCode env pos (env.qual ++ "<genexpr>") scope) (fun code s₃ => wpAny M A (builtinsFor env.globals env.builtins) (fun bi s₄ =>
        ∀ h', h'.Ns s₄.heap.objs.size (fun y => if y = ".0" then some it else none) → Heap.SameBut s₄.heap.objs.size (s₄.heap.push { cls := .type "frame", data := .dict #[] }) h' →
          Q (.ref h'.objs.size) { s₄ with
            gens := s₄.gens.push (.fresh (.compStart (.GeneratorExp elt [⟨target, iter, [], 0⟩, g2] scope pos) 0 it .none (genEnv scope cl s₄.heap.objs.size code bi env))),
            toks := s₄.toks + 1 + 1 + 1,
            heap := h'.push { cls := .type "generator", data := .fields #[.int s₄.gens.size 0, .str "<genexpr>" (s₄.toks + 1), .str (env.qual ++ "<genexpr>") (s₄.toks + 1 + 1)] } }) E s₃) E s₂) E s₁) E s)
    (hs : ∀ x, genFold iter env x = pure x) :
    wpAny M A (eval (.GeneratorExp elt [⟨target, iter, [], 0⟩, g2] scope pos) env) Q E s := by
  rw [eval_gen2 _ _ _ _ _ _ _ hco, hclos]
  refine wpAny_bind (wpAny_mono h (fun xv s₁ h₁ => ?_) fun _ _ e => e)
  refine wpAny_bind (wpAny_standAt ?_)
  refine wpAny_bind (wpAny_of_eq (hs xv) ?_)
  refine wpAny_bind (wpAny_holding (wpAny_mono h₁ (fun it s₂ h₂ => ?_) fun _ _ e => e))
  refine wpAny_bind (wpAny_enterFrame h₂.1 hroom ?_)
  refine wpAny_bind (wpAny_pure ?_)
  refine wpAny_bind (wpAny_mono h₂.2 (fun code s₃ h₃ => ?_) fun _ _ e => e)
  refine wpAny_bind (wpAny_mono h₃ (fun bi s₄ h₄ => ?_) fun _ _ e => e)
  have hbinds : ∀ y ∈ ([((".0" : Str), it)] : List (Str × Value)), scope.names.lookup y.1 = some NameKind.local := by
    intro y hy
    rcases List.mem_cons.mp hy with rfl | hy
    · exact h0
    · cases hy
  refine wpAny_bind (wpAny_newFunctionEnv hcell hbinds (fun h' hn' hs' => ?_) hkind)
  have e : (fun y : Str => ([((".0" : Str), it)] : List (Str × Value)).reverse.lookup y) = fun y : Str => if y = (".0" : Str) then some it else none := by
    funext y
    by_cases hy : y = ".0"
    · subst hy; simp
    · have : (y == (".0" : Str)) = false := by simpa using hy
      simp [List.lookup, this, hy]
  rw [e] at hn'
  simp only [newGenerator, newFields]
  refine wpAny_bind (wpAny_newGen (wpAny_bind (wpAny_mkText (wpAny_bind (wpAny_mkText (wpAny_newObj_type ?_ (by size_fits)))))))
  exact h₄ h' hn' hs'
end
end Gx2
namespace Gx2
open PySem PySem.Spec PyProof.Rows L2 GxR
section
variable {X : Cx} {pins : List (Addr × Obj)} {σ : L2.St} {H : Hp} {s : Shared}
/-- the generator's frame -/
abbrev gE (X : Cx) (scope : Scope) (C : Addr) (code : Value) : Env := genEnv scope (cloFrom X.env.cells scope.names []) C code builtinsNs X.env
/-- the element of a two-clause one: a test of the sign -/
def Elt2 (X : Cx) (P : Addr) (scope : Scope) (y : Str) (elt : Expr) (pb : Nat → Bool) : Prop :=
  ∀ (pins : List (Addr × Obj)) (σ : L2.St) (H1 : Hp) (s1 : Shared), Inv X pins σ H1 s1 → ∀ (C : Addr) (code : Value) (A' : Around) (E' : Value → Shared → Prop) (c : Nat) (u : Tok) (s₂ : Shared) (m₂ : Str → Option Value), A'.handled = none →
    (∀ b o, b ≠ P → s1.heap.get? b = some o → s₂.heap.get? b = some o) → s₂.heap.Ns C m₂ → m₂ y = some (.str ⟨#[c]⟩ u) →
    wpAny (model X.prog X.w) A' (eval elt (gE X scope C code)) (fun v s₃ => v = .bool (pb c) ∧ Keeps s₂ s₃) E' s₂
def Ready2 (X : Cx) (pins : List (Addr × Obj)) (σ : L2.St) (H1 : Hp) (P : Addr) (ws : List Str) (pb : Nat → Bool) (g : Addr) (s5 : Shared) : Prop :=
  ∃ (B : Nat) (wr : List Addr) (G : Array GenState → Array GenState → Prop) (F : Nat → Value → Prop) (St : Nat → Shared → Prop),
    WalksK X.prog X.w X.A.in1 g B wr G (flat ws).length F St ∧ St 0 s5 ∧ TruthOf X.prog X.w X.A.in1 F (trF pb (flat ws)) ∧
    ∀ s', MovedK B wr G s5 s' → ∃ H2, Tabbed P H1 H2 ∧ Inv X pins σ H2 s'

theorem gen2 {c P : Addr} {elt iter : Expr} {x y : Str} {px py qy gpos : Pos} {scope : Scope} {pb : Nat → Bool} {te : TE} {k : Nat} {Q' : Value → Shared → Prop} {R : List Str → Hp → Prop}
    (hr : Room k X.A) (TB : TabB X.base X.mg c P) (hcode : X.env.code = .ref c) (S : GenS X.env scope x) (hyl : scope.names.lookup y = some .local) (hdx : (x == ("__debug__" : Str)) = false) (hi : PE X iter te) (hel : Elt2 X P scope y elt pb)
    (hs : ∀ v, genFold iter X.env v = pure v) (I : Inv X pins σ H s) (h : te σ H fun v H1 => ∃ (yl : Addr) (ws : List Str), v = .ref yl ∧ SqL X.K H1 yl (ws.map V.str) ∧ TabG H1 P ∧ R ws H1)
    (hQ : ∀ ws H1 g s5, R ws H1 → Ready2 X pins σ H1 P ws pb g s5 → Q' (.ref g) s5) :
    wpAny (model X.prog X.w) X.A (eval (gx elt iter x y px py qy scope gpos) X.env) Q' X.xe s := by
  have hd := hr.hd
  refine make2 S.co (closure_ok S.free) S.cell S.dot S.kind (by have := hr.dp; omega) ?_ hs
  refine thn (hi.run pins s σ H _ I h) fun xv s1 ⟨v, H1, I1, r1, q1⟩ => ?_
  obtain ⟨yl, ws, rfl, hyl2, ⟨ps, hP, ht⟩, q1⟩ := q1
  obtain rfl : xv = Value.ref yl := r1
  obtain ⟨its, rv, hl, hz⟩ := I1.list hyl2
  have hIL := hl.isList
  have hlen : its.length = ws.length := by rw [← rv.length, List.length_map]
  have hat : ∀ (i : Nat) (v : Value), its.toArray[i]? = some v → ∃ (a : Str) (u : Tok), ws[i]? = some a ∧ v = .str a u := fun i v hv => by
    have hv2 : its[i]? = some v := by simpa using hv
    have hi2 : i < its.length := (List.getElem?_eq_some_iff.mp hv2).1
    obtain ⟨a, ha⟩ : ∃ a, ws[i]? = some a := ⟨ws[i]'(by omega), List.getElem?_eq_getElem _⟩
    have hb : (ws.map V.str)[i]? = some (V.str a) := by rw [List.getElem?_map, ha] <;> rfl
    obtain ⟨u, hu, ru⟩ := rv.get hb
    rw [hv2] at hu
    cases hu
    obtain ⟨t, e⟩ := (show ∃ t, v = Value.str a t from ru)
    exact ⟨a, t, ha, e⟩
  refine wpAny_pyIter_list hIL ?_
  generalize ho : ({ cls := .type "list_iterator", data := .fields #[.ref yl, .int 0 0] } : Obj) = o
  have hitr : (s1.heap.push o).IsListIter s1.heap.objs.size yl 0 := by
    subst ho
    exact ⟨_, Heap.get?_push_size _ rfl, rfl, rfl⟩
  have hylt : yl < s1.heap.objs.size := by
    obtain ⟨_, e, _⟩ := _root_.id hIL
    exact Heap.lt_size e
  have hPs : s1.heap.get? P = some { cls := .none, data := .fields ps } := I1.hok P _ hP
  have hPlt : P < s1.heap.objs.size := Heap.lt_size hPs
  have hP2 : (s1.heap.push o).get? P = some { cls := .none, data := .fields ps } := Heap.get?_push_of_some _ hPs
  have cd : PySem.W.CodeHd (s1.heap.push o) c P := TB.code.keeps fun b u e => Heap.get?_push_of_some _ (I1.bk b u e)
  have lim2 : (s1.heap.push o).NoLimit := I1.nolimit.push o
  have cont : ∀ (code : Value) (h3 : Heap) (tk : Nat) (ps' : Array Value), Heap.ExtBut P (s1.heap.push o) h3 → (s1.heap.push o).objs.size ≤ h3.objs.size → h3.get? P = some { cls := .none, data := .fields ps' } → (∃ more, ps' = ps ++ more) → TriplesOk ps'.toList →
      wpAny (model X.prog X.w) X.A (builtinsFor X.env.globals X.env.builtins) (fun bi s₄ =>
        ∀ h', h'.Ns s₄.heap.objs.size (fun y => if y = ".0" then some (.ref s1.heap.objs.size) else none) → Heap.SameBut s₄.heap.objs.size (s₄.heap.push { cls := .type "frame", data := .dict #[] }) h' →
          Q' (.ref h'.objs.size) { s₄ with
            gens := s₄.gens.push (.fresh (.compStart (gx elt iter x y px py qy scope gpos) 0 (.ref s1.heap.objs.size) .none (genEnv scope (cloFrom X.env.cells scope.names []) s₄.heap.objs.size code bi X.env))),
            toks := s₄.toks + 1 + 1 + 1,
            heap := h'.push { cls := .type "generator", data := .fields #[.int s₄.gens.size 0, .str "<genexpr>" (s₄.toks + 1), .str (X.env.qual ++ "<genexpr>") (s₄.toks + 1 + 1)] } }) X.xe { s1 with heap := h3, toks := tk } := by
    intro code h3 tk ps' hx hsz hP3 hmore ht3
    obtain ⟨bm, ob, e1, e2, e3, e4, e5, e6, e7, e8⟩ := TB.bm
    have hcP : cStatics ≠ P := fun e => by
      obtain ⟨_, hns, _⟩ := I1.nolimit
      obtain ⟨o', es, ep, ho, hd, _⟩ := hns
      rw [e, hPs] at ho
      cases ho
      cases hd
    have hcl : cStatics < s1.heap.objs.size := let ⟨_, hns, _⟩ := I1.nolimit; hns.lt
    have sz2 : (s1.heap.push o).objs.size = s1.heap.objs.size + 1 := Heap.size_push ..
    have keep3 : ∀ b u, b ≠ P → s1.heap.get? b = some u → h3.get? b = some u := fun b u hb e => hx b u hb (Heap.get?_push_of_some _ e)
    refine wpAny_builtinsFor (m := X.mg) (by rw [I1.ok.glob]; exact ((I1.mod.glob.keeps I1.bk).push o).extBut hx TB.gP) e1 e2 (keep3 _ _ e4 (I1.bk _ _ e5)) e6 e7 e8 ?_
    have hylP : yl ≠ P := fun z => by
      obtain ⟨_, e, hc1, _, hd1⟩ := _root_.id hIL
      rw [z, hPs] at e
      cases e
      cases hd1
    have hIL3 : h3.IsList yl its.toArray := by
      obtain ⟨ob, e, r⟩ := _root_.id hIL
      exact ⟨ob, keep3 _ _ hylP e, r⟩
    have hItr3 : h3.IsListIter s1.heap.objs.size yl 0 := hitr.at fun u e => hx _ u (Nat.ne_of_gt hPlt) e
    have lim3 : h3.NoLimit := lim2.extBut hx hcP
    intro h' hn' hs'
    have hszc : h'.objs.size = h3.objs.size + 1 := by
      have q := hs'.1
      rw [Heap.size_push] at q
      exact q
    have keep' : ∀ b u, h3.get? b = some u → h'.get? b = some u := fun b u e => hs'.extBut b u (Nat.ne_of_lt (Heap.lt_size e)) (Heap.get?_push_of_some _ e)
    generalize hgo : ({ cls := .type "generator", data := .fields #[.int s1.gens.size 0, .str "<genexpr>" (tk + 1), .str (X.env.qual ++ "<genexpr>") (tk + 1 + 1)] } : Obj) = go
    have keep5 : ∀ b u, h3.get? b = some u → (h'.push go).get? b = some u := fun b u e => Heap.get?_push_of_some _ (keep' b u e)
    have haC : h'.objs.size ≠ h3.objs.size := by rw [hszc]; exact Nat.succ_ne_self _
    have sz1 : s1.heap.objs.size < h3.objs.size := by omega
    have nI : s1.heap.objs.size ≠ h3.objs.size := Nat.ne_of_lt sz1
    have haI : h'.objs.size ∉ [s1.heap.objs.size] := fun hm => by
      have z := List.mem_singleton.mp hm
      omega
    have hsI : cStatics ∉ [s1.heap.objs.size] := fun hm => Nat.ne_of_lt hcl (List.mem_singleton.mp hm)
    have hcl3 : cStatics < h3.objs.size := Nat.lt_trans hcl sz1
    have oldB : ∀ b u, s1.heap.get? b = some u → b < h'.objs.size + 1 ∧ b ≠ h3.objs.size ∧ b ∉ [s1.heap.objs.size] := fun b u e => by
      have hl := Heap.lt_size e
      refine ⟨?_, ?_, fun hm => ?_⟩
      · rw [hszc]
        exact Nat.lt_succ_of_lt (Nat.lt_succ_of_lt (Nat.lt_trans hl sz1))
      · exact Nat.ne_of_lt (Nat.lt_trans hl sz1)
      · exact Nat.ne_of_lt hl (List.mem_singleton.mp hm)
    have hgg : (h'.push go).IsGen h'.objs.size s1.gens.size := by
      subst hgo
      exact ⟨_, _, _, Heap.get?_push_size _ rfl, rfl, rfl, rfl⟩
    have hns5 : (h'.push go).Ns h3.objs.size (fun y => if y = ".0" then some (.ref s1.heap.objs.size) else none) := hn'.push _
    refine hQ ws H1 _ _ q1 ⟨h'.objs.size + 1, _, _, _, _, WalksK.gen (A := X.A.in1) hd h'.objs.size s1.gens.size h3.objs.size (h'.objs.size + 1) [s1.heap.objs.size] (flat ws).length (fun n v => ∃ c, (flat ws)[n]? = some c ∧ v = .bool (pb c)) haC (Nat.lt_succ_self _) haI (by have := hr.dp; show X.A.depth < recursionLimit; omega) (by rw [hszc]; exact Nat.lt_succ_of_lt (Nat.lt_succ_of_lt hcl3)) (Nat.ne_of_lt hcl3) hsI, ?_, ?_, fun s' hm => ?_⟩
    · refine ⟨hgg, lim3.keeps keep5, _, Array.getElem?_push_size .., fun s'' hal => ⟨rfl, ?_⟩⟩
      rw [Nat.sub_zero]
      refine seg_start (A := X.A.in1.in1) (cenv := gE X scope h3.objs.size code) (fp := [s1.heap.objs.size, yl]) (href := h'.push go) (St₀ := fun i h => h.IsListIter s1.heap.objs.size yl i ∧ h.IsList yl its.toArray) (P := fun i v => its.toArray[i]? = some v) (a₀ := h'.objs.size)
        hd rfl (let ⟨o, _, _, e, _⟩ := hgg; ⟨o, e⟩) haC haI ?_ ?_ ?_ (fun A' hA => ?_) (fun i v hv => ?_) S.loc hyl S.kind (by show ((scope.kind == .class) || (scope.kind == .module && _)) = false; rw [S.kind]; rfl) S.co ?_ hdx s'' s'' _ ?_ (hns5.at' fun o e => hal _ o e) (Since.refl _ _ _ _) (fun b o _ _ _ e => hal b o e)
      · intro b hb
        rcases List.mem_cons.mp hb with z | z
        · rw [z, hszc]
          exact Nat.lt_succ_of_lt (Nat.lt_succ_of_lt sz1)
        · rw [List.mem_singleton.mp z, hszc]
          exact Nat.lt_succ_of_lt (Nat.lt_succ_of_lt (Nat.lt_trans hylt sz1))
      · intro hm
        rcases List.mem_cons.mp hm with z | z
        · exact nI z.symm
        · exact Nat.ne_of_gt (Nat.lt_trans hylt sz1) (List.mem_singleton.mp z)
      · show h3.objs.size < h'.objs.size + 1
        rw [hszc]
        exact Nat.lt_succ_of_lt (Nat.lt_succ_self _)
      · have W := Walks.list (prog := X.prog) (w := X.w) hA s1.heap.objs.size yl (Nat.ne_of_lt hylt) its.toArray
        have hn5 : its.toArray.size = ws.length := by rw [List.size_toArray, hlen]
        rw [hn5] at W
        exact W
      · obtain ⟨a, u, ha, e⟩ := hat i v hv
        exact ⟨a, u, ha, e⟩
      · intro A' E' c u s₂ m₂ hA hn2 hm2 hk2
        refine hel pins σ H1 s1 I1 h3.objs.size code A' E' c u s₂ m₂ hA (fun b o hbP e => ?_) hn2 hm2
        obtain ⟨z1, z2, z3⟩ := oldB b o e
        exact hk2 b o z1 z2 z3 (keep5 b o (keep3 b o hbP e))
      · exact ⟨hItr3.at fun u e => hal _ u (keep5 _ u e), let ⟨ob, e, r⟩ := hIL3; ⟨ob, hal _ ob (keep5 _ ob e), r⟩⟩
    · intro j v sj Qj Ej hy hQj
      obtain ⟨cc, hcc, rfl⟩ := hy
      have hQ2 : Qj (trF pb (flat ws) j) sj := hQj
      rw [trF_some hcc] at hQ2
      exact wpAny_truthy_bool hQ2
    · obtain ⟨more, em⟩ := hmore
      have nw : ∀ b u, s1.heap.get? b = some u → b ∉ h3.objs.size :: [s1.heap.objs.size] := fun b u e hb => by
        obtain ⟨_, z2, z3⟩ := oldB b u e
        rcases List.mem_cons.mp hb with z | z
        · exact z2 z
        · exact z3 z
      have hgens : AllBare s'.gens := (I1.bare.push (g := .fresh (.compStart (gx elt iter x y px py qy scope gpos) 0 (.ref s1.heap.objs.size) .none (gE X scope h3.objs.size code))) rfl).moved hm.gens
      have J := inv_tab (more := more) (h' := s'.heap) (g' := s'.gens) (d' := s'.drawn) (t' := s'.toks) I1 hP (fun b u hb e => hm.heap b u (oldB b u e).1 (nw b u e) (keep5 b u (keep3 b u hb e)))
        (by rw [← em]; exact hm.heap P _ (oldB P _ hPs).1 (nw P _ hPs) (keep5 P _ hP3)) hgens
      rw [sh_eta s1 s' hm.os] at J
      exact ⟨upd H1 P (.tbl (ps ++ more)), ⟨⟨ps ++ more, upd_same, by rw [← em]; exact ht3⟩, fun b hb => upd_ne hb⟩, J⟩
  refine ⟨lim2, ?_⟩
  cases hf : codeAmong gpos ps.toList with
  | none =>
    refine wpAny_genexprCodeX hcode (cd.code hP2 ht) (cd.tab hP2) hf fun c' h' tk hx hge hlt hco' _ htab' _ => ?_
    obtain ⟨o1, vs, f1, tf, fl, tg, inF, tx, tt, op, _, _, _, _, _, _, _, _, _, htr, _⟩ := hco'
    exact cont _ h' tk _ hx (Nat.le_trans hge (Nat.le_of_lt hlt)) htab'.2 ⟨_, rfl⟩ htr
  | some cv =>
    refine wpAny_genexprCode_hit hcode (cd.code hP2 ht) hf ?_
    exact cont cv (s1.heap.push o) s1.toks ps (Heap.ExtBut.refl _ _) (Nat.le_refl _) hP2 ⟨#[], by simp⟩ ht

/-- any(test of y for x in e for y in x), e a list of texts -/
def tAny2 (K : PySem.W.Frag) (P : Addr) (pb : Nat → Bool) (te : TE) : TE := fun σ H Q => te σ H fun v H1 => ∃ (yl : Addr) (ws : List Str), v = .ref yl ∧ SqL K H1 yl (ws.map V.str) ∧ TabG H1 P ∧ ∀ H2, Tabbed P H1 H2 → Q (.bl ((flat ws).any pb)) H2
theorem pe_any2 {c P : Addr} {elt iter : Expr} {x y : Str} {px py qy p pos gpos : Pos} {scope : Scope} {pb : Nat → Bool} {te : TE} {k : Nat}
    (hr : Room k X.A) (hg : Gl X "any") (hm : X.mg "any" = none) (TB : TabB X.base X.mg c P) (hcode : X.env.code = .ref c) (S : GenS X.env scope x) (hyl : scope.names.lookup y = some .local) (hdx : (x == ("__debug__" : Str)) = false) (hi : PE X iter te) (hel : Elt2 X P scope y elt pb)
    (hs : ∀ v, genFold iter X.env v = pure v)
    (he : starEach [gx elt iter x y px py qy scope gpos] X.env = (false, eval (gx elt iter x y px py qy scope gpos) X.env) :: starEach [] X.env := by rfl) :
    PE X (.Call (.Name "any" p) [gx elt iter x y px py qy scope gpos] [] pos) (tAny2 X.K P pb te) := by
  refine ⟨fun pins s σ H Q I h => ?_⟩
  refine wpAny_Call_Name_kw (ld_blt I hg hm boot_any ?_)
  refine PyProof.Rows.callWith_builtin1 ?_ he (by rfl)
  rw [he]
  show wpAny _ _ (spliced ((false, eval (gx elt iter x y px py qy scope gpos) X.env) :: backTo pos (starEach [] X.env))) _ _ s
  refine Calls.spliced_cons (gen2 (R := fun ws H1 => ∀ H2, Tabbed P H1 H2 → Q (.bl ((flat ws).any pb)) H2) hr TB hcode S hyl hdx hi hel hs I h fun ws H1 g s5 hR hG => ?_)
  obtain ⟨B, wr, G, F, St, W, hst, htr, hI⟩ := hG
  refine Calls.spliced_nil ?_
  refine call_any_walkK (W.self 0 _ _ _ hst ⟨g, B, wr, G, _, F, St, _, rfl, W, hst, htr, fun s' hmv => ?_⟩)
  obtain ⟨H2, hT, J⟩ := hI s' hmv
  refine ⟨.bl _, H2, J, rfl, ?_⟩
  rw [any_trF]
  exact hR H2 hT
end
end Gx2
namespace Gx2
open PySem PySem.Spec PyProof.Rows L2 GxR
/-- the test at place j -/
def trS (pb : Str → Bool) (l : List Str) (j : Nat) : Bool := match l[j]? with
  | some b => pb b
  | none => false
theorem trS_some {pb : Str → Bool} {l : List Str} {j : Nat} {b : Str} (h : l[j]? = some b) : trS pb l j = pb b := by
  unfold trS
  rw [h]
theorem any_trS (l : List Str) (pb : Str → Bool) : (List.range l.length).any (trS pb l) = l.any pb := by
  rw [Bool.eq_iff_iff, List.any_eq_true, List.any_eq_true]
  constructor
  · intro ⟨j, hj, h⟩
    have hj' := List.mem_range.mp hj
    rw [trS_some (List.getElem?_eq_getElem hj')] at h
    exact ⟨l[j], List.getElem_mem hj', h⟩
  · intro ⟨b, hb, h⟩
    obtain ⟨j, hj, e⟩ := List.getElem_of_mem hb
    refine ⟨j, List.mem_range.mpr hj, ?_⟩
    rw [trS_some (List.getElem?_eq_getElem hj), e]
    exact h
section
variable {X : Cx} {pins : List (Addr × Obj)} {σ : L2.St} {H : Hp} {s : Shared}
def Elt1 (X : Cx) (P : Addr) (scope : Scope) (x : Str) (elt : Expr) (Ex : L2.St → Addr → List Str → Prop) (pb : List Str → Str → Bool) : Prop :=
  ∀ (pins : List (Addr × Obj)) (σ : L2.St) (H1 : Hp) (s1 : Shared) (yl : Addr) (ws : List Str), Inv X pins σ H1 s1 → SqL X.K H1 yl (ws.map V.str) → H1 P ≠ none → (∃ ps, H1 P = some (.tbl ps)) → Ex σ yl ws → ∀ (C : Addr) (code : Value) (A' : Around) (E' : Value → Shared → Prop) (a : Str) (t : Tok) (s₂ : Shared) (m₂ : Str → Option Value), A'.handled = none →
    (∀ b o, b ≠ P → s1.heap.get? b = some o → s₂.heap.get? b = some o) → a ∈ ws → s₂.heap.Ns C m₂ → m₂ x = some (.str a t) →
    wpAny (model X.prog X.w) A' (eval elt (gE X scope C code)) (fun v s₃ => v = .bool (pb ws a) ∧ Keeps s₂ s₃) E' s₂
def Ready1 (X : Cx) (pins : List (Addr × Obj)) (σ : L2.St) (H1 : Hp) (P : Addr) (ws : List Str) (pb : Str → Bool) (g : Addr) (s5 : Shared) : Prop :=
  ∃ (fp wr : List Addr) (G : Array GenState → Array GenState → Prop) (F : Nat → Value → Prop) (St : Nat → Shared → Prop),
    WalksS X.prog X.w X.A.in1 g fp wr G ws.length F St ∧ St 0 s5 ∧ TruthOf X.prog X.w X.A.in1 F (trS pb ws) ∧
    ∀ s', Moved wr G s5 s' → ∃ H2, Tabbed P H1 H2 ∧ Inv X pins σ H2 s'

theorem gen1 {c P : Addr} {elt iter : Expr} {x : Str} {px gpos : Pos} {scope : Scope} {Ex : L2.St → Addr → List Str → Prop} {pb : List Str → Str → Bool} {te : TE} {k : Nat} {Q' : Value → Shared → Prop} {R : List Str → Hp → Prop}
    (hr : Room k X.A) (TB : TabB X.base X.mg c P) (hcode : X.env.code = .ref c) (S : GenS X.env scope x) (hi : PE X iter te) (hel : Elt1 X P scope x elt Ex pb)
    (hs : ∀ v, genFold iter X.env v = pure v) (I : Inv X pins σ H s) (h : te σ H fun v H1 => ∃ (yl : Addr) (ws : List Str), v = .ref yl ∧ SqL X.K H1 yl (ws.map V.str) ∧ Ex σ yl ws ∧ TabG H1 P ∧ R ws H1)
    (hQ : ∀ ws H1 g s5, R ws H1 → Ready1 X pins σ H1 P ws (pb ws) g s5 → Q' (.ref g) s5) :
    wpAny (model X.prog X.w) X.A (eval (.GeneratorExp elt [⟨.Name x px, iter, [], 0⟩] scope gpos) X.env) Q' X.xe s := by
  refine wpAny_GeneratorExp_walksQ hr.hd S.co (closure_ok S.free) S.cell S.dot S.loc S.kind (by have := hr.dp; omega) ?_ hs
  refine thn (hi.run pins s σ H _ I h) fun xv s1 ⟨v, H1, I1, r1, q1⟩ => ?_
  obtain ⟨yl, ws, rfl, hyl, hEx, ⟨ps, hP, ht⟩, q1⟩ := q1
  obtain rfl : xv = Value.ref yl := r1
  obtain ⟨its, rv, hl, hz⟩ := I1.list hyl
  have hIL := hl.isList
  have hlen : its.length = ws.length := by rw [← rv.length, List.length_map]
  have hat : ∀ (i : Nat) (v : Value), its.toArray[i]? = some v → ∃ (a : Str) (u : Tok), ws[i]? = some a ∧ v = .str a u := fun i v hv => by
    have hv2 : its[i]? = some v := by simpa using hv
    have hi2 : i < its.length := (List.getElem?_eq_some_iff.mp hv2).1
    obtain ⟨a, ha⟩ : ∃ a, ws[i]? = some a := ⟨ws[i]'(by omega), List.getElem?_eq_getElem _⟩
    have hb : (ws.map V.str)[i]? = some (V.str a) := by rw [List.getElem?_map, ha] <;> rfl
    obtain ⟨u, hu, ru⟩ := rv.get hb
    rw [hv2] at hu
    cases hu
    obtain ⟨t, e⟩ := (show ∃ t, v = Value.str a t from ru)
    exact ⟨a, t, ha, e⟩
  refine wpAny_pyIter_list hIL ?_
  generalize ho : ({ cls := .type "list_iterator", data := .fields #[.ref yl, .int 0 0] } : Obj) = o
  have hitr : (s1.heap.push o).IsListIter s1.heap.objs.size yl 0 := by
    subst ho
    exact ⟨_, Heap.get?_push_size _ rfl, rfl, rfl⟩
  have hylt : yl < s1.heap.objs.size := by
    obtain ⟨_, e, _⟩ := _root_.id hIL
    exact Heap.lt_size e
  have hPs : s1.heap.get? P = some { cls := .none, data := .fields ps } := I1.hok P _ hP
  have hPlt : P < s1.heap.objs.size := Heap.lt_size hPs
  have hP2 : (s1.heap.push o).get? P = some { cls := .none, data := .fields ps } := Heap.get?_push_of_some _ hPs
  have cd : PySem.W.CodeHd (s1.heap.push o) c P := TB.code.keeps fun b u e => Heap.get?_push_of_some _ (I1.bk b u e)
  have lim2 : (s1.heap.push o).NoLimit := I1.nolimit.push o
  have cont : ∀ (code : Value) (h3 : Heap) (tk : Nat) (ps' : Array Value), Heap.ExtBut P (s1.heap.push o) h3 → (s1.heap.push o).objs.size ≤ h3.objs.size → h3.get? P = some { cls := .none, data := .fields ps' } → (∃ more, ps' = ps ++ more) → TriplesOk ps'.toList →
      wpAny (model X.prog X.w) X.A (builtinsFor X.env.globals X.env.builtins) (fun bi s₄ =>
        ∃ Ia fp wr n₀ Pf St₀ pz F, Value.ref s1.heap.objs.size = .ref Ia ∧ (∀ A' : Around, A'.handled = none → Walks X.prog X.w A' Ia fp wr n₀ Pf St₀) ∧ St₀ 0 s₄.heap ∧ (∀ b ∈ fp, b < s₄.heap.objs.size) ∧ s₄.heap.NoLimit ∧ cStatics ∉ wr ∧
          (∀ href : Heap, (∀ b o, s₄.heap.get? b = some o → href.get? b = some o) →
            QuietGen X.prog X.w (genEnv scope (cloFrom X.env.cells scope.names []) s₄.heap.objs.size code bi X.env) x [] elt (List.range s₄.heap.objs.size) wr Pf pz F href) ∧
          (∀ a h₅ tk gs, gs.bare = true → s₄.heap.objs.size < a → h₅.objs.size = a + 1 → (∀ b o, s₄.heap.get? b = some o → h₅.get? b = some o) →
            WalksS X.prog X.w X.A.in4 a (a :: s₄.heap.objs.size :: List.range s₄.heap.objs.size) (s₄.heap.objs.size :: wr) (GenOnlyQ s₄.gens.size) (passing pz n₀ 0).length
              (fun j y => ∃ i, (passing pz n₀ 0)[j]? = some i ∧ F i y) (GenAt X.prog X.w X.A.in4 a s₄.gens.size s₄.heap.objs.size (List.range s₄.heap.objs.size) wr pz n₀ F) →
            GenAt X.prog X.w X.A.in4 a s₄.gens.size s₄.heap.objs.size (List.range s₄.heap.objs.size) wr pz n₀ F 0 { s₄ with gens := s₄.gens.push gs, toks := tk, heap := h₅ } →
            Q' (.ref a) { s₄ with gens := s₄.gens.push gs, toks := tk, heap := h₅ })) X.xe { s1 with heap := h3, toks := tk } := by
    intro code h3 tk ps' hx hsz hP3 hmore ht3
    obtain ⟨bm, ob, e1, e2, e3, e4, e5, e6, e7, e8⟩ := TB.bm
    have hcP : cStatics ≠ P := fun e => by
      obtain ⟨_, hns, _⟩ := I1.nolimit
      obtain ⟨o', es, ep, ho, hd, _⟩ := hns
      rw [e, hPs] at ho
      cases ho
      cases hd
    have hcl : cStatics < s1.heap.objs.size := let ⟨_, hns, _⟩ := I1.nolimit; hns.lt
    have sz2 : (s1.heap.push o).objs.size = s1.heap.objs.size + 1 := Heap.size_push ..
    have keep3 : ∀ b u, b ≠ P → s1.heap.get? b = some u → h3.get? b = some u := fun b u hb e => hx b u hb (Heap.get?_push_of_some _ e)
    refine wpAny_builtinsFor (m := X.mg) (by rw [I1.ok.glob]; exact ((I1.mod.glob.keeps I1.bk).push o).extBut hx TB.gP) e1 e2 (keep3 _ _ e4 (I1.bk _ _ e5)) e6 e7 e8 ?_
    have hylP : yl ≠ P := fun z => by
      obtain ⟨_, e, hc1, _, hd1⟩ := _root_.id hIL
      rw [z, hPs] at e
      cases e
      cases hd1
    have hIL3 : h3.IsList yl its.toArray := by
      obtain ⟨ob, e, r⟩ := _root_.id hIL
      exact ⟨ob, keep3 _ _ hylP e, r⟩
    have hItr3 : h3.IsListIter s1.heap.objs.size yl 0 := hitr.at fun u e => hx _ u (Nat.ne_of_gt hPlt) e
    refine ⟨s1.heap.objs.size, [s1.heap.objs.size, yl], [s1.heap.objs.size], its.toArray.size, (fun i v => its.toArray[i]? = some v), (fun i h => h.IsListIter s1.heap.objs.size yl i ∧ h.IsList yl its.toArray), (fun _ => true),
      (fun i y => ∃ (a : Str), ws[i]? = some a ∧ y = .bool (pb ws a)), rfl, (fun A' hA => Walks.list hA _ _ (Nat.ne_of_lt hylt) _), ⟨hItr3, hIL3⟩, ?_, lim2.extBut hx hcP, ?_, ?_, ?_⟩
    · intro b hb
      rcases List.mem_cons.mp hb with z | z
      · rw [z]
        show s1.heap.objs.size < h3.objs.size
        omega
      · rcases List.mem_cons.mp z with z | z
        · rw [z]
          have e9 : s1.heap.objs.size ≤ h3.objs.size := by omega
          exact Nat.lt_of_lt_of_le hylt e9
        · cases z
    · intro z
      rcases List.mem_cons.mp z with z | z
      · exact Nat.ne_of_lt hcl z
      · cases z
    · intro href hhref
      refine ⟨fun A' E' i v s₂ m₂ hA hPv hn hm hk => ?_, fun A' E' i v s₂ m₂ hA hPv hp hn hm hk => ?_⟩
      · simp only [List.forIn_nil]
        exact wpAny_pure ⟨rfl, GxR.keeps_refl _⟩
      · obtain ⟨a, u, ha, rfl⟩ := hat i v hPv
        refine wpAny_mono (hel pins σ H1 s1 yl ws I1 hyl (by rw [hP]; simp) ⟨ps, hP⟩ hEx _ code A' E' a u s₂ m₂ hA (fun b o hbP e => ?_) (List.mem_of_getElem? ha) hn hm) (fun y s3 r => ?_) fun _ _ e => e
        · have hl := Heap.lt_size e
          refine hk b (List.mem_range.mpr ?_) (fun z => Nat.ne_of_lt hl (List.mem_singleton.mp z)) o (hhref b o (keep3 b o hbP e))
          show b < h3.objs.size
          have e9 : s1.heap.objs.size ≤ h3.objs.size := by omega
          exact Nat.lt_of_lt_of_le hl e9
        · exact ⟨⟨a, ha, r.1⟩, r.2⟩
    · intro g h5 tk5 gs hgb hag hsz5 hk5 W5 hgat
      simp only [GxR.passing_true, List.length_range] at W5
      have hn5 : its.toArray.size = ws.length := by rw [List.size_toArray, hlen]
      rw [hn5] at W5 hgat
      refine hQ ws H1 g _ q1 ⟨_, _, _, _, _, W5.in4_1, hgat, ?_, fun s' hm => ?_⟩
      · intro j v sj Qj Ej hy hQj
        obtain ⟨i, hij, a, ha, rfl⟩ := hy
        obtain ⟨hj, ej⟩ := List.getElem?_eq_some_iff.mp hij
        rw [List.getElem_range] at ej
        subst ej
        have hQ2 : Qj (trS (pb ws) ws j) sj := hQj
        rw [trS_some ha] at hQ2
        exact wpAny_truthy_bool hQ2
      · obtain ⟨more, em⟩ := hmore
        have nwr : ∀ b u, s1.heap.get? b = some u → b ∉ h3.objs.size :: [s1.heap.objs.size] := fun b u e hb => by
          have hl := Heap.lt_size e
          rcases List.mem_cons.mp hb with z | z
          · rw [z] at hl
            have h9 : (h3.objs.size : Nat) < s1.heap.objs.size := hl
            omega
          · rcases List.mem_cons.mp z with z | z
            · rw [z] at hl
              exact Nat.lt_irrefl _ hl
            · cases z
        have J := GxR.inv_tab (more := more) (h' := s'.heap) (g' := s'.gens) (d' := s'.drawn) (t' := s'.toks) I1 hP (fun b u hb e => hm.heap b u (nwr b u e) (hk5 b u (keep3 b u hb e)))
          (by rw [← em]; exact hm.heap P _ (nwr P _ hPs) (hk5 P _ hP3)) (AllBare.movedS (I1.bare.push hgb) hm)
        rw [GxR.sh_eta s1 s' hm.os] at J
        refine ⟨upd H1 P (.tbl (ps ++ more)), ⟨⟨ps ++ more, upd_same, by rw [← em]; exact ht3⟩, fun b hb => upd_ne hb⟩, J⟩
  refine ⟨lim2, ?_⟩
  cases hf : codeAmong gpos ps.toList with
  | none =>
    refine wpAny_genexprCodeX hcode (cd.code hP2 ht) (cd.tab hP2) hf fun c' h' tk hx hge hlt hco' _ htab' _ => ?_
    obtain ⟨o1, vs, f1, tf, fl, tg, inF, tx, tt, op, _, _, _, _, _, _, _, _, _, htr, _⟩ := hco'
    exact cont _ h' tk _ hx (Nat.le_trans hge (Nat.le_of_lt hlt)) htab'.2 ⟨_, rfl⟩ htr
  | some cv =>
    refine wpAny_genexprCode_hit hcode (cd.code hP2 ht) hf ?_
    exact cont cv (s1.heap.push o) s1.toks ps (Heap.ExtBut.refl _ _) (Nat.le_refl _) hP2 ⟨#[], by simp⟩ ht

/-- any(test of x for x in e), e a list of texts -/
def tAny1 (K : PySem.W.Frag) (P : Addr) (Ex : L2.St → Addr → List Str → Prop) (pb : List Str → Str → Bool) (te : TE) : TE := fun σ H Q => te σ H fun v H1 => ∃ (yl : Addr) (ws : List Str), v = .ref yl ∧ SqL K H1 yl (ws.map V.str) ∧ Ex σ yl ws ∧ TabG H1 P ∧ ∀ H2, Tabbed P H1 H2 → Q (.bl (ws.any (pb ws))) H2
theorem pe_any1 {c P : Addr} {elt iter : Expr} {x : Str} {px p pos gpos : Pos} {scope : Scope} {Ex : L2.St → Addr → List Str → Prop} {pb : List Str → Str → Bool} {te : TE} {k : Nat}
    (hr : Room k X.A) (hg : Gl X "any") (hm : X.mg "any" = none) (TB : TabB X.base X.mg c P) (hcode : X.env.code = .ref c) (S : GenS X.env scope x) (hi : PE X iter te) (hel : Elt1 X P scope x elt Ex pb)
    (hs : ∀ v, genFold iter X.env v = pure v)
    (he : starEach [.GeneratorExp elt [⟨.Name x px, iter, [], 0⟩] scope gpos] X.env = (false, eval (.GeneratorExp elt [⟨.Name x px, iter, [], 0⟩] scope gpos) X.env) :: starEach [] X.env := by rfl) :
    PE X (.Call (.Name "any" p) [.GeneratorExp elt [⟨.Name x px, iter, [], 0⟩] scope gpos] [] pos) (tAny1 X.K P Ex pb te) := by
  refine ⟨fun pins s σ H Q I h => ?_⟩
  refine wpAny_Call_Name_kw (ld_blt I hg hm boot_any ?_)
  refine PyProof.Rows.callWith_builtin1 ?_ he (by rfl)
  rw [he]
  show wpAny _ _ (spliced ((false, eval (.GeneratorExp elt [⟨.Name x px, iter, [], 0⟩] scope gpos) X.env) :: backTo pos (starEach [] X.env))) _ _ s
  refine Calls.spliced_cons (gen1 (R := fun ws H1 => ∀ H2, Tabbed P H1 H2 → Q (.bl (ws.any (pb ws))) H2) hr TB hcode S hi hel hs I h fun ws H1 g s5 hR hG => ?_)
  obtain ⟨fp, wr, G, F, St, W, hst, htr, hI⟩ := hG
  refine Calls.spliced_nil ?_
  refine call_any_walkS (W.self 0 _ _ _ hst ⟨g, fp, wr, G, _, F, St, _, rfl, W, hst, htr, fun s' hmv => ?_⟩)
  obtain ⟨H2, hT, J⟩ := hI s' hmv
  refine ⟨.bl _, H2, J, rfl, ?_⟩
  rw [any_trS]
  exact hR H2 hT
end

/-! ### elements -/
section
variable {prog : Program} {w : World} {A : Around} {E : Value → Shared → Prop} {s : Shared} {cenv : Env}
theorem el_name {x : Str} {p : Pos} {v : Value} {m : Str → Option Value} {Q : Value → Shared → Prop} (hk : cenv.scope.kind = .function) (hx : cenv.kindOf x = some .local) (hn : s.heap.Ns cenv.locals m) (hm : m x = some v) (h : Q v s) (hd : (x == ("__debug__" : Str)) = false := by decide) :
    wpAny (model prog w) A (eval (.Name x p) cenv) Q E s := wpAny_Name (wpAny_loadName_local hk hx hn hm h) hd
theorem el_glob {x : Str} {p : Pos} {v : Value} {mg : Str → Option Value} {Q : Value → Shared → Prop} (hk : cenv.scope.kind = .function) (hx : cenv.kindOf x = some .globalImplicit) (hg : s.heap.Ns cenv.globals mg) (hm : mg x = some v) (h : Q v s) (hd : (x == ("__debug__" : Str)) = false := by decide) :
    wpAny (model prog w) A (eval (.Name x p) cenv) Q E s := Calls.Name_function_global hk hx (Calls.loadGlobal_global hg hm h) hd
theorem el_blt {x : Str} {p : Pos} {v : Value} {mg mb : Str → Option Value} {Q : Value → Shared → Prop} (hk : cenv.scope.kind = .function) (hx : cenv.kindOf x = some .globalImplicit) (hg : s.heap.Ns cenv.globals mg) (hmiss : mg x = none) (hb : s.heap.Ns cenv.builtins mb) (hv : mb x = some v) (h : Q v s) (hd : (x == ("__debug__" : Str)) = false := by decide) :
    wpAny (model prog w) A (eval (.Name x p) cenv) Q E s := Calls.Name_function_global hk hx (Calls.loadGlobal_builtin hg hmiss hb hv h) hd
/-- len(e) of a text -/
theorem el_len {e : Expr} {p1 p3 : Pos} {mg mb : Str → Option Value} {Q : Value → Shared → Prop} {R : Str → Shared → Prop} (hk : cenv.scope.kind = .function) (hx : cenv.kindOf "len" = some .globalImplicit) (hg : s.heap.Ns cenv.globals mg) (hmiss : mg "len" = none) (hb : s.heap.Ns cenv.builtins mb) (hv : mb "len" = some (.builtin "len"))
    (he1 : wpAny (model prog w) A (eval e cenv) (fun v s' => ∃ a t, v = .str a t ∧ a.length ≤ 1000 ∧ R a s') E s)
    (h : ∀ a s' tk u, R a s' → Q (.int a.length u) { s' with toks := tk })
    (he : starEach [e] cenv = (false, eval e cenv) :: starEach [] cenv := by rfl) :
    wpAny (model prog w) A (eval (.Call (.Name "len" p1) [e] [] p3) cenv) Q E s := by
  refine wpAny_Call_Name_kw (el_blt hk hx hg hmiss hb hv ?_)
  refine PyProof.Rows.callWith_builtin1 ?_ he (by rfl)
  rw [he]
  show wpAny _ _ (spliced ((false, eval e cenv) :: backTo p3 (starEach [] cenv))) _ _ s
  refine Calls.spliced_cons (wpAny_mono he1 (fun v s' hv => ?_) fun _ _ e => e)
  obtain ⟨a, t, rfl, hl, hR⟩ := hv
  refine Calls.spliced_nil ?_
  exact PyProof.Rows.len_str (by omega) (h a s' _ _ hR)
end
end Gx2
namespace Gx2
open PySem PySem.Spec PyProof.Rows L2 GxR
section
variable {X : Cx} {P : Addr} {scope : Scope}
theorem base_keeps {pins : List (Addr × Obj)} {σ : L2.St} {H1 : Hp} {s1 s₂ : Shared} (I : Inv X pins σ H1 s1) (hP : H1 P ≠ none) (hk : ∀ b o, b ≠ P → s1.heap.get? b = some o → s₂.heap.get? b = some o) :
    ∀ b o, X.base.get? b = some o → s₂.heap.get? b = some o := fun b o e => by
  obtain ⟨e1, e2⟩ := I.bs b o e
  refine hk b o (fun z => ?_) e1
  rw [z] at e2
  exact hP e2
/-- len(row) > MOST -/
theorem elt_gt {x cN : Str} {n : Int} {t0 : Tok} {p1 p2 p3 p4 p5 : Pos} (hk : scope.kind = .function) (hl : scope.names.lookup ("len" : Str) = some .globalImplicit) (hc : scope.names.lookup cN = some .globalImplicit) (hx : scope.names.lookup x = some .local)
    (hmg : X.mg "len" = none) (hmc : X.mg cN = some (.int n t0)) (hdx : (x == ("__debug__" : Str)) = false := by decide) (hdc : (cN == ("__debug__" : Str)) = false := by decide) :
    Elt1 X P scope x (.Compare (.Call (.Name "len" p1) [.Name x p2] [] p3) [.Gt] [.Name cN p4] p5) (fun _ _ ws => ∀ a ∈ ws, a.length ≤ 1000) (fun _ a => decide (n < (a.length : Int))) := by
  intro pins σ H1 s1 yl ws I hS hP hPt hEx C code A' E' a t s₂ m₂ hA hkeep ha hn hm
  have hB := base_keeps I hP hkeep
  have hg : s₂.heap.Ns mainGlobals X.mg := I.mod.glob.keeps hB
  obtain ⟨mb, hb0, hb1⟩ := I.mod.blt
  have hb : s₂.heap.Ns builtinsNs mb := hb0.keeps hB
  have eG : (gE X scope C code).globals = mainGlobals := I.ok.glob
  refine wpAny_Compare1 ?_
  refine el_len (R := fun b s' => b = a ∧ s' = s₂) hk hl (by rw [eG]; exact hg) hmg hb ((hb1 "len" (by decide)).trans PySem.boot_len) ?_ ?_
  · exact el_name hk hx hn hm ⟨a, t, rfl, hEx a ha, rfl, rfl⟩ hdx
  · rintro b s' tk u ⟨rfl, rfl⟩
    refine el_glob hk hc (by rw [eG]; exact hg) hmc ?_ hdc
    exact PyProof.Rows.gt_int ⟨rfl, keeps_tok _ _⟩
/-- len(row) != len(rows[0]) -/
theorem elt_ne {x r : Str} {i : Nat} {p1 p2 p3 p4 p5 p6 p7 p8 p9 : Pos} {k0 : Nat} (hk : scope.kind = .function) (hl : scope.names.lookup ("len" : Str) = some .globalImplicit) (hx : scope.names.lookup x = some .local) (hr : scope.names.lookup r = some .free)
    (hfree : ∀ c, X.env.cells.lookup r = some c → (cloFrom X.env.cells scope.names []).lookup r = some c) (hN : X.N[i]? = some r) (hv : X.env.kindOf r = some .cell)
    (hmg : X.mg "len" = none) (hdx : (x == ("__debug__" : Str)) = false := by decide) (hdr : (r == ("__debug__" : Str)) = false := by decide) (hdcr : (r == ("__classdict__" : Str)) = false := by decide) :
    Elt1 X P scope x (.Compare (.Call (.Name "len" p1) [.Name x p2] [] p3) [.NotEq] [.Call (.Name "len" p4) [.Subscript (.Name r p5) (.Constant (.int 0) k0 p6) p7] [] p8] p9)
      (fun σ yl ws => (∀ a ∈ ws, a.length ≤ 1000) ∧ σ[i]? = some (some (.ref yl))) (fun ws a => (a.length : Int) != ((ws.headD "").length : Int)) := by
  intro pins σ H1 s1 yl ws I hS hP hPt hEx C code A' E' a t s₂ m₂ hA hkeep ha hn hm
  obtain ⟨hEx, hσ⟩ := hEx
  have hB := base_keeps I hP hkeep
  have hg : s₂.heap.Ns mainGlobals X.mg := I.mod.glob.keeps hB
  obtain ⟨mb, hb0, hb1⟩ := I.mod.blt
  have hb : s₂.heap.Ns builtinsNs mb := hb0.keeps hB
  have eG : (gE X scope C code).globals = mainGlobals := I.ok.glob
  obtain ⟨ps, hPt⟩ := hPt
  have hPs : s1.heap.get? P = some { cls := .none, data := .fields ps } := I.hok P _ hPt
  -- rows itself
  obtain ⟨m, hn0, hl0⟩ := I.loc
  obtain ⟨u, ru, lk⟩ := hl0 i r _ hN hσ (.inr (.inl hv))
  obtain rfl : u = Value.ref yl := ru
  have hcell : ∃ c, X.env.cells.lookup r = some c ∧ s1.heap.IsCell c (some (.ref yl)) := by
    rcases lk with ⟨hk2, _⟩ | ⟨_, c, hc, hcell⟩
    · rw [hv] at hk2
      cases hk2
    · exact ⟨c, hc, hcell⟩
  obtain ⟨c, hc, oc, hoc, hdc⟩ := hcell
  have hcP : c ≠ P := fun z => by
    rw [z, hPs] at hoc
    cases hoc
    cases hdc
  have hcell2 : s₂.heap.IsCell c (some (.ref yl)) := ⟨oc, hkeep c oc hcP hoc, hdc⟩
  obtain ⟨its, rv, hl2, hz⟩ := I.list hS
  have hIL := hl2.isList
  have hylP : yl ≠ P := fun z => by
    obtain ⟨_, e, hc1, _, hd1⟩ := _root_.id hIL
    rw [z, hPs] at e
    cases e
    cases hd1
  have hIL2 : s₂.heap.IsList yl its.toArray := by
    obtain ⟨ob, e, q⟩ := _root_.id hIL
    exact ⟨ob, hkeep yl ob hylP e, q⟩
  obtain ⟨b0, rest, rfl⟩ : ∃ b0 rest, ws = b0 :: rest := by
    cases ws with
    | nil => cases ha
    | cons b0 rest => exact ⟨b0, rest, rfl⟩
  obtain ⟨u0, hu0, ru0⟩ := rv.get (i := 0) (x := V.str b0) rfl
  obtain ⟨t0, rfl⟩ := (show ∃ t, u0 = Value.str b0 t from ru0)
  refine wpAny_Compare1 ?_
  refine el_len (R := fun b s' => b = a ∧ s' = s₂) hk hl (by rw [eG]; exact hg) hmg hb ((hb1 "len" (by decide)).trans PySem.boot_len) ?_ ?_
  · exact el_name hk hx hn hm ⟨a, t, rfl, hEx a ha, rfl, rfl⟩ hdx
  · rintro b s' tk u ⟨rfl, rfl⟩
    refine el_len (R := fun b s3 => b = b0 ∧ ∃ tk3, s3 = { s' with toks := tk3 }) hk hl (by rw [eG]; exact hg) hmg hb ((hb1 "len" (by decide)).trans PySem.boot_len) ?_ ?_
    · refine Subscript_ (wpAny_Name (wpAny_loadName_free hk hr (hfree c hc) hcell2 ?_ hdcr) hdr)
      refine wpAny_Constant_int ?_
      exact item_listR hIL2 (by decide) (by decide) (by simpa using hu0) ⟨b0, t0, rfl, hEx b0 List.mem_cons_self, rfl, _, rfl⟩ (by with_unfolding_all rfl)
    · rintro b s3 tk2 u2 ⟨rfl, tk3, rfl⟩
      exact PyProof.Rows.ne_int ⟨rfl, keeps_tok _ _⟩
/-- sign not in SIGNS -/
theorem elt_notin {y cN : Str} {z : Str} {t0 : Tok} {p1 p2 p3 : Pos} (hk : scope.kind = .function) (hc : scope.names.lookup cN = some .globalImplicit) (hy : scope.names.lookup y = some .local) (hmc : X.mg cN = some (.str z t0)) (hgP : mainGlobals ≠ P) (hdy : (y == ("__debug__" : Str)) = false := by decide) (hdc : (cN == ("__debug__" : Str)) = false := by decide) :
    Elt2 X P scope y (.Compare (.Name y p1) [.NotIn] [.Name cN p2] p3) (fun c => !decide (c ∈ z.cps.toList)) := by
  intro pins σ H1 s1 I C code A' E' c u s₂ m₂ hA hkeep hn hm
  have eG : (gE X scope C code).globals = mainGlobals := I.ok.glob
  have hg : s₂.heap.Ns mainGlobals X.mg := (I.mod.glob.keeps I.bk).at' fun o e => hkeep _ o hgP e
  refine wpAny_Compare1 ?_
  refine el_name hk hy hn hm ?_ hdy
  refine el_glob hk hc (by rw [eG]; exact hg) hmc ?_ hdc
  refine PyProof.Rows.notIn_str ?_
  rw [PySem.StrLaws.found_one]
  exact ⟨rfl, keeps_refl _⟩
end
end Gx2
/-! Defs that are handed the exception which a suite holds: the promise knows its object. -/
namespace Ge
open PySem PySem.Spec PyProof.Rows L2 L2H
/-- a promise told also of the object that is held -/
abbrev SpE := Addr × Obj → Sp
structure FnE (P : Program) (w : World) (K : PySem.W.Frag) (mg : Str → Option Value) (base : Heap) (CX : CXT) (k : Nat) (f : Addr) (fd : FuncData) (ps : List Str) (sp : SpE) : Prop where
  len : ∀ p vs H Q E, sp p vs H Q E → vs.length = ps.length
  run : ∀ (A : Around) (outer : List Env) (s : Shared) (H : Hp) (args : Args) (us : List Value) (vs : List V) (Q : VK) (E : XK) (p : Addr × Obj), RoomH k A → PinOk outer H s p → Env0 P w K mg base A outer s H → BindsTo s fd args (ps.zip us) → Vals vs us → sp p vs H Q E →
    codeAny (model P w) A (.call (.ref f) args) (CR CX outer P w H s Q E) s
theorem fnE_of {CX : CXT} {P : Program} {w : World} {K : PySem.W.Frag} {mg : Str → Option Value} {base : Heap} {k : Nat} {f : Addr} {name qual : Str} {params : Arguments} {body : List Stmt} {scope : Scope} {dV kV doc pm cdv ct oc : Value} {an od : Option Addr}
    {osl : Array (Option Value)} {N ps : List Str} {sp : SpE} (lk : K.lookup f = some ⟨oc, od, .func (PySem.W.fnOf name qual params body scope dV kV doc pm an cdv ct), osl⟩) (hcd : PySem.W.codeIn K cdv qual = true) (S : FnScope N ps scope)
    (len : ∀ p vs H Q E, sp p vs H Q E → vs.length = ps.length)
    (hbody : ∀ (A : Around) (outer : List Env) (s : Shared) (H : Hp) (vs : List V) (Q : VK) (E : XK) (p : Addr × Obj), RoomH k (A.deeper (envOfC qual scope s.heap.objs.size f cdv)) → sp p vs H Q E →
      ∃ t, PSs (cxH CX P w K mg base N qual scope f cdv A outer s H E p) body t ∧ t { nx := fun _ H' => Q .non H', rt := Q } (L2.start N vs) H) :
    FnE P w K mg base CX (k + 1) f (PySem.W.fnOf name qual params body scope dV kV doc pm an cdv ct) ps sp := by
  refine ⟨len, fun A outer s H args us vs Q E p hr hpin e0 hb r hsp => ?_⟩
  have hl := len _ _ _ _ _ hsp
  have KX : K.In s.heap := e0.mod.kin.keeps fun b o e => (e0.bs b o e).1
  have lim : s.heap.NoLimit := e0.mod.nolimit.keeps fun b o e => (e0.bs b o e).1
  refine codeAny_call_function hr.depth (KX _ _ lk) rfl S.co S.gen rfl (PySem.W.codeRec_of KX hcd) (hb _ _ _ _ ?_)
  refine wpAny_newFunctionEnv_cells S.kind (fun y hy => ?_) fun env he s1 x => ?_
  · obtain ⟨n, v⟩ := y
    rcases S.par n (List.of_mem_zip hy).1 with q | q
    · exact .inl q
    · exact .inr ⟨q, PySem.W.cellsFrom_some _ _ _ (.inl q)⟩
  subst he
  refine ⟨lim.keeps x.toInCall.keep, codeAny_func ?_⟩
  obtain ⟨t, ht, hq⟩ := hbody A outer s H vs Q E p (hr.deeper _) hsp
  refine wpAny_mono (ht.run [] s1 (L2.start N vs) H _ (inv_startH S hpin e0 hl r x) hq) (fun fl s' hs => ?_) fun e s' hs => hs
  cases fl with
  | ret u =>
    obtain ⟨v, σ', H', J, rv, q⟩ := hs
    exact ⟨v, H', J.os, J.bare, J.base, J.hok, rv, q⟩
  | next =>
    obtain ⟨σ', H', J, q⟩ := hs
    exact ⟨V.non, H', J.os, J.bare, J.base, J.hok, rfl, q⟩
  | brk =>
    obtain ⟨_, _, _, q⟩ := hs
    exact False.elim q
  | cont =>
    obtain ⟨_, _, _, q⟩ := hs
    exact False.elim q
section
variable {X : Cx} {CX : CXT} {k : Nat} {f C : Addr} {fd : FuncData} {ps : List Str} {sp : SpE} {E : XK} {x m : Str} {q pos apos : Pos} {e o : Expr} {es : List Expr} {ta : TE} {t : TA} {p : Addr × Obj}
theorem run_fnE {pins : List (Addr × Obj)} {σ : L2.St} {H : Hp} {s : Shared} {Q : VK} {us : List Value} {vs : List V} (F : FnE X.prog X.w X.K X.mg X.base CX k f fd ps sp) (hr : RoomH k X.A) (hp : p ∈ X.pn) (hb : Binds X.K fd ps []) (hx : Passes CX X E)
    (I : Inv X pins σ H s) (r : Vals vs us) (h : sp p vs H Q E) : wpAny (model X.prog X.w) X.A (call (.ref f) us) (EP X pins σ Q) X.xe s := by
  have hl : us.length = ps.length := by rw [← r.length]; exact F.len _ _ _ _ _ h
  have b := hb s us I.kIn (by rw [List.append_nil]; exact hl)
  rw [List.append_nil] at b
  have P1 := I.pin p (List.mem_append_left _ hp)
  have hpin : PinOk X.stack H s p := ⟨P1.1, P1.2.1, fun hm => (List.mem_cons.mp (I.stkSub p.1 hm)).elim P1.2.2.1 P1.2.2.2.1, P1.2.2.2.2⟩
  refine wpAny_call (codeAny_mono (F.run X.A X.stack s H ⟨us, []⟩ us vs Q E p hr hpin I.env0 b r h) fun r s' hq => ?_)
  cases r with
  | error e => exact hx pins σ H s e s' I hq
  | ok fl =>
    cases fl with
    | ret u => exact I.after hq
    | next => exact False.elim hq
    | brk => exact False.elim hq
    | cont => exact False.elim hq
theorem pe_callE (F : FnE X.prog X.w X.K X.mg X.base CX k f fd ps sp) (hr : RoomH k X.A) (hp : p ∈ X.pn) (hg : Gl X x) (hm : X.mg x = some (.ref f)) (hk : PySem.W.keepIn X.K (.ref f) = true) (hb : Binds X.K fd ps []) (hx : Passes CX X E)
    (ha : PA X (e :: es) t) (hdb : (x == ("__debug__" : Str)) = false := by decide) (he : starEach (e :: es) X.env = (false, eval e X.env) :: starEach es X.env := by rfl) (hpl : (backTo pos (starEach es X.env)).any (·.1) = false := by rfl) :
    PE X (.Call (.Name x q) (e :: es) [] pos) (tCall (sp p) [] E t) := by
  refine ⟨fun pins s σ H Q I h => ?_⟩
  refine wpAny_Call_Name_kw (ld_glob I hg hm ?_ hdb)
  refine PySem.W.callWith_K (h₀ := X.base) I.ok.mod.kin hk (thn (ha.run pos pins s σ H _ I h) fun us s1 ⟨vs, H1, I1, r, q⟩ => ⟨I1.kIn, ?_⟩) he hpl
  have q2 : sp p (vs ++ []) H1 Q E := q
  rw [List.append_nil] at q2
  exact run_fnE F hr hp hb hx I1 r q2
/-- isinstance(e, c), e the exception that is held -/
theorem call_isP {D : Addr} (hp : p ∈ X.pn) (C : ExcC X.K D) (hz : Zc (.ref D) none p.2) (hf : ∃ vs, p.2.data = .fields vs) : CallR X (.builtin "isinstance") (rIsE X.K D p.1) := by
  intro pins s σ H xs us Q I r h
  obtain ⟨c, cv, b, rfl, hcv, e, q⟩ := h
  cases r with
  | cons rx rr =>
    cases rr with
    | cons rt rr =>
      cases rr
      cases rx
      cases hcv _ rt
      obtain ⟨a, oe⟩ := p
      obtain ⟨hget, _⟩ := I.pin (a, oe) (List.mem_append.mpr (.inl hp))
      obtain ⟨vs, hv⟩ := hf
      have J : PySem.W.InstAt s.heap a oe D none := by
        obtain ⟨oc, od, oda, osl⟩ := oe
        obtain ⟨h1, h2⟩ := hz
        dsimp only at h1 h2 hv
        subst h1 h2 hv
        exact ⟨hget, rfl, rfl, trivial⟩
      exact PySem.W.kia_one (PySem.W.handS_kitx_exc C.hg C.hk C.hs C.hd C.ha C.hn C.ht C.hm) I.kIn J e (fun z => nomatch z) fun tk => ⟨.bl b, H, I.tok tk, rfl, q⟩
end
/-! ### list.count of bools -/
def bq (k : Bool) (v : Value) : Bool := match v with
  | .bool b => b == k
  | _ => false
theorem bq_at {A : Around} {s : Shared} {k : Bool} : ∀ {us : List Value} {bs : List Bool}, Vals (bs.map V.bl) us → ∀ y ∈ us, SeqAt.EqAt A s y (.bool k) (bq k y)
  | _, [], r => fun y hy => by
    cases r
    cases hy
  | _, b :: bs, r => fun y hy => by
    cases r with
    | cons ru rr =>
      rename_i u us
      rcases List.mem_cons.mp hy with e | e
      · obtain rfl : u = Value.bool b := ru
        rw [e]
        exact SeqAt.EqAt.bool_bool b k
      · exact bq_at rr y e
theorem bq_count {k : Bool} : ∀ {us : List Value} {bs : List Bool}, Vals (bs.map V.bl) us → us.countP (bq k) = bs.count k
  | _, [], r => by
    cases r
    rfl
  | _, b :: bs, r => by
    cases r with
    | cons ru rr =>
      rename_i u us
      obtain rfl : u = Value.bool b := ru
      rw [List.countP_cons, bq_count rr, List.count_cons]
      rfl
theorem mt_bcount {X : Cx} : MtR X "list.count" (fun x xs H Q => ∃ (p : Addr) (bs : List Bool) (k : Bool), x = .ref p ∧ xs = [.bl k] ∧ SqL X.K H p (bs.map V.bl) ∧ Q (.int (bs.count k : Nat)) H) := by
  intro pins s σ H x xs v us Q I rx rxs h
  obtain ⟨p, bs, k, rfl, rfl, hs, q⟩ := h
  cases rx
  obtain ⟨u, rfl, ru⟩ := rxs.one
  obtain rfl : u = Value.bool k := ru
  obtain ⟨its, rv, ⟨⟨cls, dd, data, sl⟩, n, ho, hc, hdn, hd⟩, hlen⟩ := I.list hs
  simp only at hc hd
  subst hc hd
  refine call_meets PySem.F.slot_list_count ⟨_, ho, rfl⟩ PySem.F.entry_list_count (PySem.F.args_list_count_2 _ _)
    (SeqAt.list_countAt p its.toArray n dd sl (.bool k) (bq k)) ⟨ho, fun y hy => bq_at rv y (by simpa using hy), ?_⟩
  have ec : its.toArray.toList.countP (bq k) = bs.count k := bq_count rv
  refine ⟨.int (bs.count k : Nat), H, I.tok _, ⟨s.toks, ?_⟩, q⟩
  show Value.int ((its.toArray.toList.countP (bq k) : Nat) : Int) s.toks = Value.int ((bs.count k : Nat) : Int) s.toks
  rw [ec]
end Ge
/-! Several clauses «except X as n», all of one name n; an object made in a try's body. -/
namespace Ga
open PySem PySem.Spec PyProof.Rows L2
abbrev Suite := Addr → Value → Option Addr → TS
/-- the ends behind a suite that has let go of slot i -/
def offE (i : Nat) (D : Ends) : Ends := { nx := fun τ G => D.nx (τ.set i none) G, rt := D.rt, bk := fun τ G => D.bk (τ.set i none) G, ct := fun τ G => D.ct (τ.set i none) G }
/-- the clauses' wish, from the first on -/
def wAll (K : PySem.W.Frag) (i : Nat) (out : WX) (D : Ends) : List (Value × Suite) → WX
  | [] => out
  | (c, ts) :: r => fun cls d τ G => ∃ b, PySem.W.exmOne K cls c = some b ∧ (b = true → ∀ a, G a = none → ts a cls d (offE i D) (τ.set i (some (.ref a))) G) ∧ (b = false → wAll K i out D r cls d τ G)
inductive ClsA (X : Cx) (n : Str) : List ExceptHandler → List (Value × Suite) → Prop
  | nil : ClsA X n [] []
  | cons {x : Str} {c : Value} {ts : Suite} {b₀ : Stmt} {more : List Stmt} {p1 p2 : Pos} {hs : List ExceptHandler} {l : List (Value × Suite)} (named : Names X x c)
      (does : ∀ (a : Addr) (oe : Obj) (cls : Value) (d : Option Addr) (pn : List (Addr × Obj)), Zc cls d oe → (∃ us, oe.data = .fields us) → PSs (X.suite a ((a, oe) :: pn)) (b₀ :: more) (ts a cls d)) (rest : ClsA X n hs l) :
      ClsA X n (.ExceptHandler (some (.Name x p1)) (some n) (b₀ :: more) p2 :: hs) ((c, ts) :: l)
section
variable {X : Cx} {n : Str} {i : Nat} {body : List Stmt} {h₁ : ExceptHandler} {hs : List ExceptHandler} {l : List (Value × Suite)} {pos : Pos} {tb : WX → TS} {out : WX}
theorem ps_try_all (e1 : X.stack = X.env :: X.outer) (e2 : X.env.frame = some X.env.locals) (nd : X.N.Nodup) (hi : X.N[i]? = some n) (hk : X.env.kindOf n = some .local) (tk : Takes X out)
    (hb : ∀ (W : WX) (pn : List (Addr × Obj)) (xe : Value → Shared → Prop), Takes (X.tr pn xe) W → PassesOwn (model X.prog X.w) X.A X.env xe → PSs (X.tr pn xe) body (tb W))
    (hcl : ClsA X n (h₁ :: hs) l) : PS X (.Try body (h₁ :: hs) [] [] pos) (fun D τ G => tb (wAll X.K i out D l) D τ G) := by
  constructor
  intro pins s τ G D I wish
  have ok := I.ok
  have fr : X.A.frames = some (X.env :: X.outer) := ok.frames.trans (congrArg some e1)
  have own : Loc X.env.scope n := Or.inl hk
  apply wpAny_Try_except
  have inner := (hb (wAll X.K i out D l) (X.pn ++ pins) (fun e s₁ => wpAny (model X.prog X.w) X.A (noteFrame e X.env) (fun _ s₂ => wpAny (model X.prog X.w) X.A (setFlight e none) (fun _ s₃ =>
    wpAny (model X.prog X.w) X.A (handleBy e X.env (h₁ :: hs)) (SP X pins D) X.xe s₃) X.xe s₂) X.xe s₁) ?caught PassesOwn.looking).run [] s τ G D (I.toTry _) wish
  · refine wpAny_mono inner (fun fl s1 done => ?_) (fun _ _ z => z)
    cases fl with
    | next => exact wpAny_execs_nil (done.elim fun τ' q => q.elim fun G' r => ⟨τ', G', r.1.ofTry ok, r.2⟩)
    | brk => exact done.elim fun τ' q => q.elim fun G' r => ⟨τ', G', r.1.ofTry ok, r.2⟩
    | cont => exact done.elim fun τ' q => q.elim fun G' r => ⟨τ', G', r.1.ofTry ok, r.2⟩
    | ret u => exact done.elim fun v q => q.elim fun τ' r => r.elim fun G' z => ⟨v, τ', G', z.1.ofTry ok, z.2.1, z.2.2⟩
  case caught =>
    rintro u s' ⟨a, B, sI, qs, τ', G', cls, d, rfl, J', nb, up, sky, na, os, ag, w⟩
    have J : Inv X qs τ' G' sI ∨ Inv X pins τ' G' sI := Or.inr (J'.ofTry ok)
    have J : Inv X pins τ' G' sI := J'.ofTry ok
    rw [e1] at sky
    show wpAny (model X.prog X.w) X.A (noteFrame (.ref a) X.env) _ _ _
    refine Sky.land Zc.steady fr e2 sky ?_
    intro h3 fl3 up3
    have at3 : Inv X pins τ' G' { s' with heap := h3 } := J.landed nb fl3.1 (up.trans up3) os ag
    obtain ⟨o3, us3, g3, z3, d3⟩ := fl3.there
    have out3 : a ∉ frs (X.env :: X.outer) := by
      intro hm
      obtain ⟨_, oo, eo, ho⟩ := fl3.2.2.1.mem hm
      rw [g3] at eo
      cases eo
      exact ho us3 d3
    have nL : a ≠ X.env.locals := by
      intro z
      refine out3 (List.mem_filterMap.mpr ⟨X.env, List.mem_cons_self, ?_⟩)
      rw [e2, z]
    have nF : a ∉ X.fs := by
      intro hm
      obtain ⟨ev, he, q⟩ := List.mem_filterMap.mp hm
      exact out3 (List.mem_filterMap.mpr ⟨ev, List.mem_cons_of_mem _ he, q⟩)
    have su3 := at3.suite g3 d3 na nL nF
    suffices go : ∀ {hs' : List ExceptHandler} {l' : List (Value × Suite)}, ClsA X n hs' l' → wAll X.K i out D l' cls d τ' G' → wpAny (model X.prog X.w) X.A (handleBy (.ref a) X.env hs') (SP X pins D) X.xe { s' with heap := h3 } from go hcl w
    intro hs' l' hc
    induction hc with
    | nil =>
      intro w
      apply wpAny_handleBy_nil
      obtain ⟨_, _, _, ob, us, T, oT, ts', he, hz, hd, h1, hr⟩ := id fl3
      unfold PySem.passOn
      apply wpAny_bind
      apply wpAny_field he hd h1
      have nn : ¬ ((Value.ref T == Value.none) = true) := by simp
      rw [if_neg nn]
      have last : wpAny (model X.prog X.w) X.A (setFlight (.ref a) X.env.frame) (fun _ s4 => wpAny (model X.prog X.w) X.A (throw (.ref a) : Sem Flow) (SP X pins D) X.xe s4) X.xe { s' with heap := h3 } := by
        rw [e2]
        refine HandSPX.setFlight_upZ fl3 ?_
        intro h4 hh4 up4
        apply wpAny_throw
        apply tk
        refine ⟨a, B, sI, pins, τ', G', cls, d, rfl, J, nb, (up.trans up3).trans up4, Or.inr (Or.inr ?_), na, os, ag, w⟩
        rw [e1]
        exact hh4
      first
        | exact wpAny_bind (wpAny_pure (wpAny_bind last))
        | exact wpAny_bind last
    | @cons x c ts b₀ more p1 p2 hs2 l2 named does rest ih =>
      rintro ⟨b, hb1, yes, nay⟩
      refine wpAny_handleBy_cons (codeAny_handlers_test ?_) (fun q => by cases q)
      have looks : PySem.W.Looks (model X.prog X.w) h3 (typeOf (.ref a)) cls := fun _ _ _ _ k q => wpAny_typeOf_ref (k _ _ g3) (by rw [z3.1]; exact q)
      have answer := PySem.W.exm_one (M := model X.prog X.w) at3.kIn looks hb1
      have named2 := named
      obtain ⟨hg, hdbg, hm⟩ := named2
      have tested : ∀ {Q E : Value → Shared → Prop}, Q c { s' with heap := h3 } → wpAny (model X.prog X.w) (X.A.mark (some (.ref a))) (eval (.Name x p1) X.env) Q E { s' with heap := h3 } := by
        intro Q E q
        rcases hm with hm | ⟨hm, hv, hnn⟩
        · exact ld_glob (X := X.suite a ((a, o3) :: (X.pn ++ pins))) su3 hg hm q hdbg
        · exact ld_blt (X := X.suite a ((a, o3) :: (X.pn ++ pins))) su3 hg hm hv q hnn hdbg
      apply tested
      apply answer.here
      cases b with
      | false => exact ih (nay rfl)
      | true =>
        apply codeAny_handlers_suite_as
        refine HandSPX.lands_againZ fl3 ?_
        intro h4 fl4 up4
        have at4 : Inv X pins τ' G' { s' with heap := h4 } := J.landed nb fl4.1 ((up.trans up3).trans up4) os ag
        obtain ⟨o4, us4, g4, z4, d4⟩ := fl4.there
        have su4 := at4.suite g4 d4 na nL nF
        refine store_ok (X := X.suite a ((a, o4) :: (X.pn ++ pins))) (v := .ref a) su4 nd hi own rfl ?_ (.inr hk)
        intro s5 su5
        have gone : ∀ {τ6 : L2.St} {G6 : Hp} {s6 : Shared} {Q : Shared → Prop}, Inv (X.suite a ((a, o4) :: (X.pn ++ pins))) [] τ6 G6 s6 → (∀ s7, Inv X pins (τ6.set i none) G6 s7 → Q s7) →
            wpAny (model X.prog X.w) X.A (do bindName X.env n .none; unbindBehindTheSuite X.env n p2) (fun _ s7 => Q s7) X.xe s6 := fun S6 hq => gone_ok (S6.unsuite ok) nd hi hk hq
        refine wpAny_mono ((does a o4 cls d (X.pn ++ pins) z4 ⟨_, d4⟩).run [] s5 _ G' _ su5 (yes rfl a na)) ?_ (fun _ _ z => z.elim)
        intro fl s6 done
        cases fl with
        | next => exact done.elim fun τ6 q => q.elim fun G6 r => gone r.1 fun s7 J7 => ⟨_, _, J7, r.2⟩
        | brk => exact done.elim fun τ6 q => q.elim fun G6 r => gone r.1 fun s7 J7 => ⟨_, _, J7, r.2⟩
        | cont => exact done.elim fun τ6 q => q.elim fun G6 r => gone r.1 fun s7 J7 => ⟨_, _, J7, r.2⟩
        | ret v => exact done.elim fun y q => q.elim fun τ6 r => r.elim fun G6 z => gone z.1 fun s7 J7 => ⟨_, _, _, J7, z.2.1, z.2.2⟩
end
section
variable {X : Cx} {CX : CXT} {k : Nat} {f C : Addr} {fd : FuncData} {ps : List Str} {sp : Sp} {W : L2.St → XK} {x : Str} {p pos : Pos} {e : Expr} {es : List Expr} {t : TA}
/-- C(..) where what comes out of __init__ hangs on the slots -/
def tMakeS (C : Addr) (sp : Sp) (W : L2.St → XK) (t : TA) : TE := fun τ G Q => t τ G fun vs G1 => ∀ y dy, G1 y = none → G1 dy = none → dy ≠ y → sp (.ref y :: vs) (upd (upd G1 dy (.own y)) y (.ins C dy [])) (fun v G2 => v = .non ∧ Q (.ref y) G2) (W τ)
theorem pe_makeS (M : Mk X.K C f) (F : FnOk X.prog X.w X.K X.mg X.base CX k f fd ps sp) (hr : Room (k + 1) X.A) (hg : Gl X x) (hm : X.mg x = some (.ref C)) (hb : Binds X.K fd ps []) (hx : ∀ τ, PassesAt CX X τ (W τ))
    (ha : PA X (e :: es) t) (hdb : (x == ("__debug__" : Str)) = false := by decide) (he : starEach (e :: es) X.env = (false, eval e X.env) :: starEach es X.env := by rfl) (hpl : (backTo pos (starEach es X.env)).any (·.1) = false := by rfl) :
    PE X (.Call (.Name x p) (e :: es) [] pos) (tMakeS C sp W t) := by
  constructor
  intro pins s τ G Q I wish
  refine wpAny_Call_Name_kw (ld_glob I hg hm ?_ hdb)
  refine PySem.W.callWith_K (h₀ := X.base) I.ok.mod.kin M.kp (thn (ha.run pos pins s τ G _ I wish) ?_) he hpl
  rintro us s1 ⟨vs, G1, I1, r, q⟩
  refine ⟨I1.kIn, ?_⟩
  have ny := I1.hok.fresh (Nat.le_succ s1.heap.objs.size)
  have ndy := I1.hok.fresh (Nat.le_refl s1.heap.objs.size)
  have made := Inv.made (C := C) I1
  have now := q _ _ ny ndy (Nat.ne_of_lt (Nat.lt_succ_self _))
  have vals : Vals (V.ref (s1.heap.objs.size + 1) :: vs) (Value.ref (s1.heap.objs.size + 1) :: us) := .cons rfl r
  have many : (Value.ref (s1.heap.objs.size + 1) :: us).length = ps.length := vals.length.symm.trans (F.len _ _ _ _ now)
  have bound := hb _ (Value.ref (s1.heap.objs.size + 1) :: us) made.kIn (by rw [List.append_nil]; exact many)
  rw [List.append_nil] at bound
  have ran := F.run _ X.stack _ _ ⟨Value.ref (s1.heap.objs.size + 1) :: us, []⟩ _ _ _ (W τ) (hr.make C us []) (made.env0.make C us []) bound vals now
  refine wpAny_call (make_map (f := f) I1.kIn M.makes M.init (beq_iff_eq.mp M.fn) (codeAny_mono ran ?_))
  intro res s' done
  cases res with
  | error ex => exact hx τ pins _ _ ex s' made done
  | ok fl =>
    cases fl with
    | next => exact done.elim
    | brk => exact done.elim
    | cont => exact done.elim
    | ret u =>
      obtain ⟨v, G', I3, rv, ev, q3⟩ := made.after done
      subst ev
      exact ⟨rv, V.ref (s1.heap.objs.size + 1), G', I3, rfl, q3⟩
end
end Ga
namespace Sf
open PySem L2
def top (i : Nat) : Stmt := PySem.Challenge.pw_slabfloor_k03_rows_refused.main.body.getD i (.Pass ⟨0, 0, 0, 0⟩)
abbrev s_wall : Stmt := top 0
abbrev s_refuse_wrong : Stmt := top 16
abbrev s_sign_at : Stmt := top 17
abbrev s_neighbours : Stmt := top 18
abbrev s_neighbours_of_cells : Stmt := top 19
abbrev srefuse_no_cell : Stmt := top 20
abbrev sFloor___init__ : Stmt := inClass (top 21) 0
abbrev sFloor_cells : Stmt := inClass (top 21) 1
abbrev sFloor_has : Stmt := inClass (top 21) 2
abbrev sFloor_row_and_column : Stmt := inClass (top 21) 3
abbrev sFloor_sign : Stmt := inClass (top 21) 4
abbrev sFloor_shade : Stmt := inClass (top 21) 5
abbrev sFloor_may : Stmt := inClass (top 21) 6
abbrev sFloor_beside : Stmt := inClass (top 21) 7
abbrev s_law_cell_at : Stmt := top 23
abbrev s_law_number : Stmt := top 24
abbrev s_law_rows : Stmt := top 25
abbrev s_law_faulty : Stmt := top 26
abbrev s_law_due : Stmt := top 27
abbrev s_law_one_class : Stmt := top 28
abbrev s_law_told : Stmt := top 29
abbrev slaw : Stmt := top 30
/-- all that was tracked is as it was, but for the table at P, which may have grown -/
structure Sm (P : Addr) (H H' : Hp) : Prop where
  k : ∀ b o, b ≠ P → H b = some o → H' b = some o
  t : GxR.TabG H P → GxR.TabG H' P
theorem Sm.of {P : Addr} {H H' : Hp} (e : Same H H') : Sm P H H' := ⟨fun b o _ h => e b o h, fun ⟨ps, h, q⟩ => ⟨ps, e _ _ h, q⟩⟩
theorem Sm.refl (P : Addr) (H : Hp) : Sm P H H := .of (Same.refl H)
theorem Sm.trans {P : Addr} {H H1 H2 : Hp} (a : Sm P H H1) (b : Sm P H1 H2) : Sm P H H2 := ⟨fun c o hc h => b.k c o hc (a.k c o hc h), fun h => b.t (a.t h)⟩
theorem Sm.tabbed {P : Addr} {H H' : Hp} (h : GxR.Tabbed P H H') : Sm P H H' := ⟨fun b o hb e => by rw [h.2 b hb]; exact e, fun _ => h.1⟩
theorem Sm.free {P : Addr} {H H' : Hp} (e : Sm P H H') (hT : GxR.TabG H P) {l : Addr} (h : H' l = none) : H l = none := by
  by_cases hl : l = P
  · obtain ⟨ps, z, _⟩ := e.t hT
    rw [hl, z] at h
    cases h
  · cases q : H l with
    | none => rfl
    | some o =>
      rw [e.k l o hl q] at h
      cases h
theorem Sm.seq {P : Addr} {K : PySem.W.Frag} {H H' : Hp} {a : Addr} {xs : List V} (e : Sm P H H') (hT : GxR.TabG H P) (h : SqL K H a xs) : SqL K H' a xs := by
  obtain ⟨ps, z, _⟩ := hT
  rcases h with (h | ⟨o, h⟩) | h
  · exact .inl (.inl (e.k _ _ (fun q => by rw [q, z] at h; cases h) h))
  · exact .inl (.inr ⟨o, e.k _ _ (fun q => by rw [q, z] at h; cases h) h⟩)
  · exact .inr h
theorem Same.new {H : Hp} {a : Addr} {o : HO} (h : H a = none) : Same H (upd H a o) := fun b u e => by
  rw [upd_ne (ne_of_none e h)]
  exact e
/-! ### the script's cells -/
/-- script[k], 0 beyond -/
def cellN (ns : List Int) (k : Nat) : Int := ns.getD k 0
theorem int_at {ns : List Int} {j : Nat} (h : j < ns.length) : (ns.map V.int)[j]? = some (V.int (ns.getD j 0)) := by
  rw [List.getElem?_map, List.getElem?_eq_getElem h, List.getD_eq_getElem?_getD, List.getElem?_eq_getElem h] <;> rfl
def spCellAt (K : PySem.W.Frag) : Sp := fun vs H Q _ => ∃ (a : Addr) (ns : List Int) (k : Nat), vs = [.ref a, .int k] ∧ SqL K H a (ns.map V.int) ∧ Q (.int (cellN ns k)) H
def spNumber (K : PySem.W.Frag) : Sp := fun vs H Q _ => ∃ (a : Addr) (ns : List Int) (k : Nat), vs = [.ref a, .int k] ∧ SqL K H a (ns.map V.int) ∧ ns.length ≤ 63 ∧ k ≤ 100000 ∧ ∀ r : Int, Q (.int r) H
section
variable {P : Program} {w : World} {K : PySem.W.Frag} {mg : Str → Option Value} {base : Heap}
theorem scCell : FnScope ["_law_script", "_law_k"] ["_law_script", "_law_k"] (defScope s_law_cell_at) := ⟨rfl, rfl, rfl, by decide +kernel, rfl, by decide +kernel, by decide +kernel⟩
theorem ok_cell {f : Addr} {fd : FuncData} (F : Fun K "_law_cell_at" "_law_cell_at" s_law_cell_at f fd) (gL : mg "len" = none) : FnOk P w K mg base CX0 1 f fd ["_law_script", "_law_k"] (spCellAt K) := by
  refine F.ok scCell (fun vs H Q E h => ?_) (fun cdv A outer s H vs Q E hr h => ?_)
  · obtain ⟨a, ns, k, rfl, _⟩ := h
    rfl
  · obtain ⟨a, ns, k, rfl, hS, hQ⟩ := h
    refine ⟨_, pss_cons (ps_if (pt_cmpR op_lt (pv 1) (pe_callB call_len (by rfl) gL PySem.boot_len (pa_cons (pv 0) pa_nil)) (nomark _)) (pss_one (ps_ret (pe_ix ix_list (pv 0) (pv 1) (fun _ _ => rfl)))) pss_nil) (pss_one (ps_ret pe_int)), ?_⟩
    refine ⟨_, rfl, _, rfl, _, _, rfl, .inl ⟨_, hS, rfl⟩, _, _, rfl, rfl, _, rfl, ?_⟩
    rw [List.length_map]
    refine ite2 (fun hc => ?_) (fun hc => ?_)
    · have hlt : k < ns.length := by
        have := of_decide_eq_true hc
        omega
      exact ⟨_, rfl, _, rfl, _, _, _, _, rfl, rfl, hS, atI_nat (int_at hlt), hQ⟩
    · have hge : ns.length ≤ k := by
        have := of_decide_eq_false (Bool.eq_false_iff.mpr hc)
        omega
      have e : cellN ns k = 0 := by
        unfold cellN
        rw [List.getD_eq_getElem?_getD, List.getElem?_eq_none hge] <;> rfl
      rw [e] at hQ
      exact hQ
theorem scNumber : FnScope ["_law_script", "_law_k", "_law_base"] ["_law_script", "_law_k"] (defScope s_law_number) := ⟨rfl, rfl, rfl, by decide +kernel, rfl, by decide +kernel, by decide +kernel⟩
theorem ok_number {f : Addr} {fd : FuncData} (F : Fun K "_law_number" "_law_number" s_law_number f fd) (gL : mg "len" = none) : FnOk P w K mg base CX0 1 f fd ["_law_script", "_law_k"] (spNumber K) := by
  refine F.ok scNumber (fun vs H Q E h => ?_) (fun cdv A outer s H vs Q E hr h => ?_)
  · obtain ⟨a, ns, k, rfl, _⟩ := h
    rfl
  · obtain ⟨a, ns, k, rfl, hS, hl, hk, hQ⟩ := h
    refine ⟨_, pss_cons (ps_if (pt_cmpR op_eq (pe_callB call_len (by rfl) gL PySem.boot_len (pa_cons (pv 0) pa_nil)) pe_int (nomark _)) (pss_one (ps_ret (pv 1))) pss_nil)
      (pss_cons (ps_set (i := 2) scNumber.nd rfl (Or.inl rfl) (pe_op op_add (pe_ix ix_list (pv 0) (pe_op op_modN (pe_op op_add pe_int (pv 1)) (pe_callB call_len (by rfl) gL PySem.boot_len (pa_cons (pv 0) pa_nil))) (fun _ _ => rfl)) (pe_op op_mul pe_int (pe_op op_fdivN (pv 1) (pe_callB call_len (by rfl) gL PySem.boot_len (pa_cons (pv 0) pa_nil))))))
      (pss_one (ps_ret (pe_op op_mod (pe_op op_mul (pv 2) pe_int) pe_int)))), ?_⟩
    refine ⟨_, rfl, _, _, rfl, .inl ⟨_, hS, rfl⟩, rfl, _, rfl, ?_⟩
    rw [List.length_map]
    refine ite2 (fun hc => ?_) (fun hc => ?_)
    · exact ⟨_, rfl, hQ _⟩
    · have hne : ns.length ≠ 0 := by
        intro e
        apply hc
        rw [e]
        rfl
      have hpos : (0 : Int) < (ns.length : Int) := by omega
      have hm0 : 0 ≤ Int.fmod (2 + (k : Int)) (ns.length : Int) := Int.fmod_nonneg_of_pos _ hpos
      have hm1 : Int.fmod (2 + (k : Int)) (ns.length : Int) < (ns.length : Int) := Int.fmod_lt_of_pos _ hpos
      obtain ⟨j, hj⟩ : ∃ j : Nat, Int.fmod (2 + (k : Int)) (ns.length : Int) = (j : Int) := ⟨(Int.fmod (2 + (k : Int)) (ns.length : Int)).toNat, by omega⟩
      have hjl : j < ns.length := by omega
      refine ⟨_, rfl, _, rfl, _, _, rfl, rfl, _, rfl, _, _, rfl, .inl ⟨_, hS, rfl⟩, _, _, rfl, rfl, ?_, ?_⟩
      · rw [List.length_map]
        omega
      · rw [List.length_map]
        refine ⟨_, _, _, _, rfl, rfl, hS, at_of hj (int_at hjl), ?_⟩
        refine ⟨_, rfl, _, rfl, _, _, rfl, .inl ⟨_, hS, rfl⟩, _, _, rfl, rfl, ?_, ?_⟩
        · rw [List.length_map]
          exact ⟨by omega, by omega⟩
        · rw [List.length_map]
          refine ⟨_, _, rfl, rfl, .inl ⟨by decide, by decide⟩, _, _, rfl, rfl, ?_⟩
          exact ⟨_, rfl, _, _, rfl, rfl, .inr ⟨by decide, by decide⟩, _, _, rfl, rfl, (by show (0 : Int) < 65521; decide), hQ _⟩
end
end Sf
namespace Sf
open PySem L2
theorem join_flat : ∀ ws : List Str, (Txt.join ("" : Str) ws).cps.toList = Gx2.flat ws := by
  intro ws
  show (Builtin.Str.glued _ ws).cps.toList = _
  rw [StrLaws.glued_eq_join]
  have e0 : ("" : Str) = ⟨#[]⟩ := by decide +kernel
  induction ws with
  | nil => rfl
  | cons a r ih =>
    cases r with
    | nil =>
      show a.cps.toList = (a :: []).flatMap _
      simp
    | cons b r =>
      show (a ++ ("" : Str) ++ Str.join ("" : Str) (b :: r)).cps.toList = (a :: b :: r).flatMap (fun a => a.cps.toList)
      rw [Str.cps_append, Str.cps_append, Array.toList_append, Array.toList_append, ih, List.flatMap_cons, e0]
      simp
/-- a sign that a floor may have -/
def okSign (c : Nat) : Prop := c = 46 ∨ c = 45 ∨ c = 124 ∨ c = 35
def wide (ws : List Str) : Nat := (ws.headD "").length
structure Wf (ws : List Str) : Prop where
  high : ws.length ≤ 12
  len : ∀ a ∈ ws, a.length = wide ws
  wid : wide ws ≤ 12
  sign : ∀ a ∈ ws, ∀ c ∈ a.cps.toList, okSign c
theorem empty_len : ("" : Str).length = 0 := by decide +kernel
theorem Wf.of {ws : List Str} {n : Nat} (h1 : ws.length ≤ 12) (h2 : ∀ a ∈ ws, a.length = n) (h3 : n ≤ 12) (h4 : ∀ a ∈ ws, ∀ c ∈ a.cps.toList, okSign c) : Wf ws := by
  cases ws with
  | nil => exact ⟨h1, fun a ha => (by cases ha), (by show ("" : Str).length ≤ 12; rw [empty_len]; omega), h4⟩
  | cons b r =>
    have e : Sf.wide (b :: r) = n := h2 b List.mem_cons_self
    exact ⟨h1, fun a ha => (h2 a ha).trans e.symm, (by rw [e]; exact h3), h4⟩
/-- the six menus -/
def menus : List Str := [".", "....-|#.", ".-|#", "..#", "...-||", ".#-.-."]
structure MenuOk (z : Str) : Prop where
  pos : 0 < z.length
  sm : z.length ≤ 8
  sg : ∀ c ∈ z.cps.toList, okSign c
theorem menu_b : menus.all (fun z => decide (0 < z.length) && decide (z.length ≤ 8) && z.cps.toList.all (fun c => c == 46 || c == 45 || c == 124 || c == 35)) = true := by decide +kernel
theorem menu_ok : ∀ z ∈ menus, MenuOk z := fun z hz => by
  have h := List.all_eq_true.mp menu_b z hz
  simp only [Bool.and_eq_true, decide_eq_true_eq, List.all_eq_true, Bool.or_eq_true, beq_iff_eq] at h
  exact ⟨h.1.1, h.1.2, fun c hc => by
    have q := h.2 c hc
    unfold okSign
    omega⟩
theorem mod_nat (i : Int) {k : Int} (h : 0 < k) : ∃ n : Nat, i % k = (n : Int) ∧ (n : Int) < k :=
  ⟨(i % k).toNat, (Int.toNat_of_nonneg (Int.emod_nonneg _ (by omega))).symm, by rw [Int.toNat_of_nonneg (Int.emod_nonneg _ (by omega))]; exact Int.emod_lt_of_pos _ h⟩
/-- _law_rows: some rows of a floor, a new list -/
def spRows (K : PySem.W.Frag) : Sp := fun vs H Q _ => ∃ (a : Addr) (ns : List Int), vs = [.ref a] ∧ SqL K H a (ns.map V.int) ∧ ns.length ≤ 63 ∧
  ∀ (l : Addr) (ws : List Str) (H' : Hp), Wf ws → Same H H' → H l = none → H' l = some (.lst (ws.map V.str)) → Q (.ref l) H'
theorem sum_len {c n : Nat} : ∀ {ys : List Str}, (∀ y ∈ ys, y.length = c) → (ys.map (·.length)).sum = ys.length * c
  | [], _ => by simp
  | y :: r, h => by
    rw [List.map_cons, List.sum_cons, h y List.mem_cons_self, sum_len (n := n) (fun z hz => h z (List.mem_cons_of_mem _ hz)), List.length_cons, Nat.succ_mul]
    omega
theorem len_flat1 : ∀ {ys : List Str}, (∀ y ∈ ys, y.length = 1) → (Gx2.flat ys).length = ys.length
  | [], _ => rfl
  | y :: r, h => by
    have e : y.cps.toList.length = 1 := by
      rw [Array.length_toList]
      exact h y List.mem_cons_self
    show ((y :: r).flatMap _).length = _
    rw [List.flatMap_cons, List.length_append, e, List.length_cons, Nat.add_comm 1]
    show (Gx2.flat r).length + 1 = _
    rw [len_flat1 (fun z hz => h z (List.mem_cons_of_mem _ hz))]
section
variable {P : Program} {w : World} {K : PySem.W.Frag} {mg : Str → Option Value} {base : Heap}
def nRows : List Str := ["_law_script", "_law_first", "_law_high", "_law_wide", "_law_menu", "_law_rows_here", "_law_row", "_law_signs", "_law_column"]
theorem scRows : FnScope nRows ["_law_script"] (defScope s_law_rows) := ⟨rfl, rfl, rfl, by decide +kernel, rfl, by decide +kernel, by decide +kernel⟩
theorem ok_rows {f fc fn : Addr} {fd fdc fdn : FuncData} (F : Fun K "_law_rows" "_law_rows" s_law_rows f fd)
    (GC : FnOk P w K mg base CX0 1 fc fdc ["_law_script", "_law_k"] (spCellAt K)) (gC : mg "_law_cell_at" = some (.ref fc)) (kC : PySem.W.keepIn K (.ref fc) = true) (bC : Binds K fdc ["_law_script", "_law_k"] [])
    (GN : FnOk P w K mg base CX0 1 fn fdn ["_law_script", "_law_k"] (spNumber K)) (gN : mg "_law_number" = some (.ref fn)) (kN : PySem.W.keepIn K (.ref fn) = true) (bN : Binds K fdn ["_law_script", "_law_k"] [])
    (gL : mg "len" = none) (gR : mg "range" = none) : FnOk P w K mg base CX0 2 f fd ["_law_script"] (spRows K) := by
  refine F.ok scRows (fun vs H Q E h => ?_) (fun cdv A outer s H vs Q E hr h => ?_)
  · obtain ⟨a, ns, rfl, _⟩ := h
    rfl
  · obtain ⟨a, ns, rfl, hS, hl, hQ⟩ := h
    refine ⟨_, pss_cons (ps_set (i := 1) scRows.nd rfl (Or.inl rfl) (pe_call GC hr rfl gC kC bC .nil pass0 (pa_cons (pv 0) (pa_cons pe_int pa_nil))))
      (pss_cons (ps_set (i := 2) scRows.nd rfl (Or.inl rfl) (pe_op op_mod (pv 1) pe_int))
      (pss_cons (ps_set (i := 3) scRows.nd rfl (Or.inr rfl) (pe_op op_mod (pe_op op_fdiv (pv 1) pe_int) pe_int))
      (C8.pss_cut (ps_if (pt_cmpR op_eq (pe_op op_mod (pe_op op_fdiv (pv 1) pe_int) pe_int) pe_int (nomark _)) (pss_cons (ps_set (i := 2) scRows.nd rfl (Or.inl rfl) (pe_op op_mod (pe_op op_fdiv (pv 1) pe_int) pe_int)) (pss_one (ps_set (i := 3) scRows.nd rfl (Or.inr rfl) (pe_op op_mod (pe_op op_fdiv (pv 1) pe_int) pe_int)))) pss_nil)
      (C8.pss_cut (ps_if (pt_cmpR op_eq (pe_op op_mod (pe_op op_fdiv (pv 1) pe_int) pe_int) pe_int (nomark _)) (pss_cons (ps_set (i := 2) scRows.nd rfl (Or.inl rfl) (pe_op op_mod (pe_op op_fdiv (pv 1) pe_int) pe_int)) (pss_one (ps_set (i := 3) scRows.nd rfl (Or.inr rfl) (pe_op op_mod (pe_op op_fdiv (pv 1) pe_int) pe_int)))) pss_nil)
      (C8.pss_cut (ps_if (PW.pt (pw_and (pt_cmpR op_eq (pe_op op_mod (pe_op op_fdiv (pv 1) pe_int) pe_int) pe_int (nomark _)) (pw_and1 (pt_cmpR op_eq (pe_op op_mod (pe_op op_fdiv (pv 1) pe_int) pe_int) pe_int (nomark _))))) (pss_cons (ps_set (i := 2) scRows.nd rfl (Or.inl rfl) (pe_op op_mod (pe_op op_fdiv (pv 1) pe_int) pe_int)) (pss_one (ps_set (i := 3) scRows.nd rfl (Or.inr rfl) (pe_op op_mod (pe_op op_fdiv (pv 1) pe_int) pe_int)))) pss_nil)
      (pss_cons (ps_set (i := 4) scRows.nd rfl (Or.inr rfl) (pe_ix ix_list (pe_lst (pa_cons pe_str (pa_cons pe_str (pa_cons pe_str (pa_cons pe_str (pa_cons pe_str (pa_cons pe_str pa_nil))))))) (pe_op op_mod (pe_call GC hr rfl gC kC bC .nil pass0 (pa_cons (pv 0) (pa_cons pe_int pa_nil))) pe_int) (fun _ _ => rfl)))
      (pss_cons (ps_set (i := 5) scRows.nd rfl (Or.inl rfl) (pe_lst pa_nil))
      (pss_cons (ps_for PassesOwn.never rfl (pi_range1 rfl gR (pa_cons (pv 2) pa_nil)) (pg_name (i := 6) scRows.nd rfl (Or.inr rfl))
        (pss_cons (ps_setLc (i := 7) (own := [("_law_column", 8)]) (g := gName 8) (tt := tYes) rfl scRows.nd rfl rfl (sw_true rfl rfl rfl (by decide +kernel)) (pi_range1 rfl gR (pa_cons (pv 3) pa_nil)) (blkOk_by (N := nRows) (sc := defScope s_law_rows) (by decide +kernel)) (fun _ _ _ _ _ => pg_name (i := 8) scRows.nd rfl (Or.inl rfl)) (fun _ _ _ _ _ => pts_nil)
            (fun _ _ _ _ _ => pe_ix ix_str (pv 4) (pe_op op_modN (pe_call GN hr rfl gN kN bN .nil pass0 (pa_cons (pv 0) (pa_cons (pe_op op_add (pe_op op_mul (pv 6) (pv 3)) (pv 8)) pa_nil))) (pe_callB call_len_str (by rfl) gL PySem.boot_len (pa_cons (pv 4) pa_nil))) (fun _ _ => rfl)))
        (pss_one (ps_expr (pe_bm PySem.F.plainAttrs_list PySem.F.slot_list_append PySem.F.type_list_append mt_append (pv 5) (pa_cons (pe_join pe_str (pv 7)) pa_nil))))))
      (pss_one (ps_ret (pv 5))))))))))), ?_⟩
    refine ⟨_, rfl, a, ns, 0, rfl, hS, ?_⟩
    refine ⟨_, rfl, _, _, rfl, rfl, (by show (0 : Int) < 7; decide), ?_⟩
    refine ⟨_, rfl, _, _, rfl, rfl, ⟨by decide, by decide⟩, _, _, rfl, rfl, (by show (0 : Int) < 7; decide), ?_⟩
    generalize cellN ns 0 = first
    let Mid : L2.St → Hp → Prop := fun σ' H' => ∃ hi wd : Nat, hi ≤ 12 ∧ wd ≤ 12 ∧ H = H' ∧ σ' = [some (.ref a), some (.int first), some (.int hi), some (.int wd), none, none, none, none, none]
    have mk : ∀ {i j : Int} {k1 k2 : Int}, 0 < k1 → k1 ≤ 13 → 0 < k2 → k2 ≤ 13 → Mid [some (.ref a), some (.int first), some (.int (i % k1)), some (.int (j % k2)), none, none, none, none, none] H := fun {i j k1 k2} h1 h2 h3 h4 => by
      obtain ⟨n1, e1, l1⟩ := mod_nat i h1
      obtain ⟨n2, e2, l2⟩ := mod_nat j h3
      exact ⟨n1, n2, by omega, by omega, rfl, by rw [e1, e2]⟩
    refine ⟨Mid, ?_, ?_⟩
    · refine ⟨_, rfl, _, _, rfl, rfl, ⟨by decide, by decide⟩, _, _, rfl, rfl, (by show (0 : Int) < 8; decide), rfl, _, rfl, ?_⟩
      refine ite2 (fun hc => ?_) (fun hc => ?_)
      · refine ⟨_, rfl, _, _, rfl, rfl, ⟨by decide, by decide⟩, _, _, rfl, rfl, (by show (0 : Int) < 13; decide), ?_⟩
        refine ⟨_, rfl, _, _, rfl, rfl, ⟨by decide, by decide⟩, _, _, rfl, rfl, (by show (0 : Int) < 5; decide), ?_⟩
        exact mk (by decide) (by decide) (by decide) (by decide)
      · exact mk (by decide) (by decide) (by decide) (by decide)
    rintro _ _ ⟨hi, wd, h1, h2, rfl, rfl⟩
    refine ⟨Mid, ?_, ?_⟩
    · refine ⟨_, rfl, _, _, rfl, rfl, ⟨by decide, by decide⟩, _, _, rfl, rfl, (by show (0 : Int) < 8; decide), rfl, _, rfl, ?_⟩
      refine ite2 (fun hc => ?_) (fun hc => ?_)
      · refine ⟨_, rfl, _, _, rfl, rfl, ⟨by decide, by decide⟩, _, _, rfl, rfl, (by show (0 : Int) < 5; decide), ?_⟩
        refine ⟨_, rfl, _, _, rfl, rfl, ⟨by decide, by decide⟩, _, _, rfl, rfl, (by show (0 : Int) < 13; decide), ?_⟩
        exact mk (by decide) (by decide) (by decide) (by decide)
      · exact ⟨hi, wd, h1, h2, rfl, rfl⟩
    clear h1 h2
    rintro _ _ ⟨hi, wd, h1, h2, rfl, rfl⟩
    refine ⟨Mid, ?_, ?_⟩
    · refine ⟨_, rfl, _, _, rfl, rfl, ⟨by decide, by decide⟩, _, _, rfl, rfl, (by show (0 : Int) < 8; decide), rfl, _, rfl, ?_⟩
      refine ite2 (fun hc => ?_) (fun hc => ?_)
      · refine ⟨_, rfl, _, _, rfl, rfl, ⟨by decide, by decide⟩, _, _, rfl, rfl, (by show (0 : Int) < 4; decide), rfl, _, rfl, ?_⟩
        refine ite2 (fun hc => ?_) (fun hc => ?_)
        · refine ⟨_, rfl, _, _, rfl, rfl, ⟨by decide, by decide⟩, _, _, rfl, rfl, (by show (0 : Int) < 13; decide), ?_⟩
          refine ⟨_, rfl, _, _, rfl, rfl, ⟨by decide, by decide⟩, _, _, rfl, rfl, (by show (0 : Int) < 13; decide), ?_⟩
          exact mk (by decide) (by decide) (by decide) (by decide)
        · exact ⟨hi, wd, h1, h2, rfl, rfl⟩
      · exact ⟨hi, wd, h1, h2, rfl, rfl⟩
    clear h1 h2
    rintro _ _ ⟨hi, wd, h1, h2, rfl, rfl⟩
    clear mk Mid
    -- the menu
    refine ⟨(by show 6 ≤ sizeLine; decide), fun lm hlm => ?_⟩
    have s0 : Same H (upd H lm (.lst (menus.map V.str))) := Same.new hlm
    refine ⟨_, rfl, a, ns, 1, rfl, s0.seq hS, _, _, rfl, rfl, (by show (0 : Int) < 6; decide), ?_⟩
    obtain ⟨mi, hmi, hml⟩ := mod_nat (cellN ns 1) (k := 6) (by decide)
    have hml2 : mi < 6 := by omega
    obtain ⟨z, hz⟩ : ∃ z, menus[mi]? = some z := ⟨_, List.getElem?_eq_getElem (show mi < menus.length from hml2)⟩
    have Z := menu_ok z (List.mem_of_getElem? hz)
    refine ⟨lm, menus.map V.str, _, .str z, rfl, rfl, .inl (.inl upd_same), at_of hmi (by rw [List.getElem?_map, hz] <;> rfl), ?_⟩
    refine ⟨(by show 0 ≤ sizeLine; decide), fun lr hlr => ?_⟩
    have s1 : Same H (upd (upd H lm (.lst (menus.map V.str))) lr (.lst [])) := s0.trans (Same.new hlr)
    have hlr0 : H lr = none := s0.free hlr
    -- for row in range(high)
    refine ⟨_, rfl, (hi : Int), rfl, by omega, by omega, for_range (n := (hi : Int).toNat) (fun i σ H2 => ∃ (ws : List Str) (v6 v7 : Option V), σ = [some (.ref a), some (.int first), some (.int hi), some (.int wd), some (.str z), some (.ref lr), v6, v7, none] ∧ Same H H2 ∧ H2 lr = some (.lst (ws.map V.str)) ∧ ws.length = i ∧ (∀ x ∈ ws, x.length = wd) ∧ ∀ x ∈ ws, ∀ c ∈ x.cps.toList, okSign c)
      ⟨[], none, none, rfl, s1, upd_same, rfl, (fun x hx => by cases hx), fun x hx => by cases hx⟩ ?_ ?_⟩
    · rintro i σ H2 hi2 ⟨ws, v6, v7, rfl, s2, hw, hwl, hw1, hw2⟩
      have hil : i < hi := by omega
      -- signs = [..]
      refine ⟨_, rfl, (wd : Int), rfl, by omega, by omega, fun D hD => ?_⟩
      refine lc_range (lo := 0) (n := (wd : Int).toNat) (fun j H3 => ∃ ys : List Str, Same H2 H3 ∧ H3 D = some (.lst (ys.map V.str)) ∧ ys.length = j ∧ (∀ y ∈ ys, y.length = 1) ∧ ∀ y ∈ ys, ∀ c ∈ y.cps.toList, okSign c) ?_ ?_ ?_
      · exact ⟨[], Same.new hD, upd_same, rfl, fun x hx => (by cases hx), fun x hx => (by cases hx)⟩
      · rintro j H3 hj ⟨ys, s3, hD3, hyl, hy1, hy2⟩
        have hjl : j < wd := by omega
        refine ⟨rfl, ?_⟩
        refine ⟨_, rfl, _, rfl, _, rfl, _, rfl, _, _, rfl, rfl, .inl ⟨by omega, by omega⟩, _, rfl, _, _, rfl, rfl, a, ns, i * wd + j, ?_, s3.seq (s2.seq hS), hl, ?_, fun r => ?_⟩
        · show [V.ref a, V.int ((0 + (i : Int)) * (wd : Int) + (0 + (j : Int)))] = [V.ref a, V.int ((i * wd + j : Nat) : Int)]
          rw [Int.zero_add, Int.zero_add, Int.natCast_add, Int.natCast_mul]
        · have : i * wd ≤ 12 * 12 := Nat.mul_le_mul (by omega) h2
          omega
        · have hp := Z.pos
          have hs8 := Z.sm
          have hzs : z.length ≤ sizeLine := Nat.le_trans hs8 (by decide)
          refine ⟨_, rfl, z, rfl, hzs, _, _, rfl, rfl, by omega, ?_⟩
          have hm0 : 0 ≤ Int.fmod r (z.length : Int) := Int.fmod_nonneg_of_pos _ (by omega)
          have hm1 : Int.fmod r (z.length : Int) < (z.length : Int) := Int.fmod_lt_of_pos _ (by omega)
          obtain ⟨jj, hjj⟩ : ∃ jj : Nat, Int.fmod r (z.length : Int) = (jj : Int) := ⟨(Int.fmod r (z.length : Int)).toNat, (Int.toNat_of_nonneg hm0).symm⟩
          have hjj2 : jj < z.cps.size := by
            have : (z.length : Int) = (z.cps.size : Int) := rfl
            omega
          have hcc : z.cps.toList[jj]? = some z.cps[jj] := by rw [Array.getElem?_toList, Array.getElem?_eq_getElem hjj2]
          refine ⟨z, _, z.cps[jj], rfl, rfl, hzs, by rw [hjj]; exact atI_nat hcc, ys.map V.str, hD3, ?_, ys ++ [⟨#[z.cps[jj]]⟩], ?_, ?_, ?_, ?_, ?_⟩
          · rw [List.length_map]
            exact small1000 (by omega)
          · exact fun b o e => by rw [upd_ne (ne_of_none e hD)]; exact s3 b o e
          · rw [upd_same, List.map_append] <;> rfl
          · rw [List.length_append, hyl] <;> rfl
          · intro y hy
            rcases List.mem_append.mp hy with q | q
            · exact hy1 y q
            · rw [List.mem_singleton.mp q] <;> rfl
          · intro y hy c hc
            rcases List.mem_append.mp hy with q | q
            · exact hy2 y q c hc
            · rw [List.mem_singleton.mp q] at hc
              have e : c = z.cps[jj] := List.mem_singleton.mp hc
              rw [e]
              exact Z.sg _ (List.mem_of_getElem? hcc)
      · rintro H3 ⟨ys, s3, hD3, hyl, hy1, hy2⟩
        have hyl2 : ys.length = wd := by omega
        have nD : D ≠ lr := fun e => by rw [e, hw] at hD; cases hD
        have jl : (Gx2.flat ys).length = wd := by rw [len_flat1 hy1, hyl2]
        have jc : (Txt.join ("" : Str) ys).cps.toList = Gx2.flat ys := join_flat ys
        have jlen : (Txt.join ("" : Str) ys).length = wd := by
          show (Txt.join ("" : Str) ys).cps.size = wd
          rw [← Array.length_toList, jc, jl]
        have hw3 : H3 lr = some (.lst (ws.map V.str)) := s3 _ _ hw
        refine ⟨_, rfl, .inl ⟨rfl, _, SqL.of hw3⟩, ⟨_, rfl⟩, _, rfl, _, D, ys, rfl, rfl, .inl (SqL.of hD3), ?_, ?_⟩
        · rw [sum_len (n := 0) hy1, hyl2, empty_len]
          omega
        · refine ⟨lr, _, _, rfl, rfl, hw3, by rw [List.length_map]; exact small1000 (by omega), ?_⟩
          refine ⟨ws ++ [Txt.join ("" : Str) ys], _, _, rfl, ?_, ?_, ?_, ?_, ?_⟩
          · exact fun b o e => by rw [upd_ne (ne_of_none e hlr0)]; exact s3 b o (s2 b o e)
          · rw [upd_same, List.map_append] <;> rfl
          · rw [List.length_append, hwl] <;> rfl
          · intro x hx
            rcases List.mem_append.mp hx with q | q
            · exact hw1 x q
            · rw [List.mem_singleton.mp q]
              exact jlen
          · intro x hx c hc
            rcases List.mem_append.mp hx with q | q
            · exact hw2 x q c hc
            · rw [List.mem_singleton.mp q, jc] at hc
              obtain ⟨y, hy, hcy⟩ := List.mem_flatMap.mp hc
              exact hy2 y hy c hcy
    · rintro σ H2 ⟨ws, v6, v7, rfl, s2, hw, hwl, hw1, hw2⟩
      exact ⟨_, rfl, hQ lr ws H2 (Wf.of (by omega) hw1 h2 hw2) s2 hlr0 hw⟩
end
end Sf
namespace Sf
open PySem L2 Gx2
/-- a def whose code object stands at c -/
structure FunC (K : PySem.W.Frag) (x qual : Str) (st : Stmt) (f : Addr) (fd : FuncData) (c : Addr) : Prop where
  ex : ∃ (oc : Value) (od : Option Addr) (kV doc pm : Value) (an : Option Addr) (ct : Value) (osl : Array (Option Value)),
    fd = PySem.W.fnOf x qual (defArgs st) (defBody st) (defScope st) .none kV doc pm an (.ref c) ct ∧ K.lookup f = some ⟨oc, od, .func fd, osl⟩ ∧ PySem.W.codeIn K (.ref c) qual = true
  kp : PySem.W.keepIn K (.ref f) = true
/-- _refuse_wrong of rows that are a floor's -/
def spRefuse (K : PySem.W.Frag) (P : Addr) : Sp := fun vs H Q _ => ∃ (l : Addr) (ws : List Str), vs = [.ref l] ∧ SqL K H l (ws.map V.str) ∧ Wf ws ∧ GxR.TabG H P ∧ ∀ H', Sm P H H' → Q .non H'
theorem any_false {α : Type} {l : List α} {p : α → Bool} (h : ∀ a ∈ l, p a = false) : l.any p = false := by
  rw [List.any_eq_false]
  intro a ha
  rw [h a ha]
  exact Bool.false_ne_true
theorem free_none {names : List (Str × NameKind)} {cells : List (Str × Addr)} (h : (names.all fun y => !decide (y.2 = .free)) = true) : ∀ y ∈ names, y.2 = .free → ∃ c, cells.lookup y.1 = some c := fun y hy e => by
  have q := List.all_eq_true.mp h y hy
  rw [e] at q
  cases q
theorem free_one {names : List (Str × NameKind)} {cells : List (Str × Addr)} {x : Str} {c : Addr} (h : (names.all fun y => !decide (y.2 = .free) || decide (y.1 = x)) = true) (hc : cells.lookup x = some c) : ∀ y ∈ names, y.2 = .free → ∃ c, cells.lookup y.1 = some c := fun y hy e => by
  have q := List.all_eq_true.mp h y hy
  rw [e] at q
  have q2 : y.1 = x := by simpa using q
  rw [q2]
  exact ⟨c, hc⟩
theorem iteTd {c A B : Prop} [Decidable c] (hc : c) (h : A) : if decide c = true then A else B := by
  rw [decide_eq_true hc]
  exact iteT h
theorem iteNS2 {c A B : Prop} [Decidable c] (hc : ¬ c) (h : B) : if decide c = true then A else B := by
  rw [decide_eq_false hc]
  exact iteF h
section
variable {P : Program} {w : World} {K : PySem.W.Frag} {mg : Str → Option Value} {base : Heap}
theorem scRefuse : FnScope ["rows"] ["rows"] (defScope s_refuse_wrong) := ⟨rfl, rfl, rfl, by decide +kernel, rfl, by decide +kernel, by decide +kernel⟩
theorem ok_refuse {f c Pt : Addr} {fd : FuncData} {tM tS : Tok} (F : FunC K "_refuse_wrong" "_refuse_wrong" s_refuse_wrong f fd c) (TB : GxR.TabB base mg c Pt) (gL : mg "len" = none) (gA : mg "any" = none) (gM : mg "MOST" = some (.int 12 tM)) (gS : mg "SIGNS" = some (.str ".-|#" tS)) :
    FnOk P w K mg base CX0 1 f fd ["rows"] (spRefuse K Pt) := by
  obtain ⟨oc, od, kV, doc, pm, an, ct, osl, rfl, lk, hcd⟩ := F.ex
  refine fn_of lk hcd scRefuse (fun vs H Q E h => ?_) fun A outer s H vs Q E hr hsp => ?_
  · obtain ⟨l, ws, rfl, _⟩ := h
    rfl
  · obtain ⟨l, ws, rfl, hS, hw, hT, hQ⟩ := hsp
    have hs1000 : ∀ a ∈ ws, a.length ≤ 1000 := fun a ha => by
      have := hw.len a ha
      have := hw.wid
      omega
    refine ⟨_, pss_cons (ps_if (PW.pt (pw_or (pt_cmpR op_gt (pe_callB call_len (by rfl) gL PySem.boot_len (pa_cons (pv 0) pa_nil)) (pe_glob (v := .int 12) rfl gM ⟨_, rfl⟩) (nomark _))
        (pw_or1 (pt_val (pe_any1 hr rfl gA TB rfl ⟨rfl, rfl, by decide +kernel, rfl, rfl, free_none (by decide +kernel)⟩ (pv 0) (elt_gt rfl rfl rfl rfl gL gM) (fun _ => rfl)))))) (pss_one ps_never) pss_nil)
      (pss_cons (ps_if (pt_val (pe_any1 hr rfl gA TB rfl ⟨rfl, rfl, by decide +kernel, rfl, rfl, free_one (by decide +kernel) (x := "rows") (c := s.heap.objs.size + 1) rfl⟩ (pv 0) (elt_ne (i := 0) rfl rfl rfl rfl (fun c hc => by (show (List.lookup _ [(_, (List.lookup _ _).getD 0)]) = _; rw [hc]; rfl)) rfl rfl gL) (fun _ => rfl))) (pss_one ps_never) pss_nil)
      (pss_one (ps_if (pt_val (pe_any2 hr rfl gA TB rfl ⟨rfl, rfl, by decide +kernel, rfl, rfl, free_none (by decide +kernel)⟩ rfl rfl (pv 0) (elt_notin rfl rfl rfl gS TB.gP) (fun _ => rfl))) (pss_one ps_never) pss_nil))), ?_⟩
    refine ⟨_, rfl, _, _, rfl, .inl ⟨_, hS, rfl⟩, _, _, rfl, rfl, _, rfl, ?_⟩
    have hh := hw.high
    refine iteNS2 (by rw [List.length_map]; omega) ?_
    refine ⟨_, rfl, l, ws, rfl, hS, hs1000, hT, fun H1 hT1 => ?_⟩
    have S1 := Sm.tabbed hT1
    have e1 : ws.any (fun a => decide ((12 : Int) < (a.length : Int))) = false := any_false fun a ha => decide_eq_false (by have := hw.len a ha; have := hw.wid; omega)
    refine ⟨_, rfl, ?_⟩
    rw [e1]
    refine iteF ?_
    refine ⟨_, rfl, l, ws, rfl, S1.seq hT hS, ⟨hs1000, rfl⟩, hT1.1, fun H2 hT2 => ?_⟩
    have S2 := S1.trans (Sm.tabbed hT2)
    have e2 : ws.any (fun a => (a.length : Int) != ((ws.headD "").length : Int)) = false := any_false fun a ha => by
      have := hw.len a ha
      rw [this]
      exact bne_self_eq_false _
    refine ⟨_, rfl, ?_⟩
    rw [e2]
    refine iteF ?_
    refine ⟨_, rfl, l, ws, rfl, S2.seq hT hS, hT2.1, fun H3 hT3 => ?_⟩
    have S3 := S2.trans (Sm.tabbed hT3)
    have e3 : (flat ws).any (fun c => !decide (c ∈ (".-|#" : Str).cps.toList)) = false := any_false fun c hc => by
      obtain ⟨a, ha, hca⟩ := List.mem_flatMap.mp hc
      have q := hw.sign a ha c hca
      have ez : (".-|#" : Str).cps.toList = [46, 45, 124, 35] := by decide +kernel
      rw [ez]
      unfold okSign at q
      rcases q with q | q | q | q <;> (rw [q]; decide)
    refine ⟨_, rfl, ?_⟩
    rw [e3]
    refine iteF ?_
    exact hQ _ S3
end
end Sf
namespace Sf
open PySem PySem.Spec PyProof.Rows L2 Gx2
/-! ### rows of any kind are refused, or not -/
/-- rows that may be handed in: at most 15, none of more than B signs -/
structure Gd (B : Nat) (ws : List Str) : Prop where
  high : ws.length ≤ 15
  len : ∀ a ∈ ws, a.length ≤ B
  cps : ∀ a ∈ ws, ∀ c ∈ a.cps.toList, c < 0x110000
def big (ws : List Str) : Bool := decide ((12 : Int) < (ws.length : Int)) || ws.any fun a => decide ((12 : Int) < (a.length : Int))
def rag (ws : List Str) : Bool := ws.any fun a => (a.length : Int) != ((ws.headD "").length : Int)
def odd (ws : List Str) : Bool := (flat ws).any fun c => !decide (c ∈ (".-|#" : Str).cps.toList)
/-- what is wrong: 0 nothing, 1 too large, 2 ragged, 3 a strange sign -/
def fault (ws : List Str) : Nat := if big ws = true then 1 else if rag ws = true then 2 else if odd ws = true then 3 else 0
theorem signs_are : (".-|#" : Str).cps.toList = [46, 45, 124, 35] := by decide +kernel
theorem Wf.of_fault {ws : List Str} (h : fault ws = 0) : Wf ws := by
  unfold fault at h
  by_cases h1 : big ws = true
  · rw [if_pos h1] at h; cases h
  · rw [if_neg h1] at h
    by_cases h2 : rag ws = true
    · rw [if_pos h2] at h; cases h
    · rw [if_neg h2] at h
      by_cases h3 : odd ws = true
      · rw [if_pos h3] at h; cases h
      · have e1 := Bool.eq_false_iff.mpr h1
        have e2 := Bool.eq_false_iff.mpr h2
        have e3 := Bool.eq_false_iff.mpr h3
        unfold big at e1
        unfold rag at e2
        unfold odd at e3
        rw [Bool.or_eq_false_iff] at e1
        have hl : ws.length ≤ 12 := by
          have q := of_decide_eq_false e1.1
          omega
        have ha : ∀ a ∈ ws, a.length ≤ 12 := fun a ha => by
          have q := of_decide_eq_false (Bool.eq_false_iff.mpr (List.any_eq_false.mp e1.2 a ha))
          omega
        have hr : ∀ a ∈ ws, a.length = wide ws := fun a ha => by
          have q := List.any_eq_false.mp e2 a ha
          have q2 : ((a.length : Nat) : Int) = ((ws.headD "").length : Int) := by simpa using q
          have q3 : a.length = (ws.headD "").length := by omega
          exact q3
        refine ⟨hl, hr, ?_, fun a hm c hc => ?_⟩
        · cases ws with
          | nil =>
            show ("" : Str).length ≤ 12
            rw [empty_len]
            omega
          | cons b r => exact ha b List.mem_cons_self
        · have q := List.any_eq_false.mp e3 c (List.mem_flatMap.mpr ⟨a, hm, hc⟩)
          have q2 : c ∈ (".-|#" : Str).cps.toList := by simpa using q
          rw [signs_are] at q2
          unfold okSign
          simp only [List.mem_cons, List.not_mem_nil, or_false] at q2
          omega
/-- a class that is raised -/
structure Rz (K : PySem.W.Frag) (mg : Str → Option Value) (nm : Str) (C : Addr) : Prop where
  g : mg nm = some (.ref C)
  x : PySem.W.excIn K C [.type "ValueError", .type "Exception", .type "BaseException", .type "object"] "ValueError.__new__" = true
  k : PySem.W.keepIn K (.ref C) = true
  s : PySem.W.subIn K (.ref C) (.type "BaseException") = some true
  t : PySem.W.typeIn K (.ref C) = some (.type "type")
def clsOf (cL cR cS : Addr) : Nat → Addr
  | 1 => cL
  | 2 => cR
  | _ => cS
def spRefuseX (K : PySem.W.Frag) (Pt cL cR cS : Addr) : Sp := fun vs H Q E => ∃ (l : Addr) (ws : List Str) (B : Nat), vs = [.ref l] ∧ SqL K H l (ws.map V.str) ∧ Gd B ws ∧ B ≤ 1000 ∧ GxR.TabG H Pt ∧
  (fault ws = 0 → ∀ H', Sm Pt H H' → Q .non H') ∧ (fault ws ≠ 0 → ∀ H', Sm Pt H H' → E (.ref (clsOf cL cR cS (fault ws))) none H')
section
variable {P : Program} {w : World} {K : PySem.W.Frag} {mg : Str → Option Value} {base : Heap}
theorem ok_refuseX {f c Pt cL cR cS : Addr} {fd : FuncData} {tM tS : Tok} (F : FunC K "_refuse_wrong" "_refuse_wrong" s_refuse_wrong f fd c) (TB : GxR.TabB base mg c Pt) (RL : Rz K mg "TooLarge" cL) (RR : Rz K mg "Ragged" cR) (RS : Rz K mg "StrangeSign" cS)
    (gL : mg "len" = none) (gA : mg "any" = none) (gM : mg "MOST" = some (.int 12 tM)) (gS : mg "SIGNS" = some (.str ".-|#" tS)) :
    FnOk P w K mg base (L2.CX P w) 1 f fd ["rows"] (spRefuseX K Pt cL cR cS) := by
  obtain ⟨oc, od, kV, doc, pm, an, ct, osl, rfl, lk, hcd⟩ := F.ex
  refine fn_of lk hcd scRefuse (fun vs H Q E h => ?_) fun A outer s H vs Q E hr hsp => ?_
  · obtain ⟨l, ws, B, rfl, _⟩ := h
    rfl
  · obtain ⟨l, ws, B, rfl, hS, hw, hB, hT, hQ, hE⟩ := hsp
    have hs1000 : ∀ a ∈ ws, a.length ≤ 1000 := fun a ha => Nat.le_trans (hw.len a ha) hB
    have nt : ∀ i : Int, V.int i = V.int i := fun _ => rfl
    refine ⟨_, pss_cons (ps_if (PW.pt (pw_or (pt_cmpR op_gt (pe_callB call_len (by rfl) gL PySem.boot_len (pa_cons (pv 0) pa_nil)) (pe_glob (v := .int 12) rfl gM ⟨_, rfl⟩) (nomark _))
        (pw_or1 (pt_val (pe_any1 hr rfl gA TB rfl ⟨rfl, rfl, by decide +kernel, rfl, rfl, free_none (by decide +kernel)⟩ (pv 0) (elt_gt rfl rfl rfl rfl gL gM) (fun _ => rfl))))))
        (pss_one (ps_raise rfl (takes_of rfl rfl rfl rfl) (SkE.pmk_own1 PySem.F.excBase_ValueError RL.x RL.g RL.k (raises_own RL.s RL.t) rfl
          (pe_joined (.cons pe_str (.cons (pe_fmt (pe_glob (v := .int 12) rfl gM ⟨_, rfl⟩)) (.cons pe_str (.cons (pe_fmt (pe_glob (v := .int 12) rfl gM ⟨_, rfl⟩)) (.cons pe_str .nil))))))))) pss_nil)
      (pss_cons (ps_if (pt_val (pe_any1 hr rfl gA TB rfl ⟨rfl, rfl, by decide +kernel, rfl, rfl, free_one (by decide +kernel) (x := "rows") (c := s.heap.objs.size + 1) rfl⟩ (pv 0) (elt_ne (i := 0) rfl rfl rfl rfl (fun c hc => by (show (List.lookup _ [(_, (List.lookup _ _).getD 0)]) = _; rw [hc]; rfl)) rfl rfl gL) (fun _ => rfl)))
        (pss_one (ps_raise rfl (takes_of rfl rfl rfl rfl) (pmk_own PySem.F.excBase_ValueError RR.x RR.g RR.k (raises_own RR.s RR.t) rfl))) pss_nil)
      (pss_one (ps_if (pt_val (pe_any2 hr rfl gA TB rfl ⟨rfl, rfl, by decide +kernel, rfl, rfl, free_none (by decide +kernel)⟩ rfl rfl (pv 0) (elt_notin rfl rfl rfl gS TB.gP) (fun _ => rfl)))
        (pss_one (ps_raise rfl (takes_of rfl rfl rfl rfl) (pmk_own PySem.F.excBase_ValueError RS.x RS.g RS.k (raises_own RS.s RS.t) rfl))) pss_nil))), ?_⟩
    have say : ∀ (σ : L2.St) (H1 : Hp) (Qs : Str → Hp → Prop), (∀ z, Qs z H1) → tJs [tC (.str "a floor has at most "), tFmt (tC (.int 12)), tC (.str " rows of at most "), tFmt (tC (.int 12)), tC (.str " signs")] Str.empty σ H1 Qs := fun σ H1 Qs q => by
      have t12 : (toString (12 : Int) : String) = "12" := by decide +kernel
      have lg : (12 : Int).natAbs.log2 < 1920 := by decide +kernel
      refine ⟨_, rfl, Nat.le_trans (by decide +kernel : _ ≤ 1000) (by decide), ?_⟩
      refine .inr ⟨12, rfl, lg, _, rfl, Nat.le_trans (by decide +kernel : _ ≤ 1000) (by decide), ?_⟩
      refine ⟨_, rfl, Nat.le_trans (by decide +kernel : _ ≤ 1000) (by decide), ?_⟩
      refine .inr ⟨12, rfl, lg, _, rfl, Nat.le_trans (by decide +kernel : _ ≤ 1000) (by decide), ?_⟩
      refine ⟨_, rfl, Nat.le_trans (by decide +kernel : _ ≤ 1000) (by decide), q _⟩
    have f1 : big ws = true → fault ws = 1 := fun h => by
      unfold fault
      rw [if_pos h]
    refine ⟨_, rfl, _, _, rfl, .inl ⟨_, hS, rfl⟩, _, _, rfl, rfl, _, rfl, ?_⟩
    rw [List.length_map]
    refine ite2 (fun z1 => ?_) (fun z1 => ?_)
    · have e := f1 (by unfold big; rw [z1, Bool.true_or])
      refine iteT ?_
      refine say _ _ _ fun _ => ?_
      have q := hE (by rw [e]; decide) H (Sm.refl Pt H)
      rw [e] at q
      exact q
    refine ⟨_, rfl, l, ws, rfl, hS, hs1000, hT, fun H1 hT1 => ?_⟩
    have S1 := Sm.tabbed hT1
    refine ⟨_, rfl, ?_⟩
    refine ite2 (fun z2 => ?_) (fun z2 => ?_)
    · have e := f1 (by unfold big; rw [z2, Bool.or_true])
      refine say _ _ _ fun _ => ?_
      have q := hE (by rw [e]; decide) H1 S1
      rw [e] at q
      exact q
    have hb : ¬ big ws = true := fun q => by
      unfold big at q
      rcases Bool.or_eq_true_iff.mp q with q | q
      · exact z1 q
      · exact z2 q
    refine ⟨_, rfl, l, ws, rfl, S1.seq hT hS, ⟨hs1000, rfl⟩, hT1.1, fun H2 hT2 => ?_⟩
    have S2 := S1.trans (Sm.tabbed hT2)
    refine ⟨_, rfl, ?_⟩
    refine ite2 (fun z3 => ?_) (fun z3 => ?_)
    · have e : fault ws = 2 := by
        unfold fault
        rw [if_neg hb, if_pos (show rag ws = true from z3)]
      have q := hE (by rw [e]; decide) H2 S2
      rw [e] at q
      exact q
    refine ⟨_, rfl, l, ws, rfl, S2.seq hT hS, hT2.1, fun H3 hT3 => ?_⟩
    have S3 := S2.trans (Sm.tabbed hT3)
    refine ⟨_, rfl, ?_⟩
    refine ite2 (fun z4 => ?_) (fun z4 => ?_)
    · have e : fault ws = 3 := by
        unfold fault
        rw [if_neg hb, if_neg (show ¬ rag ws = true from z3), if_pos (show odd ws = true from z4)]
      have q := hE (by rw [e]; decide) H3 S3
      rw [e] at q
      exact q
    · refine hQ ?_ _ S3
      unfold fault
      rw [if_neg hb, if_neg (show ¬ rag ws = true from z3), if_neg (show ¬ odd ws = true from z4)]
end
end Sf
namespace Sf
open PySem L2
/-! ### the floor as plain functions -/
def signAt (ws : List Str) (r c : Nat) : Nat := (ws.getD r ("" : Str)).cps.getD c 35
def sgN (ws : List Str) (r c : Int) : Nat := if 0 ≤ r ∧ r < (ws.length : Int) ∧ 0 ≤ c ∧ c < (wide ws : Int) then signAt ws r.toNat c.toNat else 35
def sg1 (n : Nat) : Str := ⟨#[n]⟩
def steps : List (Int × Int × Str) := [(-1, 0, ".|"), (0, -1, ".-"), (0, 1, ".-"), (1, 0, ".|")]
def tk (z : Str) (n : Nat) : Bool := decide (n ∈ z.cps.toList)
def stepOk (ws : List Str) (r c : Int) (p : Int × Int × Str) : Bool := tk p.2.2 (sgN ws r c) && tk p.2.2 (sgN ws (r + p.1) (c + p.2.1))
def stepTo (wd : Nat) (r c : Int) (p : Int × Int × Str) : Int := (r + p.1) * (wd : Int) + c + p.2.1
def nbs (ws : List Str) (r c : Int) : List Int := (steps.filter (stepOk ws r c)).map (stepTo (wide ws) r c)
theorem Same.sqT {K : PySem.W.Frag} {H H' : Hp} {a : Addr} {xs : List V} (e : Same H H') (h : SqT K H a xs) : SqT K H' a xs := by
  rcases h with (h | ⟨o, h⟩) | h
  · exact .inl (.inl (e _ _ h))
  · exact .inl (.inr ⟨o, e _ _ h⟩)
  · exact .inr h
theorem row_at {ws : List Str} {r : Nat} (h : r < ws.length) : ws[r]? = some (ws.getD r ("" : Str)) := by
  rw [List.getD_eq_getElem?_getD, List.getElem?_eq_getElem h] <;> rfl
theorem Wf.rlen {ws : List Str} (w : Wf ws) {r : Nat} (h : r < ws.length) : (ws.getD r ("" : Str)).length = wide ws := w.len _ (List.mem_of_getElem? (row_at h))
theorem sign_at {ws : List Str} (w : Wf ws) {r c : Nat} (h : r < ws.length) (hc : c < wide ws) : (ws.getD r ("" : Str)).cps.toList[c]? = some (signAt ws r c) := by
  have e : (ws.getD r ("" : Str)).cps.size = wide ws := w.rlen h
  have hc2 : c < (ws.getD r ("" : Str)).cps.size := by omega
  unfold signAt
  rw [Array.getElem?_toList, Array.getElem?_eq_getElem hc2, Array.getD_eq_getD_getElem?, Array.getElem?_eq_getElem hc2] <;> rfl
theorem sgN_in {ws : List Str} {r c : Nat} (h : r < ws.length) (hc : c < wide ws) : sgN ws (r : Int) (c : Int) = signAt ws r c := by
  unfold sgN
  rw [if_pos ⟨by omega, by omega, by omega, by omega⟩]
  rfl
theorem str_at {ws : List Str} {r : Nat} (h : r < ws.length) : (ws.map V.str)[r]? = some (V.str (ws.getD r ("" : Str))) := by
  rw [List.getElem?_map, row_at h] <;> rfl
def spSignAt (K : PySem.W.Frag) : Sp := fun vs H Q _ => ∃ (l : Addr) (ws : List Str) (r c : Int), vs = [.ref l, .int r, .int c] ∧ SqT K H l (ws.map V.str) ∧ Wf ws ∧ Q (.str (sg1 (sgN ws r c))) H
def spNbs (K : PySem.W.Frag) : Sp := fun vs H Q _ => ∃ (l : Addr) (ws : List Str) (r c : Nat), vs = [.ref l, .int r, .int c] ∧ SqT K H l (ws.map V.str) ∧ Wf ws ∧ r < ws.length ∧ c < wide ws ∧
  ∀ (lf : Addr) (H' : Hp), Same H H' → H lf = none → H' lf = some (.lst ((nbs ws r c).map V.int)) → Q (.ref lf) H'
/-- STEPS, as the top has written it -/
def StepsAt (K : PySem.W.Frag) (t0 : Addr) : Prop := ∃ ts : List Addr, ts.length = 4 ∧ (∀ H, SqT K H t0 (ts.map V.ref)) ∧ ∀ (i : Nat) (t : Addr) (p : Int × Int × Str), ts[i]? = some t → steps[i]? = some p → ∀ H, SqT K H t [.int p.1, .int p.2.1, .str p.2.2]
section
variable {P : Program} {w : World} {K : PySem.W.Frag} {mg : Str → Option Value} {base : Heap}
theorem scSignAt : FnScope ["rows", "row", "column"] ["rows", "row", "column"] (defScope s_sign_at) := ⟨rfl, rfl, rfl, by decide +kernel, rfl, by decide +kernel, by decide +kernel⟩
theorem ok_signAt {f : Addr} {fd : FuncData} {tP : Tok} (F : Fun K "_sign_at" "_sign_at" s_sign_at f fd) (gL : mg "len" = none) (gP : mg "PILLAR" = some (.str "#" tP)) : FnOk P w K mg base CX0 1 f fd ["rows", "row", "column"] (spSignAt K) := by
  refine F.ok scSignAt (fun vs H Q E h => ?_) (fun cdv A outer s H vs Q E hr h => ?_)
  · obtain ⟨l, ws, r, c, rfl, _⟩ := h
    rfl
  · obtain ⟨l, ws, r, c, rfl, hS, hw, hQ⟩ := h
    have hh := hw.high
    have hwd := hw.wid
    have eP : ("#" : Str) = sg1 35 := by decide +kernel
    have out : ¬ (0 ≤ r ∧ r < (ws.length : Int) ∧ 0 ≤ c ∧ c < (wide ws : Int)) → Q (.str ("#" : Str)) H := fun hn => by
      rw [eP]
      have e : sgN ws r c = 35 := by
        unfold sgN
        rw [if_neg hn]
      rw [e] at hQ
      exact hQ
    refine ⟨_, pss_cons (ps_if (PW.pt (pw_and (pt_chain op_le op_lt pe_int (pv 1) (pe_callB call_len (by rfl) gL PySem.boot_len (pa_cons (pv 0) pa_nil)))
        (pw_and1 (pt_chain op_le op_lt pe_int (pv 2) (pe_callB call_len_str (by rfl) gL PySem.boot_len (pa_cons (pe_ix ix_tup (pv 0) (pv 1) (fun _ _ => rfl)) pa_nil)))))) (pss_one (ps_ret (pe_ix ix_str (pe_ix ix_tup (pv 0) (pv 1) (fun _ _ => rfl)) (pv 2) (fun _ _ => rfl)))) pss_nil)
      (pss_one (ps_ret (pe_glob (v := .str "#") rfl gP ⟨_, rfl⟩))), ?_⟩
    refine ⟨_, rfl, _, _, rfl, rfl, _, rfl, ?_⟩
    refine ite2 (fun h1 => ?_) (fun h1 => ?_)
    · have h1' : 0 ≤ r := of_decide_eq_true h1
      refine ⟨_, rfl, _, _, rfl, .inr ⟨_, hS, rfl⟩, _, _, rfl, rfl, _, rfl, ?_⟩
      rw [List.length_map]
      refine ite2 (fun h2 => ?_) (fun h2 => ?_)
      · have h2' : r < (ws.length : Int) := of_decide_eq_true h2
        obtain ⟨rn, rfl⟩ : ∃ rn : Nat, r = (rn : Int) := ⟨r.toNat, by omega⟩
        have hrn : rn < ws.length := by omega
        have hlr := hw.rlen hrn
        refine ⟨_, rfl, _, _, rfl, rfl, _, rfl, ?_⟩
        refine ite2 (fun h3 => ?_) (fun h3 => ?_)
        · have h3' : 0 ≤ c := of_decide_eq_true h3
          refine ⟨_, rfl, _, rfl, _, _, _, _, rfl, rfl, hS, atI_nat (str_at hrn), _, rfl, Nat.le_trans (by rw [hlr]; exact hwd) (by decide), _, _, rfl, rfl, _, rfl, ?_⟩
          rw [hlr]
          refine ite2 (fun h4 => ?_) (fun h4 => ?_)
          · have h4' : c < (wide ws : Int) := of_decide_eq_true h4
            obtain ⟨cn, rfl⟩ : ∃ cn : Nat, c = (cn : Int) := ⟨c.toNat, by omega⟩
            have hcn : cn < wide ws := by omega
            refine ⟨_, rfl, _, rfl, _, _, _, _, rfl, rfl, hS, atI_nat (str_at hrn), _, rfl, _, _, _, rfl, rfl, Nat.le_trans (by rw [hlr]; exact hwd) (by decide), atI_nat (sign_at hw hrn hcn), ?_⟩
            rw [sgN_in hrn hcn] at hQ
            exact hQ
          · exact out fun q => h4 (decide_eq_true q.2.2.2)
        · exact ⟨false, rfl, out fun q => h3 (decide_eq_true q.2.2.1)⟩
      · exact out fun q => h2 (decide_eq_true q.2.1)
    · exact ⟨false, rfl, out fun q => h1 (decide_eq_true q.1)⟩
def nNbs : List Str := ["rows", "row", "column", "wide", "sign", "found", "down", "right", "takers"]
theorem scNbs : FnScope nNbs ["rows", "row", "column"] (defScope s_neighbours) := ⟨rfl, rfl, rfl, by decide +kernel, rfl, by decide +kernel, by decide +kernel⟩
theorem ok_nbs {f fs t0 : Addr} {fd fds : FuncData} (F : Fun K "_neighbours" "_neighbours" s_neighbours f fd) (GS : FnOk P w K mg base CX0 1 fs fds ["rows", "row", "column"] (spSignAt K)) (gS : mg "_sign_at" = some (.ref fs)) (kS : PySem.W.keepIn K (.ref fs) = true) (bS : Binds K fds ["rows", "row", "column"] [])
    (gL : mg "len" = none) (gT : mg "STEPS" = some (.ref t0)) (T : StepsAt K t0) : FnOk P w K mg base CX0 2 f fd ["rows", "row", "column"] (spNbs K) := by
  refine F.ok scNbs (fun vs H Q E h => ?_) (fun cdv A outer s H vs Q E hr h => ?_)
  · obtain ⟨l, ws, r, c, rfl, _⟩ := h
    rfl
  · obtain ⟨l, ws, r, c, rfl, hS, hw, hr1, hc1, hQ⟩ := h
    have hh := hw.high
    have hwd := hw.wid
    have hlr := hw.rlen hr1
    have sz : (ws.getD r ("" : Str)).length ≤ sizeLine := Nat.le_trans (by rw [hlr]; exact hwd) (by decide)
    obtain ⟨ts, htl, hT0, hT⟩ := T
    refine ⟨_, pss_cons (ps_set (i := 3) scNbs.nd rfl (Or.inl rfl) (pe_callB call_len_str (by rfl) gL PySem.boot_len (pa_cons (pe_ix ix_tup (pv 0) (pv 1) (fun _ _ => rfl)) pa_nil)))
      (pss_cons (ps_set (i := 4) scNbs.nd rfl (Or.inl rfl) (pe_ix ix_str (pe_ix ix_tup (pv 0) (pv 1) (fun _ _ => rfl)) (pv 2) (fun _ _ => rfl)))
      (pss_cons (ps_set (i := 5) scNbs.nd rfl (Or.inl rfl) (pe_lst pa_nil))
      (pss_cons (ps_for PassesOwn.never rfl (pi_tup (pe_glob (v := .ref t0) rfl gT rfl)) (pg_tup (by rfl) (pgs_cons (pg_name (i := 6) scNbs.nd rfl (Or.inl rfl)) (pgs_cons (pg_name (i := 7) scNbs.nd rfl (Or.inl rfl)) (pgs_cons (pg_name (i := 8) scNbs.nd rfl (Or.inl rfl)) pgs_nil))))
        (pss_one (ps_if (PW.pt (pw_and (pt_cmpR op_in_sign (pv 4) (pv 8) rfl) (pw_and1 (pt_cmpR op_in_sign (pe_call GS hr rfl gS kS bS .nil pass0 (pa_cons (pv 0) (pa_cons (pe_op op_add (pv 1) (pv 6)) (pa_cons (pe_op op_add (pv 2) (pv 7)) pa_nil)))) (pv 8) rfl))))
          (pss_one (ps_expr (pe_bm PySem.F.plainAttrs_list PySem.F.slot_list_append PySem.F.type_list_append mt_append (pv 5) (pa_cons (pe_op op_add (pe_op op_add (pe_op op_mul (pe_op op_add (pv 1) (pv 6)) (pv 3)) (pv 2)) (pv 7)) pa_nil)))) pss_nil)))
      (pss_one (ps_ret (pv 5)))))), ?_⟩
    refine ⟨_, rfl, _, rfl, _, _, _, _, rfl, rfl, hS, atI_nat (str_at hr1), _, rfl, sz, ?_⟩
    rw [hlr]
    refine ⟨_, rfl, _, rfl, _, _, _, _, rfl, rfl, hS, atI_nat (str_at hr1), _, rfl, _, _, _, rfl, rfl, sz, atI_nat (sign_at hw hr1 hc1), ?_⟩
    refine ⟨(by show 0 ≤ sizeLine; decide), fun lf hlf => ?_⟩
    refine ⟨t0, rfl, ⟨_, hT0 _⟩, for_tup (K := K) (a := t0) (xs := ts.map V.ref) (fun i σ H2 => ∃ v6 v7 v8 : Option V, σ = [some (.ref l), some (.int r), some (.int c), some (.int (wide ws)), some (.str ⟨#[signAt ws r c]⟩), some (.ref lf), v6, v7, v8] ∧ Same H H2 ∧
      H2 lf = some (.lst ((((steps.take i).filter (stepOk ws r c)).map (stepTo (wide ws) r c)).map V.int))) ⟨none, none, none, rfl, Same.new hlf, upd_same⟩ (fun _ _ _ _ _ => hT0 _) ?_ ?_⟩
    · rintro i y σ H2 hi ⟨v6, v7, v8, rfl, s2, h5⟩
      have hil : i < 4 := by
        have := (List.getElem?_eq_some_iff.mp hi).1
        rw [List.length_map] at this
        omega
      obtain ⟨t, ht, rfl⟩ : ∃ t, ts[i]? = some t ∧ y = V.ref t := by
        rw [List.getElem?_map] at hi
        cases e : ts[i]? with
        | none => rw [e] at hi; cases hi
        | some t => rw [e] at hi; exact ⟨t, rfl, (Option.some.inj hi).symm⟩
      obtain ⟨p, hp⟩ : ∃ p, steps[i]? = some p := ⟨_, List.getElem?_eq_getElem (show i < steps.length from hil)⟩
      obtain ⟨d, e, z⟩ := p
      have hstep := hT i t _ ht hp
      have tke : steps.take (i + 1) = steps.take i ++ [(d, e, z)] := by
        rw [List.take_add_one, hp] <;> rfl
      have en : sgN ws (r : Int) (c : Int) = signAt ws r c := sgN_in hr1 hc1
      have noK : ¬ stepOk ws r c (d, e, z) = true → ((steps.take (i + 1)).filter (stepOk ws r c)).map (stepTo (wide ws) r c) = ((steps.take i).filter (stepOk ws r c)).map (stepTo (wide ws) r c) := fun hn => by
        rw [tke, List.filter_append, List.filter_cons_of_neg hn, List.filter_nil, List.append_nil]
      have yesK : stepOk ws r c (d, e, z) = true → ((steps.take (i + 1)).filter (stepOk ws r c)).map (stepTo (wide ws) r c) = ((steps.take i).filter (stepOk ws r c)).map (stepTo (wide ws) r c) ++ [stepTo (wide ws) r c (d, e, z)] := fun hn => by
        rw [tke, List.filter_append, List.filter_cons_of_pos hn, List.filter_nil, List.map_append] <;> rfl
      have hdb : d.natAbs ≤ 1 ∧ e.natAbs ≤ 1 := by
        have : ∀ q ∈ steps, q.1.natAbs ≤ 1 ∧ q.2.1.natAbs ≤ 1 := by decide +kernel
        exact this _ (List.mem_of_getElem? hp)
      refine ⟨t, _, rfl, hstep _, rfl, _, _, rfl, _, _, rfl, _, _, rfl, rfl, ?_⟩
      refine ⟨_, rfl, _, rfl, _, _, rfl, rfl, _, rfl, ?_⟩
      refine ite2 (fun h1 => ?_) (fun h1 => ?_)
      · refine ⟨_, rfl, _, rfl, _, rfl, _, _, rfl, rfl, _, rfl, _, rfl, _, _, rfl, rfl, l, ws, _, _, rfl, Same.sqT s2 hS, hw, ?_⟩
        refine ⟨_, rfl, _, _, rfl, rfl, _, rfl, ?_⟩
        refine ite2 (fun h2 => ?_) (fun h2 => ?_)
        · have hok : stepOk ws r c (d, e, z) = true := by
            unfold stepOk tk
            rw [en]
            exact Bool.and_eq_true_iff.mpr ⟨h1, h2⟩
          refine ⟨_, rfl, .inl ⟨rfl, _, SqL.of h5⟩, _, rfl, _, rfl, _, _, rfl, rfl, _, rfl, _, _, rfl, rfl, .inl ⟨by omega, by omega⟩, _, rfl, _, _, rfl, rfl, _, rfl, _, _, rfl, rfl, lf, _, _, rfl, rfl, h5, ?_, ?_⟩
          · rw [List.length_map, List.length_map]
            refine small1000 (Nat.le_trans (List.length_filter_le _ _) ?_)
            rw [List.length_take]
            omega
          · refine ⟨_, _, _, rfl, ?_, ?_⟩
            · exact fun b o q => by rw [upd_ne (ne_of_none q hlf)]; exact s2 b o q
            · rw [upd_same, yesK hok, List.map_append] <;> rfl
        · refine ⟨_, _, _, rfl, s2, ?_⟩
          rw [noK]
          · exact h5
          · intro q
            unfold stepOk tk at q
            exact h2 (Bool.and_eq_true_iff.mp q).2
      · refine ⟨_, _, _, rfl, s2, ?_⟩
        rw [noK]
        · exact h5
        · intro q
          unfold stepOk tk at q
          rw [en] at q
          exact h1 (Bool.and_eq_true_iff.mp q).1
    · rintro σ H2 ⟨v6, v7, v8, rfl, s2, h5⟩
      refine ⟨_, rfl, hQ lf H2 s2 hlf ?_⟩
      rw [h5]
      have e4 : steps.take (ts.map V.ref).length = steps := by
        rw [List.length_map, htl]
        rfl
      rw [e4]
      rfl
end
end Sf
namespace Sf
open PySem L2
/-- the sign at a place -/
def atP (ws : List Str) (p : Nat) : Nat := signAt ws (p / wide ws) (p % wide ws)
/-- the cells among the first n places -/
def cellsTo (ws : List Str) (n : Nat) : List Nat := (List.range n).filter fun p => decide (atP ws p ≠ 35)
def cellsOf (ws : List Str) : List Nat := cellsTo ws (ws.length * wide ws)
def nbsP (ws : List Str) (p : Nat) : List Int := nbs ws ((p / wide ws : Nat) : Int) ((p % wide ws : Nat) : Int)
theorem cellsTo_succ (ws : List Str) (n : Nat) : cellsTo ws (n + 1) = if atP ws n ≠ 35 then cellsTo ws n ++ [n] else cellsTo ws n := by
  unfold cellsTo
  rw [List.range_succ, List.filter_append]
  by_cases h : atP ws n ≠ 35
  · rw [if_pos h]
    simp [List.filter_cons, h]
  · rw [if_neg h]
    simp only [Decidable.not_not] at h
    simp [List.filter_cons, h]
theorem cellsTo_lt {ws : List Str} {n p : Nat} (h : p ∈ cellsTo ws n) : p < n := List.mem_range.mp (List.mem_filter.mp h).1
theorem cellsTo_mem {ws : List Str} {n p : Nat} : p ∈ cellsTo ws n ↔ p < n ∧ atP ws p ≠ 35 := by
  unfold cellsTo
  rw [List.mem_filter, List.mem_range, decide_eq_true_eq]
theorem cellsTo_len (ws : List Str) (n : Nat) : (cellsTo ws n).length ≤ n := by
  have := List.length_filter_le (fun p => decide (atP ws p ≠ 35)) (List.range n)
  rw [List.length_range] at this
  exact this
/-- the table: each cell's place, and the address of the list of the cells beside it -/
def tab (f : Nat → Addr) (ps : List Nat) : List (Key × V) := ps.map fun (p : Nat) => ((Sum.inl (p : Int) : Key), V.ref (f p))
theorem valV_tab (f : Nat → Addr) (i : Int) : ∀ ps : List Nat, valV (tab f ps) (Sum.inl i : Key) = if (0 ≤ i ∧ i.toNat ∈ ps) then some (.ref (f i.toNat)) else none
  | [] => by
    rw [if_neg (fun q => by cases q.2)]
    rfl
  | p :: r => by
    show valV (((Sum.inl (p : Int) : Key), V.ref (f p)) :: tab f r) _ = _
    by_cases e : (p : Int) = i
    · subst e
      rw [valV_pos rfl, if_pos ⟨by omega, by rw [Int.toNat_natCast]; exact List.mem_cons_self⟩, Int.toNat_natCast]
    · rw [valV_neg (fun q => e (Sum.inl.inj q)), valV_tab f i r]
      by_cases h : 0 ≤ i ∧ i.toNat ∈ r
      · rw [if_pos h, if_pos ⟨h.1, List.mem_cons_of_mem _ h.2⟩]
      · rw [if_neg h, if_neg]
        rintro ⟨h0, h1⟩
        rcases List.mem_cons.mp h1 with q | q
        · exact e (by omega)
        · exact h ⟨h0, q⟩
theorem tab_congr {f g : Nat → Addr} {ps : List Nat} (h : ∀ p ∈ ps, f p = g p) : tab f ps = tab g ps := by
  unfold tab
  exact List.map_congr_left fun p hp => by rw [h p hp]
/-- the table stands at d -/
structure TabAt (H : Hp) (d : Addr) (ws : List Str) (ps : List Nat) (f : Nat → Addr) : Prop where
  dc : H d = some (.dK (tab f ps))
  ls : ∀ p ∈ ps, H (f p) = some (.lst ((nbsP ws p).map V.int))
theorem TabAt.same {H H' : Hp} {d : Addr} {ws : List Str} {ps : List Nat} {f : Nat → Addr} (t : TabAt H d ws ps f) (s : Same H H') : TabAt H' d ws ps f := ⟨s _ _ t.dc, fun p hp => s _ _ (t.ls p hp)⟩
theorem ne_tbl {H : Hp} {P a : Addr} {o : HO} (hT : GxR.TabG H P) (h : H a = some o) (ho : ∀ ps, o ≠ .tbl ps) : a ≠ P := fun e => by
  obtain ⟨ps, z, _⟩ := hT
  rw [e, z] at h
  exact ho ps (Option.some.inj h).symm
theorem TabAt.sm {P : Addr} {H H' : Hp} {d : Addr} {ws : List Str} {ps : List Nat} {f : Nat → Addr} (t : TabAt H d ws ps f) (hT : GxR.TabG H P) (s : Sm P H H') : TabAt H' d ws ps f :=
  ⟨s.k _ _ (ne_tbl hT t.dc (fun _ z => by cases z)) t.dc, fun p hp => s.k _ _ (ne_tbl hT (t.ls p hp) (fun _ z => by cases z)) (t.ls p hp)⟩
def spTable (K : PySem.W.Frag) : Sp := fun vs H Q _ => ∃ (l : Addr) (ws : List Str), vs = [.ref l, .int (wide ws)] ∧ SqT K H l (ws.map V.str) ∧ Wf ws ∧
  ∀ (d : Addr) (f : Nat → Addr) (H' : Hp), Same H H' → H d = none → TabAt H' d ws (cellsOf ws) f → (∀ p ∈ cellsOf ws, H (f p) = none) → Q (.ref d) H'
section
variable {P : Program} {w : World} {K : PySem.W.Frag} {mg : Str → Option Value} {base : Heap}
def nTable : List Str := ["rows", "wide", "table", "row", "column"]
theorem scTable : FnScope nTable ["rows", "wide"] (defScope s_neighbours_of_cells) := ⟨rfl, rfl, rfl, by decide +kernel, rfl, by decide +kernel, by decide +kernel⟩
theorem ok_table {f fn : Addr} {fd fdn : FuncData} {tP : Tok} (F : Fun K "_neighbours_of_cells" "_neighbours_of_cells" s_neighbours_of_cells f fd) (GN : FnOk P w K mg base CX0 2 fn fdn ["rows", "row", "column"] (spNbs K)) (gN : mg "_neighbours" = some (.ref fn)) (kN : PySem.W.keepIn K (.ref fn) = true) (bN : Binds K fdn ["rows", "row", "column"] [])
    (gL : mg "len" = none) (gR : mg "range" = none) (gP : mg "PILLAR" = some (.str "#" tP)) : FnOk P w K mg base CX0 3 f fd ["rows", "wide"] (spTable K) := by
  refine F.ok scTable (fun vs H Q E h => ?_) (fun cdv A outer s H vs Q E hr h => ?_)
  · obtain ⟨l, ws, rfl, _⟩ := h
    rfl
  · obtain ⟨l, ws, rfl, hS, hw, hQ⟩ := h
    have hu := hu_of hr
    have hh := hw.high
    have hwd := hw.wid
    refine ⟨_, pss_cons (ps_set (i := 2) scTable.nd rfl (Or.inl rfl) pe_dnewK)
      (pss_cons (ps_for PassesOwn.never rfl (pi_range1 rfl gR (pa_cons (pe_callB call_len (by rfl) gL PySem.boot_len (pa_cons (pv 0) pa_nil)) pa_nil)) (pg_name (i := 3) scTable.nd rfl (Or.inl rfl))
        (pss_one (ps_for PassesOwn.never rfl (pi_range1 rfl gR (pa_cons (pv 1) pa_nil)) (pg_name (i := 4) scTable.nd rfl (Or.inl rfl))
          (pss_one (ps_if (pt_cmpR op_ne (pe_ix ix_str (pe_ix ix_tup (pv 0) (pv 3) (fun _ _ => rfl)) (pv 4) (fun _ _ => rfl)) (pe_glob (v := .str "#") rfl gP ⟨_, rfl⟩) (nomark _))
            (pss_one (ps_dput hu (pv 2) (pe_op op_add (pe_op op_mul (pv 3) (pv 1)) (pv 4)) (pe_call GN hr rfl gN kN bN .nil pass0 (pa_cons (pv 0) (pa_cons (pv 3) (pa_cons (pv 4) pa_nil)))) rfl)) pss_nil)))))
      (pss_one (ps_ret (pv 2)))), ?_⟩
    intro d hd
    refine ⟨_, rfl, _, _, rfl, .inr ⟨_, Same.sqT (Same.new hd) hS, rfl⟩, ?_⟩
    rw [List.length_map]
    refine ⟨_, rfl, by omega, by omega, for_range (n := ((ws.length : Nat) : Int).toNat) (fun i σ H2 => ∃ (v3 v4 : Option V) (f : Nat → Addr), σ = [some (.ref l), some (.int (wide ws)), some (.ref d), v3, v4] ∧ Same H H2 ∧ TabAt H2 d ws (cellsTo ws (i * wide ws)) f ∧ ∀ p ∈ cellsTo ws (i * wide ws), H (f p) = none)
      ⟨none, none, fun _ => 0, rfl, Same.new hd, ?_, ?_⟩ ?_ ?_⟩
    · rw [Nat.zero_mul]
      exact ⟨upd_same, fun p hp => by cases hp⟩
    · rw [Nat.zero_mul]
      exact fun p hp => by cases hp
    · rintro i σ H2 hi ⟨v3, v4, f, rfl, s2, T2, n2⟩
      have hil : i < ws.length := by omega
      refine ⟨_, rfl, _, rfl, by omega, by omega, for_range (n := ((wide ws : Nat) : Int).toNat) (fun j σ H3 => ∃ (v4 : Option V) (f : Nat → Addr), σ = [some (.ref l), some (.int (wide ws)), some (.ref d), some (.int (0 + (i : Int))), v4] ∧ Same H H3 ∧ TabAt H3 d ws (cellsTo ws (i * wide ws + j)) f ∧ ∀ p ∈ cellsTo ws (i * wide ws + j), H (f p) = none)
        ⟨v4, f, rfl, s2, T2, n2⟩ ?_ ?_⟩
      · clear T2 n2 f v4
        rintro j σ H3 hj ⟨v4, f, rfl, s3, T3, n3⟩
        have hjl : j < wide ws := by omega
        have sz : (ws.getD i ("" : Str)).length ≤ sizeLine := Nat.le_trans (by rw [hw.rlen hil]; exact hwd) (by decide)
        have e1 : (i * wide ws + j) / wide ws = i := by
          rw [Nat.mul_comm, Nat.mul_add_div (by omega), Nat.div_eq_of_lt hjl, Nat.add_zero]
        have e2 : (i * wide ws + j) % wide ws = j := by
          rw [Nat.mul_comm, Nat.mul_add_mod, Nat.mod_eq_of_lt hjl]
        have ea : atP ws (i * wide ws + j) = signAt ws i j := by
          unfold atP
          rw [e1, e2]
        have z1 : (0 : Int) + (i : Int) = (i : Int) := Int.zero_add _
        have z2 : (0 : Int) + (j : Int) = (j : Int) := Int.zero_add _
        have nb : nbsP ws (i * wide ws + j) = nbs ws i j := by
          unfold nbsP
          rw [e1, e2]
        refine ⟨_, rfl, _, rfl, _, _, _, _, rfl, rfl, Same.sqT s3 hS, by rw [z1]; exact atI_nat (str_at hil), _, rfl, _, _, _, rfl, rfl, sz, by rw [z2]; exact atI_nat (sign_at hw hil hjl), ?_⟩
        have eP : ("#" : Str) = sg1 35 := by decide +kernel
        refine ⟨rfl, _, rfl, ?_⟩
        rw [eP]
        have ed : (V.str ⟨#[signAt ws i j]⟩ = V.str (sg1 35)) ↔ signAt ws i j = 35 := ⟨fun q => by
          have q1 := V.str.inj q
          unfold sg1 at q1
          injection q1 with q2
          have q3 := congrArg (fun a : Array Nat => a.toList) q2
          exact (List.cons.inj q3).1, fun q => by rw [q]; rfl⟩
        by_cases h35 : signAt ws i j = 35
        · rw [decide_eq_true (ed.mpr h35)]
          refine iteF ?_
          refine ⟨_, f, rfl, s3, ?_, ?_⟩
          · rw [← Nat.add_assoc, cellsTo_succ, if_neg (by rw [ea, h35]; simp)]
            exact T3
          · rw [← Nat.add_assoc, cellsTo_succ, if_neg (by rw [ea, h35]; simp)]
            exact n3
        · rw [decide_eq_false (fun q => h35 (ed.mp q))]
          refine iteT ?_
          refine ⟨_, rfl, _, rfl, _, rfl, l, ws, i, j, by rw [z1, z2] <;> rfl, Same.sqT s3 hS, hw, hil, hjl, fun lf H4 s4 hlf h4 => ?_⟩
          have T4 := T3.same s4
          have hlf0 : H lf = none := s3.free hlf
          have key : V.int ((0 + (i : Int)) * (wide ws : Int) + (0 + (j : Int))) = kV (Sum.inl ((i * wide ws + j : Nat) : Int)) := by
            rw [z1, z2]
            show V.int _ = V.int _
            rw [Int.natCast_add, Int.natCast_mul]
          have nin : ¬ (i * wide ws + j) ∈ cellsTo ws (i * wide ws + j) := fun q => Nat.lt_irrefl _ (cellsTo_lt q)
          have vn : valV (tab f (cellsTo ws (i * wide ws + j))) (Sum.inl ((i * wide ws + j : Nat) : Int) : Key) = none := by
            rw [valV_tab, if_neg]
            rintro ⟨_, q⟩
            rw [Int.toNat_natCast] at q
            exact nin q
          have ndl : lf ≠ d := fun e => by
            have q := s4 _ _ T3.dc
            rw [e, q] at h4
            cases h4
          refine ⟨_, rfl, _, rfl, _, rfl, _, _, rfl, rfl, .inl ⟨by omega, by omega⟩, _, rfl, _, _, rfl, rfl, d, _, rfl, by show DPut H4 d (V.int ((0 + (i : Int)) * (wide ws : Int) + (0 + (j : Int)))) _ _; rw [key]; exact DPut.k T4.dc (small1000 (by
            unfold tab
            rw [List.length_map]
            have := cellsTo_len ws (i * wide ws + j)
            have : i * wide ws ≤ 12 * 12 := Nat.mul_le_mul (by omega) hwd
            omega)), ?_⟩
          let f' : Nat → Addr := fun p => if p = i * wide ws + j then lf else f p
          have ff : ∀ p ∈ cellsTo ws (i * wide ws + j), f p = f' p := fun p hp => (if_neg (fun e : p = i * wide ws + j => nin (by rw [e] at hp; exact hp))).symm
          have fn : f' (i * wide ws + j) = lf := if_pos rfl
          refine ⟨_, f', rfl, ?_, ?_, ?_⟩
          · exact fun b o q => by rw [upd_ne (ne_of_none q hd)]; exact s4 b o (s3 b o q)
          · rw [← Nat.add_assoc, cellsTo_succ, if_pos (by rw [ea]; exact h35)]
            refine ⟨?_, fun p hp => ?_⟩
            · rw [upd_same, putK_new _ vn]
              unfold tab
              rw [List.map_append, List.map_cons, List.map_nil, fn]
              show some (HO.dK (tab f _ ++ _)) = some (HO.dK (tab f' _ ++ _))
              rw [tab_congr ff]
            · rcases List.mem_append.mp hp with q | q
              · rw [← ff p q, upd_ne (fun e => by
                  have z := T4.dc
                  rw [← e, T4.ls p q] at z
                  cases z)]
                exact T4.ls p q
              · rw [List.mem_singleton.mp q, fn, upd_ne ndl, nb]
                exact h4
          · rw [← Nat.add_assoc, cellsTo_succ, if_pos (by rw [ea]; exact h35)]
            intro p hp
            rcases List.mem_append.mp hp with q | q
            · rw [← ff p q]
              exact n3 p q
            · rw [List.mem_singleton.mp q, fn]
              exact hlf0
      · rintro σ H3 ⟨v4, f, rfl, s3, T3, n3⟩
        have ew : ((wide ws : Nat) : Int).toNat = wide ws := Int.toNat_natCast _
        rw [ew] at T3 n3
        refine ⟨_, _, f, rfl, s3, ?_, ?_⟩
        · rw [Nat.succ_mul]
          exact T3
        · rw [Nat.succ_mul]
          exact n3
    · rintro σ H2 ⟨v3, v4, f, rfl, s2, T2, n2⟩
      rw [Int.toNat_natCast] at T2 n2
      exact ⟨_, rfl, hQ d f H2 s2 hd T2 n2⟩
end
end Sf
namespace Sf
open PySem L2
/-! ### the Floor object -/
def flds (lr : Addr) (ws : List Str) (d lt : Addr) : List (Str × V) := putF "_neighbours" (.ref d) (putF "_signs" (.ref lt) (putF "wide" (.int (wide ws)) (putF "high" (.int ws.length) (putF "rows" (.ref lr) []))))
theorem fne : ¬ (("rows" : Str) = "high") ∧ ¬ (("rows" : Str) = "wide") ∧ ¬ (("rows" : Str) = "_neighbours") ∧ ¬ (("high" : Str) = "wide") ∧ ¬ (("high" : Str) = "_neighbours") ∧ ¬ (("wide" : Str) = "_neighbours") ∧ ¬ (("rows" : Str) = "_signs") ∧ ¬ (("high" : Str) = "_signs") ∧ ¬ (("wide" : Str) = "_signs") ∧ ¬ (("_signs" : Str) = "_neighbours") := by decide +kernel
theorem flds_rows (lr : Addr) (ws : List Str) (d lt : Addr) : (flds lr ws d lt).lookup ("rows" : Str) = some (.ref lr) := by
  obtain ⟨a, b, c, e, f, g, h, i, j, k⟩ := fne
  unfold flds
  rw [lookup_putF, if_neg c, lookup_putF, if_neg h, lookup_putF, if_neg b, lookup_putF, if_neg a, lookup_putF, if_pos rfl]
theorem flds_high (lr : Addr) (ws : List Str) (d lt : Addr) : (flds lr ws d lt).lookup ("high" : Str) = some (.int ws.length) := by
  obtain ⟨a, b, c, e, f, g, h, i, j, k⟩ := fne
  unfold flds
  rw [lookup_putF, if_neg f, lookup_putF, if_neg i, lookup_putF, if_neg e, lookup_putF, if_pos rfl]
theorem flds_wide (lr : Addr) (ws : List Str) (d lt : Addr) : (flds lr ws d lt).lookup ("wide" : Str) = some (.int (wide ws)) := by
  obtain ⟨a, b, c, e, f, g, h, i, j, k⟩ := fne
  unfold flds
  rw [lookup_putF, if_neg g, lookup_putF, if_neg j, lookup_putF, if_pos rfl]
theorem flds_signs (lr : Addr) (ws : List Str) (d lt : Addr) : (flds lr ws d lt).lookup ("_signs" : Str) = some (.ref lt) := by
  obtain ⟨a, b, c, e, f, g, h, i, j, k⟩ := fne
  unfold flds
  rw [lookup_putF, if_neg k, lookup_putF, if_pos rfl]
theorem flds_nbs (lr : Addr) (ws : List Str) (d lt : Addr) : (flds lr ws d lt).lookup ("_neighbours" : Str) = some (.ref d) := by
  unfold flds
  rw [lookup_putF, if_pos rfl]
theorem flds_no (lr : Addr) (ws : List Str) (d lt : Addr) {m : Str} (h1 : ¬ m = "_neighbours") (h2 : ¬ m = "wide") (h3 : ¬ m = "high") (h4 : ¬ m = "rows") (h5 : ¬ m = "_signs" := by decide +kernel) : (flds lr ws d lt).lookup m = none := by
  unfold flds
  rw [lookup_putF, if_neg h1, lookup_putF, if_neg h5, lookup_putF, if_neg h2, lookup_putF, if_neg h3, lookup_putF, if_neg h4]
  all_goals rfl
/-- where the tuple of the signs stands: ahead of no cell -/
def topP (ws : List Str) : Nat := ws.length * wide ws
theorem topP_no {ws : List Str} {p : Nat} (h : p ∈ cellsOf ws) : p ≠ topP ws := Nat.ne_of_lt (cellsTo_lt h)
/-- a Floor of the rows ws stands at x -/
structure FloorAt (C : Addr) (H : Hp) (x dx lr d : Addr) (f : Nat → Addr) (ws : List Str) : Prop where
  ob : H x = some (.ins C dx (flds lr ws d (f (topP ws))))
  rw : H lr = some (.lst (ws.map V.str))
  tb : TabAt H d ws (cellsOf ws) f
  sg : H (f (topP ws)) = some (.tup (ws.map V.str))
theorem FloorAt.same {C : Addr} {H H' : Hp} {x dx lr d : Addr} {f : Nat → Addr} {ws : List Str} (a : FloorAt C H x dx lr d f ws) (s : Same H H') : FloorAt C H' x dx lr d f ws := ⟨s _ _ a.ob, s _ _ a.rw, a.tb.same s, s _ _ a.sg⟩
/-- its parts are new -/
structure FNew (H0 : Hp) (lr d : Addr) (f : Nat → Addr) (ws : List Str) : Prop where
  rw : H0 lr = none
  dc : H0 d = none
  ls : ∀ p ∈ cellsOf ws, H0 (f p) = none
  sg : H0 (f (topP ws)) = none
theorem SqL_but {K : PySem.W.Frag} {H H' : Hp} {x l : Addr} {xs : List V} (h : SqL K H l xs) (nx : ∀ ys, H x ≠ some (.lst ys)) (nf : ∀ o u, H x ≠ some (.frz o u)) (k : ∀ b o, b ≠ x → H b = some o → H' b = some o) : SqL K H' l xs := by
  rcases h with (h | ⟨o, h⟩) | h
  · exact .inl (.inl (k _ _ (fun e => by rw [e] at h; exact nx _ h) h))
  · exact .inl (.inr ⟨o, k _ _ (fun e => by rw [e] at h; exact nf _ _ h) h⟩)
  · exact .inr h
def spInit (K : PySem.W.Frag) (Pt C : Addr) : Sp := fun vs H Q _ => ∃ (x dx l : Addr) (ws : List Str), vs = [.ref x, .ref l] ∧ H x = some (.ins C dx []) ∧ SqL K H l (ws.map V.str) ∧ Wf ws ∧ GxR.TabG H Pt ∧
  ∀ (lr d : Addr) (f : Nat → Addr) (H' : Hp), FNew H lr d f ws → (∀ b o, b ≠ x → b ≠ Pt → H b = some o → H' b = some o) → GxR.TabG H' Pt → FloorAt C H' x dx lr d f ws → Q .non H'
def isCell (ws : List Str) (i : Int) : Bool := decide (0 ≤ i ∧ i.toNat ∈ cellsOf ws)
def mayB (ws : List Str) (i j : Int) : Bool := isCell ws i && decide (j ∈ nbsP ws i.toNat)
def nats (ps : List Nat) : List V := ps.map fun (p : Nat) => V.int (p : Int)
def spCells (C : Addr) : Sp := fun vs H Q _ => ∃ (x dx lr d : Addr) (f : Nat → Addr) (ws : List Str), vs = [.ref x] ∧ FloorAt C H x dx lr d f ws ∧ ∀ (l : Addr) (H' : Hp), Same H H' → H l = none → H' l = some (.lst (nats (cellsOf ws))) → Q (.ref l) H'
def spHas (C : Addr) : Sp := fun vs H Q _ => ∃ (x dx lr d : Addr) (f : Nat → Addr) (ws : List Str) (i : Int), vs = [.ref x, .int i] ∧ FloorAt C H x dx lr d f ws ∧ Q (.bl (isCell ws i)) H
def spMay (C : Addr) : Sp := fun vs H Q _ => ∃ (x dx lr d : Addr) (f : Nat → Addr) (ws : List Str) (i j : Int), vs = [.ref x, .int i, .int j] ∧ FloorAt C H x dx lr d f ws ∧ Q (.bl (mayB ws i j)) H
/-- the class as the top has made it -/
structure FTxt (K : PySem.W.Frag) (mg : Str → Option Value) (C : Addr) : Prop where
  cl : Cls K C
  nR : NoAttr K C "rows"
  nH : NoAttr K C "high"
  nW : NoAttr K C "wide"
  nN : NoAttr K C "_neighbours"
  nS : NoAttr K C "_signs"
  mgC : mg "Floor" = some (.ref C)
theorem in_ints (j : Int) : ∀ l : List Int, inV (V.int j) (l.map V.int) = decide (j ∈ l)
  | [] => rfl
  | a :: r => by
    have ih := in_ints j r
    unfold inV at ih ⊢
    rw [List.map_cons, List.any_cons, ih, Bool.eq_iff_iff, Bool.or_eq_true, decide_eq_true_eq, decide_eq_true_eq, List.mem_cons]
    show (eqV (V.int a) (V.int j) = true ∨ _) ↔ _
    have e : eqV (V.int a) (V.int j) = true ↔ j = a := by
      simp [eqV]
      exact ⟨fun h => h.symm, fun h => h.symm⟩
    rw [e]
theorem flat_ints (l : List Int) : (l.map V.int).all flatV = true := List.all_eq_true.mpr fun x hx => by
  obtain ⟨i, _, rfl⟩ := List.mem_map.mp hx
  rfl
section
variable {P : Program} {w : World} {K : PySem.W.Frag} {mg : Str → Option Value} {base : Heap}
theorem scInit : FnScope ["self", "rows"] ["self", "rows"] (defScope sFloor___init__) := ⟨rfl, rfl, rfl, by decide +kernel, rfl, by decide +kernel, by decide +kernel⟩
theorem ok_init {f fr ft C Pt : Addr} {fd fdr fdt : FuncData} (F : Fun K "__init__" "Floor.__init__" sFloor___init__ f fd) (T : FTxt K mg C) (GR : FnOk P w K mg base CX0 1 fr fdr ["rows"] (spRefuse K Pt)) (gR : mg "_refuse_wrong" = some (.ref fr)) (kR : PySem.W.keepIn K (.ref fr) = true) (bR : Binds K fdr ["rows"] [])
    (GT : FnOk P w K mg base CX0 3 ft fdt ["rows", "wide"] (spTable K)) (gT : mg "_neighbours_of_cells" = some (.ref ft)) (kT : PySem.W.keepIn K (.ref ft) = true) (bT : Binds K fdt ["rows", "wide"] []) (gL : mg "len" = none) (gl : mg "list" = none) (gt : mg "tuple" = none) :
    FnOk P w K mg base CX0 4 f fd ["self", "rows"] (spInit K Pt C) := by
  refine F.ok scInit (fun vs H Q E h => ?_) (fun cdv A outer s H vs Q E hr h => ?_)
  · obtain ⟨x, dx, l, ws, rfl, _⟩ := h
    rfl
  · obtain ⟨x, dx, l, ws, rfl, hx, hS, hw, hT, hQ⟩ := h
    have hu := hu_of hr
    have hr1 : Room 1 _ := hr.mono (by decide)
    refine ⟨_, pss_cons (ps_expr (pe_call GR hr1 rfl gR kR bR .nil pass0 (pa_cons (pv 1) pa_nil)))
      (pss_cons (ps_fld (pv 0) (pe_callTy call_list_of (by rfl) gl (by decide +kernel) (pa_cons (pv 1) pa_nil)) rfl)
      (pss_cons (ps_fld (pv 0) (pe_callB call_len (by rfl) gL PySem.boot_len (pa_cons (pv 1) pa_nil)) rfl)
      (C8.pss_cut (ps_fld (pv 0) (pe_ifExp (pt_truth (pv 1) (by intro _; rfl)) (pe_callB call_len_str (by rfl) gL PySem.boot_len (pa_cons (pe_ix ix_list (pv 1) pe_int (fun _ _ => rfl)) pa_nil)) pe_int) rfl)
      (pss_cons (ps_fld (pv 0) (pe_callTy call_tuple_of (by rfl) gt (by decide +kernel) (pa_cons (pv 1) pa_nil)) rfl)
      (pss_one (ps_fld (pv 0) (pe_call GT hr rfl gT kT bT .nil pass0 (pa_cons (pe_fld (pv 0) rfl) (pa_cons (pe_fld (pv 0) rfl) pa_nil))) rfl)))))), ?_⟩
    refine ⟨_, rfl, l, ws, rfl, hS, hw, hT, fun H1 S1 => ?_⟩
    have hT1 := S1.t hT
    have hS1 := S1.seq hT hS
    have hx1 : H1 x = some (.ins C dx []) := S1.k _ _ (ne_tbl hT hx (fun _ z => by cases z)) hx
    refine ⟨_, rfl, l, _, rfl, .inl hS1, fun lr hlr => ?_⟩
    have nxl : x ≠ lr := ne_of_none hx1 hlr
    refine ⟨_, rfl, x, C, dx, _, rfl, (by rw [upd_ne nxl]; exact hx1), T.cl, T.nR, (by show 0 < 1000; decide), ?_⟩
    -- what stands now: H2
    generalize h2 : upd (upd H1 lr (.lst (ws.map V.str))) x (.ins C dx (putF "rows" (.ref lr) [])) = H2
    have k2 : ∀ b o, b ≠ x → H1 b = some o → H2 b = some o := fun b o hb e => by
      rw [← h2, upd_ne hb, upd_ne (ne_of_none e hlr)]
      exact e
    have hx2 : H2 x = some (.ins C dx (putF "rows" (.ref lr) [])) := by rw [← h2, upd_same]
    have hl2 : H2 lr = some (.lst (ws.map V.str)) := by rw [← h2, upd_ne nxl.symm, upd_same]
    have hS2 : SqL K H2 l (ws.map V.str) := SqL_but hS1 (fun _ z => by rw [hx1] at z; cases z) (fun _ _ z => by rw [hx1] at z; cases z) k2
    refine ⟨_, rfl, _, _, rfl, .inl ⟨_, hS2, rfl⟩, _, rfl, x, C, dx, _, rfl, hx2, T.cl, T.nH, (by show 1 < 1000; decide), ?_⟩
    rw [List.length_map]
    generalize h3 : upd H2 x (.ins C dx (putF "high" (.int ((ws.length : Nat) : Int)) (putF "rows" (.ref lr) []))) = H3
    have k3 : ∀ b o, b ≠ x → H2 b = some o → H3 b = some o := fun b o hb e => by
      rw [← h3, upd_ne hb]
      exact e
    have hx3 : H3 x = some (.ins C dx (putF "high" (.int ((ws.length : Nat) : Int)) (putF "rows" (.ref lr) []))) := by rw [← h3, upd_same]
    have hS3 : SqL K H3 l (ws.map V.str) := SqL_but hS2 (fun _ z => by rw [hx2] at z; cases z) (fun _ _ z => by rw [hx2] at z; cases z) k3
    refine ⟨fun σ' H' => σ' = [some (.ref x), some (.ref l)] ∧ H' = upd H3 x (.ins C dx (putF "wide" (.int ((wide ws : Nat) : Int)) (putF "high" (.int ((ws.length : Nat) : Int)) (putF "rows" (.ref lr) [])))), ?_, ?_⟩
    · refine ⟨_, rfl, _, .inl ⟨_, hS3, rfl⟩, ?_⟩
      cases ws with
      | nil =>
        refine iteF ?_
        refine ⟨_, rfl, x, C, dx, _, rfl, hx3, T.cl, T.nW, (by show 2 < 1000; decide), rfl, ?_⟩
        have e0 : wide ([] : List Str) = 0 := empty_len
        rw [e0]
        rfl
      | cons a r =>
        refine iteT ?_
        have ea : wide (a :: r) = a.length := rfl
        have wl := hw.wid
        refine ⟨_, rfl, _, _, _, _, rfl, rfl, hS3, atI_nat (j := 0) rfl, a, rfl, Nat.le_trans (by rw [← ea]; exact wl) (by decide), ?_⟩
        exact ⟨_, rfl, x, C, dx, _, rfl, hx3, T.cl, T.nW, (by show 2 < 1000; decide), rfl, rfl⟩
    · rintro _ H4 ⟨rfl, h4⟩
      have hx4 : H4 x = some (.ins C dx (putF "wide" (.int ((wide ws : Nat) : Int)) (putF "high" (.int ((ws.length : Nat) : Int)) (putF "rows" (.ref lr) [])))) := by rw [h4, upd_same]
      have k4 : ∀ b o, b ≠ x → H3 b = some o → H4 b = some o := fun b o hb e => by
        rw [h4, upd_ne hb]
        exact e
      have hS4 : SqL K H4 l (ws.map V.str) := SqL_but hS3 (fun _ z => by rw [hx3] at z; cases z) (fun _ _ z => by rw [hx3] at z; cases z) k4
      refine ⟨_, rfl, l, _, rfl, .inl ⟨hS4, fun lt hlt => ?_⟩⟩
      have nxt : x ≠ lt := ne_of_none hx4 hlt
      have nPx : x ≠ Pt := ne_tbl hT hx (fun _ z => by cases z)
      let fs5 : List (Str × V) := putF "_signs" (.ref lt) (putF "wide" (.int ((wide ws : Nat) : Int)) (putF "high" (.int ((ws.length : Nat) : Int)) (putF "rows" (.ref lr) [])))
      refine ⟨_, rfl, x, C, dx, _, rfl, (by rw [upd_ne nxt]; exact hx4), T.cl, T.nS, (by show 3 < 1000; decide), ?_⟩
      generalize h5 : upd (upd H4 lt (.tup (ws.map V.str))) x (.ins C dx (putF "_signs" (.ref lt) (putF "wide" (.int ((wide ws : Nat) : Int)) (putF "high" (.int ((ws.length : Nat) : Int)) (putF "rows" (.ref lr) []))))) = H5
      have k5 : ∀ b o, b ≠ x → H4 b = some o → H5 b = some o := fun b o hb e => by
        rw [← h5, upd_ne hb, upd_ne (ne_of_none e hlt)]
        exact e
      have hx5 : H5 x = some (.ins C dx fs5) := by rw [← h5, upd_same]
      have ht5 : H5 lt = some (.tup (ws.map V.str)) := by rw [← h5, upd_ne nxt.symm, upd_same]
      have lw : fs5.lookup ("wide" : Str) = some (V.int ((wide ws : Nat) : Int)) := by
        show (putF "_signs" _ _).lookup _ = _
        rw [lookup_putF, if_neg fne.2.2.2.2.2.2.2.2.1, lookup_putF, if_pos rfl]
      have lg : fs5.lookup ("_signs" : Str) = some (V.ref lt) := by
        show (putF "_signs" _ _).lookup _ = _
        rw [lookup_putF, if_pos rfl]
      refine ⟨_, rfl, x, C, dx, _, _, rfl, hx5, T.cl, T.nS, lg, _, rfl, x, C, dx, _, _, rfl, hx5, T.cl, T.nW, lw, lt, ws, rfl, SqT.of ht5, hw, fun d f H6 s6 hd t6 n6 => ?_⟩
      have hx6 := s6 _ _ hx5
      refine ⟨_, rfl, x, C, dx, _, rfl, hx6, T.cl, T.nN, (by show 4 < 1000; decide), ?_⟩
      have up1 : ∀ b o, b ≠ x → H1 b = some o → H5 b = some o := fun b o hb e => k5 b o hb (k4 b o hb (k3 b o hb (k2 b o hb e)))
      have nd : ∀ b o, H5 b = some o → b ≠ d := fun b o e => ne_of_none e hd
      have f0 : ∀ b, b ≠ x → H5 b = none → H b = none := fun b hb e => by
        cases q : H b with
        | none => rfl
        | some o =>
          by_cases hbp : b = Pt
          · obtain ⟨ps, z, _⟩ := hT1
            have := up1 b _ hb (by rw [hbp]; exact z)
            rw [e] at this
            cases this
          · have := up1 b o hb (S1.k b o hbp q)
            rw [e] at this
            cases this
      have ft : H lt = none := by
        cases q : H lt with
        | none => rfl
        | some o =>
          by_cases hbp : lt = Pt
          · obtain ⟨ps, z, _⟩ := hT1
            have := k4 lt _ nxt.symm (k3 _ _ nxt.symm (k2 _ _ nxt.symm (by rw [hbp]; exact z)))
            rw [hlt] at this
            cases this
          · have := k4 lt _ nxt.symm (k3 _ _ nxt.symm (k2 _ _ nxt.symm (S1.k _ o hbp q)))
            rw [hlt] at this
            cases this
      have lr5 : H5 lr = some (.lst (ws.map V.str)) := k5 _ _ nxl.symm (k4 _ _ nxl.symm (k3 _ _ nxl.symm hl2))
      have hdx : d ≠ x := (nd _ _ hx5).symm
      have hfx : ∀ p ∈ cellsOf ws, f p ≠ x := fun p hp e => by
        have := n6 p hp
        rw [e, hx5] at this
        cases this
      let f' : Nat → Addr := fun p => if p = topP ws then lt else f p
      have ff : ∀ p ∈ cellsOf ws, f p = f' p := fun p hp => (if_neg (topP_no hp)).symm
      have ft' : f' (topP ws) = lt := if_pos rfl
      refine hQ lr d f' _ ⟨S1.free hT hlr, f0 d hdx hd, fun p hp => by rw [← ff p hp]; exact f0 _ (hfx p hp) (n6 p hp), by rw [ft']; exact ft⟩ (fun b o hb hp e => ?_) ?_ ⟨?_, ?_, ⟨?_, fun p hp => ?_⟩, ?_⟩
      · rw [upd_ne hb]
        exact s6 b o (up1 b o hb (S1.k b o hp e))
      · obtain ⟨ps, z, q⟩ := hT1
        exact ⟨ps, by rw [upd_ne nPx.symm]; exact s6 _ _ (up1 _ _ nPx.symm z), q⟩
      · rw [upd_same, ft']
        rfl
      · rw [upd_ne nxl.symm]
        exact s6 _ _ lr5
      · rw [upd_ne hdx, t6.dc, tab_congr ff]
      · rw [← ff p hp, upd_ne (hfx p hp)]
        exact t6.ls p hp
      · rw [ft', upd_ne nxt.symm]
        exact s6 _ _ ht5
theorem scCells : FnScope ["self"] ["self"] (defScope sFloor_cells) := ⟨rfl, rfl, rfl, by decide +kernel, rfl, by decide +kernel, by decide +kernel⟩
theorem tab_keys (f : Nat → Addr) (ps : List Nat) : ((tab f ps).map fun kv => kV kv.1) = nats ps := by
  unfold tab nats
  rw [List.map_map]
  rfl
theorem ok_cells {f C : Addr} {fd : FuncData} (F : Fun K "cells" "Floor.cells" sFloor_cells f fd) (T : FTxt K mg C) (gl : mg "list" = none) : FnOk P w K mg base CX0 1 f fd ["self"] (spCells C) := by
  refine F.ok scCells (fun vs H Q E h => ?_) (fun cdv A outer s H vs Q E hr h => ?_)
  · obtain ⟨x, dx, lr, d, g, ws, rfl, _⟩ := h
    rfl
  · obtain ⟨x, dx, lr, d, g, ws, rfl, a, hQ⟩ := h
    refine ⟨_, pss_one (ps_ret (pe_callTy (call_listD rfl) (by rfl) gl (by decide +kernel) (pa_cons (pe_fld (pv 0) rfl) pa_nil))), ?_⟩
    refine ⟨_, rfl, x, C, dx, _, _, rfl, a.ob, T.cl, T.nN, flds_nbs _ _ _ _, d, _, rfl, .inl a.tb.dc, fun l hl => ?_⟩
    refine hQ l _ (Same.new hl) hl ?_
    rw [upd_same, tab_keys]
theorem scHas : FnScope ["self", "place"] ["self", "place"] (defScope sFloor_has) := ⟨rfl, rfl, rfl, by decide +kernel, rfl, by decide +kernel, by decide +kernel⟩
theorem ok_has {f C : Addr} {fd : FuncData} (F : Fun K "has" "Floor.has" sFloor_has f fd) (T : FTxt K mg C) : FnOk P w K mg base CX0 1 f fd ["self", "place"] (spHas C) := by
  refine F.ok scHas (fun vs H Q E h => ?_) (fun cdv A outer s H vs Q E hr h => ?_)
  · obtain ⟨x, dx, lr, d, g, ws, i, rfl, _⟩ := h
    rfl
  · obtain ⟨x, dx, lr, d, g, ws, i, rfl, a, hQ⟩ := h
    have hu := hu_of hr
    refine ⟨_, pss_one (ps_ret (pe_cmp (pc_din hu (pv 1) (pe_fld (pv 0) rfl)) rfl)), ?_⟩
    refine ⟨_, rfl, _, rfl, x, C, dx, _, _, rfl, a.ob, T.cl, T.nN, flds_nbs _ _ _ _, d, _, rfl, DGet.k (k := Sum.inl i) a.tb.dc, ?_⟩
    have e : (valV (tab g (cellsOf ws)) (Sum.inl i : Key)).isSome = isCell ws i := by
      rw [valV_tab]
      unfold isCell
      by_cases h : 0 ≤ i ∧ i.toNat ∈ cellsOf ws
      · rw [if_pos h, decide_eq_true h] <;> rfl
      · rw [if_neg h, decide_eq_false h] <;> rfl
    rw [e]
    exact hQ
end
end Sf
namespace Sf
open PySem L2
def spInitX (K : PySem.W.Frag) (Pt C cL cR cS : Addr) : Sp := fun vs H Q E => ∃ (x dx l : Addr) (ws : List Str) (B : Nat), vs = [.ref x, .ref l] ∧ H x = some (.ins C dx []) ∧ SqL K H l (ws.map V.str) ∧ Gd B ws ∧ B ≤ 1000 ∧ GxR.TabG H Pt ∧
  (fault ws = 0 → ∀ (lr d : Addr) (f : Nat → Addr) (H' : Hp), FNew H lr d f ws → (∀ b o, b ≠ x → b ≠ Pt → H b = some o → H' b = some o) → GxR.TabG H' Pt → FloorAt C H' x dx lr d f ws → Q .non H') ∧
  (fault ws ≠ 0 → ∀ H', Sm Pt H H' → E (.ref (clsOf cL cR cS (fault ws))) none H')
section
variable {P : Program} {w : World} {K : PySem.W.Frag} {mg : Str → Option Value} {base : Heap}
theorem ok_initX {f fr ft C Pt cL cR cS : Addr} {fd fdr fdt : FuncData} (F : Fun K "__init__" "Floor.__init__" sFloor___init__ f fd) (T : FTxt K mg C) (GR : FnOk P w K mg base (L2.CX P w) 1 fr fdr ["rows"] (spRefuseX K Pt cL cR cS)) (gR : mg "_refuse_wrong" = some (.ref fr)) (kR : PySem.W.keepIn K (.ref fr) = true) (bR : Binds K fdr ["rows"] [])
    (GT : FnOk P w K mg base CX0 3 ft fdt ["rows", "wide"] (spTable K)) (gT : mg "_neighbours_of_cells" = some (.ref ft)) (kT : PySem.W.keepIn K (.ref ft) = true) (bT : Binds K fdt ["rows", "wide"] []) (gL : mg "len" = none) (gl : mg "list" = none) (gt : mg "tuple" = none) :
    FnOk P w K mg base (L2.CX P w) 4 f fd ["self", "rows"] (spInitX K Pt C cL cR cS) := by
  refine F.okX scInit (fun vs H Q E h => ?_) (fun cdv A outer s H vs Q E hr h => ?_)
  · obtain ⟨x, dx, l, ws, B, rfl, _⟩ := h
    rfl
  · obtain ⟨x, dx, l, ws, B, rfl, hx, hS, hg, hB, hT, hQ0, hE⟩ := h
    have hu := hu_of hr
    have hr1 : Room 1 _ := hr.mono (by decide)
    refine ⟨_, pss_cons (ps_expr (pe_call GR hr1 rfl gR kR bR .nil (passes_call (takes_of rfl rfl rfl rfl) (fun _ _ _ _ h => h)) (pa_cons (pv 1) pa_nil)))
      (pss_cons (ps_fld (pv 0) (pe_callTy call_list_of (by rfl) gl (by decide +kernel) (pa_cons (pv 1) pa_nil)) rfl)
      (pss_cons (ps_fld (pv 0) (pe_callB call_len (by rfl) gL PySem.boot_len (pa_cons (pv 1) pa_nil)) rfl)
      (C8.pss_cut (ps_fld (pv 0) (pe_ifExp (pt_truth (pv 1) (by intro _; rfl)) (pe_callB call_len_str (by rfl) gL PySem.boot_len (pa_cons (pe_ix ix_list (pv 1) pe_int (fun _ _ => rfl)) pa_nil)) pe_int) rfl)
      (pss_cons (ps_fld (pv 0) (pe_callTy call_tuple_of (by rfl) gt (by decide +kernel) (pa_cons (pv 1) pa_nil)) rfl)
      (pss_one (ps_fld (pv 0) (pe_call GT hr rfl gT kT bT .nil pass0 (pa_cons (pe_fld (pv 0) rfl) (pa_cons (pe_fld (pv 0) rfl) pa_nil))) rfl)))))), ?_⟩
    refine ⟨_, rfl, l, ws, B, rfl, hS, hg, hB, hT, fun h0 H1 S1 => ?_, fun h1 H1 S1 => hE h1 H1 S1⟩
    have hw := Wf.of_fault h0
    have hQ := hQ0 h0
    have hT1 := S1.t hT
    have hS1 := S1.seq hT hS
    have hx1 : H1 x = some (.ins C dx []) := S1.k _ _ (ne_tbl hT hx (fun _ z => by cases z)) hx
    refine ⟨_, rfl, l, _, rfl, .inl hS1, fun lr hlr => ?_⟩
    have nxl : x ≠ lr := ne_of_none hx1 hlr
    refine ⟨_, rfl, x, C, dx, _, rfl, (by rw [upd_ne nxl]; exact hx1), T.cl, T.nR, (by show 0 < 1000; decide), ?_⟩
    -- what stands now: H2
    generalize h2 : upd (upd H1 lr (.lst (ws.map V.str))) x (.ins C dx (putF "rows" (.ref lr) [])) = H2
    have k2 : ∀ b o, b ≠ x → H1 b = some o → H2 b = some o := fun b o hb e => by
      rw [← h2, upd_ne hb, upd_ne (ne_of_none e hlr)]
      exact e
    have hx2 : H2 x = some (.ins C dx (putF "rows" (.ref lr) [])) := by rw [← h2, upd_same]
    have hl2 : H2 lr = some (.lst (ws.map V.str)) := by rw [← h2, upd_ne nxl.symm, upd_same]
    have hS2 : SqL K H2 l (ws.map V.str) := SqL_but hS1 (fun _ z => by rw [hx1] at z; cases z) (fun _ _ z => by rw [hx1] at z; cases z) k2
    refine ⟨_, rfl, _, _, rfl, .inl ⟨_, hS2, rfl⟩, _, rfl, x, C, dx, _, rfl, hx2, T.cl, T.nH, (by show 1 < 1000; decide), ?_⟩
    rw [List.length_map]
    generalize h3 : upd H2 x (.ins C dx (putF "high" (.int ((ws.length : Nat) : Int)) (putF "rows" (.ref lr) []))) = H3
    have k3 : ∀ b o, b ≠ x → H2 b = some o → H3 b = some o := fun b o hb e => by
      rw [← h3, upd_ne hb]
      exact e
    have hx3 : H3 x = some (.ins C dx (putF "high" (.int ((ws.length : Nat) : Int)) (putF "rows" (.ref lr) []))) := by rw [← h3, upd_same]
    have hS3 : SqL K H3 l (ws.map V.str) := SqL_but hS2 (fun _ z => by rw [hx2] at z; cases z) (fun _ _ z => by rw [hx2] at z; cases z) k3
    refine ⟨fun σ' H' => σ' = [some (.ref x), some (.ref l)] ∧ H' = upd H3 x (.ins C dx (putF "wide" (.int ((wide ws : Nat) : Int)) (putF "high" (.int ((ws.length : Nat) : Int)) (putF "rows" (.ref lr) [])))), ?_, ?_⟩
    · refine ⟨_, rfl, _, .inl ⟨_, hS3, rfl⟩, ?_⟩
      cases ws with
      | nil =>
        refine iteF ?_
        refine ⟨_, rfl, x, C, dx, _, rfl, hx3, T.cl, T.nW, (by show 2 < 1000; decide), rfl, ?_⟩
        have e0 : wide ([] : List Str) = 0 := empty_len
        rw [e0]
        rfl
      | cons a r =>
        refine iteT ?_
        have ea : wide (a :: r) = a.length := rfl
        have wl := hw.wid
        refine ⟨_, rfl, _, _, _, _, rfl, rfl, hS3, atI_nat (j := 0) rfl, a, rfl, Nat.le_trans (by rw [← ea]; exact wl) (by decide), ?_⟩
        exact ⟨_, rfl, x, C, dx, _, rfl, hx3, T.cl, T.nW, (by show 2 < 1000; decide), rfl, rfl⟩
    · rintro _ H4 ⟨rfl, h4⟩
      have hx4 : H4 x = some (.ins C dx (putF "wide" (.int ((wide ws : Nat) : Int)) (putF "high" (.int ((ws.length : Nat) : Int)) (putF "rows" (.ref lr) [])))) := by rw [h4, upd_same]
      have k4 : ∀ b o, b ≠ x → H3 b = some o → H4 b = some o := fun b o hb e => by
        rw [h4, upd_ne hb]
        exact e
      have hS4 : SqL K H4 l (ws.map V.str) := SqL_but hS3 (fun _ z => by rw [hx3] at z; cases z) (fun _ _ z => by rw [hx3] at z; cases z) k4
      refine ⟨_, rfl, l, _, rfl, .inl ⟨hS4, fun lt hlt => ?_⟩⟩
      have nxt : x ≠ lt := ne_of_none hx4 hlt
      have nPx : x ≠ Pt := ne_tbl hT hx (fun _ z => by cases z)
      let fs5 : List (Str × V) := putF "_signs" (.ref lt) (putF "wide" (.int ((wide ws : Nat) : Int)) (putF "high" (.int ((ws.length : Nat) : Int)) (putF "rows" (.ref lr) [])))
      refine ⟨_, rfl, x, C, dx, _, rfl, (by rw [upd_ne nxt]; exact hx4), T.cl, T.nS, (by show 3 < 1000; decide), ?_⟩
      generalize h5 : upd (upd H4 lt (.tup (ws.map V.str))) x (.ins C dx (putF "_signs" (.ref lt) (putF "wide" (.int ((wide ws : Nat) : Int)) (putF "high" (.int ((ws.length : Nat) : Int)) (putF "rows" (.ref lr) []))))) = H5
      have k5 : ∀ b o, b ≠ x → H4 b = some o → H5 b = some o := fun b o hb e => by
        rw [← h5, upd_ne hb, upd_ne (ne_of_none e hlt)]
        exact e
      have hx5 : H5 x = some (.ins C dx fs5) := by rw [← h5, upd_same]
      have ht5 : H5 lt = some (.tup (ws.map V.str)) := by rw [← h5, upd_ne nxt.symm, upd_same]
      have lw : fs5.lookup ("wide" : Str) = some (V.int ((wide ws : Nat) : Int)) := by
        show (putF "_signs" _ _).lookup _ = _
        rw [lookup_putF, if_neg fne.2.2.2.2.2.2.2.2.1, lookup_putF, if_pos rfl]
      have lg : fs5.lookup ("_signs" : Str) = some (V.ref lt) := by
        show (putF "_signs" _ _).lookup _ = _
        rw [lookup_putF, if_pos rfl]
      refine ⟨_, rfl, x, C, dx, _, _, rfl, hx5, T.cl, T.nS, lg, _, rfl, x, C, dx, _, _, rfl, hx5, T.cl, T.nW, lw, lt, ws, rfl, SqT.of ht5, hw, fun d f H6 s6 hd t6 n6 => ?_⟩
      have hx6 := s6 _ _ hx5
      refine ⟨_, rfl, x, C, dx, _, rfl, hx6, T.cl, T.nN, (by show 4 < 1000; decide), ?_⟩
      have up1 : ∀ b o, b ≠ x → H1 b = some o → H5 b = some o := fun b o hb e => k5 b o hb (k4 b o hb (k3 b o hb (k2 b o hb e)))
      have nd : ∀ b o, H5 b = some o → b ≠ d := fun b o e => ne_of_none e hd
      have f0 : ∀ b, b ≠ x → H5 b = none → H b = none := fun b hb e => by
        cases q : H b with
        | none => rfl
        | some o =>
          by_cases hbp : b = Pt
          · obtain ⟨ps, z, _⟩ := hT1
            have := up1 b _ hb (by rw [hbp]; exact z)
            rw [e] at this
            cases this
          · have := up1 b o hb (S1.k b o hbp q)
            rw [e] at this
            cases this
      have ft : H lt = none := by
        cases q : H lt with
        | none => rfl
        | some o =>
          by_cases hbp : lt = Pt
          · obtain ⟨ps, z, _⟩ := hT1
            have := k4 lt _ nxt.symm (k3 _ _ nxt.symm (k2 _ _ nxt.symm (by rw [hbp]; exact z)))
            rw [hlt] at this
            cases this
          · have := k4 lt _ nxt.symm (k3 _ _ nxt.symm (k2 _ _ nxt.symm (S1.k _ o hbp q)))
            rw [hlt] at this
            cases this
      have lr5 : H5 lr = some (.lst (ws.map V.str)) := k5 _ _ nxl.symm (k4 _ _ nxl.symm (k3 _ _ nxl.symm hl2))
      have hdx : d ≠ x := (nd _ _ hx5).symm
      have hfx : ∀ p ∈ cellsOf ws, f p ≠ x := fun p hp e => by
        have := n6 p hp
        rw [e, hx5] at this
        cases this
      let f' : Nat → Addr := fun p => if p = topP ws then lt else f p
      have ff : ∀ p ∈ cellsOf ws, f p = f' p := fun p hp => (if_neg (topP_no hp)).symm
      have ft' : f' (topP ws) = lt := if_pos rfl
      refine hQ lr d f' _ ⟨S1.free hT hlr, f0 d hdx hd, fun p hp => by rw [← ff p hp]; exact f0 _ (hfx p hp) (n6 p hp), by rw [ft']; exact ft⟩ (fun b o hb hp e => ?_) ?_ ⟨?_, ?_, ⟨?_, fun p hp => ?_⟩, ?_⟩
      · rw [upd_ne hb]
        exact s6 b o (up1 b o hb (S1.k b o hp e))
      · obtain ⟨ps, z, q⟩ := hT1
        exact ⟨ps, by rw [upd_ne nPx.symm]; exact s6 _ _ (up1 _ _ nPx.symm z), q⟩
      · rw [upd_same, ft']
        rfl
      · rw [upd_ne nxl.symm]
        exact s6 _ _ lr5
      · rw [upd_ne hdx, t6.dc, tab_congr ff]
      · rw [← ff p hp, upd_ne (hfx p hp)]
        exact t6.ls p hp
      · rw [ft', upd_ne nxt.symm]
        exact s6 _ _ ht5
end
end Sf
namespace Sf
open PySem PySem.Spec PyProof.Rows L2 L2H Ge
/-! ### one class that the document names -/
theorem pss_pre {X : Cx} {ss : List Stmt} {t t' : TS} (h : PSs X ss t) (imp : ∀ D σ H, t' D σ H → t D σ H) : PSs X ss t' := ⟨fun pins s σ H D I q => h.run pins s σ H D I (imp _ _ _ q)⟩
/-- the classes: the eight, and the root of them -/
structure ECs where
  cL : Addr
  cR : Addr
  cS : Addr
  cN : Addr
  cB : Addr
  cC : Addr
  cU : Addr
  cD : Addr
  cF : Addr
structure ETxt (K : PySem.W.Frag) (mg : Str → Option Value) (c : ECs) : Prop where
  gL : mg "TooLarge" = some (.ref c.cL)
  gR : mg "Ragged" = some (.ref c.cR)
  gS : mg "StrangeSign" = some (.ref c.cS)
  gN : mg "NoCell" = some (.ref c.cN)
  gB : mg "NotBeside" = some (.ref c.cB)
  gC : mg "Covered" = some (.ref c.cC)
  gU : mg "Uncovered" = some (.ref c.cU)
  gD : mg "NoDrawing" = some (.ref c.cD)
  gF : mg "FloorError" = some (.ref c.cF)
/-- D is one of the eight, a FloorError, a ValueError -/
def OneC (K : PySem.W.Frag) (c : ECs) (D : Addr) : Prop := ExcC K D ∧ ∃ b1 b2 b3 b4 b5 b6 b7 b8 : Bool,
  PySem.W.kitOne K (.ref D) (.ref c.cL) = some b1 ∧ PySem.W.kitOne K (.ref D) (.ref c.cR) = some b2 ∧ PySem.W.kitOne K (.ref D) (.ref c.cS) = some b3 ∧ PySem.W.kitOne K (.ref D) (.ref c.cN) = some b4 ∧
  PySem.W.kitOne K (.ref D) (.ref c.cB) = some b5 ∧ PySem.W.kitOne K (.ref D) (.ref c.cC) = some b6 ∧ PySem.W.kitOne K (.ref D) (.ref c.cU) = some b7 ∧ PySem.W.kitOne K (.ref D) (.ref c.cD) = some b8 ∧
  [b1, b2, b3, b4, b5, b6, b7, b8].count true = 1 ∧ PySem.W.kitOne K (.ref D) (.ref c.cF) = some true ∧ PySem.W.kitOne K (.ref D) (.type "ValueError") = some true
theorem kit_VE {K : PySem.W.Frag} {D : Addr} (h : PySem.W.subIn K (.ref D) (.type "ValueError") = some true) : PySem.W.kitOne K (.ref D) (.type "ValueError") = some true := by
  have e : ((Value.ref D) == (Value.type "ValueError")) = false := rfl
  have m : PySem.W.kitMeta "ValueError" = true := by decide +kernel
  unfold PySem.W.kitOne PySem.W.kitCls
  rw [e, if_neg (by decide)]
  show (if PySem.W.kitMeta "ValueError" = true then _ else none) = _
  rw [if_pos m]
  exact h
def spOne (K : PySem.W.Frag) (c : ECs) : SpE := fun p vs H Q _ => ∃ D, OneC K c D ∧ Zc (.ref D) none p.2 ∧ (∃ us, p.2.data = .fields us) ∧ vs = [.ref p.1] ∧ ∀ H', Same H H' → Q (.bl true) H'
section
variable {P : Program} {w : World} {K : PySem.W.Frag} {mg : Str → Option Value} {base : Heap}
theorem fun_okE {x qual : Str} {st : Stmt} {f : Addr} {fd : FuncData} {N ps : List Str} {k : Nat} {sp : SpE} (F : Fun K x qual st f fd) (S : FnScope N ps (defScope st)) (len : ∀ p vs H Q E, sp p vs H Q E → vs.length = ps.length)
    (hbody : ∀ (cdv : Value) (A : Around) (outer : List Env) (s : Shared) (H : Hp) (vs : List V) (Q : VK) (E : XK) (p : Addr × Obj), RoomH k (A.deeper (envOfC qual (defScope st) s.heap.objs.size f cdv)) → sp p vs H Q E →
      ∃ t, PSs (cxH CX0 P w K mg base N qual (defScope st) f cdv A outer s H E p) (defBody st) t ∧ t { nx := fun _ H' => Q .non H', rt := Q } (L2.start N vs) H) : FnE P w K mg base CX0 (k + 1) f fd ps sp := by
  obtain ⟨oc, od, kV, doc, pm, an, cdv, ct, osl, rfl, lk, hcd⟩ := F.ex
  exact fnE_of lk hcd S len fun A outer s H vs Q E p hr hsp => hbody cdv A outer s H vs Q E p hr hsp
def nOne : List Str := ["_law_e", "_law_told_here"]
theorem scOne : FnScope nOne ["_law_e"] (defScope s_law_one_class) := ⟨rfl, rfl, rfl, by decide +kernel, rfl, by decide +kernel, by decide +kernel⟩
theorem ok_one {f : Addr} {fd : FuncData} {c : ECs} (F : Fun K "_law_one_class" "_law_one_class" s_law_one_class f fd) (T : ETxt K mg c) (gI : mg "isinstance" = none) (gV : mg "ValueError" = none) : FnE P w K mg base CX0 1 f fd ["_law_e"] (spOne K c) := by
  refine fun_okE F scOne (fun p vs H Q E h => ?_) (fun cdv A outer s H vs Q E p hr h => ?_)
  · obtain ⟨D, _, _, _, rfl, _⟩ := h
    rfl
  · obtain ⟨D, ⟨xD, b1, b2, b3, b4, b5, b6, b7, b8, e1, e2, e3, e4, e5, e6, e7, e8, hc, eF, eV⟩, hz, hf, rfl, hQ⟩ := h
    have hp : p ∈ (cxH CX0 P w K mg base nOne "_law_one_class" (defScope s_law_one_class) f cdv A outer s H E p).pn := List.mem_singleton.mpr rfl
    refine ⟨_, pss_cons (ps_set (i := 1) scOne.nd rfl (Or.inl rfl) (pe_lst (pa_cons (pe_callB (call_isP hp xD hz hf) (by rfl) gI PyProof.Rows.boot_isinstance (pa_cons (pv 0) (pa_cons (pe_glob (v := .ref c.cL) rfl T.gL rfl) pa_nil)))
        (pa_cons (pe_callB (call_isP hp xD hz hf) (by rfl) gI PyProof.Rows.boot_isinstance (pa_cons (pv 0) (pa_cons (pe_glob (v := .ref c.cR) rfl T.gR rfl) pa_nil)))
        (pa_cons (pe_callB (call_isP hp xD hz hf) (by rfl) gI PyProof.Rows.boot_isinstance (pa_cons (pv 0) (pa_cons (pe_glob (v := .ref c.cS) rfl T.gS rfl) pa_nil)))
        (pa_cons (pe_callB (call_isP hp xD hz hf) (by rfl) gI PyProof.Rows.boot_isinstance (pa_cons (pv 0) (pa_cons (pe_glob (v := .ref c.cN) rfl T.gN rfl) pa_nil))) pa_nil))))))
      (pss_cons (ps_set (i := 1) scOne.nd rfl (Or.inl rfl) (pe_op op_cat (pv 1) (pe_lst (pa_cons (pe_callB (call_isP hp xD hz hf) (by rfl) gI PyProof.Rows.boot_isinstance (pa_cons (pv 0) (pa_cons (pe_glob (v := .ref c.cB) rfl T.gB rfl) pa_nil)))
        (pa_cons (pe_callB (call_isP hp xD hz hf) (by rfl) gI PyProof.Rows.boot_isinstance (pa_cons (pv 0) (pa_cons (pe_glob (v := .ref c.cC) rfl T.gC rfl) pa_nil)))
        (pa_cons (pe_callB (call_isP hp xD hz hf) (by rfl) gI PyProof.Rows.boot_isinstance (pa_cons (pv 0) (pa_cons (pe_glob (v := .ref c.cU) rfl T.gU rfl) pa_nil))) pa_nil))))))
      (pss_cons (ps_expr (pe_bm PySem.F.plainAttrs_list PySem.F.slot_list_append PySem.F.type_list_append mt_append (pv 1) (pa_cons (pe_callB (call_isP hp xD hz hf) (by rfl) gI PyProof.Rows.boot_isinstance (pa_cons (pv 0) (pa_cons (pe_glob (v := .ref c.cD) rfl T.gD rfl) pa_nil))) pa_nil)))
      (pss_one (ps_ret (pe_and (pe_cmpR op_eq (pe_bm PySem.F.plainAttrs_list PySem.F.slot_list_count PySem.F.type_list_count mt_bcount (pv 1) (pa_cons pe_bl pa_nil)) pe_int (nomark _))
        (pe_and (pe_callB (call_isP hp xD hz hf) (by rfl) gI PyProof.Rows.boot_isinstance (pa_cons (pv 0) (pa_cons (pe_glob (v := .ref c.cF) rfl T.gF rfl) pa_nil)))
        (pe_one (pe_callB (call_isP hp xD hz hf) (by rfl) gI PyProof.Rows.boot_isinstance (pa_cons (pv 0) (pa_cons (pe_bltn (v := .ty "ValueError") (by rfl) gV (by rfl) rfl) pa_nil)))))))))), ?_⟩
    have rr : ∀ (a : Addr) (u : Value), RelV (V.ref a) u → u = .ref a := fun _ _ h => h
    refine ⟨_, rfl, .ref c.cL, .ref c.cL, b1, rfl, rr _, e1, _, rfl, .ref c.cR, .ref c.cR, b2, rfl, rr _, e2, _, rfl, .ref c.cS, .ref c.cS, b3, rfl, rr _, e3, _, rfl, .ref c.cN, .ref c.cN, b4, rfl, rr _, e4, (by show 4 ≤ sizeLine; decide), fun l1 h1 => ?_⟩
    refine ⟨_, rfl, _, rfl, .ref c.cB, .ref c.cB, b5, rfl, rr _, e5, _, rfl, .ref c.cC, .ref c.cC, b6, rfl, rr _, e6, _, rfl, .ref c.cU, .ref c.cU, b7, rfl, rr _, e7, (by show 3 ≤ sizeLine; decide), fun l2 h2 => ?_⟩
    have n12 : l1 ≠ l2 := fun q => by rw [← q, upd_same] at h2; cases h2
    refine ⟨l1, l2, _, _, rfl, rfl, by rw [upd_ne n12, upd_same], upd_same, (by show 7 ≤ sizeLine; decide), fun l3 h3 => ?_⟩
    have k3 : Same H (upd (upd (upd H l1 (.lst [.bl b1, .bl b2, .bl b3, .bl b4])) l2 (.lst [.bl b5, .bl b6, .bl b7])) l3 (.lst [.bl b1, .bl b2, .bl b3, .bl b4, .bl b5, .bl b6, .bl b7])) := (Same.new h1).trans ((Same.new h2).trans (Same.new h3))
    have h3H : ∀ b o, H b = some o → b ≠ l3 := fun b o e q => by
      have z := (Same.new (o := .lst [.bl b1, .bl b2, .bl b3, .bl b4]) h1).trans (Same.new (o := .lst [.bl b5, .bl b6, .bl b7]) h2) b o e
      rw [q, h3] at z
      cases z
    refine ⟨_, rfl, .inl ⟨rfl, _, SqL.of upd_same⟩, _, rfl, .ref c.cD, .ref c.cD, b8, rfl, rr _, e8, l3, _, _, rfl, rfl, upd_same, (by show 7 < sizeLine; decide), ?_⟩
    refine ⟨_, rfl, .inl ⟨rfl, _, SqL.of upd_same⟩, l3, [b1, b2, b3, b4, b5, b6, b7, b8], true, rfl, rfl, SqL.of upd_same, rfl, _, rfl, ?_⟩
    rw [hc]
    refine iteTd rfl ?_
    refine ⟨_, rfl, .ref c.cF, .ref c.cF, true, rfl, rr _, eF, _, rfl, ?_⟩
    refine iteT ?_
    refine ⟨_, rfl, .ty "ValueError", .type "ValueError", true, rfl, fun _ h => h, eV, ?_⟩
    refine hQ _ fun b o e => ?_
    rw [upd_ne (h3H b o e)]
    exact k3 b o e
end
end Sf
namespace Sf
open PySem PySem.Spec PyProof.Rows L2 L2H Ge Ga
def word : Nat → Str
  | 0 => ""
  | 1 => "large"
  | 2 => "ragged"
  | _ => "strange"
def spTold (K : PySem.W.Frag) (Pt : Addr) : Sp := fun vs H Q _ => ∃ (h : Addr) (ws : List Str) (B : Nat), vs = [.ref h] ∧ H h = some (.lst (ws.map V.str)) ∧ Gd B ws ∧ B ≤ 1000 ∧ GxR.TabG H Pt ∧ ∀ H', Sm Pt H H' → Q (.str (word (fault ws))) H'
theorem dp_strs3 {K : PySem.W.Frag} {H : Hp} : ∀ xs : List Str, DpAll K H (xs.map V.str) (xs.map PyData.str)
  | [] => .nil
  | x :: r => .cons (.str x) (dp_strs3 r)
theorem shaped_at {ds : List PyData} (h : ∀ d ∈ ds, d.canLay0 = true ∧ d.depth = 0) : SeqAt.shaped (.list ds) = true := by
  have h1 : ∀ ds : List PyData, (∀ d ∈ ds, d.canLay0 = true ∧ d.depth = 0) → PyData.canLayAll0 ds = true ∧ PyData.depthAll ds = 0 := by
    intro ds
    induction ds with
    | nil => exact fun _ => ⟨rfl, rfl⟩
    | cons d r ih =>
      intro h
      obtain ⟨a, b⟩ := ih fun z hz => h z (List.mem_cons_of_mem _ hz)
      obtain ⟨c, e⟩ := h d List.mem_cons_self
      refine ⟨?_, ?_⟩
      · show (PyData.canLay0 d && PyData.canLayAll0 r) = true
        rw [c, a] <;> rfl
      · show max (PyData.depth d) (PyData.depthAll r) = 0
        rw [e, b] <;> rfl
  obtain ⟨a, b⟩ := h1 ds h
  unfold SeqAt.shaped
  have e1 : (PyData.list ds).canLay0 = true := a
  have e2 : (PyData.list ds).depth = PyData.depthAll ds + 1 := rfl
  rw [e1, e2, b]
  decide
theorem shaped_gd {B : Nat} {ws : List Str} (w : Gd B ws) : SeqAt.shaped (.list (ws.map PyData.str)) = true := shaped_at fun d hd => by
  obtain ⟨a, ha, rfl⟩ := List.mem_map.mp hd
  refine ⟨?_, rfl⟩
  show a.cps.all (· < 0x110000) = true
  rw [← Array.all_toList, List.all_eq_true]
  intro c hc
  rw [decide_eq_true_eq]
  exact w.cps a ha c hc
theorem fault_some {ws : List Str} (h : fault ws ≠ 0) : fault ws = 1 ∨ fault ws = 2 ∨ fault ws = 3 := by
  unfold fault at h ⊢
  by_cases h1 : big ws = true
  · rw [if_pos h1]
    exact .inl rfl
  · rw [if_neg h1] at h ⊢
    by_cases h2 : rag ws = true
    · rw [if_pos h2]
      exact .inr (.inl rfl)
    · rw [if_neg h2] at h ⊢
      by_cases h3 : odd ws = true
      · rw [if_pos h3]
        exact .inr (.inr rfl)
      · rw [if_neg h3] at h
        exact absurd rfl h
def tsT (D0 : Addr) (txt : Str) : Suite := fun a cls d D σ H => (cls = .ref D0 ∧ d = none) ∧ tVar 2 σ H fun v H1 => v = .ref a ∧ ∀ H', Same H1 H' → D.rt (.str txt) H'
/-- what the three clauses catch -/
structure Cat (K : PySem.W.Frag) (c : ECs) : Prop where
  LL : PySem.W.exmOne K (.ref c.cL) (.ref c.cL) = some true
  RL : PySem.W.exmOne K (.ref c.cR) (.ref c.cL) = some false
  RR : PySem.W.exmOne K (.ref c.cR) (.ref c.cR) = some true
  SL : PySem.W.exmOne K (.ref c.cS) (.ref c.cL) = some false
  SR : PySem.W.exmOne K (.ref c.cS) (.ref c.cR) = some false
  SF : PySem.W.exmOne K (.ref c.cS) (.ref c.cF) = some true
  SS : PySem.W.kitOne K (.ref c.cS) (.ref c.cS) = some true
  oL : OneC K c c.cL
  oR : OneC K c c.cR
  oS : OneC K c c.cS
section
variable {P : Program} {w : World} {K : PySem.W.Frag} {mg : Str → Option Value} {base : Heap}
def nTold : List Str := ["_law_rows_here", "_law_floor", "_law_e"]
theorem scTold : FnScope nTold ["_law_rows_here"] (defScope s_law_told) := ⟨rfl, rfl, rfl, by decide +kernel, rfl, by decide +kernel, by decide +kernel⟩
theorem ok_told {f fI fO C Pt : Addr} {fd fdI fdO : FuncData} {c : ECs} (F : Fun K "_law_told" "_law_told" s_law_told f fd) (T : FTxt K mg C) (M : Mk K C fI) (TE : ETxt K mg c) (Z : Cat K c)
    (GI : FnOk P w K mg base (L2.CX P w) 4 fI fdI ["self", "rows"] (spInitX K Pt C c.cL c.cR c.cS)) (bI : Binds K fdI ["self", "rows"] [])
    (GO : FnE P w K mg base CX0 1 fO fdO ["_law_e"] (spOne K c)) (gO : mg "_law_one_class" = some (.ref fO)) (kO : PySem.W.keepIn K (.ref fO) = true) (bO : Binds K fdO ["_law_e"] []) (gI : mg "isinstance" = none) :
    FnOk P w K mg base CX0 6 f fd ["_law_rows_here"] (spTold K Pt) := by
  refine F.ok scTold (fun vs H Q E h => ?_) (fun cdv A outer s H vs Q E hr h => ?_)
  · obtain ⟨x, ws, B, rfl, _⟩ := h
    rfl
  · obtain ⟨x, ws, B, rfl, hx, hg, hB, hT, hQ⟩ := h
    have hr1 : Room 1 _ := hr.mono (by decide)
    refine ⟨_, pss_cons (ps_try_all (i := 2) (n := "_law_e") (tb := fun W => tAsg (tMakeS C (spInitX K Pt C c.cL c.cR c.cS) (WE W) (tCons (tVar 0) tNil)) (gName 1)) (out := fun _ _ _ _ => False)
        (l := [(.ref c.cL, tsT c.cL "large"), (.ref c.cR, tsT c.cR "ragged"), (.ref c.cF, tsT c.cS "strange")]) rfl rfl scTold.nd rfl rfl takes0
        (fun W pn xe tk _ => pss_one (ps_set (i := 1) scTold.nd rfl (Or.inl rfl) (by exact (pe_makeS M GI hr rfl T.mgC bI (fun σ => passAt tk σ) (pa_cons (pv 0) pa_nil)))))
        (.cons ⟨rfl, by decide, Or.inl TE.gL⟩ (fun a oe cls d pn hz hf => ?s1) (.cons ⟨rfl, by decide, Or.inl TE.gR⟩ (fun a oe cls d pn hz hf => ?s2) (.cons ⟨rfl, by decide, Or.inl TE.gF⟩ (fun a oe cls d pn hz hf => ?s3) .nil))))
      (pss_one (ps_ret (pe_ifExp (pt_cmpR (op_eqD hr.units) (pe_fld (pv 1) rfl) (pv 0) (nomark _)) pe_str pe_str))), ?pure⟩
    case s1 =>
      refine pss_pre (pss_one (ps_ret (pe_ifExp (pt_val (pe_callE GO ⟨hr1.dp, hr1.un⟩ List.mem_cons_self rfl gO kO bO pass0 (pa_cons (pv 2) pa_nil))) pe_str pe_str))) ?_
      rintro D σ H1 ⟨⟨rfl, rfl⟩, v, hv, rfl, q⟩
      exact ⟨_, hv, c.cL, Z.oL, hz, hf, rfl, fun H' s' => ⟨_, rfl, iteT (q H' s')⟩⟩
    case s2 =>
      refine pss_pre (pss_one (ps_ret (pe_ifExp (pt_val (pe_callE GO ⟨hr1.dp, hr1.un⟩ List.mem_cons_self rfl gO kO bO pass0 (pa_cons (pv 2) pa_nil))) pe_str pe_str))) ?_
      rintro D σ H1 ⟨⟨rfl, rfl⟩, v, hv, rfl, q⟩
      exact ⟨_, hv, c.cR, Z.oR, hz, hf, rfl, fun H' s' => ⟨_, rfl, iteT (q H' s')⟩⟩
    case s3 =>
      by_cases hc : cls = .ref c.cS ∧ d = none
      · obtain ⟨rfl, rfl⟩ := hc
        refine pss_pre (pss_one (ps_ret (pe_ifExp (PW.pt (pw_and (pt_val (pe_callB (call_isP List.mem_cons_self Z.oS.1 hz hf) (by rfl) gI PyProof.Rows.boot_isinstance (pa_cons (pv 2) (pa_cons (pe_glob (v := .ref c.cS) rfl TE.gS rfl) pa_nil))))
          (pw_and1 (pt_val (pe_callE GO ⟨hr1.dp, hr1.un⟩ List.mem_cons_self rfl gO kO bO pass0 (pa_cons (pv 2) pa_nil)))))) pe_str pe_str))) ?_
        rintro D σ H1 ⟨_, v, hv, rfl, q⟩
        refine ⟨_, hv, .ref c.cS, .ref c.cS, true, rfl, fun _ h => h, Z.SS, _, rfl, ?_⟩
        refine iteT ?_
        exact ⟨_, hv, c.cS, Z.oS, hz, hf, rfl, fun H' s' => ⟨_, rfl, iteT (q H' s')⟩⟩
      · exact ⟨fun _ _ _ _ _ _ q => absurd q.1 hc⟩
    case pure =>
      refine ⟨_, rfl, fun y dy ny ndy ney => ?_⟩
      have s3 : Same H (upd (upd H dy (.own y)) y (.ins C dy [])) := fun b o e => by
        rw [upd_ne (ne_of_none e ny), upd_ne (ne_of_none e ndy)]
        exact e
      have S3 := Sm.of (P := Pt) s3
      refine ⟨y, dy, x, ws, B, rfl, upd_same, s3.seq (SqL.of hx), hg, hB, S3.t hT, fun h0 lr d g H4 nw kp hT4 fa => ⟨rfl, ?_⟩, fun h1 H4 S4 => ?_⟩
      · have keep : ∀ b o, b ≠ Pt → H b = some o → H4 b = some o := fun b o hb e => kp b o (ne_of_none e ny) hb (s3 b o e)
        have hx4 : H4 x = some (.lst (ws.map V.str)) := keep _ _ (ne_tbl hT hx (fun _ z => by cases z)) hx
        have sh := shaped_gd hg
        have rf : PyData.eqv (.list (ws.map PyData.str)) (.list (ws.map PyData.str)) = true := SeqAt.eqv_refl _ (SeqAt.canLay_of_shaped sh)
        have dp : ∀ b, H4 b = some (.lst (ws.map V.str)) → Dp K H4 (.ref b) (.list (ws.map PyData.str)) := fun b e => .lst (SqL.of e) (dp_strs3 ws)
        refine ⟨_, rfl, y, C, dy, _, _, rfl, fa.ob, T.cl, T.nR, flds_rows _ _ _ _, _, rfl, _, _, dp _ fa.rw, dp _ hx4, sh, sh, _, rfl, ?_⟩
        rw [rf]
        refine iteT ?_
        have q := hQ H4 ⟨keep, fun _ => hT4⟩
        rw [h0] at q
        exact q
      · have q : ∀ H', Same H4 H' → Sm Pt H H' := fun H' s' => (S3.trans S4).trans (Sm.of s')
        rcases fault_some h1 with e | e | e
        · rw [e] at hQ ⊢
          exact ⟨true, Z.LL, fun _ a0 _ => ⟨⟨rfl, rfl⟩, _, rfl, rfl, fun H' s' => hQ H' (q H' s')⟩, fun z => Bool.noConfusion z⟩
        · rw [e] at hQ ⊢
          exact ⟨false, Z.RL, fun z => Bool.noConfusion z, fun _ => ⟨true, Z.RR, fun _ a0 _ => ⟨⟨rfl, rfl⟩, _, rfl, rfl, fun H' s' => hQ H' (q H' s')⟩, fun z => Bool.noConfusion z⟩⟩
        · rw [e] at hQ ⊢
          exact ⟨false, Z.SL, fun z => Bool.noConfusion z, fun _ => ⟨false, Z.SR, fun z => Bool.noConfusion z, fun _ => ⟨true, Z.SF, fun _ a0 _ => ⟨⟨rfl, rfl⟩, _, rfl, rfl, fun H' s' => hQ H' (q H' s')⟩, fun z => Bool.noConfusion z⟩⟩⟩
end
end Sf
namespace Sf
open PySem PySem.Spec PyProof.Rows L2
/-- over a text's signs -/
theorem for_signs {z : Str} {g : TG} {tb : TS} {D : Ends} {σ : L2.St} {H : Hp} (Pv : Nat → L2.St → Hp → Prop) (h0 : Pv 0 σ H)
    (hs : ∀ i c σ H, z.cps.toList[i]? = some c → Pv i σ H → g (.str ⟨#[c]⟩) σ H fun τ G => tb { D with nx := Pv (i + 1), ct := Pv (i + 1), bk := D.nx } τ G) (hd : ∀ σ H, Pv z.cps.size σ H → D.nx σ H) :
    ∃ W : Nat → Nat → L2.St → Hp → Prop, (∃ m, W 0 m σ H) ∧ ∀ i m σ H, W i m σ H →
      ((Its z).stop i H ∧ D.nx σ H) ∨ ((Its z).go i H ∧ ∃ N : L2.St → Hp → Prop, (∀ τ G, N τ G → ∃ m', m' < m ∧ W (i + 1) m' τ G) ∧ ∀ x G, (Its z).yld i H x G → g x σ G fun τ2 G2 => tb { D with nx := N, ct := N, bk := D.nx } τ2 G2) := by
  refine ⟨fun i m τ G => m = z.cps.size - i ∧ i ≤ z.cps.size ∧ Pv i τ G, ⟨z.cps.size, by simp, Nat.zero_le _, h0⟩, ?_⟩
  rintro i m τ G ⟨rfl, hi, p⟩
  rcases Nat.lt_or_ge i z.cps.size with hlt | hge
  · refine Or.inr ⟨hlt, Pv (i + 1), fun τ' G' p' => ⟨z.cps.size - (i + 1), by omega, rfl, hlt, p'⟩, ?_⟩
    rintro x G' ⟨rfl, c, ec, rfl⟩
    refine hs i c τ _ ?_ p
    rw [Array.getElem?_toList]
    exact ec
  · have e : i = z.cps.size := by omega
    rw [e] at p
    exact Or.inl ⟨hge, hd τ G p⟩
theorem any_len {α : Type} (p : α → Bool) : ∀ l : List α, l.any p = decide ((0 : Int) < ((l.filter p).length : Int))
  | [] => rfl
  | a :: r => by
    rw [List.any_cons, List.filter_cons]
    cases h : p a with
    | true =>
      rw [Bool.true_or, if_pos rfl, List.length_cons]
      exact (decide_eq_true (by omega)).symm
    | false =>
      rw [Bool.false_or, if_neg Bool.false_ne_true]
      exact any_len p r
def spDue (K : PySem.W.Frag) : Sp := fun vs H Q _ => ∃ (l : Addr) (ws : List Str) (B : Nat), vs = [.ref l] ∧ SqL K H l (ws.map V.str) ∧ Gd B ws ∧ B ≤ 1000 ∧ ∀ H', Same H H' → Q (.str (word (fault ws))) H'
theorem str_el {ws : List Str} {j : Nat} {y : V} (h : (ws.map V.str)[j]? = some y) : ∃ z, ws[j]? = some z ∧ y = V.str z ∧ ws.take (j + 1) = ws.take j ++ [z] := by
  rw [List.getElem?_map] at h
  cases e : ws[j]? with
  | none => rw [e] at h; cases h
  | some z =>
    rw [e] at h
    refine ⟨z, rfl, (Option.some.inj h).symm, ?_⟩
    rw [List.take_add_one, e] <;> rfl
theorem filt_len {p : Str → Bool} {ws : List Str} (j : Nat) : ((ws.take j).filter p).length ≤ ws.length := by
  have q1 := List.length_filter_le p (ws.take j)
  have q2 : (ws.take j).length ≤ ws.length := by rw [List.length_take]; omega
  omega
section
variable {P : Program} {w : World} {K : PySem.W.Frag} {mg : Str → Option Value} {base : Heap}
def nDue : List Str := ["_law_rows_here", "_law_row", "_law_sign"]
theorem scDue : FnScope nDue ["_law_rows_here"] (defScope s_law_due) := ⟨rfl, rfl, rfl, by decide +kernel, rfl, by decide +kernel, by decide +kernel⟩
theorem ok_due {f : Addr} {fd : FuncData} (F : Fun K "_law_due" "_law_due" s_law_due f fd) (gL : mg "len" = none) : FnOk P w K mg base CX0 1 f fd ["_law_rows_here"] (spDue K) := by
  refine F.ok scDue (fun vs H Q E h => ?_) (fun cdv A outer s H vs Q E hr h => ?_)
  · obtain ⟨l, ws, B, rfl, _⟩ := h
    rfl
  · obtain ⟨l, ws, B, rfl, hS, hg, hB, hQ⟩ := h
    have hsz : ∀ a ∈ ws, a.length ≤ sizeLine := fun a ha => Nat.le_trans (hg.len a ha) (Nat.le_trans hB (by decide))
    have hh := hg.high
    refine ⟨_, pss_cons (ps_if (PW.pt (pw_or (pt_cmpR op_gt (pe_callB call_len (by rfl) gL PySem.boot_len (pa_cons (pv 0) pa_nil)) pe_int (nomark _))
        (pw_or1 (pt_cmpR op_gt (pe_callB call_len (by rfl) gL PySem.boot_len (pa_cons (pe_lc (own := [("_law_row", 1)]) (g := gName 1) rfl scDue.nd (pi_list (pv 0)) (blkOk_by (N := nDue) (sc := defScope s_law_due) (by decide +kernel)) (fun _ _ _ _ _ => pg_name (i := 1) scDue.nd rfl (Or.inl rfl))
          (fun _ _ _ _ _ => pts_one (pt_cmpR op_gt (pe_callB call_len_str (by rfl) gL PySem.boot_len (pa_cons (pv 1) pa_nil)) pe_int (nomark _))) (fun _ _ _ _ _ => pv 1)) pa_nil)) pe_int (nomark _))))) (pss_one (ps_ret pe_str)) pss_nil)
      (pss_cons (ps_if (pt_cmpR op_gt (pe_callB call_len (by rfl) gL PySem.boot_len (pa_cons (pe_lc (own := [("_law_row", 1)]) (g := gName 1) rfl scDue.nd (pi_list (pv 0)) (blkOk_by (N := nDue) (sc := defScope s_law_due) (by decide +kernel)) (fun _ _ _ _ _ => pg_name (i := 1) scDue.nd rfl (Or.inl rfl))
          (fun _ _ _ _ _ => pts_one (pt_cmpR op_ne (pe_callB call_len_str (by rfl) gL PySem.boot_len (pa_cons (pv 1) pa_nil)) (pe_callB call_len_str (by rfl) gL PySem.boot_len (pa_cons (pe_ix (show IxR _ (rIxL K) from ix_list) (pv 0) pe_int (fun _ _ => rfl)) pa_nil)) (nomark _))) (fun _ _ _ _ _ => pv 1)) pa_nil)) pe_int (nomark _)) (pss_one (ps_ret pe_str)) pss_nil)
      (pss_cons (ps_for PassesOwn.never rfl (pi_list (pv 0)) (pg_name (i := 1) scDue.nd rfl (Or.inl rfl))
        (pss_one (ps_for PassesOwn.never rfl (pi_str (pv 1)) (pg_name (i := 2) scDue.nd rfl (Or.inl rfl))
          (pss_one (ps_if (pt_cmpR op_notIn_sign (pv 2) pe_str (by rfl)) (pss_one (ps_ret pe_str)) pss_nil)))))
      (pss_one (ps_ret pe_str)))), ?_⟩
    have f1 : big ws = true → fault ws = 1 := fun h => by
      unfold fault
      rw [if_pos h]
    refine ⟨_, rfl, _, _, rfl, .inl ⟨_, hS, rfl⟩, _, _, rfl, rfl, _, rfl, ?_⟩
    rw [List.length_map]
    refine ite2 (fun z1 => ?_) (fun z1 => ?_)
    · have e := f1 (by unfold big; rw [z1, Bool.true_or])
      refine iteT ?_
      have q := hQ H (Same.refl H)
      rw [e] at q
      exact q
    -- the rows too wide
    refine ⟨_, rfl, l, rfl, ⟨_, hS⟩, fun D1 hD1 => ?_⟩
    refine lc_list (K := K) (a := l) (xs := ws.map V.str) (fun j H3 => Same H H3 ∧ H3 D1 = some (.lst (((ws.take j).filter fun a => decide ((12 : Int) < (a.length : Int))).map V.str))) ⟨Same.new hD1, upd_same⟩ (fun i H3 _ ⟨s3, _⟩ => s3.seq hS) ?_ ?_
    · rintro j y H3 hj ⟨s3, h3⟩
      obtain ⟨z, hz, rfl, tk1⟩ := str_el hj
      refine ⟨rfl, _, rfl, z, rfl, hsz z (List.mem_of_getElem? hz), _, _, rfl, rfl, _, rfl, ?_⟩
      by_cases hm : (12 : Int) < (z.length : Int)
      · refine iteTd hm ?_
        refine ⟨_, rfl, _, h3, ?_, ?_, ?_⟩
        · rw [List.length_map]
          exact small1000 (Nat.le_trans (filt_len j) (by omega))
        · exact fun b o e => by rw [upd_ne (ne_of_none e hD1)]; exact s3 b o e
        · rw [upd_same, tk1, List.filter_append, List.map_append, List.filter_cons, if_pos (decide_eq_true hm)] <;> rfl
      · refine iteNS2 hm ?_
        refine ⟨s3, ?_⟩
        rw [tk1, List.filter_append, List.filter_cons, if_neg (fun q => hm (of_decide_eq_true q)), List.filter_nil, List.append_nil]
        exact h3
    rintro H1 ⟨s1, h1⟩
    rw [List.length_map, List.take_length] at h1
    refine ⟨_, _, rfl, .inl ⟨_, SqL.of h1, rfl⟩, _, _, rfl, rfl, _, rfl, ?_⟩
    rw [List.length_map, ← any_len]
    refine ite2 (fun z2 => ?_) (fun z2 => ?_)
    · have e := f1 (by unfold big; rw [z2, Bool.or_true])
      have q := hQ H1 s1
      rw [e] at q
      exact q
    have hb : ¬ big ws = true := fun q => by
      unfold big at q
      rcases Bool.or_eq_true_iff.mp q with q | q
      · exact z1 q
      · exact z2 q
    have hS1 := s1.seq hS
    -- the rows of another width
    refine ⟨_, rfl, l, rfl, ⟨_, hS1⟩, fun D2 hD2 => ?_⟩
    refine lc_list (K := K) (a := l) (xs := ws.map V.str) (fun j H3 => Same H1 H3 ∧ H3 D2 = some (.lst (((ws.take j).filter fun a => (a.length : Int) != ((ws.headD "").length : Int)).map V.str))) ⟨Same.new hD2, upd_same⟩ (fun i H3 _ ⟨s3, _⟩ => s3.seq hS1) ?_ ?_
    · rintro j y H3 hj ⟨s3, h3⟩
      obtain ⟨z, hz, rfl, tk1⟩ := str_el hj
      obtain ⟨a0, r0, hws⟩ : ∃ a0 r0, ws = a0 :: r0 := by
        cases e : ws with
        | nil => rw [e] at hz; cases hz
        | cons a0 r0 => exact ⟨a0, r0, rfl⟩
      have e0 : ws.headD "" = a0 := by rw [hws] <;> rfl
      have m0 : a0 ∈ ws := by rw [hws]; exact List.mem_cons_self
      have at0 : atI (ws.map V.str) 0 = some (V.str a0) := by
        rw [hws]
        exact atI_nat (j := 0) rfl
      refine ⟨rfl, _, rfl, z, rfl, hsz z (List.mem_of_getElem? hz), _, rfl, _, _, _, _, rfl, rfl, s3.seq hS1, at0, a0, rfl, hsz a0 m0, rfl, _, rfl, ?_⟩
      by_cases hm : z.length = a0.length
      · have e1 : decide (V.int (z.length : Int) = V.int (a0.length : Int)) = true := decide_eq_true (by rw [hm])
        rw [e1]
        refine iteF ?_
        refine ⟨s3, ?_⟩
        have e2 : ((z.length : Int) != ((ws.headD "").length : Int)) = false := by
          rw [e0, hm]
          exact bne_self_eq_false _
        rw [tk1, List.filter_append, List.filter_cons, e2, if_neg Bool.false_ne_true, List.filter_nil, List.append_nil]
        exact h3
      · have e1 : decide (V.int (z.length : Int) = V.int (a0.length : Int)) = false := decide_eq_false (fun q => hm (by have := V.int.inj q; omega))
        rw [e1]
        refine iteT ?_
        have e2 : ((z.length : Int) != ((ws.headD "").length : Int)) = true := by
          rw [e0, bne_iff_ne]
          omega
        refine ⟨_, rfl, _, h3, ?_, ?_, ?_⟩
        · rw [List.length_map]
          exact small1000 (Nat.le_trans (filt_len j) (by omega))
        · exact fun b o e => by rw [upd_ne (ne_of_none e hD2)]; exact s3 b o e
        · rw [upd_same, tk1, List.filter_append, List.map_append, List.filter_cons, e2, if_pos rfl] <;> rfl
    rintro H2 ⟨s2, h2⟩
    rw [List.length_map, List.take_length] at h2
    refine ⟨_, _, rfl, .inl ⟨_, SqL.of h2, rfl⟩, _, _, rfl, rfl, _, rfl, ?_⟩
    rw [List.length_map, ← any_len]
    refine ite2 (fun z3 => ?_) (fun z3 => ?_)
    · have e : fault ws = 2 := by
        unfold fault
        rw [if_neg hb, if_pos (show rag ws = true from z3)]
      have q := hQ H2 (s1.trans s2)
      rw [e] at q
      exact q
    have hS2 := s2.seq hS1
    have hr : ¬ rag ws = true := z3
    -- the signs
    have sgn : ∀ c, (!decide (c ∈ (".-|#" : Str).cps.toList)) = true → (∃ a ∈ ws, c ∈ a.cps.toList) → fault ws = 3 := fun c hc ⟨a, ha, hca⟩ => by
      unfold fault
      rw [if_neg hb, if_neg hr, if_pos]
      exact List.any_eq_true.mpr ⟨c, List.mem_flatMap.mpr ⟨a, ha, hca⟩, hc⟩
    refine ⟨_, rfl, l, rfl, ⟨_, hS2⟩, for_list (K := K) (a := l) (xs := ws.map V.str) (fun i σ H3 => (∃ v1 v2 : Option V, σ = [some (.ref l), v1, v2]) ∧ H3 = H2 ∧ ∀ a ∈ ws.take i, ∀ c ∈ a.cps.toList, c ∈ (".-|#" : Str).cps.toList) ⟨⟨none, none, rfl⟩, rfl, fun a ha => by simp at ha⟩
      (fun i σ H3 _ ⟨_, e, _⟩ => by rw [e]; exact hS2) ?_ ?_⟩
    · rintro i y σ H3 hi ⟨⟨v1, v2, rfl⟩, rfl, ok⟩
      obtain ⟨z, hz, rfl, tk1⟩ := str_el hi
      have mz := List.mem_of_getElem? hz
      refine ⟨_, rfl, z, rfl, for_signs (fun j σ H4 => (∃ v2 : Option V, σ = [some (.ref l), some (.str z), v2]) ∧ H4 = H3 ∧ ∀ c ∈ z.cps.toList.take j, c ∈ (".-|#" : Str).cps.toList) ⟨⟨v2, rfl⟩, rfl, fun c hc => by simp at hc⟩ ?_ ?_⟩
      · rintro j c σ H4 hj ⟨⟨v2, rfl⟩, rfl, okj⟩
        refine ⟨_, rfl, c, _, rfl, rfl, _, rfl, ?_⟩
        refine ite2 (fun zc => ?_) (fun zc => ?_)
        · have q := hQ H4 (s1.trans s2)
          rw [sgn c zc ⟨z, mz, List.mem_of_getElem? hj⟩] at q
          exact q
        · refine ⟨⟨_, rfl⟩, rfl, fun c2 hc2 => ?_⟩
          rw [List.take_add_one, hj] at hc2
          rcases List.mem_append.mp hc2 with h | h
          · exact okj c2 h
          · have e : c2 = c := by simpa using h
            rw [e]
            simpa using zc
      · rintro σ H4 ⟨⟨v2, rfl⟩, rfl, okj⟩
        refine ⟨⟨_, _, rfl⟩, rfl, fun a ha c hc => ?_⟩
        rw [tk1] at ha
        rcases List.mem_append.mp ha with h | h
        · exact ok a h c hc
        · have e : a = z := by simpa using h
          rw [e] at hc
          rw [← Array.length_toList, List.take_length] at okj
          exact okj c hc
    · rintro σ H3 ⟨⟨v1, v2, rfl⟩, rfl, ok⟩
      rw [List.length_map, List.take_length] at ok
      have e : fault ws = 0 := by
        unfold fault
        rw [if_neg hb, if_neg hr, if_neg]
        intro q
        obtain ⟨c, hc, hn⟩ := List.any_eq_true.mp q
        obtain ⟨a, ha, hca⟩ := List.mem_flatMap.mp hc
        rw [decide_eq_true (ok a ha c hca)] at hn
        cases hn
      have q := hQ H3 (s1.trans s2)
      rw [e] at q
      exact q
end
end Sf
namespace Sf
open PySem PySem.Spec PyProof.Rows L2
theorem op_mulS {X : Cx} : OpR X (binaryOp .Mult) (fun x y H Q => ∃ (z : Str) (i : Int), x = .str z ∧ y = .int i ∧ MulOk z i ∧ Q (.str (Txt.mul z i)) H) := by
  intro pins s σ H x y v u Q I rx ry h
  obtain ⟨z, i, rfl, rfl, hok, q⟩ := h
  obtain ⟨t, rfl⟩ := rx
  obtain ⟨t', rfl⟩ := ry
  exact SB.mul hok fun t' k => ⟨.str _, H, I.tok k, ⟨_, rfl⟩, q⟩
theorem mulOk_small {z : Str} {n : Int} (hz : z.length ≤ 64) (h0 : 0 ≤ n) (h1 : n ≤ 1000) : MulOk z n := by
  refine ⟨?_, fun hn _ => ?_, fun hn _ => ?_⟩
  · rw [decide_eq_false (by omega), decide_eq_false (by omega)] <;> rfl
  · intro hc
    have hp : 0 < n := by omega
    have hm : (z.length : Int) * n ≤ 2 ^ 63 - 1 := by
      have a : (z.length : Int) * n ≤ 64 * 1000 := Int.mul_le_mul (by omega) h1 h0 (by decide)
      have b : (64 * 1000 : Int) ≤ 2 ^ 63 - 1 := by decide
      omega
    have := (Int.le_ediv_iff_mul_le hp).mpr hm
    omega
  · have hm : z.length * n.toNat ≤ 64 * 1000 := Nat.mul_le_mul hz (by omega)
    unfold Builtin.Str.tooLong
    simp only [decide_eq_false_iff_not]
    have : (64 * 1000 : Nat) ≤ sizeLine := by decide
    omega
def okS (B : Nat) (z : Str) : Prop := z.length ≤ B ∧ ∀ c ∈ z.cps.toList, c < 0x110000
theorem okS.mono {B C : Nat} {z : Str} (h : okS B z) (l : B ≤ C) : okS C z := ⟨Nat.le_trans h.1 l, h.2⟩
theorem okS.app {a b : Nat} {x y : Str} (h : okS a x) (g : okS b y) : okS (a + b) (x ++ y) := by
  refine ⟨?_, fun c hc => ?_⟩
  · rw [Str.length_append]
    exact Nat.add_le_add h.1 g.1
  · rw [Str.cps_append, Array.toList_append] at hc
    rcases List.mem_append.mp hc with q | q
    · exact h.2 c q
    · exact g.2 c q
theorem okS_dots {n : Int} {N : Nat} (h : n ≤ (N : Int)) : okS N (Txt.mul ("." : Str) n) := by
  have e : ("." : Str) = ⟨#[46]⟩ := by decide +kernel
  refine ⟨?_, fun c hc => ?_⟩
  · exact PyProof.Rows.len_mul_one e h
  · rw [e, PyProof.Rows.mul_one_list] at hc
    rw [(List.mem_replicate.mp hc).2]
    decide
theorem okS_lit {z : Str} {B : Nat} (h : (decide (z.length ≤ B) && z.cps.toList.all fun c => decide (c < 0x110000)) = true) : okS B z := by
  rw [Bool.and_eq_true, decide_eq_true_eq, List.all_eq_true] at h
  exact ⟨h.1, fun c hc => of_decide_eq_true (h.2 c hc)⟩
theorem okS_one {c : Nat} (h : c < 0x110000) : okS 1 ⟨#[c]⟩ := ⟨Nat.le_refl 1, fun d hd => by
  have e : d = c := by simpa using hd
  rw [e]
  exact h⟩
/-- the signs ahead of place p -/
theorem okS_pre {B : Nat} {z : Str} (h : okS B z) (p : Nat) : okS (min p z.length) (cutS z none (some (p : Int))) := by
  have e : (cutS z none (some (p : Int))).cps.toList = z.cps.toList.take (min p z.length) := by
    unfold cutS
    rw [HT.sIx_none, HT.sIx_nat, List.toList_toArray, List.drop_zero, Nat.sub_zero]
  refine ⟨?_, fun c hc => ?_⟩
  · have q : (cutS z none (some (p : Int))).length = (z.cps.toList.take (min p z.length)).length := by
      rw [← e]
      exact (Array.length_toList).symm
    rw [q, List.length_take]
    exact Nat.min_le_left _ _
  · rw [e] at hc
    exact h.2 c (List.mem_of_mem_take hc)
/-- the signs from place p on -/
theorem okS_post {B : Nat} {z : Str} (h : okS B z) (p : Nat) : okS (z.length - min p z.length) (cutS z (some (p : Int)) none) := by
  have e : (cutS z (some (p : Int)) none).cps.toList = (z.cps.toList.drop (min p z.length)).take (z.length - min p z.length) := by
    unfold cutS
    rw [HT.sIx_none, HT.sIx_nat, List.toList_toArray]
  refine ⟨?_, fun c hc => ?_⟩
  · have q : (cutS z (some (p : Int)) none).length = ((z.cps.toList.drop (min p z.length)).take (z.length - min p z.length)).length := by
      rw [← e]
      exact (Array.length_toList).symm
    rw [q, List.length_take]
    exact Nat.min_le_left _ _
  · rw [e] at hc
    exact h.2 c (List.mem_of_mem_drop (List.mem_of_mem_take hc))
theorem pick {z : Str} (h0 : 0 < z.length) (i : Int) : ∃ c, atI z.cps.toList (i % ((z.length : Nat) : Int)) = some c ∧ c ∈ z.cps.toList := by
  obtain ⟨m, e, hm⟩ := mod_nat i (k := ((z.length : Nat) : Int)) (by omega)
  have hl : m < z.cps.toList.length := by
    rw [Array.length_toList]
    show m < z.length
    omega
  rw [e]
  exact ⟨_, atI_nat (List.getElem?_eq_getElem hl), List.getElem_mem hl⟩
theorem okS_post1 {B : Nat} {z : Str} (h : okS B z) (p : Nat) : okS (z.length - min (p + 1) z.length) (cutS z (some ((p : Int) + 1)) none) := by
  have q := okS_post h (p + 1)
  rw [Int.natCast_add] at q
  exact q
theorem ixS_pick {z : Str} {i : Int} {H : Hp} {Q : VK} (hb : (decide (0 < z.length) && decide (z.length ≤ 1000) && z.cps.toList.all fun c => decide (c < 0x110000)) = true) (h : ∀ c, c < 0x110000 → Q (.str ⟨#[c]⟩) H) : rIxS (.str z) (.int (i % ((z.length : Nat) : Int))) H Q := by
  rw [Bool.and_eq_true, Bool.and_eq_true, decide_eq_true_eq, decide_eq_true_eq, List.all_eq_true] at hb
  obtain ⟨c, h1, h2⟩ := pick hb.1.1 i
  exact ⟨z, _, c, rfl, rfl, Nat.le_trans hb.1.2 (by decide), h1, h c (of_decide_eq_true (hb.2 c h2))⟩
theorem cut_post1 (ws : List Str) (k : Nat) : cutV (ws.map V.str) (some ((k : Int) + 1)) none = (ws.drop (k + 1)).map V.str := by
  unfold cutV
  have e : (k : Int) + 1 = ((k + 1 : Nat) : Int) := (Int.natCast_add k 1).symm
  rw [e, HT.sIx_none, HT.sIx_nat, ← List.map_drop, ← List.map_take, List.length_map]
  congr 1
  rcases Nat.le_total (k + 1) ws.length with h | h
  · rw [Nat.min_eq_left h, List.take_of_length_le]
    rw [List.length_drop]
    exact Nat.le_refl _
  · rw [Nat.min_eq_right h, Nat.sub_self, List.take_zero, List.drop_of_length_le h]
theorem cut_pre (ws : List Str) (k : Nat) : cutV (ws.map V.str) none (some (k : Int)) = (ws.take k).map V.str := by
  unfold cutV
  rw [HT.sIx_none, HT.sIx_nat, List.drop_zero, Nat.sub_zero, ← List.map_take, List.length_map]
  congr 1
  rcases Nat.le_total k ws.length with h | h
  · rw [Nat.min_eq_left h]
  · rw [Nat.min_eq_right h, List.take_of_length_le (Nat.le_refl _), List.take_of_length_le h]
theorem Gd.ok {B : Nat} {ws : List Str} (g : Gd B ws) : ∀ a ∈ ws, okS B a := fun a ha => ⟨g.len a ha, g.cps a ha⟩
theorem Gd.of {B : Nat} {ws : List Str} (h : ws.length ≤ 15) (o : ∀ a ∈ ws, okS B a) : Gd B ws := ⟨h, fun a ha => (o a ha).1, fun a ha => (o a ha).2⟩
def spFaulty : Sp := fun vs H Q _ => ∃ (a l : Addr) (ws : List Str) (B : Nat) (kind num : Int), vs = [.ref a, .ref l, .int kind, .int num] ∧ H l = some (.lst (ws.map V.str)) ∧ Gd B ws ∧ 15 ≤ B ∧ B ≤ 900 ∧
  ∀ (l2 : Addr) (ws2 : List Str) (H' : Hp), Same H H' → H' l2 = some (.lst (ws2.map V.str)) → Gd (B + 1) ws2 → Q (.ref l2) H'
section
variable {P : Program} {w : World} {K : PySem.W.Frag} {mg : Str → Option Value} {base : Heap}
def nFau : List Str := ["_law_script", "_law_rows_here", "_law_kind", "_law_number_here", "_law_at", "_law_more", "_law_row", "_law_place", "_law_some", "_law_sign"]
theorem scFau : FnScope nFau ["_law_script", "_law_rows_here", "_law_kind", "_law_number_here"] (defScope s_law_faulty) := ⟨rfl, rfl, rfl, by decide +kernel, rfl, by decide +kernel, by decide +kernel⟩
theorem ok_faulty {f : Addr} {fd : FuncData} (F : Fun K "_law_faulty" "_law_faulty" s_law_faulty f fd) (gL : mg "len" = none) (gm : mg "max" = none) :
    FnOk P w K mg base CX0 1 f fd ["_law_script", "_law_rows_here", "_law_kind", "_law_number_here"] spFaulty := by
  refine F.ok scFau (fun vs H Q E h => ?_) (fun cdv A outer s H vs Q E hr h => ?_)
  · obtain ⟨a, l, ws, B, kind, num, rfl, _⟩ := h
    rfl
  · obtain ⟨a, l, ws, B, kind, num, rfl, hl, hg, hB, hB2, hQ⟩ := h
    have hh := hg.high
    have hsz : ∀ z : Str, z.length ≤ 1000 → z.length ≤ sizeLine := fun z h => Nat.le_trans h (by decide)
    refine ⟨_, pss_cons (ps_set (i := 4) scFau.nd rfl (Or.inl rfl) (pe_op op_mod (pv 3) (pe_callB (call_max2 rfl) (by rfl) gm rfl (pa_cons pe_int (pa_cons (pe_callB call_len (by rfl) gL PySem.boot_len (pa_cons (pv 1) pa_nil)) pa_nil)))))
      (pss_cons (ps_if (pt_cmpR op_eq (pv 2) pe_int (nomark _))
        (pss_cons (ps_set (i := 5) scFau.nd rfl (Or.inl rfl) (pe_op op_add pe_int (pe_op op_mod (pe_op op_fdiv (pv 3) pe_int) pe_int)))
        (pss_one (ps_ret (pe_op op_cat (pv 1) (pe_op op_rep (pe_lst (pa_cons (pe_ifExp (pt_cmpR op_gt (pe_callB call_len (by rfl) gL PySem.boot_len (pa_cons (pv 1) pa_nil)) pe_int (nomark _)) (pe_ix ix_list (pv 1) (pv 4) (fun _ _ => rfl)) pe_str) pa_nil))
          (pe_callB (call_max2 rfl) (by rfl) gm rfl (pa_cons pe_int (pa_cons (pe_op op_sub (pv 5) (pe_callB call_len (by rfl) gL PySem.boot_len (pa_cons (pv 1) pa_nil))) pa_nil)))))))) pss_nil)
      (pss_cons (ps_if (pt_cmpR op_eq (pe_callB call_len (by rfl) gL PySem.boot_len (pa_cons (pv 1) pa_nil)) pe_int (nomark _)) (pss_one (ps_ret (pv 1))) pss_nil)
      (pss_cons (ps_set (i := 6) scFau.nd rfl (Or.inl rfl) (pe_ix ix_list (pv 1) (pv 4) (fun _ _ => rfl)))
      (pss_cons (ps_set (i := 7) scFau.nd rfl (Or.inl rfl) (pe_op op_mod (pe_op op_fdiv (pv 3) pe_int) (pe_op op_add (pe_callB call_len_str (by rfl) gL PySem.boot_len (pa_cons (pv 6) pa_nil)) pe_int)))
      (pss_cons (ps_set (i := 8) scFau.nd rfl (Or.inl rfl) pe_str)
      (pss_cons (ps_set (i := 9) scFau.nd rfl (Or.inl rfl) (pe_ix ix_str (pv 8) (pe_op op_mod (pe_op op_fdiv (pv 3) pe_int) (pe_callB call_len_str (by rfl) gL PySem.boot_len (pa_cons (pv 8) pa_nil))) (fun _ _ => rfl)))
      (C8.pss_cut (ps_if (pt_cmpR op_eq (pv 2) pe_int (nomark _)) (pss_one (ps_set (i := 6) scFau.nd rfl (Or.inl rfl) (pe_op op_add_str (pv 6) (pe_op op_mulS pe_str (pe_callB (call_max2 rfl) (by rfl) gm rfl (pa_cons pe_int
        (pa_cons (pe_op op_sub (pe_op op_add pe_int (pe_op op_mod (pe_op op_fdiv (pv 3) pe_int) pe_int)) (pe_callB call_len_str (by rfl) gL PySem.boot_len (pa_cons (pv 6) pa_nil))) pa_nil))))))) pss_nil)
      (C8.pss_cut (ps_if (pt_cmpR op_eq (pv 2) pe_int (nomark _)) (pss_one (ps_set (i := 6) scFau.nd rfl (Or.inl rfl) (pe_op op_add_str (pe_slice sl_str (pv 6) po_none (po_some (pv 7))) (pe_slice sl_str (pv 6) (po_some (pe_op op_add (pv 7) pe_int)) po_none)))) pss_nil)
      (C8.pss_cut (ps_if (pt_cmpR op_eq (pv 2) pe_int (nomark _)) (pss_one (ps_set (i := 6) scFau.nd rfl (Or.inl rfl) (pe_op op_add_str (pe_op op_add_str (pe_slice sl_str (pv 6) po_none (po_some (pv 7))) pe_str) (pe_slice sl_str (pv 6) (po_some (pv 7)) po_none)))) pss_nil)
      (C8.pss_cut (ps_if (pt_cmpR op_gt (pv 2) pe_int (nomark _)) (pss_one (ps_set (i := 6) scFau.nd rfl (Or.inl rfl) (pe_op op_add_str (pe_op op_add_str (pe_slice sl_str (pv 6) po_none (po_some (pv 7))) (pv 9)) (pe_slice sl_str (pv 6) (po_some (pe_op op_add (pv 7) pe_int)) po_none)))) pss_nil)
      (pss_one (ps_ret (pe_op op_cat (pe_op op_cat (pe_slice sl_list (pv 1) po_none (po_some (pv 4))) (pe_lst (pa_cons (pv 6) pa_nil))) (pe_slice sl_list (pv 1) (po_some (pe_op op_add (pv 4) pe_int)) po_none)))))))))))))), ?_⟩
    -- at
    have mx : (0 : Int) < (if ((ws.length : Nat) : Int) > 1 then ((ws.length : Nat) : Int) else 1) := by split <;> omega
    obtain ⟨at_, hat, hat2⟩ := mod_nat num mx
    have atl : 0 < ws.length → at_ < ws.length := fun h => by
      split at hat2 <;> omega
    refine ⟨_, rfl, _, rfl, _, _, rfl, .inl ⟨_, SqL.of hl, rfl⟩, _, _, rfl, _, _, rfl, rfl, ?_⟩
    rw [List.length_map]
    refine ⟨mx, _, rfl, rfl, _, rfl, ?_⟩
    refine ite2 (fun k1 => ?_) (fun k1 => ?_)
    · -- rows more
      obtain ⟨m4, hm4, hm42⟩ := mod_nat (num / 13) (k := 4) (by decide)
      refine ⟨_, rfl, _, _, rfl, rfl, ⟨by decide, by decide⟩, _, _, rfl, rfl, (by show (0 : Int) < 4; decide), _, _, rfl, rfl, ?_⟩
      refine ⟨_, rfl, _, rfl, _, _, rfl, .inl ⟨_, SqL.of hl, rfl⟩, _, _, rfl, rfl, _, rfl, ?_⟩
      rw [List.length_map]
      have last : ∀ z : Str, okS B z → ∀ (p : Addr) (H1 : Hp), H p = none → H1 = upd H p (.lst [.str z]) → ∀ k : Int, k = (if (12 : Int) + num / 13 % 4 - ((ws.length : Nat) : Int) > 0 then 12 + num / 13 % 4 - ((ws.length : Nat) : Int) else 0) →
          rRep (.ref p) (.int k) H1 (fun v H2 => rCat (.ref l) v H2 Q) := fun z hz p H1 hp e1 k ek => by
        rw [hm4] at ek
        have k0 : 0 ≤ k := by rw [ek]; split <;> omega
        have k15 : ws.length + k.toNat ≤ 15 := by rw [ek]; split <;> omega
        rw [e1]
        refine ⟨p, k, _, rfl, rfl, upd_same, by omega, by omega, Nat.le_trans (by show 1 * k.toNat ≤ 1000; omega) (by decide), fun p2 hp2 => ?_⟩
        have npl : ∀ b o, H b = some o → b ≠ p := fun b o e => ne_of_none e hp
        have s1 : Same H (upd H p (.lst [.str z])) := Same.new hp
        have npl2 : p2 ≠ l := fun q => by rw [q, s1 _ _ hl] at hp2; cases hp2
        have fl : (List.replicate k.toNat [V.str z]).flatten = (List.replicate k.toNat z).map V.str := by
          rw [List.map_replicate]
          generalize k.toNat = n
          induction n with
          | zero => rfl
          | succ n ih => rw [List.replicate_succ, List.flatten_cons, ih, List.replicate_succ] <;> rfl
        refine ⟨l, p2, _, _, rfl, rfl, by rw [upd_ne npl2.symm]; exact s1 _ _ hl, upd_same, ?_, fun p3 hp3 => ?_⟩
        · rw [fl, List.length_map, List.length_map, List.length_replicate]
          exact Nat.le_trans (by omega : _ ≤ 1000) (by decide)
        · refine hQ p3 (ws ++ List.replicate k.toNat z) _ (s1.trans ((Same.new hp2).trans (Same.new hp3))) ?_ ?_
          · rw [upd_same, fl, List.map_append]
          · refine Gd.of ?_ fun a ha => ?_
            · rw [List.length_append, List.length_replicate]
              exact k15
            · rcases List.mem_append.mp ha with q | q
              · exact (hg.ok a q).mono (Nat.le_succ _)
              · rw [(List.mem_replicate.mp q).2]
                exact hz.mono (Nat.le_succ _)
      cases ws with
      | nil =>
        refine iteF ?_
        refine ⟨(by show 1 ≤ sizeLine; decide), fun p hp => ?_⟩
        refine ⟨_, rfl, _, rfl, _, _, rfl, .inl ⟨_, (Same.new hp).seq (SqL.of hl), rfl⟩, _, _, rfl, rfl, _, _, rfl, ?_⟩
        exact last _ ((okS_lit (B := 1) (by decide +kernel)).mono (by omega)) p _ hp rfl _ (by rw [List.length_map] <;> rfl)
      | cons a0 r0 =>
        refine iteTd (by rw [List.length_cons]; omega) ?_
        obtain ⟨z, hz⟩ : ∃ z, (a0 :: r0)[at_]? = some z := ⟨_, List.getElem?_eq_getElem (atl (by rw [List.length_cons]; omega))⟩
        refine ⟨_, rfl, _, rfl, _, _, _, _, rfl, rfl, SqL.of hl, (by rw [hat]; exact atI_nat (v := V.str z) (by rw [List.getElem?_map, hz] <;> rfl)), (by show 1 ≤ sizeLine; decide), fun p hp => ?_⟩
        refine ⟨_, rfl, _, rfl, _, _, rfl, .inl ⟨_, (Same.new hp).seq (SqL.of hl), rfl⟩, _, _, rfl, rfl, _, _, rfl, ?_⟩
        exact last z (hg.ok z (List.mem_of_getElem? hz)) p _ hp rfl _ (by rw [List.length_map])
    -- no rows
    refine ⟨_, rfl, _, _, rfl, .inl ⟨_, SqL.of hl, rfl⟩, rfl, _, rfl, ?_⟩
    rw [List.length_map]
    refine ite2 (fun n0 => ?_) (fun n0 => ?_)
    · exact ⟨_, rfl, hQ l ws H (Same.refl H) hl (Gd.of hh fun a ha => (hg.ok a ha).mono (Nat.le_succ _))⟩
    have pos : 0 < ws.length := by
      rcases Nat.eq_zero_or_pos ws.length with q | q
      · exact absurd (decide_eq_true (by rw [q] <;> rfl)) n0
      · exact q
    obtain ⟨z, hz⟩ : ∃ z, ws[at_]? = some z := ⟨_, List.getElem?_eq_getElem (atl pos)⟩
    have okz : okS B z := hg.ok z (List.mem_of_getElem? hz)
    refine ⟨_, rfl, _, rfl, _, _, _, _, rfl, rfl, SqL.of hl, (by rw [hat]; exact atI_nat (v := V.str z) (by rw [List.getElem?_map, hz] <;> rfl)), ?_⟩
    obtain ⟨pl, hpl, hpl2⟩ := mod_nat (num / 17) (k := ((z.length : Nat) : Int) + 1) (by omega)
    refine ⟨_, rfl, _, _, rfl, rfl, ⟨by decide, by decide⟩, _, rfl, _, rfl, hsz z (Nat.le_trans okz.1 (by omega)), _, _, rfl, rfl, _, _, rfl, rfl, (by show (0 : Int) < ((z.length : Nat) : Int) + 1; omega), ?_⟩
    refine ⟨_, rfl, _, rfl, _, _, rfl, rfl, ⟨by decide, by decide⟩, _, rfl, _, rfl, Nat.le_trans (by decide +kernel : _ ≤ 1000) (by decide), _, _, rfl, rfl, ?hp, ixS_pick (by decide +kernel) fun c hc => ?_⟩
    case hp =>
      show (0 : Int) < _
      decide +kernel
    let Mid : (Str → Prop) → L2.St → Hp → Prop := fun ok σ' H' => ∃ (v8 : V) (zr : Str) (ai pi : Int), σ' = [some (.ref a), some (.ref l), some (.int kind), some (.int num), some (.int ai), none, some (.str zr), some (.int pi), some v8, some (.str ⟨#[c]⟩)] ∧ ai = (at_ : Int) ∧ pi = (pl : Int) ∧ H = H' ∧ ok zr
    have keq : ∀ n : Int, decide (V.int kind = V.int n) = true → kind = n := fun n h => V.int.inj (of_decide_eq_true h)
    have l1 : ∀ {x : Str}, okS (B + 1) x → x.length ≤ sizeLine := fun {x} h => hsz x (Nat.le_trans h.1 (by omega))
    have l2 : ∀ {n : Nat}, n ≤ 4000 → n ≤ sizeLine := fun {n} h => Nat.le_trans h (by decide)
    refine ⟨Mid (okS B), ?_, ?_⟩
    · refine ⟨_, rfl, rfl, _, rfl, ?_⟩
      refine ite2 (fun q => ?_) (fun q => ?_)
      · obtain ⟨m4, hm4, hm42⟩ := mod_nat (num / 13) (k := 4) (by decide)
        refine ⟨_, rfl, _, rfl, _, _, rfl, rfl, ⟨by decide, by decide⟩, _, _, rfl, rfl, (by show (0 : Int) < 4; decide), _, _, rfl, rfl, _, rfl, _, rfl, l1 (okz.mono (Nat.le_succ _)), _, _, rfl, rfl, _, _, rfl, ?_⟩
        have ub : (if (12 : Int) + num / 13 % 4 - ((z.length : Nat) : Int) > 0 then 12 + num / 13 % 4 - ((z.length : Nat) : Int) else 0) ≤ ((B - z.length : Nat) : Int) := by
          rw [hm4]
          have := okz.1
          split <;> omega
        have lb : 0 ≤ (if (12 : Int) + num / 13 % 4 - ((z.length : Nat) : Int) > 0 then 12 + num / 13 % 4 - ((z.length : Nat) : Int) else 0) := by split <;> omega
        have od := okS_dots ub
        have okz0 : okS z.length z := ⟨Nat.le_refl _, okz.2⟩
        have oa := okS.app okz0 od
        refine ⟨_, _, rfl, rfl, mulOk_small (by decide +kernel) lb (by omega), _, _, rfl, rfl, l2 (Nat.le_trans (Nat.add_le_add okz.1 od.1) (by omega)), ?_⟩
        have := okz.1
        exact ⟨_, _, _, _, rfl, hat, hpl, rfl, oa.mono (by omega)⟩
      · exact ⟨_, z, _, _, rfl, hat, hpl, rfl, okz⟩
    rintro _ _ ⟨v8, z2, _, _, rfl, rfl, rfl, rfl, ok2⟩
    refine ⟨Mid (okS B), ?_, ?_⟩
    · refine ⟨_, rfl, rfl, _, rfl, ?_⟩
      refine ite2 (fun q => ?_) (fun q => ?_)
      · have o1 := okS_pre ok2 pl
        have o2 := okS_post1 ok2 pl
        have oa := okS.app o1 o2
        have := ok2.1
        refine ⟨_, rfl, _, rfl, _, rfl, _, rfl, l1 (ok2.mono (Nat.le_succ _)), _, rfl, _, rfl, _, _, rfl, rfl, _, rfl, _, rfl, l1 (ok2.mono (Nat.le_succ _)), _, _, rfl, rfl, l2 (Nat.le_trans (Nat.add_le_add o1.1 o2.1) (by omega)), ?_⟩
        exact ⟨_, _, _, _, rfl, rfl, rfl, rfl, oa.mono (by omega)⟩
      · exact ⟨_, _, _, _, rfl, rfl, rfl, rfl, ok2⟩
    rintro _ _ ⟨v8, z3, _, _, rfl, rfl, rfl, rfl, ok3⟩
    refine ⟨Mid (fun x => okS (B + 1) x ∧ (4 < kind → okS B x)), ?_, ?_⟩
    · refine ⟨_, rfl, rfl, _, rfl, ?_⟩
      refine ite2 (fun q => ?_) (fun q => ?_)
      · have o1 := okS_pre ok3 pl
        have o2 := okS_post ok3 pl
        have od : okS 1 ("." : Str) := okS_lit (by decide +kernel)
        have o3 := okS.app o1 od
        have oa := okS.app o3 o2
        have := ok3.1
        refine ⟨_, rfl, _, rfl, _, rfl, _, rfl, l1 (ok3.mono (Nat.le_succ _)), _, _, rfl, rfl, l2 (Nat.le_trans (Nat.add_le_add o1.1 od.1) (by omega)), _, rfl, _, rfl, _, rfl, _, rfl, l1 (ok3.mono (Nat.le_succ _)), _, _, rfl, rfl, l2 (Nat.le_trans (Nat.add_le_add o3.1 o2.1) (by omega)), ?_⟩
        refine ⟨_, _, _, _, rfl, rfl, rfl, rfl, oa.mono (by omega), fun h => ?_⟩
        have := keq 4 q
        omega
      · exact ⟨_, _, _, _, rfl, rfl, rfl, rfl, ok3.mono (Nat.le_succ _), fun _ => ok3⟩
    rintro _ _ ⟨v8, z4, _, _, rfl, rfl, rfl, rfl, ok4, ok4b⟩
    refine ⟨Mid (okS (B + 1)), ?_, ?_⟩
    · refine ⟨_, rfl, _, _, rfl, rfl, _, rfl, ?_⟩
      refine ite2 (fun q => ?_) (fun q => ?_)
      · have k4 : 4 < kind := of_decide_eq_true q
        have ok := ok4b k4
        have o1 := okS_pre ok pl
        have o2 := okS_post1 ok pl
        have od : okS 1 ⟨#[c]⟩ := okS_one hc
        have o3 := okS.app o1 od
        have oa := okS.app o3 o2
        have := ok.1
        refine ⟨_, rfl, _, rfl, _, rfl, _, rfl, l1 ok4, _, rfl, _, _, rfl, rfl, l2 (Nat.le_trans (Nat.add_le_add o1.1 od.1) (by omega)), _, rfl, _, rfl, _, _, rfl, rfl, _, rfl, _, rfl, l1 ok4, _, _, rfl, rfl, l2 (Nat.le_trans (Nat.add_le_add o3.1 o2.1) (by omega)), ?_⟩
        exact ⟨_, _, _, _, rfl, rfl, rfl, rfl, oa.mono (by omega)⟩
      · exact ⟨_, _, _, _, rfl, rfl, rfl, rfl, ok4⟩
    rintro _ _ ⟨v8, z5, _, _, rfl, rfl, rfl, rfl, ok5⟩
    have al := atl pos
    refine ⟨_, rfl, _, rfl, _, rfl, l, _, rfl, SqL.of hl, fun p1 hp1 => ?_⟩
    rw [cut_pre]
    have s1 : Same H (upd H p1 (.lst ((ws.take at_).map V.str))) := Same.new hp1
    refine ⟨_, rfl, (by show 1 ≤ sizeLine; decide), fun p2 hp2 => ?_⟩
    have s2 : Same (upd H p1 (.lst ((ws.take at_).map V.str))) (upd (upd H p1 (.lst ((ws.take at_).map V.str))) p2 (.lst [.str z5])) := Same.new hp2
    have h1 : (upd (upd H p1 (.lst ((ws.take at_).map V.str))) p2 (.lst [.str z5])) p1 = some (.lst ((ws.take at_).map V.str)) := s2 _ _ upd_same
    refine ⟨p1, p2, _, _, rfl, rfl, h1, upd_same, ?_, fun p3 hp3 => ?_⟩
    · rw [List.length_map, List.length_take]
      exact Nat.le_trans (by show _ ≤ 1000; have : min at_ ws.length ≤ ws.length := Nat.min_le_right _ _; show min at_ ws.length + 1 ≤ 1000; omega) (by decide)
    have s3 := s1.trans (s2.trans (Same.new (o := .lst ((ws.take at_).map V.str ++ [.str z5])) hp3))
    have hl3 := s3 _ _ hl
    refine ⟨_, rfl, _, rfl, _, _, rfl, rfl, _, rfl, l, _, rfl, SqL.of hl3, fun p4 hp4 => ?_⟩
    rw [cut_post1]
    have s4 : Same (upd (upd (upd H p1 (.lst ((ws.take at_).map V.str))) p2 (.lst [.str z5])) p3 (.lst ((ws.take at_).map V.str ++ [.str z5]))) _ := Same.new (o := .lst ((ws.drop (at_ + 1)).map V.str)) hp4
    have h3 := s4 _ _ upd_same
    refine ⟨p3, p4, _, _, rfl, rfl, h3, upd_same, ?_, fun p5 hp5 => ?_⟩
    · rw [List.length_append, List.length_map, List.length_map, List.length_take, List.length_drop]
      exact Nat.le_trans (by show _ ≤ 1000; have : min at_ ws.length ≤ ws.length := Nat.min_le_right _ _; show min at_ ws.length + 1 + (ws.length - (at_ + 1)) ≤ 1000; omega) (by decide)
    refine hQ p5 (ws.take at_ ++ [z5] ++ ws.drop (at_ + 1)) _ (s3.trans (s4.trans (Same.new hp5))) ?_ (Gd.of ?_ fun x hx => ?_)
    · rw [upd_same, List.map_append, List.map_append] <;> rfl
    · rw [List.length_append, List.length_append, List.length_take, List.length_drop, Nat.min_eq_left (by omega)]
      show at_ + 1 + (ws.length - (at_ + 1)) ≤ 15
      omega
    · rcases List.mem_append.mp hx with q | q
      · rcases List.mem_append.mp q with q | q
        · exact (hg.ok x (List.mem_of_mem_take q)).mono (Nat.le_succ _)
        · have e : x = z5 := by simpa using q
          rw [e]
          exact ok5
      · exact (hg.ok x (List.mem_of_mem_drop q)).mono (Nat.le_succ _)
end
end Sf
namespace Sf
open PySem PySem.Spec PyProof.Rows L2
/-- law's: a list of at most 63 ints is handed in, True comes out -/
def spLaw (K : PySem.W.Frag) (Pt : Addr) : Sp := fun vs H Q _ => ∃ (a : Addr) (ns : List Int), vs = [.ref a] ∧ SqL K H a (ns.map V.int) ∧ ns.length ≤ 63 ∧ GxR.TabG H Pt ∧ ∀ H', Q (.bl true) H'
theorem Wf.gd {ws : List Str} (h : Wf ws) : Gd 15 ws := ⟨Nat.le_trans h.high (by decide), fun a ha => by
  have := h.len a ha
  have := h.wid
  omega, fun a ha c hc => by
  have q := h.sign a ha c hc
  unfold okSign at q
  omega⟩
section
variable {P : Program} {w : World} {K : PySem.W.Frag} {mg : Str → Option Value} {base : Heap}
def nLaw : List Str := ["_law_script", "_law_rows_here", "_law_k", "_law_handed"]
theorem scLaw : FnScope nLaw ["_law_script"] (defScope slaw) := ⟨rfl, rfl, rfl, by decide +kernel, rfl, by decide +kernel, by decide +kernel⟩
theorem ok_law {f fR fN fF fT fD Pt : Addr} {fd fdR fdN fdF fdT fdD : FuncData} (F : Fun K "law" "law" slaw f fd)
    (GR : FnOk P w K mg base CX0 2 fR fdR ["_law_script"] (spRows K)) (gR : mg "_law_rows" = some (.ref fR)) (kR : PySem.W.keepIn K (.ref fR) = true) (bR : Binds K fdR ["_law_script"] [])
    (GN : FnOk P w K mg base CX0 1 fN fdN ["_law_script", "_law_k"] (spCellAt K)) (gN : mg "_law_cell_at" = some (.ref fN)) (kN : PySem.W.keepIn K (.ref fN) = true) (bN : Binds K fdN ["_law_script", "_law_k"] [])
    (GF : FnOk P w K mg base CX0 1 fF fdF ["_law_script", "_law_rows_here", "_law_kind", "_law_number_here"] spFaulty) (gF : mg "_law_faulty" = some (.ref fF)) (kF : PySem.W.keepIn K (.ref fF) = true) (bF : Binds K fdF ["_law_script", "_law_rows_here", "_law_kind", "_law_number_here"] [])
    (GT : FnOk P w K mg base CX0 6 fT fdT ["_law_rows_here"] (spTold K Pt)) (gT : mg "_law_told" = some (.ref fT)) (kT : PySem.W.keepIn K (.ref fT) = true) (bT : Binds K fdT ["_law_rows_here"] [])
    (GD : FnOk P w K mg base CX0 1 fD fdD ["_law_rows_here"] (spDue K)) (gD : mg "_law_due" = some (.ref fD)) (kD : PySem.W.keepIn K (.ref fD) = true) (bD : Binds K fdD ["_law_rows_here"] [])
    (gl : mg "list" = none) (gr : mg "range" = none) :
    FnOk P w K mg base CX0 7 f fd ["_law_script"] (spLaw K Pt) := by
  refine F.ok scLaw (fun vs H Q E h => ?_) (fun cdv A outer s H vs Q E hr h => ?_)
  · obtain ⟨a, ns, rfl, _⟩ := h
    rfl
  · obtain ⟨a, ns, rfl, hS, hl, hT, hQ⟩ := h
    have hr1 : Room 1 _ := hr.mono (by decide)
    have hr2 : Room 2 _ := hr.mono (by decide)
    refine ⟨_, pss_cons (ps_set (i := 1) scLaw.nd rfl (Or.inl rfl) (pe_call GR hr2 rfl gR kR bR .nil pass0 (pa_cons (pv 0) pa_nil)))
      (pss_cons (ps_for PassesOwn.never rfl (pi_range1 rfl gr (pa_cons (pe_op op_mod (pe_call GN hr1 rfl gN kN bN .nil pass0 (pa_cons (pv 0) (pa_cons pe_int pa_nil))) pe_int) pa_nil)) (pg_name (i := 2) scLaw.nd rfl (Or.inl rfl))
        (pss_one (ps_set (i := 1) scLaw.nd rfl (Or.inl rfl) (pe_call GF hr1 rfl gF kF bF .nil pass0 (pa_cons (pv 0) (pa_cons (pv 1) (pa_cons (pe_op op_add pe_int (pe_op op_mod (pe_call GN hr1 rfl gN kN bN .nil pass0 (pa_cons (pv 0) (pa_cons (pe_op op_add pe_int (pe_op op_mul pe_int (pv 2))) pa_nil))) pe_int))
          (pa_cons (pe_call GN hr1 rfl gN kN bN .nil pass0 (pa_cons (pv 0) (pa_cons (pe_op op_add pe_int (pe_op op_mul pe_int (pv 2))) pa_nil))) pa_nil))))))))
      (pss_cons (ps_set (i := 3) scLaw.nd rfl (Or.inl rfl) (pe_callTy call_list_of (by rfl) gl (by decide +kernel) (pa_cons (pv 1) pa_nil)))
      (pss_one (ps_ret (pe_and (pe_cmpR op_eq (pe_call GT hr rfl gT kT bT .nil pass0 (pa_cons (pv 3) pa_nil)) (pe_call GD hr1 rfl gD kD bD .nil pass0 (pa_cons (pv 1) pa_nil)) (nomark _))
        (pe_one (pe_cmpR (op_eqD hr.units) (pv 3) (pv 1) (nomark _)))))))), ?_⟩
    refine ⟨_, rfl, a, ns, rfl, hS, hl, fun l ws H1 hw s1 hl0 hl1 => ?_⟩
    obtain ⟨m, hm, hm2⟩ := mod_nat (cellN ns 2) (k := 4) (by decide)
    refine ⟨_, rfl, a, ns, 2, rfl, s1.seq hS, _, _, rfl, rfl, (by show (0 : Int) < 4; decide), ?_⟩
    refine ⟨((m : Nat) : Int), congrArg (fun z => [V.int z]) hm, by omega, by omega, for_range (n := ((m : Nat) : Int).toNat) (fun i σ H2 => ∃ (v2 : Option V) (l2 : Addr) (ws2 : List Str), σ = [some (.ref a), some (.ref l2), v2, none] ∧ Same H H2 ∧ H2 l2 = some (.lst (ws2.map V.str)) ∧ Gd (15 + i) ws2) ⟨none, l, ws, rfl, s1, hl1, hw.gd⟩ ?_ ?_⟩
    · rintro i σ H2 hi ⟨v2, l2, ws2, rfl, s2, h2, g2⟩
      have i3 : i < 4 := by rw [Int.toNat_natCast] at hi; omega
      have S2 := s2.seq hS
      have e3 : (3 : Int) + 2 * (0 + (i : Int)) = ((3 + 2 * i : Nat) : Int) := by omega
      have e4 : (4 : Int) + 2 * (0 + (i : Int)) = ((4 + 2 * i : Nat) : Int) := by omega
      refine ⟨_, rfl, _, rfl, _, rfl, _, rfl, _, _, rfl, rfl, .inl ⟨by omega, by omega⟩, _, _, rfl, rfl, a, ns, 3 + 2 * i, congrArg (fun z => [V.ref a, V.int z]) e3, S2, _, _, rfl, rfl, (by show (0 : Int) < 6; decide), _, _, rfl, rfl, ?_⟩
      refine ⟨_, rfl, _, rfl, _, _, rfl, rfl, .inl ⟨by omega, by omega⟩, _, _, rfl, rfl, a, ns, 4 + 2 * i, congrArg (fun z => [V.ref a, V.int z]) e4, S2, ?_⟩
      exact ⟨a, l2, ws2, 15 + i, _, _, rfl, h2, g2, by omega, by omega, fun l3 ws3 H3 s3 h3 g3 => ⟨_, l3, ws3, rfl, s2.trans s3, h3, g3⟩⟩
    rintro σ H2 ⟨v2, l2, ws2, rfl, s2, h2, g2⟩
    have hm3 : m < 4 := by omega
    have gB : 15 + ((m : Nat) : Int).toNat ≤ 1000 := by rw [Int.toNat_natCast]; omega
    refine ⟨_, rfl, l2, _, rfl, .inl (SqL.of h2), fun lh hlh => ?_⟩
    have s3 : Same H2 (upd H2 lh (.lst (ws2.map V.str))) := Same.new hlh
    have hlh3 : (upd H2 lh (.lst (ws2.map V.str))) lh = some (.lst (ws2.map V.str)) := upd_same
    generalize upd H2 lh (.lst (ws2.map V.str)) = H3 at s3 hlh3
    have hT3 : GxR.TabG H3 Pt := (Sm.of (s2.trans s3) (P := Pt)).t hT
    refine ⟨_, rfl, lh, ws2, _, rfl, hlh3, g2, gB, hT3, fun H4 S4 => ?_⟩
    have h24 : H4 l2 = some (.lst (ws2.map V.str)) := S4.k _ _ (ne_tbl hT3 (s3 _ _ h2) (fun _ z => by cases z)) (s3 _ _ h2)
    have hh4 : H4 lh = some (.lst (ws2.map V.str)) := S4.k _ _ (ne_tbl hT3 hlh3 (fun _ z => by cases z)) hlh3
    refine ⟨_, rfl, l2, ws2, _, rfl, SqL.of h24, g2, gB, fun H5 s5 => ?_⟩
    refine ⟨rfl, _, rfl, ?_⟩
    refine iteTd rfl ?_
    have sh := shaped_gd g2
    have rf : PyData.eqv (.list (ws2.map PyData.str)) (.list (ws2.map PyData.str)) = true := SeqAt.eqv_refl _ (SeqAt.canLay_of_shaped sh)
    have dp : ∀ b, H5 b = some (.lst (ws2.map V.str)) → Dp K H5 (.ref b) (.list (ws2.map PyData.str)) := fun b e => .lst (SqL.of e) (dp_strs3 ws2)
    refine ⟨_, rfl, _, rfl, _, _, dp _ (s5 _ _ hh4), dp _ (s5 _ _ h24), sh, sh, ?_⟩
    rw [rf]
    exact hQ _
end
end Sf
namespace Sf
open PySem L2
theorem tri0 : TriplesOk (#[] : Array Value).toList := by
  show TriplesOk []
  simp [TriplesOk]
theorem walk {l : PySem.W.OpenLaw} {k : Nat} {q : Program} {loose : List Str} {XP : (Str → Option Value) → Heap → Prop} {YP : World → Heap → Prop} {d : DefRec} {K : Params → PySem.W.Frag}
    (hn : l.most = some 63) (hdf : d.params.defaults = []) (hr : Room k callerA) (hrec : ((PyProof.Rows.recsOf q).any fun e => e.name == ("_refuse_wrong" : Str)) = true) (hY : ∀ (w : World) (h : Heap), YP w h → (K w.params).In h)
    (F : ∀ (w : World) (mg : Str → Option Value) (fa : Addr) (h : Heap), (K w.params).In h → h.Ns mainGlobals mg → mg d.name = some (.ref fa) →
      (∀ (fr c P : Addr) (o : Obj) (fd : FuncData) (e : Value) (dd : Option Addr) (vs : Array Value) (sl : Array (Option Value)), mg "_refuse_wrong" = some (.ref fr) → (K w.params).lookup fr = some o → o.data = .func fd → fd.code = .ref c → (K w.params).lookup c = some ⟨e, dd, .fields vs, sl⟩ → vs[11]? = some (.ref P) → h.get? P = some { cls := .none, data := .fields #[] }) →
      LamX.LawAtS l w (K w.params) CX0 k 63 "_law_script" mg fa h) :
    PySem.W.WalkO q loose XP YP l.row.toRowW d [] (fun f vs => PySem.call f vs) := by
  refine Att.attach_callB hn hdf fun w s₀ s₁ mg mb fa o pm cd doc a vs ns G Y ho hd hcd hmg hobj hints hlen hbits hg => ?_
  have KX := hY w _ Y
  have own : ∀ (fr c P : Addr) (o : Obj) (fd : FuncData) (e : Value) (dd : Option Addr) (vs : Array Value) (sl : Array (Option Value)), mg "_refuse_wrong" = some (.ref fr) → (K w.params).lookup fr = some o → o.data = .func fd → fd.code = .ref c → (K w.params).lookup c = some ⟨e, dd, .fields vs, sl⟩ → vs[11]? = some (.ref P) → s₁.heap.get? P = some { cls := .none, data := .fields #[] } := fun fr c P o1 fd1 e dd vs1 sl k0 k1 k2 k3 k4 k5 => by
    obtain ⟨dL, hm, hn1⟩ := List.any_eq_true.mp hrec
    have hn2 : dL.name = ("_refuse_wrong" : Str) := beq_iff_eq.mp hn1
    obtain ⟨a', o', fd', c', P', h1, h2, h3, h4, h5, h6⟩ := G.T.tab dL hm
    rw [hn2, k0] at h1
    cases h1
    have g1 := KX _ _ k1
    rw [g1] at h2
    cases h2
    rw [k2] at h3
    cases h3
    rw [k3] at h4
    cases h4
    obtain ⟨⟨oc, vc, e1, _, e3, e4⟩, hP⟩ := h6
    have g2 := KX _ _ k4
    rw [g2] at e1
    cases e1
    cases e3
    rw [k5] at e4
    cases e4
    exact hP
  obtain ⟨fd, cs, sp, hT, nT, C, hb, hsp, hF⟩ := F w mg fa _ KX G.T.g hmg own
  exact LamX.law_callTs KX G.T.g G.T.b G.T.builtins G.T.nolimit hg hT nT C G.T.bmain hobj hints (Nat.le_trans hlen (by decide)) hr hF hb (fun H hH hS => hsp H a ns hlen hbits hH hS) fun H e s' z => z.elim
theorem all_mk {l : PySem.W.OpenLaw} {w : World} {K : PySem.W.Frag} {h : Heap} {mg : Str → Option Value} {fa C_Floor f0 f1 f2 f3 f4 f5 f6 f7 f8 f9 f10 f11 f100 t0 t1 t2 t3 t4 c_refuse Pt x_L x_R x_S x_N x_B x_C x_U x_D x_F : Addr} (X : K.In h) (G : h.Ns mainGlobals mg) (hfa : mg "law" = some (.ref fa))
    (tabs : ∀ (fr c P : Addr) (o : Obj) (fd : FuncData) (e : Value) (dd : Option Addr) (vs : Array Value) (sl : Array (Option Value)), mg "_refuse_wrong" = some (.ref fr) → K.lookup fr = some o → o.data = .func fd → fd.code = .ref c → K.lookup c = some ⟨e, dd, .fields vs, sl⟩ → vs[11]? = some (.ref P) → h.get? P = some { cls := .none, data := .fields #[] })
    {od0 an0 od1 an1 od2 an2 od3 an3 od4 an4 od5 an5 od6 an6 od7 an7 od8 an8 od9 an9 od10 an10 od11 an11 od100 an100 ot0 ot1 ot2 ot3 ot4 dcr : Option Addr} {sl0 sl1 sl2 sl3 sl4 sl5 sl6 sl7 sl8 sl9 sl10 sl11 sl100 st0 st1 st2 st3 st4 scr : Array (Option Value)} {oc0 kV0 dc0 pm0 ct0 oc1 kV1 dc1 pm1 ct1 cd1 oc2 kV2 dc2 pm2 ct2 cd2 oc3 kV3 dc3 pm3 ct3 cd3 oc4 kV4 dc4 pm4 ct4 cd4 oc5 kV5 dc5 pm5 ct5 cd5 oc6 kV6 dc6 pm6 ct6 cd6 oc7 kV7 dc7 pm7 ct7 cd7 oc8 kV8 dc8 pm8 ct8 cd8 oc9 kV9 dc9 pm9 ct9 cd9 oc10 kV10 dc10 pm10 ct10 cd10 oc11 kV11 dc11 pm11 ct11 cd11 oc100 kV100 dc100 pm100 ct100 cd100 ecr : Value} {vcr : Array Value} {nt0 nt1 nt2 nt3 nt4 : Nat} {ua1 ub1 uc1 ua2 ub2 uc2 ua3 ub3 uc3 ua4 ub4 uc4 u_MOST u_PILLAR u_SIGNS : Tok} 
    (aC_Floor : PySem.W.nsIn K mainGlobals "Floor" = some (some (.ref C_Floor)))
    (a0 : PySem.W.nsIn K mainGlobals "_refuse_wrong" = some (some (.ref f0)))
    (l0 : K.lookup f0 = some ⟨oc0, od0, .func (PySem.W.fnOf "_refuse_wrong" "_refuse_wrong" (defArgs s_refuse_wrong) (defBody s_refuse_wrong) (defScope s_refuse_wrong) .none kV0 dc0 pm0 an0 (.ref c_refuse) ct0), sl0⟩)
    (c0 : PySem.W.codeIn K (.ref c_refuse) "_refuse_wrong" = true)
    (k0 : PySem.W.keepIn K (.ref f0) = true)
    (a1 : PySem.W.nsIn K mainGlobals "_sign_at" = some (some (.ref f1)))
    (l1 : K.lookup f1 = some ⟨oc1, od1, .func (PySem.W.fnOf "_sign_at" "_sign_at" (defArgs s_sign_at) (defBody s_sign_at) (defScope s_sign_at) .none kV1 dc1 pm1 an1 cd1 ct1), sl1⟩)
    (c1 : PySem.W.codeIn K cd1 "_sign_at" = true)
    (k1 : PySem.W.keepIn K (.ref f1) = true)
    (a2 : PySem.W.nsIn K mainGlobals "_neighbours" = some (some (.ref f2)))
    (l2 : K.lookup f2 = some ⟨oc2, od2, .func (PySem.W.fnOf "_neighbours" "_neighbours" (defArgs s_neighbours) (defBody s_neighbours) (defScope s_neighbours) .none kV2 dc2 pm2 an2 cd2 ct2), sl2⟩)
    (c2 : PySem.W.codeIn K cd2 "_neighbours" = true)
    (k2 : PySem.W.keepIn K (.ref f2) = true)
    (a3 : PySem.W.nsIn K mainGlobals "_neighbours_of_cells" = some (some (.ref f3)))
    (l3 : K.lookup f3 = some ⟨oc3, od3, .func (PySem.W.fnOf "_neighbours_of_cells" "_neighbours_of_cells" (defArgs s_neighbours_of_cells) (defBody s_neighbours_of_cells) (defScope s_neighbours_of_cells) .none kV3 dc3 pm3 an3 cd3 ct3), sl3⟩)
    (c3 : PySem.W.codeIn K cd3 "_neighbours_of_cells" = true)
    (k3 : PySem.W.keepIn K (.ref f3) = true)
    (a4 : PySem.W.nsIn K mainGlobals "_law_cell_at" = some (some (.ref f4)))
    (l4 : K.lookup f4 = some ⟨oc4, od4, .func (PySem.W.fnOf "_law_cell_at" "_law_cell_at" (defArgs s_law_cell_at) (defBody s_law_cell_at) (defScope s_law_cell_at) .none kV4 dc4 pm4 an4 cd4 ct4), sl4⟩)
    (c4 : PySem.W.codeIn K cd4 "_law_cell_at" = true)
    (k4 : PySem.W.keepIn K (.ref f4) = true)
    (a5 : PySem.W.nsIn K mainGlobals "_law_number" = some (some (.ref f5)))
    (l5 : K.lookup f5 = some ⟨oc5, od5, .func (PySem.W.fnOf "_law_number" "_law_number" (defArgs s_law_number) (defBody s_law_number) (defScope s_law_number) .none kV5 dc5 pm5 an5 cd5 ct5), sl5⟩)
    (c5 : PySem.W.codeIn K cd5 "_law_number" = true)
    (k5 : PySem.W.keepIn K (.ref f5) = true)
    (a6 : PySem.W.nsIn K mainGlobals "_law_rows" = some (some (.ref f6)))
    (l6 : K.lookup f6 = some ⟨oc6, od6, .func (PySem.W.fnOf "_law_rows" "_law_rows" (defArgs s_law_rows) (defBody s_law_rows) (defScope s_law_rows) .none kV6 dc6 pm6 an6 cd6 ct6), sl6⟩)
    (c6 : PySem.W.codeIn K cd6 "_law_rows" = true)
    (k6 : PySem.W.keepIn K (.ref f6) = true)
    (a7 : PySem.W.nsIn K mainGlobals "_law_faulty" = some (some (.ref f7)))
    (l7 : K.lookup f7 = some ⟨oc7, od7, .func (PySem.W.fnOf "_law_faulty" "_law_faulty" (defArgs s_law_faulty) (defBody s_law_faulty) (defScope s_law_faulty) .none kV7 dc7 pm7 an7 cd7 ct7), sl7⟩)
    (c7 : PySem.W.codeIn K cd7 "_law_faulty" = true)
    (k7 : PySem.W.keepIn K (.ref f7) = true)
    (a8 : PySem.W.nsIn K mainGlobals "_law_due" = some (some (.ref f8)))
    (l8 : K.lookup f8 = some ⟨oc8, od8, .func (PySem.W.fnOf "_law_due" "_law_due" (defArgs s_law_due) (defBody s_law_due) (defScope s_law_due) .none kV8 dc8 pm8 an8 cd8 ct8), sl8⟩)
    (c8 : PySem.W.codeIn K cd8 "_law_due" = true)
    (k8 : PySem.W.keepIn K (.ref f8) = true)
    (a9 : PySem.W.nsIn K mainGlobals "_law_one_class" = some (some (.ref f9)))
    (l9 : K.lookup f9 = some ⟨oc9, od9, .func (PySem.W.fnOf "_law_one_class" "_law_one_class" (defArgs s_law_one_class) (defBody s_law_one_class) (defScope s_law_one_class) .none kV9 dc9 pm9 an9 cd9 ct9), sl9⟩)
    (c9 : PySem.W.codeIn K cd9 "_law_one_class" = true)
    (k9 : PySem.W.keepIn K (.ref f9) = true)
    (a10 : PySem.W.nsIn K mainGlobals "_law_told" = some (some (.ref f10)))
    (l10 : K.lookup f10 = some ⟨oc10, od10, .func (PySem.W.fnOf "_law_told" "_law_told" (defArgs s_law_told) (defBody s_law_told) (defScope s_law_told) .none kV10 dc10 pm10 an10 cd10 ct10), sl10⟩)
    (c10 : PySem.W.codeIn K cd10 "_law_told" = true)
    (k10 : PySem.W.keepIn K (.ref f10) = true)
    (a11 : PySem.W.nsIn K mainGlobals "law" = some (some (.ref f11)))
    (l11 : K.lookup f11 = some ⟨oc11, od11, .func (PySem.W.fnOf "law" "law" (defArgs slaw) (defBody slaw) (defScope slaw) .none kV11 dc11 pm11 an11 cd11 ct11), sl11⟩)
    (c11 : PySem.W.codeIn K cd11 "law" = true)
    (k11 : PySem.W.keepIn K (.ref f11) = true)
    (a100 : PySem.W.findIn K (.ref C_Floor) "__init__" = some (some (.ref f100)))
    (i100 : PySem.W.isFn K (.ref f100) = true)
    (l100 : K.lookup f100 = some ⟨oc100, od100, .func (PySem.W.fnOf "__init__" "Floor.__init__" (defArgs sFloor___init__) (defBody sFloor___init__) (defScope sFloor___init__) .none kV100 dc100 pm100 an100 cd100 ct100), sl100⟩)
    (c100 : PySem.W.codeIn K cd100 "Floor.__init__" = true)
    (k100 : PySem.W.keepIn K (.ref f100) = true)
    (pg_Floor : PySem.W.plainGet K C_Floor Str.empty = true)
    (hd_Floor : PySem.W.hasDictIn K C_Floor = true)
    (po_Floor : PySem.W.plainOver K C_Floor = true)
    (sa_Floor : PySem.W.findIn K (.ref C_Floor) "__setattr__" = some (some (.builtin "object.__setattr__")))
    (mk_Floor : PySem.W.makesIn K C_Floor = true)
    (kc_Floor : PySem.W.keepIn K (.ref C_Floor) = true)
    (n_Floor_rows : PySem.W.findIn K (.ref C_Floor) "rows" = some none)
    (n_Floor_high : PySem.W.findIn K (.ref C_Floor) "high" = some none)
    (n_Floor_wide : PySem.W.findIn K (.ref C_Floor) "wide" = some none)
    (n_Floor_neighbours : PySem.W.findIn K (.ref C_Floor) "_neighbours" = some none)
    (n_Floor_signs : PySem.W.findIn K (.ref C_Floor) "_signs" = some none)
    (z_len : PySem.W.nsIn K mainGlobals "len" = some none)
    (z_any : PySem.W.nsIn K mainGlobals "any" = some none)
    (z_range : PySem.W.nsIn K mainGlobals "range" = some none)
    (z_list : PySem.W.nsIn K mainGlobals "list" = some none)
    (z_tuple : PySem.W.nsIn K mainGlobals "tuple" = some none)
    (z_max : PySem.W.nsIn K mainGlobals "max" = some none)
    (z_isinstance : PySem.W.nsIn K mainGlobals "isinstance" = some none)
    (z_ValueError : PySem.W.nsIn K mainGlobals "ValueError" = some none)
    (q_MOST : PySem.W.nsIn K mainGlobals "MOST" = some (some (.int 12 u_MOST)))
    (q_PILLAR : PySem.W.nsIn K mainGlobals "PILLAR" = some (some (.str "#" u_PILLAR)))
    (q_SIGNS : PySem.W.nsIn K mainGlobals "SIGNS" = some (some (.str ".-|#" u_SIGNS)))
    (q_STEPS : PySem.W.nsIn K mainGlobals "STEPS" = some (some (.ref t0)))
    (lt0 : K.lookup t0 = some ⟨.type "tuple", ot0, .seq #[.ref t1, .ref t2, .ref t3, .ref t4] nt0, st0⟩)
    (lt1 : K.lookup t1 = some ⟨.type "tuple", ot1, .seq #[.int (-1) ua1, .int (0) ub1, .str ".|" uc1] nt1, st1⟩)
    (lt2 : K.lookup t2 = some ⟨.type "tuple", ot2, .seq #[.int (0) ua2, .int (-1) ub2, .str ".-" uc2] nt2, st2⟩)
    (lt3 : K.lookup t3 = some ⟨.type "tuple", ot3, .seq #[.int (0) ua3, .int (1) ub3, .str ".-" uc3] nt3, st3⟩)
    (lt4 : K.lookup t4 = some ⟨.type "tuple", ot4, .seq #[.int (1) ua4, .int (0) ub4, .str ".|" uc4] nt4, st4⟩)
    (lcr : K.lookup c_refuse = some ⟨ecr, dcr, .fields vcr, scr⟩)
    (v11 : vcr[11]? = some (.ref Pt))
    (nPt : K.lookup Pt = none)
    (hdc : PySem.W.codeHdIn K c_refuse Pt = true)
    (ax_L : PySem.W.nsIn K mainGlobals "TooLarge" = some (some (.ref x_L)))
    (ax_R : PySem.W.nsIn K mainGlobals "Ragged" = some (some (.ref x_R)))
    (ax_S : PySem.W.nsIn K mainGlobals "StrangeSign" = some (some (.ref x_S)))
    (ax_N : PySem.W.nsIn K mainGlobals "NoCell" = some (some (.ref x_N)))
    (ax_B : PySem.W.nsIn K mainGlobals "NotBeside" = some (some (.ref x_B)))
    (ax_C : PySem.W.nsIn K mainGlobals "Covered" = some (some (.ref x_C)))
    (ax_U : PySem.W.nsIn K mainGlobals "Uncovered" = some (some (.ref x_U)))
    (ax_D : PySem.W.nsIn K mainGlobals "NoDrawing" = some (some (.ref x_D)))
    (ax_F : PySem.W.nsIn K mainGlobals "FloorError" = some (some (.ref x_F)))
    (xi_L : PySem.W.excIn K x_L [.type "ValueError", .type "Exception", .type "BaseException", .type "object"] "ValueError.__new__" = true)
    (xk_L : PySem.W.keepIn K (.ref x_L) = true)
    (xs_L : PySem.W.subIn K (.ref x_L) (.type "BaseException") = some true)
    (xt_L : PySem.W.typeIn K (.ref x_L) = some (.type "type"))
    (xq_L : PySem.W.subIn K (.ref x_L) (.ref x_L) = some true)
    (xh_L : PySem.W.hasDictIn K x_L = true)
    (xg_L : PySem.W.findIn K (.ref x_L) "__getattribute__" = some (some (.builtin "BaseException.__getattribute__")))
    (xa_L : PySem.W.findIn K (.ref x_L) "__getattr__" = some none)
    (xc_L : PySem.W.findIn K (.ref x_L) "__class__" = some (some (.builtin "object.__class__")))
    (xm_L : PySem.W.mroIn K x_L (.type "object") = some true)
    (k_L_L : PySem.W.kitOne K (.ref x_L) (.ref x_L) = some true)
    (k_L_R : PySem.W.kitOne K (.ref x_L) (.ref x_R) = some false)
    (k_L_S : PySem.W.kitOne K (.ref x_L) (.ref x_S) = some false)
    (k_L_N : PySem.W.kitOne K (.ref x_L) (.ref x_N) = some false)
    (k_L_B : PySem.W.kitOne K (.ref x_L) (.ref x_B) = some false)
    (k_L_C : PySem.W.kitOne K (.ref x_L) (.ref x_C) = some false)
    (k_L_U : PySem.W.kitOne K (.ref x_L) (.ref x_U) = some false)
    (k_L_D : PySem.W.kitOne K (.ref x_L) (.ref x_D) = some false)
    (k_L_F : PySem.W.kitOne K (.ref x_L) (.ref x_F) = some true)
    (k_L_V : PySem.W.subIn K (.ref x_L) (.type "ValueError") = some true)
    (xi_R : PySem.W.excIn K x_R [.type "ValueError", .type "Exception", .type "BaseException", .type "object"] "ValueError.__new__" = true)
    (xk_R : PySem.W.keepIn K (.ref x_R) = true)
    (xs_R : PySem.W.subIn K (.ref x_R) (.type "BaseException") = some true)
    (xt_R : PySem.W.typeIn K (.ref x_R) = some (.type "type"))
    (xq_R : PySem.W.subIn K (.ref x_R) (.ref x_R) = some true)
    (xh_R : PySem.W.hasDictIn K x_R = true)
    (xg_R : PySem.W.findIn K (.ref x_R) "__getattribute__" = some (some (.builtin "BaseException.__getattribute__")))
    (xa_R : PySem.W.findIn K (.ref x_R) "__getattr__" = some none)
    (xc_R : PySem.W.findIn K (.ref x_R) "__class__" = some (some (.builtin "object.__class__")))
    (xm_R : PySem.W.mroIn K x_R (.type "object") = some true)
    (k_R_L : PySem.W.kitOne K (.ref x_R) (.ref x_L) = some false)
    (k_R_R : PySem.W.kitOne K (.ref x_R) (.ref x_R) = some true)
    (k_R_S : PySem.W.kitOne K (.ref x_R) (.ref x_S) = some false)
    (k_R_N : PySem.W.kitOne K (.ref x_R) (.ref x_N) = some false)
    (k_R_B : PySem.W.kitOne K (.ref x_R) (.ref x_B) = some false)
    (k_R_C : PySem.W.kitOne K (.ref x_R) (.ref x_C) = some false)
    (k_R_U : PySem.W.kitOne K (.ref x_R) (.ref x_U) = some false)
    (k_R_D : PySem.W.kitOne K (.ref x_R) (.ref x_D) = some false)
    (k_R_F : PySem.W.kitOne K (.ref x_R) (.ref x_F) = some true)
    (k_R_V : PySem.W.subIn K (.ref x_R) (.type "ValueError") = some true)
    (xi_S : PySem.W.excIn K x_S [.type "ValueError", .type "Exception", .type "BaseException", .type "object"] "ValueError.__new__" = true)
    (xk_S : PySem.W.keepIn K (.ref x_S) = true)
    (xs_S : PySem.W.subIn K (.ref x_S) (.type "BaseException") = some true)
    (xt_S : PySem.W.typeIn K (.ref x_S) = some (.type "type"))
    (xq_S : PySem.W.subIn K (.ref x_S) (.ref x_S) = some true)
    (xh_S : PySem.W.hasDictIn K x_S = true)
    (xg_S : PySem.W.findIn K (.ref x_S) "__getattribute__" = some (some (.builtin "BaseException.__getattribute__")))
    (xa_S : PySem.W.findIn K (.ref x_S) "__getattr__" = some none)
    (xc_S : PySem.W.findIn K (.ref x_S) "__class__" = some (some (.builtin "object.__class__")))
    (xm_S : PySem.W.mroIn K x_S (.type "object") = some true)
    (k_S_L : PySem.W.kitOne K (.ref x_S) (.ref x_L) = some false)
    (k_S_R : PySem.W.kitOne K (.ref x_S) (.ref x_R) = some false)
    (k_S_S : PySem.W.kitOne K (.ref x_S) (.ref x_S) = some true)
    (k_S_N : PySem.W.kitOne K (.ref x_S) (.ref x_N) = some false)
    (k_S_B : PySem.W.kitOne K (.ref x_S) (.ref x_B) = some false)
    (k_S_C : PySem.W.kitOne K (.ref x_S) (.ref x_C) = some false)
    (k_S_U : PySem.W.kitOne K (.ref x_S) (.ref x_U) = some false)
    (k_S_D : PySem.W.kitOne K (.ref x_S) (.ref x_D) = some false)
    (k_S_F : PySem.W.kitOne K (.ref x_S) (.ref x_F) = some true)
    (k_S_V : PySem.W.subIn K (.ref x_S) (.type "ValueError") = some true)
    (xn : PySem.W.specialIn K (.builtin "object.__class__") "__get__" = some (some (.builtin "getset_descriptor.__get__")))
    (xo : PySem.W.takesIn K (.builtin "object.__class__") = some true)
    (u_RL : PySem.W.subIn K (.ref x_R) (.ref x_L) = some false)
    (u_SL : PySem.W.subIn K (.ref x_S) (.ref x_L) = some false)
    (u_SR : PySem.W.subIn K (.ref x_S) (.ref x_R) = some false)
    (u_SF : PySem.W.subIn K (.ref x_S) (.ref x_F) = some true)
    (xs_F : PySem.W.subIn K (.ref x_F) (.type "BaseException") = some true)
    (xt_F : PySem.W.typeIn K (.ref x_F) = some (.type "type"))
    (xh_F : PySem.W.hasDictIn K x_F = true) :
    LamX.LawAtS l w K CX0 7 63 "_law_script" mg fa h := by
  have e := hfa.symm.trans (PySem.W.mg_of X G a11)
  cases e
  have F0 : FunC K "_refuse_wrong" "_refuse_wrong" s_refuse_wrong f0 _ c_refuse := ⟨⟨_, _, _, _, _, _, _, _, rfl, l0, c0⟩, k0⟩
  have b0 := (fun_mk (st := s_refuse_wrong) l0 c0 k0).binds (ps := ["rows"]) fun _ _ _ _ _ _ us hl => match us, hl with | [_], _ => rfl
  have g0 : mg "_refuse_wrong" = some (.ref f0) := PySem.W.mg_of X G a0
  have F1 := fun_mk (st := s_sign_at) l1 c1 k1
  have b1 := F1.binds (ps := ["rows", "row", "column"]) fun _ _ _ _ _ _ us hl => match us, hl with | [_, _, _], _ => rfl
  have g1 : mg "_sign_at" = some (.ref f1) := PySem.W.mg_of X G a1
  have F2 := fun_mk (st := s_neighbours) l2 c2 k2
  have b2 := F2.binds (ps := ["rows", "row", "column"]) fun _ _ _ _ _ _ us hl => match us, hl with | [_, _, _], _ => rfl
  have g2 : mg "_neighbours" = some (.ref f2) := PySem.W.mg_of X G a2
  have F3 := fun_mk (st := s_neighbours_of_cells) l3 c3 k3
  have b3 := F3.binds (ps := ["rows", "wide"]) fun _ _ _ _ _ _ us hl => match us, hl with | [_, _], _ => rfl
  have g3 : mg "_neighbours_of_cells" = some (.ref f3) := PySem.W.mg_of X G a3
  have F4 := fun_mk (st := s_law_cell_at) l4 c4 k4
  have b4 := F4.binds (ps := ["_law_script", "_law_k"]) fun _ _ _ _ _ _ us hl => match us, hl with | [_, _], _ => rfl
  have g4 : mg "_law_cell_at" = some (.ref f4) := PySem.W.mg_of X G a4
  have F5 := fun_mk (st := s_law_number) l5 c5 k5
  have b5 := F5.binds (ps := ["_law_script", "_law_k"]) fun _ _ _ _ _ _ us hl => match us, hl with | [_, _], _ => rfl
  have g5 : mg "_law_number" = some (.ref f5) := PySem.W.mg_of X G a5
  have F6 := fun_mk (st := s_law_rows) l6 c6 k6
  have b6 := F6.binds (ps := ["_law_script"]) fun _ _ _ _ _ _ us hl => match us, hl with | [_], _ => rfl
  have g6 : mg "_law_rows" = some (.ref f6) := PySem.W.mg_of X G a6
  have F7 := fun_mk (st := s_law_faulty) l7 c7 k7
  have b7 := F7.binds (ps := ["_law_script", "_law_rows_here", "_law_kind", "_law_number_here"]) fun _ _ _ _ _ _ us hl => match us, hl with | [_, _, _, _], _ => rfl
  have g7 : mg "_law_faulty" = some (.ref f7) := PySem.W.mg_of X G a7
  have F8 := fun_mk (st := s_law_due) l8 c8 k8
  have b8 := F8.binds (ps := ["_law_rows_here"]) fun _ _ _ _ _ _ us hl => match us, hl with | [_], _ => rfl
  have g8 : mg "_law_due" = some (.ref f8) := PySem.W.mg_of X G a8
  have F9 := fun_mk (st := s_law_one_class) l9 c9 k9
  have b9 := F9.binds (ps := ["_law_e"]) fun _ _ _ _ _ _ us hl => match us, hl with | [_], _ => rfl
  have g9 : mg "_law_one_class" = some (.ref f9) := PySem.W.mg_of X G a9
  have F10 := fun_mk (st := s_law_told) l10 c10 k10
  have b10 := F10.binds (ps := ["_law_rows_here"]) fun _ _ _ _ _ _ us hl => match us, hl with | [_], _ => rfl
  have g10 : mg "_law_told" = some (.ref f10) := PySem.W.mg_of X G a10
  have F11 := fun_mk (st := slaw) l11 c11 k11
  have F100 := fun_mk (st := sFloor___init__) l100 c100 k100
  have b100 := F100.binds (ps := ["self", "rows"]) fun _ _ _ _ _ _ us hl => match us, hl with | [_, _], _ => rfl
  have M100 : Meth K C_Floor "__init__" f100 := ⟨a100, i100, k100⟩
  have zlen : mg "len" = none := PySem.W.mg_none_of X G z_len
  have zany : mg "any" = none := PySem.W.mg_none_of X G z_any
  have zrange : mg "range" = none := PySem.W.mg_none_of X G z_range
  have zlist : mg "list" = none := PySem.W.mg_none_of X G z_list
  have ztuple : mg "tuple" = none := PySem.W.mg_none_of X G z_tuple
  have zmax : mg "max" = none := PySem.W.mg_none_of X G z_max
  have zisinstance : mg "isinstance" = none := PySem.W.mg_none_of X G z_isinstance
  have zValueError : mg "ValueError" = none := PySem.W.mg_none_of X G z_ValueError
  have mMOST : mg "MOST" = some (.int 12 u_MOST) := PySem.W.mg_of X G q_MOST
  have mPILLAR : mg "PILLAR" = some (.str "#" u_PILLAR) := PySem.W.mg_of X G q_PILLAR
  have mSIGNS : mg "SIGNS" = some (.str ".-|#" u_SIGNS) := PySem.W.mg_of X G q_SIGNS
  have mSTEPS : mg "STEPS" = some (.ref t0) := PySem.W.mg_of X G q_STEPS
  have hsz : ∀ n : Nat, n ≤ 4 → n ≤ sizeLine := fun n h => Nat.le_trans h (by decide)
  have TS : StepsAt K t0 := by
    refine ⟨[t1, t2, t3, t4], rfl, fun H => .inr ⟨_, _, _, lt0, rfl, rfl, hsz 4 (by decide), .cons rfl (.cons rfl (.cons rfl (.cons rfl .nil)))⟩, fun i t p ht hp H => ?_⟩
    match i, ht, hp with
    | 0, ht, hp =>
      cases ht
      cases hp
      exact .inr ⟨_, _, _, lt1, rfl, rfl, hsz 3 (by decide), .cons ⟨_, rfl⟩ (.cons ⟨_, rfl⟩ (.cons ⟨_, rfl⟩ .nil))⟩
    | 1, ht, hp =>
      cases ht
      cases hp
      exact .inr ⟨_, _, _, lt2, rfl, rfl, hsz 3 (by decide), .cons ⟨_, rfl⟩ (.cons ⟨_, rfl⟩ (.cons ⟨_, rfl⟩ .nil))⟩
    | 2, ht, hp =>
      cases ht
      cases hp
      exact .inr ⟨_, _, _, lt3, rfl, rfl, hsz 3 (by decide), .cons ⟨_, rfl⟩ (.cons ⟨_, rfl⟩ (.cons ⟨_, rfl⟩ .nil))⟩
    | 3, ht, hp =>
      cases ht
      cases hp
      exact .inr ⟨_, _, _, lt4, rfl, rfl, hsz 3 (by decide), .cons ⟨_, rfl⟩ (.cons ⟨_, rfl⟩ (.cons ⟨_, rfl⟩ .nil))⟩
    | i + 4, ht, hp => simp at ht
  refine ⟨PySem.W.fnOf "law" "law" (defArgs slaw) (defBody slaw) (defScope slaw) .none kV11 dc11 pm11 an11 cd11 ct11, [(c_refuse, Pt)], spLaw K Pt, fun p hp => ?_, fun p hp => ?_, fun p hp => ?_, fun s v => .of_eq rfl, fun H a ns hl _ hT hS => ⟨a, ns, rfl, hS, hl, ⟨#[], hT _ List.mem_cons_self, tri0⟩, fun _ => rfl⟩, fun base _ _ TBs => ?_⟩
  · rw [List.mem_singleton.mp hp]
    exact tabs f0 c_refuse Pt _ _ _ _ _ _ g0 l0 rfl rfl lcr v11
  · rw [List.mem_singleton.mp hp]
    exact nPt
  · rw [List.mem_singleton.mp hp]
    exact PySem.W.codeHd_of_K X hdc
  · have TB : GxR.TabB base mg c_refuse Pt := by
      have q := TBs (c_refuse, Pt) List.mem_cons_self
      exact ⟨q.code, q.bm, q.gP⟩
    have T : FTxt K mg C_Floor := ⟨⟨pg_Floor, hd_Floor, po_Floor, sa_Floor⟩, n_Floor_rows, n_Floor_high, n_Floor_wide, n_Floor_neighbours, n_Floor_signs, PySem.W.mg_of X G aC_Floor⟩
    have MkF : Mk K C_Floor f100 := ⟨mk_Floor, a100, i100, kc_Floor⟩
    have TE : ETxt K mg ⟨x_L, x_R, x_S, x_N, x_B, x_C, x_U, x_D, x_F⟩ := ⟨PySem.W.mg_of X G ax_L, PySem.W.mg_of X G ax_R, PySem.W.mg_of X G ax_S, PySem.W.mg_of X G ax_N, PySem.W.mg_of X G ax_B, PySem.W.mg_of X G ax_C, PySem.W.mg_of X G ax_U, PySem.W.mg_of X G ax_D, PySem.W.mg_of X G ax_F⟩
    have O_L : OneC K ⟨x_L, x_R, x_S, x_N, x_B, x_C, x_U, x_D, x_F⟩ x_L := ⟨⟨xg_L, xa_L, xs_L, xh_L, xc_L, xn, xo, xm_L⟩, true, false, false, false, false, false, false, false, k_L_L, k_L_R, k_L_S, k_L_N, k_L_B, k_L_C, k_L_U, k_L_D, rfl, k_L_F, kit_VE k_L_V⟩
    have xm_is_L : PySem.W.exmOne K (.ref x_L) (.ref x_L) = some true := PySem.W.exm_ref xs_L xh_L xt_L xq_L
    have O_R : OneC K ⟨x_L, x_R, x_S, x_N, x_B, x_C, x_U, x_D, x_F⟩ x_R := ⟨⟨xg_R, xa_R, xs_R, xh_R, xc_R, xn, xo, xm_R⟩, false, true, false, false, false, false, false, false, k_R_L, k_R_R, k_R_S, k_R_N, k_R_B, k_R_C, k_R_U, k_R_D, rfl, k_R_F, kit_VE k_R_V⟩
    have xm_is_R : PySem.W.exmOne K (.ref x_R) (.ref x_R) = some true := PySem.W.exm_ref xs_R xh_R xt_R xq_R
    have O_S : OneC K ⟨x_L, x_R, x_S, x_N, x_B, x_C, x_U, x_D, x_F⟩ x_S := ⟨⟨xg_S, xa_S, xs_S, xh_S, xc_S, xn, xo, xm_S⟩, false, false, true, false, false, false, false, false, k_S_L, k_S_R, k_S_S, k_S_N, k_S_B, k_S_C, k_S_U, k_S_D, rfl, k_S_F, kit_VE k_S_V⟩
    have xm_is_S : PySem.W.exmOne K (.ref x_S) (.ref x_S) = some true := PySem.W.exm_ref xs_S xh_S xt_S xq_S
    have RL : Rz K mg "TooLarge" x_L := ⟨TE.gL, xi_L, xk_L, xs_L, xt_L⟩
    have RR : Rz K mg "Ragged" x_R := ⟨TE.gR, xi_R, xk_R, xs_R, xt_R⟩
    have RS : Rz K mg "StrangeSign" x_S := ⟨TE.gS, xi_S, xk_S, xs_S, xt_S⟩
    have CT : Cat K ⟨x_L, x_R, x_S, x_N, x_B, x_C, x_U, x_D, x_F⟩ := ⟨xm_is_L, PySem.W.exm_ref xs_L xh_L xt_L u_RL, xm_is_R, PySem.W.exm_ref xs_L xh_L xt_L u_SL, PySem.W.exm_ref xs_R xh_R xt_R u_SR, PySem.W.exm_ref xs_F xh_F xt_F u_SF, k_S_S, O_L, O_R, O_S⟩
    have G_ref := ok_refuseX (P := l.prog) (w := w) F0 TB RL RR RS zlen zany mMOST mSIGNS
    have G_sig := ok_signAt (P := l.prog) (w := w) (base := base) F1 zlen mPILLAR
    have G_nbs := ok_nbs F2 G_sig g1 k1 b1 zlen mSTEPS TS
    have G_tab := ok_table F3 G_nbs g2 k2 b2 zlen zrange mPILLAR
    have G_ini := ok_initX F100 T G_ref g0 k0 b0 G_tab g3 k3 b3 zlen zlist ztuple
    have G_cat := ok_cell (P := l.prog) (w := w) (base := base) F4 zlen
    have G_num := ok_number (P := l.prog) (w := w) (base := base) F5 zlen
    have G_row := ok_rows F6 G_cat g4 k4 b4 G_num g5 k5 b5 zlen zrange
    have G_fau := ok_faulty (P := l.prog) (w := w) (base := base) F7 zlen zmax
    have G_due := ok_due (P := l.prog) (w := w) (base := base) F8 zlen
    have G_one := ok_one (P := l.prog) (w := w) (base := base) F9 TE zisinstance zValueError
    have G_tol := ok_told (c := ⟨x_L, x_R, x_S, x_N, x_B, x_C, x_U, x_D, x_F⟩) F10 T MkF TE CT G_ini b100 G_one g9 k9 b9 zisinstance
    exact ok_law F11 G_row g6 k6 b6 G_cat g4 k4 b4 G_fau g7 k7 b7 G_tol g10 k10 b10 G_due g8 k8 b8 zlist zrange
end Sf
open PySem PySem.W PyProof.Rows
set_option maxRecDepth 100000 in
set_option maxHeartbeats 0 in
theorem PySem.Challenge.cw_slabfloor_k03_rows_refused_holds : PySem.Challenge.rw_slabfloor_k03_rows_refused.Holds := by
  w_on; o_law; k_head; (case hw => w_witness2)
  k_fill
  refine Sf.walk (l := PySem.Challenge.rw_slabfloor_k03_rows_refused) (k := 7) rfl rfl ⟨rfl, by decide, by decide⟩ ?R (fun w h Y => PySem.W.kIn_of Y) ?F
  case R => kernel_rfl
  case F =>
    intro w mg fa h KX G hmg tabs
    refine' Sf.all_mk KX G hmg tabs ?aC_Floor ?a0 ?l0 ?c0 ?k0 ?a1 ?l1 ?c1 ?k1 ?a2 ?l2 ?c2 ?k2 ?a3 ?l3 ?c3 ?k3 ?a4 ?l4 ?c4 ?k4 ?a5 ?l5 ?c5 ?k5 ?a6 ?l6 ?c6 ?k6 ?a7 ?l7 ?c7 ?k7 ?a8 ?l8 ?c8 ?k8 ?a9 ?l9 ?c9 ?k9 ?a10 ?l10 ?c10 ?k10 ?a11 ?l11 ?c11 ?k11 ?a100 ?i100 ?l100 ?c100 ?k100 ?pg_Floor ?hd_Floor ?po_Floor ?sa_Floor ?mk_Floor ?kc_Floor ?n_Floor_rows ?n_Floor_high ?n_Floor_wide ?n_Floor_neighbours ?n_Floor_signs ?z_len ?z_any ?z_range ?z_list ?z_tuple ?z_max ?z_isinstance ?z_ValueError ?q_MOST ?q_PILLAR ?q_SIGNS ?q_STEPS ?lt0 ?lt1 ?lt2 ?lt3 ?lt4 ?lcr ?v11 ?nPt ?hdc ?ax_L ?ax_R ?ax_S ?ax_N ?ax_B ?ax_C ?ax_U ?ax_D ?ax_F ?xi_L ?xk_L ?xs_L ?xt_L ?xq_L ?xh_L ?xg_L ?xa_L ?xc_L ?xm_L ?k_L_L ?k_L_R ?k_L_S ?k_L_N ?k_L_B ?k_L_C ?k_L_U ?k_L_D ?k_L_F ?k_L_V ?xi_R ?xk_R ?xs_R ?xt_R ?xq_R ?xh_R ?xg_R ?xa_R ?xc_R ?xm_R ?k_R_L ?k_R_R ?k_R_S ?k_R_N ?k_R_B ?k_R_C ?k_R_U ?k_R_D ?k_R_F ?k_R_V ?xi_S ?xk_S ?xs_S ?xt_S ?xq_S ?xh_S ?xg_S ?xa_S ?xc_S ?xm_S ?k_S_L ?k_S_R ?k_S_S ?k_S_N ?k_S_B ?k_S_C ?k_S_U ?k_S_D ?k_S_F ?k_S_V ?xn ?xo ?u_RL ?u_SL ?u_SR ?u_SF ?xs_F ?xt_F ?xh_F
    (case aC_Floor => k_is)
    (case a0 => k_is)
    (case l0 => k_is)
    (case c0 => k_is)
    (case k0 => k_is)
    (case a1 => k_is)
    (case l1 => k_is)
    (case c1 => k_is)
    (case k1 => k_is)
    (case a2 => k_is)
    (case l2 => k_is)
    (case c2 => k_is)
    (case k2 => k_is)
    (case a3 => k_is)
    (case l3 => k_is)
    (case c3 => k_is)
    (case k3 => k_is)
    (case a4 => k_is)
    (case l4 => k_is)
    (case c4 => k_is)
    (case k4 => k_is)
    (case a5 => k_is)
    (case l5 => k_is)
    (case c5 => k_is)
    (case k5 => k_is)
    (case a6 => k_is)
    (case l6 => k_is)
    (case c6 => k_is)
    (case k6 => k_is)
    (case a7 => k_is)
    (case l7 => k_is)
    (case c7 => k_is)
    (case k7 => k_is)
    (case a8 => k_is)
    (case l8 => k_is)
    (case c8 => k_is)
    (case k8 => k_is)
    (case a9 => k_is)
    (case l9 => k_is)
    (case c9 => k_is)
    (case k9 => k_is)
    (case a10 => k_is)
    (case l10 => k_is)
    (case c10 => k_is)
    (case k10 => k_is)
    (case a11 => k_is)
    (case l11 => k_is)
    (case c11 => k_is)
    (case k11 => k_is)
    (case a100 => k_is)
    (case i100 => k_is)
    (case l100 => k_is)
    (case c100 => k_is)
    (case k100 => k_is)
    (case pg_Floor => k_is)
    (case hd_Floor => k_is)
    (case po_Floor => k_is)
    (case sa_Floor => k_is)
    (case mk_Floor => k_is)
    (case kc_Floor => k_is)
    (case n_Floor_rows => k_is)
    (case n_Floor_high => k_is)
    (case n_Floor_wide => k_is)
    (case n_Floor_neighbours => k_is)
    (case n_Floor_signs => k_is)
    (case z_len => k_is)
    (case z_any => k_is)
    (case z_range => k_is)
    (case z_list => k_is)
    (case z_tuple => k_is)
    (case z_max => k_is)
    (case z_isinstance => k_is)
    (case z_ValueError => k_is)
    (case q_MOST => k_is)
    (case q_PILLAR => k_is)
    (case q_SIGNS => k_is)
    (case q_STEPS => k_is)
    (case lt0 => k_is)
    (case lt1 => k_is)
    (case lt2 => k_is)
    (case lt3 => k_is)
    (case lt4 => k_is)
    (case lcr => k_is)
    (case v11 => rfl)
    (case nPt => first | kernel_rfl | with_unfolding_all rfl)
    (case hdc => first | kernel_rfl | with_unfolding_all rfl)
    (case ax_L => k_is)
    (case ax_R => k_is)
    (case ax_S => k_is)
    (case ax_N => k_is)
    (case ax_B => k_is)
    (case ax_C => k_is)
    (case ax_U => k_is)
    (case ax_D => k_is)
    (case ax_F => k_is)
    (case xi_L => k_exc)
    (case xk_L => k_is)
    (case xs_L => k_is)
    (case xt_L => k_is)
    (case xq_L => first | rfl | k_is)
    (case xh_L => k_is)
    (case xg_L => k_is)
    (case xa_L => k_is)
    (case xc_L => k_is)
    (case xm_L => k_is)
    (case k_L_L => first | k_is | rfl)
    (case k_L_R => first | k_is | rfl)
    (case k_L_S => first | k_is | rfl)
    (case k_L_N => first | k_is | rfl)
    (case k_L_B => first | k_is | rfl)
    (case k_L_C => first | k_is | rfl)
    (case k_L_U => first | k_is | rfl)
    (case k_L_D => first | k_is | rfl)
    (case k_L_F => first | k_is | rfl)
    (case k_L_V => k_is)
    (case xi_R => k_exc)
    (case xk_R => k_is)
    (case xs_R => k_is)
    (case xt_R => k_is)
    (case xq_R => first | rfl | k_is)
    (case xh_R => k_is)
    (case xg_R => k_is)
    (case xa_R => k_is)
    (case xc_R => k_is)
    (case xm_R => k_is)
    (case k_R_L => first | k_is | rfl)
    (case k_R_R => first | k_is | rfl)
    (case k_R_S => first | k_is | rfl)
    (case k_R_N => first | k_is | rfl)
    (case k_R_B => first | k_is | rfl)
    (case k_R_C => first | k_is | rfl)
    (case k_R_U => first | k_is | rfl)
    (case k_R_D => first | k_is | rfl)
    (case k_R_F => first | k_is | rfl)
    (case k_R_V => k_is)
    (case xi_S => k_exc)
    (case xk_S => k_is)
    (case xs_S => k_is)
    (case xt_S => k_is)
    (case xq_S => first | rfl | k_is)
    (case xh_S => k_is)
    (case xg_S => k_is)
    (case xa_S => k_is)
    (case xc_S => k_is)
    (case xm_S => k_is)
    (case k_S_L => first | k_is | rfl)
    (case k_S_R => first | k_is | rfl)
    (case k_S_S => first | k_is | rfl)
    (case k_S_N => first | k_is | rfl)
    (case k_S_B => first | k_is | rfl)
    (case k_S_C => first | k_is | rfl)
    (case k_S_U => first | k_is | rfl)
    (case k_S_D => first | k_is | rfl)
    (case k_S_F => first | k_is | rfl)
    (case k_S_V => k_is)
    (case xn => k_is)
    (case xo => k_is)
    (case u_RL => first | k_is | rfl)
    (case u_SL => first | k_is | rfl)
    (case u_SR => first | k_is | rfl)
    (case u_SF => first | k_is | rfl)
    (case xs_F => k_is)
    (case xt_F => k_is)
    (case xh_F => k_is)
#print axioms PySem.Challenge.cw_slabfloor_k03_rows_refused_holds
