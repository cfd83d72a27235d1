import PyProof.Rows.All
import Wide.All
import OpenK.AllK
import Wide.FinOn
import HandS.ForMost
import HandS.Exc
import HandS.ExcOwn
import HandS.Conv
import HandS.IsInst
import HandS.Style
import HandS.Defaults
import PyProof.EqAt
import PyProof.EqKinds
import PyProof.TupleCall
import PyProof.JoinWalk
import KE.KNest
import HandS.AnyAll
import HandS.JoinGen
import HandS.GenOver
import PyProof.StrLawsIn
import PySem.Challenge.RW_slabfloor_k05_drawn_and_read
import HandS.Codes
import HandS.More
import HandS.WordsExc
import HandS.WordsDict
import HandS.SortInts
import HandS.SortOrd
import HandS.Call
import PyProof.InstEq
import HandS.HotCalls
import HandS.DictComp
import HandS.TryOnly
import HandS.ExcIs
import HandS.SetFor
import HandS.Sort
import HandS.Rev
import HandS.RevTup
import PyProof.ListNew
import HandS.Text
import HandS.EndOwn
set_option Elab.async false
set_option linter.all false
set_option maxRecDepth 100000
set_option maxHeartbeats 2000000
/-! A generator expression of two clauses (for x in ..: for y in x), walked by any. -/
namespace Gx2
open PySem PySem.Spec PyProof.Rows L2
open Sem (wp)

theorem eval_gen2 (elt target iter : Expr) (g2 : Comprehension) (scope : Scope) (pos : Pos) (env : Env) (hco : scope.isCoroutine = false) :
    eval (.GeneratorExp elt [⟨target, iter, [], 0⟩, g2] scope pos) env = (do
      let x ← eval iter env
      standAt iter.pos
      let x ← genFold iter env x
      let it ← holding [x] (pyIter x)
      enterFrame
      let cl ← closureFor scope env
      let code ← genexprCode env pos (env.qual ++ "<genexpr>") scope
      let bi ← builtinsFor env.globals env.builtins
      let cenv ← newFunctionEnv scope env.globals cl [(".0", it)] (env.qual ++ "<genexpr>.") none code none bi
      newGenerator (.compStart (.GeneratorExp elt [⟨target, iter, [], 0⟩, g2] scope pos) 0 it .none cenv) "<genexpr>" (env.qual ++ "<genexpr>")) := by
  rw [arm_eval_GeneratorExp]
  simp only [hco, Bool.false_eq_true, if_false]
  cases iter <;> rfl

theorem turn0 (elt t1 iter t2 : Expr) (y : Str) (py : Pos) (scope : Scope) (pos : Pos) (it acc : Value) (env : Env) :
    compTurn (.GeneratorExp elt [⟨t1, iter, [], 0⟩, ⟨t2, .Name y py, [], 0⟩] scope pos) 0 it acc env = (do
      standAt iter.pos
      match ← pyNext it with
      | none => pure (.done .next)
      | some v =>
        letOwnedTupleGo t1 it v
        assign t1 env v
        let x ← eval (.Name y py) env
        standAt py
        let J ← holding [x] (pyIter x)
        let _ ← runOwn (.compStart (.GeneratorExp elt [⟨t1, iter, [], 0⟩, ⟨t2, .Name y py, [], 0⟩] scope pos) 1 J acc env) env
        again (.compLoop (.GeneratorExp elt [⟨t1, iter, [], 0⟩, ⟨t2, .Name y py, [], 0⟩] scope pos) 0 it acc env)) := by
  rfl
theorem turn1 (elt t1 iter t2 iter2 : Expr) (scope : Scope) (pos : Pos) (it acc : Value) (env : Env) :
    compTurn (.GeneratorExp elt [⟨t1, iter, [], 0⟩, ⟨t2, iter2, [], 0⟩] scope pos) 1 it acc env = (do
      standAt iter2.pos
      match ← pyNext it with
      | none => pure (.done .next)
      | some v =>
        letOwnedTupleGo t2 it v
        assign t2 env v
        (do let v ← eval elt env; standAt elt.pos; let _ ← yieldOut env v)
        again (.compLoop (.GeneratorExp elt [⟨t1, iter, [], 0⟩, ⟨t2, iter2, [], 0⟩] scope pos) 1 it acc env)) := by
  rfl

/-- the generator's run since s₀: below B all but its frame and the iterator's own cells is kept -/
def Since (B : Nat) (C : Addr) (wr : List Addr) (s₀ s : Shared) : Prop :=
  ∃ h' tk, s = { s₀ with heap := h', toks := tk } ∧ ∀ b o, b < B → b ≠ C → b ∉ wr → s₀.heap.get? b = some o → h'.get? b = some o
theorem Since.refl (B : Nat) (C : Addr) (wr : List Addr) (s : Shared) : Since B C wr s s := ⟨s.heap, s.toks, rfl, fun _ _ _ _ _ e => e⟩
theorem Since.step {B : Nat} {C : Addr} {wr : List Addr} {s₀ s : Shared} (x : Since B C wr s₀ s) {h' : Heap} {tk : Nat} (hk : ∀ b o, b < B → b ≠ C → b ∉ wr → s.heap.get? b = some o → h'.get? b = some o) :
    Since B C wr s₀ { s with heap := h', toks := tk } := by
  obtain ⟨h₁, tk₁, rfl, hk₁⟩ := x
  exact ⟨h', tk, rfl, fun b o hB hC hw e => hk b o hB hC hw (hk₁ b o hB hC hw e)⟩
/-- what was there at the generator's making -/
def Kept (B : Nat) (C : Addr) (wr : List Addr) (href h : Heap) : Prop := ∀ b o, b < B → b ≠ C → b ∉ wr → href.get? b = some o → h.get? b = some o
theorem Kept.step {B : Nat} {C : Addr} {wr : List Addr} {href h h' : Heap} (x : Kept B C wr href h) (k : ∀ b o, b < B → b ≠ C → b ∉ wr → h.get? b = some o → h'.get? b = some o) : Kept B C wr href h' :=
  fun b o hB hC hw e => k b o hB hC hw (x b o hB hC hw e)
def proto (B : Nat) (C : Addr) (wr : List Addr) (N : Nat) (F : Nat → Value → Prop) : Protocol := fun m s₀ v s kap =>
  F (N - 1 - m) v ∧ Since B C wr s₀ s ∧ ∀ s'' : Shared, (∀ b o, s.heap.get? b = some o → s''.heap.get? b = some o) → kap (.send .none) s''
abbrev gend (B : Nat) (C : Addr) (wr : List Addr) : GenEnd := fun n s₀ r s₁ => r = .ok .next ∧ (n = 0 ∧ Since B C wr s₀ s₁)

abbrev gx (elt iter : Expr) (x y : Str) (px py qy : Pos) (scope : Scope) (pos : Pos) : Expr := .GeneratorExp elt [⟨.Name x px, iter, [], 0⟩, ⟨.Name y py, .Name x qy, [], 0⟩] scope pos
theorem lt_of_none {h : Heap} {J b : Addr} {o : Obj} (e : h.get? b = some o) (hj : h.objs.size ≤ J) : b ≠ J := fun z => by
  rw [z] at e
  exact absurd (Nat.lt_of_lt_of_le (Heap.lt_size e) hj) (Nat.lt_irrefl _)

section
variable {prog : Program} {w : World} {A : Around} {elt iter : Expr} {x y : Str} {px py qy : Pos} {scope : Scope} {pos : Pos} {cenv : Env} {B N : Nat} {wr fp : List Addr} {F : Nat → Value → Prop} {St₀ : Nat → Heap → Prop} {href : Heap} {pb : Nat → Bool}

theorem seg_inner {a : Str} {J : Addr} {St₁ : Nat → Heap → Prop} {i r : Nat} {kk : Result → Sem PySem.Fin} {c : Code} {p : Pos} {l : List Value} {ret_g : Bool}
    (hh : A.handled = none) (hg : ret_g = false) (hfr : ∀ (i : Nat) (h h' : Heap), St₀ i h → (∀ b ∈ fp, ∀ o, h.get? b = some o → h'.get? b = some o) → St₀ i h')
    (hfp : ∀ b ∈ fp, b < B) (hC : cenv.locals ∉ fp) (hCB : cenv.locals < B) (hwr : ∀ b ∈ wr, b < B) (hJ : B ≤ J)
    (W₁ : ∀ A' : Around, A'.handled = none → Walks prog w A' J [J] [J] a.cps.size (SignAt a) St₁)
    (hy : cenv.kindOf y = some .local) (hp : (cenv.scope.kind == .class || (cenv.scope.kind == .module && cenv.locals != cenv.globals)) = false) (hco : cenv.scope.isCoroutine = false)
    (hel : ∀ (A' : Around) (E' : Value → Shared → Prop) (c : Nat) (u : Tok) (s₂ : Shared) (m₂ : Str → Option Value), A'.handled = none → s₂.heap.Ns cenv.locals m₂ → m₂ y = some (.str ⟨#[c]⟩ u) → Kept B cenv.locals wr href s₂.heap →
      wpAny (model prog w) A' (eval elt cenv) (fun v s₃ => v = .bool (pb c) ∧ Keeps s₂ s₃) E' s₂)
    (hidx : ∀ j c, a.cps[j]? = some c → F (N - 1 - ((a.cps.size - (j + 1)) + r)) (.bool (pb c)))
    (hcont : ∀ (s₀ s : Shared) (m : Str → Option Value), St₀ i s.heap → s.heap.Ns cenv.locals m → Since B cenv.locals wr s₀ s → Kept B cenv.locals wr href s.heap →
      Seg (model prog w) A (gend B cenv.locals wr) (proto B cenv.locals wr N F) r s₀ c (kk (.ok .next)) [] s) :
    ∀ (k j : Nat) (s₀ s : Shared) (m : Str → Option Value), a.cps.size - j = k → j ≤ a.cps.size → St₁ j s.heap → St₀ i s.heap → s.heap.Ns cenv.locals m → Since B cenv.locals wr s₀ s → Kept B cenv.locals wr href s.heap →
      Seg (model prog w) A (gend B cenv.locals wr) (proto B cenv.locals wr N F) (k + r) s₀ (.compLoop (gx elt iter x y px py qy scope pos) 1 (.ref J) .none cenv)
        ((model prog w).den (.compLoop (gx elt iter x y px py qy scope pos) 1 (.ref J) .none cenv)) [.ret kk none ret_g l c p []] s := by
  have hh' : (A.over (.compLoop (gx elt iter x y px py qy scope pos) 1 (.ref J) .none cenv) [.ret kk none ret_g l c p []]).handled = none := hh
  have nJ : ∀ b, b < B → b ∉ [J] := fun b hb hm => by
    rw [List.mem_singleton.mp hm] at hb
    exact absurd (Nat.lt_of_lt_of_le hb hJ) (Nat.lt_irrefl _)
  have nCJ : cenv.locals ∉ [J] := nJ _ hCB
  intro k
  induction k with
  | zero =>
    intro j s₀ s m hk hj hst₁ hst hn hsince hkp
    have hjn : j = a.cps.size := by omega
    subst hjn
    show Seg _ A _ _ _ s₀ _ ((compTurn (gx elt iter x y px py qy scope pos) 1 (.ref J) .none cenv).onRaise (fun e => do noteFrame e cenv; theTreesLotGoes e)) _ s
    rw [turn1, Sem.onRaise_eq_wrap]
    refine seg_bind_wrap (wpAny_standAt ?_)
    refine seg_bind_wrap ((W₁ _ hh').done s _ _ hst₁ fun h' tk hk' => ?_)
    have k1 : ∀ b o, b < B → s.heap.get? b = some o → h'.get? b = some o := fun b o hb e => hk' b o (nJ b hb) e
    refine seg_leaf (.ok .next) ?_
    rw [Nat.zero_add]
    exact hcont s₀ _ m (hfr _ _ _ hst fun b hb o e => k1 b o (hfp b hb) e) (hn.at' fun o e => k1 _ o hCB e) (hsince.step fun b o hb _ _ e => k1 b o hb e) (hkp.step fun b o hb _ _ e => k1 b o hb e)
  | succ k ih =>
    intro j s₀ s m hk hj hst₁ hst hn hsince hkp
    have hlt : j < a.cps.size := by omega
    show Seg _ A _ _ _ s₀ _ ((compTurn (gx elt iter x y px py qy scope pos) 1 (.ref J) .none cenv).onRaise (fun e => do noteFrame e cenv; theTreesLotGoes e)) _ s
    rw [turn1, Sem.onRaise_eq_wrap]
    refine seg_bind_wrap (wpAny_standAt ?_)
    refine seg_bind_wrap ((W₁ _ hh').item j s _ _ hlt hst₁ fun v h₁ tk₁ hPv hst₁' hk₁ => ?_)
    obtain ⟨cc, u, hcc, rfl⟩ := hPv
    have k1 : ∀ b o, b < B → s.heap.get? b = some o → h₁.get? b = some o := fun b o hb e => hk₁ b o (nJ b hb) e
    refine seg_bind_wrap (wpAny_of_eq (rfl : letOwnedTupleGo (.Name y py) (.ref J) _ = pure ()) ?_)
    refine seg_bind_wrap (wpAny_assign_Name (wpAny_storeName_local hy (hn.at' fun o e => k1 _ o hCB e) (fun h₂ hn₂ hs₂ => ?_) hp))
    have k2 : ∀ b o, b < B → b ≠ cenv.locals → s.heap.get? b = some o → h₂.get? b = some o := fun b o hb hbC e => hs₂.extBut b o hbC (k1 b o hb e)
    have hst₁₂ : St₁ (j + 1) h₂ := (W₁ A hh).frame _ _ _ hst₁' fun b hb o e => hs₂.extBut b o (fun z => nCJ (z ▸ hb)) e
    have hst₂ : St₀ i h₂ := hfr _ _ _ hst fun b hb o e => k2 b o (hfp b hb) (fun z => hC (z ▸ hb)) e
    have hkp₂ : Kept B cenv.locals wr href h₂ := hkp.step fun b o hb hbC _ e => k2 b o hb hbC e
    have hy' : ∀ v, yieldOut cenv v = yieldValue v := fun v => by simp only [yieldOut, hco, Bool.false_eq_true, if_false]
    simp only [hy']
    rw [Sem.bind_eq_wrap', Sem.bind_eq_wrap', Sem.wrap_wrap, Sem.wrap_wrap]
    refine seg_wrap (wpAny_mono (hel _ _ cc u _ _ hh' hn₂ (by simp) hkp₂) (fun yv s₄ h₄ => ?_) fun _ _ e => e)
    obtain ⟨rfl, h₄', tk₄, rfl, hk₄⟩ := h₄
    have ek : k = a.cps.size - (j + 1) := by omega
    rw [Nat.succ_add]
    have hF : F (N - 1 - (k + r)) (.bool (pb cc)) := by
      rw [ek]
      exact hidx j cc hcc
    have hfg : ([Frame.ret kk none ret_g l c p []].any Frame.guarded) = false := by
      subst hg
      rfl
    refine seg_at (seg_yield rfl rfl hfg ⟨hF, hsince.step fun b o hb hbC _ e => hk₄ b o (k2 b o hb hbC e), fun s'' hal => ?_⟩)
    have k5 : ∀ b o, h₂.get? b = some o → s''.heap.get? b = some o := fun b o e => hal b o (hk₄ b o e)
    refine seg_again rfl (ih (j + 1) s'' s'' _ ek.symm hlt ((W₁ A hh).frame _ _ _ hst₁₂ fun b _ o e => k5 b o e) (hfr _ _ _ hst₂ fun b _ o e => k5 b o e) (hn₂.at' fun o e => k5 _ o e) (Since.refl _ _ _ _) (hkp₂.step fun b o _ _ _ e => k5 b o e))

/-- the signs of all rows -/
abbrev flat (ws : List Str) : List Nat := ws.flatMap (fun a => a.cps.toList)
theorem flat_at {ws : List Str} {i j c : Nat} {a : Str} (ha : ws[i]? = some a) (hc : a.cps[j]? = some c) :
    (flat ws)[(flat ws).length - 1 - ((a.cps.size - (j + 1)) + (flat (ws.drop (i + 1))).length)]? = some c := by
  obtain ⟨hi, e⟩ := List.getElem?_eq_some_iff.mp ha
  obtain ⟨hj, e2⟩ := Array.getElem?_eq_some_iff.mp hc
  have d : ws = ws.take i ++ a :: ws.drop (i + 1) := by
    rw [← e, List.getElem_cons_drop, List.take_append_drop]
  have f : flat ws = flat (ws.take i) ++ (a.cps.toList ++ flat (ws.drop (i + 1))) := by
    show ws.flatMap _ = _
    rw [d]
    simp only [List.flatMap_append, List.flatMap_cons]
    rw [← d]
  have la : a.cps.toList.length = a.cps.size := by simp
  rw [f, List.length_append, List.length_append, la]
  have n1 : (flat (ws.take i)).length + (a.cps.size + (flat (ws.drop (i + 1))).length) - 1 - (a.cps.size - (j + 1) + (flat (ws.drop (i + 1))).length) = (flat (ws.take i)).length + j := by omega
  rw [n1, List.getElem?_append_right (by omega), Nat.add_sub_cancel_left, List.getElem?_append_left (by omega), Array.getElem?_toList]
  exact hc
theorem flat_drop {ws : List Str} {i : Nat} {a : Str} (ha : ws[i]? = some a) : (flat (ws.drop i)).length = a.cps.size + (flat (ws.drop (i + 1))).length := by
  obtain ⟨hi, e⟩ := List.getElem?_eq_some_iff.mp ha
  rw [List.drop_eq_getElem_cons hi, e]
  show ((a :: ws.drop (i + 1)).flatMap _).length = _
  rw [List.flatMap_cons, List.length_append]
  simp
theorem seg_outer {ws : List Str} {I : Addr} {P : Nat → Value → Prop} {a₀ : Addr}
    (hh : A.handled = none) (hB : B = a₀ + 1) (ha₀ : ∃ o, href.get? a₀ = some o) (hal : a₀ ≠ cenv.locals) (haw : a₀ ∉ wr)
    (hfp : ∀ b ∈ fp, b < B) (hC : cenv.locals ∉ fp) (hCB : cenv.locals < B)
    (W₀ : ∀ A' : Around, A'.handled = none → Walks prog w A' I fp wr ws.length P St₀) (hP : ∀ i v, P i v → ∃ a t, ws[i]? = some a ∧ v = .str a t)
    (hx : cenv.kindOf x = some .local) (hy : cenv.kindOf y = some .local) (hkf : cenv.scope.kind = .function) (hp : (cenv.scope.kind == .class || (cenv.scope.kind == .module && cenv.locals != cenv.globals)) = false) (hco : cenv.scope.isCoroutine = false)
    (hel : ∀ (A' : Around) (E' : Value → Shared → Prop) (c : Nat) (u : Tok) (s₂ : Shared) (m₂ : Str → Option Value), A'.handled = none → s₂.heap.Ns cenv.locals m₂ → m₂ y = some (.str ⟨#[c]⟩ u) → Kept B cenv.locals wr href s₂.heap →
      wpAny (model prog w) A' (eval elt cenv) (fun v s₃ => v = .bool (pb c) ∧ Keeps s₂ s₃) E' s₂)
    (hdx : (x == ("__debug__" : Str)) = false) :
    ∀ (k i : Nat) (s₀ s : Shared) (m : Str → Option Value), ws.length - i = k → i ≤ ws.length → St₀ i s.heap → s.heap.Ns cenv.locals m → Since B cenv.locals wr s₀ s → Kept B cenv.locals wr href s.heap →
      Seg (model prog w) A (gend B cenv.locals wr) (proto B cenv.locals wr (flat ws).length (fun n v => ∃ c, (flat ws)[n]? = some c ∧ v = .bool (pb c))) (flat (ws.drop i)).length s₀ (.compLoop (gx elt iter x y px py qy scope pos) 0 (.ref I) .none cenv)
        ((model prog w).den (.compLoop (gx elt iter x y px py qy scope pos) 0 (.ref I) .none cenv)) [] s := by
  have hh' : (A.over (.compLoop (gx elt iter x y px py qy scope pos) 0 (.ref I) .none cenv) []).handled = none := hh
  have hsub : ∀ b ∈ wr, b ∈ fp := fun b hb => (W₀ A hh).sub b hb
  have hwr : ∀ b ∈ wr, b < B := fun b hb => hfp b (hsub b hb)
  have hCw : cenv.locals ∉ wr := fun h => hC (hsub _ h)
  intro k
  induction k with
  | zero =>
    intro i s₀ s m hk hi hst hn hsince hkp
    have hin : i = ws.length := by omega
    subst hin
    show Seg _ A _ _ _ s₀ _ ((compTurn (gx elt iter x y px py qy scope pos) 0 (.ref I) .none cenv).onRaise (leaving cenv)) _ s
    rw [turn0, Sem.onRaise_eq_wrap]
    refine seg_bind_wrap (wpAny_standAt ?_)
    refine seg_bind_wrap ((W₀ _ hh').done s _ _ hst fun h' tk hk' => ?_)
    exact seg_end (.ok .next) ⟨rfl, by rw [List.drop_of_length_le (Nat.le_refl _)]; rfl, hsince.step fun b o _ _ hw e => hk' b o hw e⟩
  | succ k ih =>
    intro i s₀ s m hk hi hst hn hsince hkp
    have hlt : i < ws.length := by omega
    show Seg _ A _ _ _ s₀ _ ((compTurn (gx elt iter x y px py qy scope pos) 0 (.ref I) .none cenv).onRaise (leaving cenv)) _ s
    rw [turn0, Sem.onRaise_eq_wrap]
    refine seg_bind_wrap (wpAny_standAt ?_)
    refine seg_bind_wrap ((W₀ _ hh').item i s _ _ hlt hst fun v h₁ tk₁ hPv hst₁ hk₁ => ?_)
    obtain ⟨a, t, ha, rfl⟩ := hP i v hPv
    refine seg_bind_wrap (wpAny_of_eq (rfl : letOwnedTupleGo (.Name x px) (.ref I) _ = pure ()) ?_)
    refine seg_bind_wrap (wpAny_assign_Name (wpAny_storeName_local hx (hn.at' fun o e => hk₁ _ o hCw e) (fun h₂ hn₂ hs₂ => ?_) hp))
    have up₂ : ∀ b o, b ≠ cenv.locals → b ∉ wr → s.heap.get? b = some o → h₂.get? b = some o := fun b o hbC hbw e => hs₂.extBut b o hbC (hk₁ b o hbw e)
    have hst₂ : St₀ (i + 1) h₂ := (W₀ A hh).frame _ _ _ hst₁ fun b hb o e => hs₂.extBut b o (fun h => hC (h ▸ hb)) e
    have hkp₂ : Kept B cenv.locals wr href h₂ := hkp.step fun b o _ hbC hbw e => up₂ b o hbC hbw e
    have hsince₂ : Since B cenv.locals wr s₀ { s with heap := h₂, toks := tk₁ } := hsince.step fun b o _ hbC hbw e => up₂ b o hbC hbw e
    have hJ : B ≤ h₂.objs.size := by
      obtain ⟨oa, ea⟩ := ha₀
      have e1 := hkp₂ a₀ oa (by rw [hB]; exact Nat.lt_succ_self _) hal haw ea
      rw [hB]
      exact Heap.lt_size e1
    refine seg_bind_wrap (wpAny_Name (wpAny_loadName_local hkf hx hn₂ (v := .str a t) (by simp) ?_) hdx)
    refine seg_bind_wrap (wpAny_standAt ?_)
    refine seg_bind_wrap (wpAny_holding (wpAny_pyIter_str fun o St₁ W₁ hst₁₁ => ?_))
    have kp3 : ∀ b u, h₂.get? b = some u → (h₂.push o).get? b = some u := fun b u e => Heap.get?_push_of_some _ e
    refine seg_call (h := none) fun p => ?_
    have hh2 : (A.over (.compStart (gx elt iter x y px py qy scope pos) 1 (.ref h₂.objs.size) .none cenv) [.ret (fun _ => Sem.pure (.done .next)) none false [] (.compLoop (gx elt iter x y px py qy scope pos) 0 (.ref I) .none cenv) p []]).handled = none := hh
    have loop := fun (kk : Result → Sem PySem.Fin) (l : List Value) (tk : Nat) hcont => seg_inner (prog := prog) (w := w) (A := A) (elt := elt) (iter := iter) (x := x) (px := px) (py := py) (qy := qy) (scope := scope) (pos := pos) (i := i + 1) (r := (flat (ws.drop (i + 1))).length) (kk := kk) (c := .compLoop (gx elt iter x y px py qy scope pos) 0 (.ref I) .none cenv) (p := p) (l := l) (ret_g := false) (N := (flat ws).length) (F := fun n v => ∃ c, (flat ws)[n]? = some c ∧ v = .bool (pb c))
      hh rfl (fun i h h' st k => (W₀ A hh).frame i h h' st k) hfp hC hCB hwr hJ W₁ hy hp hco hel (fun j c hc => ⟨c, flat_at ha hc, rfl⟩) hcont a.cps.size 0 s₀ { s with heap := h₂.push o, toks := tk } _ (Nat.sub_zero _) (Nat.zero_le _) hst₁₁ ((W₀ A hh).frame _ _ _ hst₂ fun b _ o e => kp3 b o e) (hn₂.at' fun o e => kp3 _ o e) (hsince₂.step fun b o _ _ _ e => kp3 b o e) (hkp₂.step fun b o _ _ _ e => kp3 b o e)
    rw [flat_drop ha]
    show Seg _ A _ _ _ s₀ _ ((compStart (gx elt iter x y px py qy scope pos) 1 (.ref h₂.objs.size) .none cenv).onRaise (fun e => do noteFrame e cenv; standAt theWindowsPlace)) _ _
    unfold compStart
    rw [Sem.onRaise_eq_wrap]
    show Seg _ A _ _ _ s₀ _ ((ask >>= _).wrap _ _ _ _) _ _
    refine seg_bind_wrap (wpAny_askSetting ?_)
    split
    · refine seg_again rfl (loop _ _ _ fun s₀' s' m' a1 a2 a3 a4 => ?_)
      exact seg_again rfl (ih (i + 1) s₀' s' m' (by omega) hlt a1 a2 a3 a4)
    · refine seg_bind_wrap (wpAny_rule ?_)
      show Seg _ A _ _ _ s₀ _ ((standAt qy >>= _).wrap _ _ _ _) _ _
      refine seg_bind_wrap (wpAny_standAt ?_)
      refine seg_bind_wrap ((W₁ _ hh2).self 0 _ _ _ hst₁₁ ?_)
      refine seg_again rfl (loop _ _ _ fun s₀' s' m' a1 a2 a3 a4 => ?_)
      exact seg_again rfl (ih (i + 1) s₀' s' m' (by omega) hlt a1 a2 a3 a4)
end
end Gx2
namespace Gx2
open PySem PySem.Spec PyProof.Rows L2
open Sem (wp)
structure MovedK (B : Nat) (wr : List Addr) (G : Array GenState → Array GenState → Prop) (s s' : Shared) : Prop where
  heap : ∀ b o, b < B → b ∉ wr → s.heap.get? b = some o → s'.heap.get? b = some o
  gens : G s.gens s'.gens
  drawn : s'.drawn = s.drawn
  os : s'.os = s.os
theorem MovedK.trans {B : Nat} {wr : List Addr} {G : Array GenState → Array GenState → Prop} {s s' s'' : Shared} (hg : ∀ a b c, G a b → G b c → G a c) (x : MovedK B wr G s s') (y : MovedK B wr G s' s'') : MovedK B wr G s s'' :=
  ⟨fun b o hB hb e => y.heap b o hB hb (x.heap b o hB hb e), hg _ _ _ x.gens y.gens, y.drawn.trans x.drawn, y.os.trans x.os⟩
structure WalksK (prog : Program) (w : World) (A : Around) (I : Addr) (B : Nat) (wr : List Addr) (G : Array GenState → Array GenState → Prop) (n : Nat) (P : Nat → Value → Prop) (St : Nat → Shared → Prop) : Prop where
  gtrans : ∀ a b c, G a b → G b c → G a c
  item : ∀ i (s : Shared) (Q : Option Value → Shared → Prop) (E : Value → Shared → Prop), i < n → St i s →
    (∀ v s', P i v → St (i + 1) s' → MovedK B wr G s s' → Q (some v) s') → wpAny (model prog w) A (pyNext (.ref I)) Q E s
  done : ∀ (s : Shared) (Q : Option Value → Shared → Prop) (E : Value → Shared → Prop), St n s → (∀ s', MovedK B wr G s s' → Q none s') → wpAny (model prog w) A (pyNext (.ref I)) Q E s
  self : ∀ i (s : Shared) (Q : Value → Shared → Prop) (E : Value → Shared → Prop), St i s → Q (.ref I) s → wpAny (model prog w) A (pyIter (.ref I)) Q E s
theorem WalksK.of_in1 {prog : Program} {w : World} {A : Around} {I : Addr} {B : Nat} {wr : List Addr} {G : Array GenState → Array GenState → Prop} {n : Nat} {P : Nat → Value → Prop} {St : Nat → Shared → Prop}
    (W : WalksK prog w A.in1 I B wr G n P St) : WalksK prog w A I B wr G n P St where
  gtrans := W.gtrans
  item := fun i s Q E hi st hQ => wpAny_of_in1 (W.item i s Q E hi st hQ)
  done := fun s Q E st hQ => wpAny_of_in1 (W.done s Q E st hQ)
  self := fun i s Q E st hQ => wpAny_of_in1 (W.self i s Q E st hQ)

section
variable {prog : Program} {w : World} {A : Around} {R : Result → Shared → Prop} {I : Addr} {B : Nat} {wr : List Addr} {G : Array GenState → Array GenState → Prop} {n : Nat} {P : Nat → Value → Prop} {St : Nat → Shared → Prop}
theorem codeAny_any_loopK (W : WalksK prog w A.in1 I B wr G n P St) (tr : Nat → Bool) (htr : TruthOf prog w A.in1 P tr) : ∀ (k i : Nat) (s : Shared), n - i = k → i ≤ n → St i s →
    (∀ s', MovedK B wr G s s' → R (.ok (.ret (.bool (((List.range n).drop i).any tr)))) s') → codeAny (model prog w) A (.builtin "any.loop" ⟨[.ref I], []⟩) R s := by
  intro k
  induction k with
  | zero =>
    intro i s hk hi hst hR
    have hin : i = n := by omega
    subst hin
    refine codeAny_builtin PySem.F.entry_any_loop ?_
    rw [Around.under_plainId PySem.F.plain_any_loop _]
    show wpAny _ A.in1 (pyNext (.ref I) >>= _) _ _ s
    refine wpAny_bind (W.done s _ _ hst fun s' hm => ?_)
    refine wpAny_bind (wpAny_rule (wpAny_pure ?_))
    have := hR s' hm
    rw [List.drop_of_length_le (by simp)] at this
    exact this
  | succ k ih =>
    intro i s hk hi hst hR
    have hlt : i < n := by omega
    have hd : (List.range n).drop i = i :: (List.range n).drop (i + 1) := by
      rw [List.drop_eq_getElem_cons (by simpa using hlt)]; simp
    refine codeAny_builtin PySem.F.entry_any_loop ?_
    rw [Around.under_plainId PySem.F.plain_any_loop _]
    show wpAny _ A.in1 (pyNext (.ref I) >>= _) _ _ s
    refine wpAny_bind (W.item i s _ _ hlt hst fun v s' hP hst' hm => ?_)
    refine wpAny_bind (wpAny_holding (htr i v _ _ _ hP ?_))
    refine wpAny_bind (wpAny_letGo ?_)
    cases hb : tr i with
    | false =>
      simp only [Bool.false_eq_true, if_false]
      refine wpAny_pure ⟨plainId_quiet PySem.F.plain_any_loop _, ih (i + 1) _ (by omega) hlt hst' fun s'' hm' => ?_⟩
      have := hR s'' (hm.trans W.gtrans hm')
      rw [hd, List.any_cons, hb, Bool.false_or] at this
      exact this
    | true =>
      simp only [if_true]
      refine wpAny_bind (wpAny_rule (wpAny_pure ?_))
      have := hR s' hm
      rw [hd, List.any_cons, hb, Bool.true_or] at this
      exact this
theorem call_any_walkK {x : Value} {Q : Value → Shared → Prop} {E : Value → Shared → Prop} {s : Shared}
    (h : wpAny (model prog w) A.in1 (pyIter x) (fun it s₂ => ∃ I B wr G n P St tr, it = .ref I ∧ WalksK prog w A.in1 I B wr G n P St ∧ St 0 s₂ ∧ TruthOf prog w A.in1 P tr ∧
      ∀ s', MovedK B wr G s₂ s' → Q (.bool ((List.range n).any tr)) s') E s) :
    wpAny (model prog w) A (call (.builtin "any") [x]) Q E s := by
  refine call_function_tree PySem.F.kind_any PySem.F.plain_any PySem.F.entry_any (PySem.F.args_any1 _) ?_
  unfold Builtin.«any»
  refine wpAny_bind (m := oneArg "any" _) (wpAny_pure ?_)
  refine wpAny_bind (wpAny_mono h (fun it s₂ h₂ => ?_) fun _ _ e => e)
  obtain ⟨I, B, wr, G, n, P, St, tr, rfl, W, hst, htr, hQ⟩ := h₂
  exact wpAny_pure ⟨plainId_quiet PySem.F.plain_any_loop _, codeAny_any_loopK W tr htr n 0 s₂ rfl (Nat.zero_le _) hst fun s' hm => by simpa using hQ s' hm⟩
end

def GenAtK (prog : Program) (w : World) (A : Around) (a : Addr) (g : Nat) (C : Addr) (B : Nat) (wr : List Addr) (N : Nat) (F : Nat → Value → Prop) (j : Nat) (s : Shared) : Prop :=
  s.heap.IsGen a g ∧ s.heap.NoLimit ∧ ∃ gs, s.gens[g]? = some gs ∧ ∀ s'' : Shared, (∀ b o, s.heap.get? b = some o → s''.heap.get? b = some o) →
    gs.Goes (model prog w) A.in1 (gend B C wr) (proto B C wr N F) (N - j) (.send .none) s''

section
variable {prog : Program} {w : World} {A : Around}
theorem WalksK.gen (hh : A.handled = none) (a : Addr) (g : Nat) (C : Addr) (B : Nat) (wr : List Addr) (N : Nat) (F : Nat → Value → Prop) (haC : a ≠ C) (haB : a < B) (haw : a ∉ wr) (hroom : A.depth < recursionLimit)
    (hcs : cStatics < B) (hcC : cStatics ≠ C) (hcw : cStatics ∉ wr) :
    WalksK prog w A a B (C :: wr) (GenOnlyQ g) N F (GenAtK prog w A a g C B wr N F) where
  gtrans := fun _ _ _ x y => x.trans y
  item := fun j s Q E hj st hQ => by
    obtain ⟨hg, hl, gs, hgs, hgo⟩ := st
    obtain ⟨m, hm⟩ : ∃ m, N - j = m + 1 := ⟨N - j - 1, by omega⟩
    rw [hm] at hgo
    refine wpAny_pyNext_genexpQ (P := fun n s₀ s₁ => n = 0 ∧ Since B C wr s₀ s₁) hh hl hroom hg hgs (hgo _ fun _ _ e => e) (fun v s₁ gs' hb hv => ?_) (fun s₁ hp h' hk => ?_)
    · obtain ⟨hF, ⟨h₁, tk₁, rfl, hk₁⟩, hkap⟩ := hv
      have hidx : N - 1 - (m + 1 - 1) = j := by omega
      rw [hidx] at hF
      refine hQ v _ hF ⟨let ⟨o, nm, qn, ho, r⟩ := hg; ⟨o, nm, qn, hk₁ a o haB haC haw ho, r⟩, (let ⟨mc, hns, hnn⟩ := hl; ⟨mc, hns.at' fun o e => hk₁ cStatics o hcs hcC hcw e, hnn⟩), gs', setGen_self (gs := .running) (setGen_self hgs), fun s'' hal => ?_⟩
        ⟨fun b o hB hb e => hk₁ b o hB (fun h => hb (h ▸ List.mem_cons_self ..)) (fun h => hb (List.mem_cons_of_mem _ h)) e, GenOnlyQ.of ((GenOnly.setGen s g .running).trans (GenOnly.setGen _ g gs')) (setGen_self (gs := .running) (setGen_self hgs)) hb, rfl, rfl⟩
      have e : N - (j + 1) = m := by omega
      rw [e]
      exact hkap s'' hal
    · exact absurd hp.1 (Nat.succ_ne_zero m)
  done := fun s Q E st hQ => by
    obtain ⟨hg, hl, gs, hgs, hgo⟩ := st
    rw [Nat.sub_self] at hgo
    refine wpAny_pyNext_genexpQ (P := fun n s₀ s₁ => n = 0 ∧ Since B C wr s₀ s₁) hh hl hroom hg hgs (hgo _ fun _ _ e => e) (fun v s₁ gs' hb hv => ?_) (fun s₁ hp h' hk => ?_)
    · obtain ⟨_, _, hkap⟩ := hv
      exact False.elim (hkap s₁ fun _ _ e => e)
    · obtain ⟨_, h₁, tk₁, rfl, hk₁⟩ := hp
      exact hQ _ ⟨fun b o hB hb e => hk b o (hk₁ b o hB (fun h => hb (h ▸ List.mem_cons_self ..)) (fun h => hb (List.mem_cons_of_mem _ h)) e), GenOnlyQ.of ((GenOnly.setGen s g .running).trans (GenOnly.setGen _ g .finished)) (setGen_self (gs := .running) (setGen_self hgs)) rfl, rfl, rfl⟩
  self := fun _ _ _ _ st hQ => wpAny_pyIter_gen st.1 hQ

theorem seg_start {elt iter : Expr} {x y : Str} {px py qy : Pos} {scope : Scope} {pos : Pos} {cenv : Env} {B : Nat} {wr fp : List Addr} {St₀ : Nat → Heap → Prop} {href : Heap} {pb : Nat → Bool} {ws : List Str} {I : Addr} {P : Nat → Value → Prop} {a₀ : Addr}
    (hh : A.handled = none) (hB : B = a₀ + 1) (ha₀ : ∃ o, href.get? a₀ = some o) (hal : a₀ ≠ cenv.locals) (haw : a₀ ∉ wr)
    (hfp : ∀ b ∈ fp, b < B) (hC : cenv.locals ∉ fp) (hCB : cenv.locals < B)
    (W₀ : ∀ A' : Around, A'.handled = none → Walks prog w A' I fp wr ws.length P St₀) (hP : ∀ i v, P i v → ∃ a t, ws[i]? = some a ∧ v = .str a t)
    (hx : cenv.kindOf x = some .local) (hy : cenv.kindOf y = some .local) (hkf : cenv.scope.kind = .function) (hp : (cenv.scope.kind == .class || (cenv.scope.kind == .module && cenv.locals != cenv.globals)) = false) (hco : cenv.scope.isCoroutine = false)
    (hel : ∀ (A' : Around) (E' : Value → Shared → Prop) (c : Nat) (u : Tok) (s₂ : Shared) (m₂ : Str → Option Value), A'.handled = none → s₂.heap.Ns cenv.locals m₂ → m₂ y = some (.str ⟨#[c]⟩ u) → Kept B cenv.locals wr href s₂.heap →
      wpAny (model prog w) A' (eval elt cenv) (fun v s₃ => v = .bool (pb c) ∧ Keeps s₂ s₃) E' s₂)
    (hdx : (x == ("__debug__" : Str)) = false) (s₀ s : Shared) (m : Str → Option Value) (hst : St₀ 0 s.heap) (hn : s.heap.Ns cenv.locals m) (hsince : Since B cenv.locals wr s₀ s) (hkp : Kept B cenv.locals wr href s.heap) :
      Seg (model prog w) A (gend B cenv.locals wr) (proto B cenv.locals wr (flat ws).length (fun n v => ∃ c, (flat ws)[n]? = some c ∧ v = .bool (pb c))) (flat ws).length s₀ (.compStart (gx elt iter x y px py qy scope pos) 0 (.ref I) .none cenv)
        ((model prog w).den (.compStart (gx elt iter x y px py qy scope pos) 0 (.ref I) .none cenv)) [] s := by
  have hh' : (A.over (.compStart (gx elt iter x y px py qy scope pos) 0 (.ref I) .none cenv) []).handled = none := hh
  have loop := seg_outer (iter := iter) (px := px) (py := py) (qy := qy) (scope := scope) (pos := pos) hh hB ha₀ hal haw hfp hC hCB W₀ hP hx hy hkf hp hco hel hdx ws.length 0 s₀ s m (Nat.sub_zero _) (Nat.zero_le _) hst hn hsince hkp
  rw [List.drop_zero] at loop
  show Seg _ A _ _ _ s₀ _ ((compStart (gx elt iter x y px py qy scope pos) 0 (.ref I) .none cenv).onRaise (leaving cenv)) [] s
  unfold compStart
  rw [Sem.onRaise_eq_wrap]
  show Seg _ A _ _ _ s₀ _ ((ask >>= _).wrap _ _ _ _) [] s
  refine seg_bind_wrap (wpAny_askSetting ?_)
  split
  · exact seg_again rfl loop
  · refine seg_bind_wrap (wpAny_rule ?_)
    show Seg _ A _ _ _ s₀ _ ((standAt iter.pos >>= _).wrap _ _ _ _) [] s
    exact seg_bind_wrap (wpAny_standAt (seg_bind_wrap ((W₀ _ hh').self 0 s _ _ hst (seg_again rfl loop))))

theorem make2 {M : Model} {E : Value → Shared → Prop} {s : Shared} {env : Env} {elt target iter : Expr} {g2 : Comprehension} {scope : Scope} {cl : List (Str × Addr)} {pos : Pos} {Q : Value → Shared → Prop}
    (hco : scope.isCoroutine = false) (hclos : closureFor scope env = pure cl) (hcell : ∀ y ∈ scope.names, y.2 ≠ .cell) (h0 : scope.names.lookup (".0" : Str) = some NameKind.local) (hkind : scope.kind = .function)
    (hroom : A.depth < recursionLimit)
    (h : wpAny M A (eval iter env) (fun xv s₁ => wpAny M A (pyIter xv) (fun it s₂ => s₂.heap.NoLimit ∧
      wpAny M A (genexprCode env pos (env.qual ++ "<genexpr>") scope) (fun code s₃ => wpAny M A (builtinsFor env.globals env.builtins) (fun bi s₄ =>
        ∀ h', h'.Ns s₄.heap.objs.size (fun y => if y = ".0" then some it else none) → Heap.SameBut s₄.heap.objs.size (s₄.heap.push { cls := .type "frame", data := .dict #[] }) h' →
          Q (.ref h'.objs.size) { s₄ with
            gens := s₄.gens.push (.fresh (.compStart (.GeneratorExp elt [⟨target, iter, [], 0⟩, g2] scope pos) 0 it .none (genEnv scope cl s₄.heap.objs.size code bi env))),
            toks := s₄.toks + 1 + 1 + 1,
            heap := h'.push { cls := .type "generator", data := .fields #[.int s₄.gens.size 0, .str "<genexpr>" (s₄.toks + 1), .str (env.qual ++ "<genexpr>") (s₄.toks + 1 + 1)] } }) E s₃) E s₂) E s₁) E s)
    (hs : ∀ x, genFold iter env x = pure x) :
    wpAny M A (eval (.GeneratorExp elt [⟨target, iter, [], 0⟩, g2] scope pos) env) Q E s := by
  rw [eval_gen2 _ _ _ _ _ _ _ hco, hclos]
  refine wpAny_bind (wpAny_mono h (fun xv s₁ h₁ => ?_) fun _ _ e => e)
  refine wpAny_bind (wpAny_standAt ?_)
  refine wpAny_bind (wpAny_of_eq (hs xv) ?_)
  refine wpAny_bind (wpAny_holding (wpAny_mono h₁ (fun it s₂ h₂ => ?_) fun _ _ e => e))
  refine wpAny_bind (wpAny_enterFrame h₂.1 hroom ?_)
  refine wpAny_bind (wpAny_pure ?_)
  refine wpAny_bind (wpAny_mono h₂.2 (fun code s₃ h₃ => ?_) fun _ _ e => e)
  refine wpAny_bind (wpAny_mono h₃ (fun bi s₄ h₄ => ?_) fun _ _ e => e)
  have hbinds : ∀ y ∈ ([((".0" : Str), it)] : List (Str × Value)), scope.names.lookup y.1 = some NameKind.local := by
    intro y hy
    rcases List.mem_cons.mp hy with rfl | hy
    · exact h0
    · cases hy
  refine wpAny_bind (wpAny_newFunctionEnv hcell hbinds (fun h' hn' hs' => ?_) hkind)
  have e : (fun y : Str => ([((".0" : Str), it)] : List (Str × Value)).reverse.lookup y) = fun y : Str => if y = (".0" : Str) then some it else none := by
    funext y
    by_cases hy : y = ".0"
    · subst hy; simp
    · have : (y == (".0" : Str)) = false := by simpa using hy
      simp [List.lookup, this, hy]
  rw [e] at hn'
  simp only [newGenerator, newFields]
  refine wpAny_bind (wpAny_newGen (wpAny_bind (wpAny_mkText (wpAny_bind (wpAny_mkText (wpAny_newObj_type ?_ (by size_fits)))))))
  exact h₄ h' hn' hs'
end
end Gx2
namespace Gx2
open PySem PySem.Spec PyProof.Rows L2 GxR
section
variable {X : Cx} {pins : List (Addr × Obj)} {σ : L2.St} {H : Hp} {s : Shared}
/-- the generator's frame -/
abbrev gE (X : Cx) (scope : Scope) (C : Addr) (code : Value) : Env := genEnv scope (cloFrom X.env.cells scope.names []) C code builtinsNs X.env
/-- the element of a two-clause one: a test of the sign -/
def Elt2 (X : Cx) (P : Addr) (scope : Scope) (y : Str) (elt : Expr) (pb : Nat → Bool) : Prop :=
  ∀ (pins : List (Addr × Obj)) (σ : L2.St) (H1 : Hp) (s1 : Shared), Inv X pins σ H1 s1 → ∀ (C : Addr) (code : Value) (A' : Around) (E' : Value → Shared → Prop) (c : Nat) (u : Tok) (s₂ : Shared) (m₂ : Str → Option Value), A'.handled = none →
    (∀ b o, b ≠ P → s1.heap.get? b = some o → s₂.heap.get? b = some o) → s₂.heap.Ns C m₂ → m₂ y = some (.str ⟨#[c]⟩ u) →
    wpAny (model X.prog X.w) A' (eval elt (gE X scope C code)) (fun v s₃ => v = .bool (pb c) ∧ Keeps s₂ s₃) E' s₂
def Ready2 (X : Cx) (pins : List (Addr × Obj)) (σ : L2.St) (H1 : Hp) (P : Addr) (ws : List Str) (pb : Nat → Bool) (g : Addr) (s5 : Shared) : Prop :=
  ∃ (B : Nat) (wr : List Addr) (G : Array GenState → Array GenState → Prop) (F : Nat → Value → Prop) (St : Nat → Shared → Prop),
    WalksK X.prog X.w X.A.in1 g B wr G (flat ws).length F St ∧ St 0 s5 ∧ TruthOf X.prog X.w X.A.in1 F (trF pb (flat ws)) ∧
    ∀ s', MovedK B wr G s5 s' → ∃ H2, Tabbed P H1 H2 ∧ Inv X pins σ H2 s'

theorem gen2 {c P : Addr} {elt iter : Expr} {x y : Str} {px py qy gpos : Pos} {scope : Scope} {pb : Nat → Bool} {te : TE} {k : Nat} {Q' : Value → Shared → Prop} {R : List Str → Hp → Prop}
    (hr : Room k X.A) (TB : TabB X.base X.mg c P) (hcode : X.env.code = .ref c) (S : GenS X.env scope x) (hyl : scope.names.lookup y = some .local) (hdx : (x == ("__debug__" : Str)) = false) (hi : PE X iter te) (hel : Elt2 X P scope y elt pb)
    (hs : ∀ v, genFold iter X.env v = pure v) (I : Inv X pins σ H s) (h : te σ H fun v H1 => ∃ (yl : Addr) (ws : List Str), v = .ref yl ∧ SqL X.K H1 yl (ws.map V.str) ∧ TabG H1 P ∧ R ws H1)
    (hQ : ∀ ws H1 g s5, R ws H1 → Ready2 X pins σ H1 P ws pb g s5 → Q' (.ref g) s5) :
    wpAny (model X.prog X.w) X.A (eval (gx elt iter x y px py qy scope gpos) X.env) Q' X.xe s := by
  have hd := hr.hd
  refine make2 S.co (closure_ok S.free) S.cell S.dot S.kind (by have := hr.dp; omega) ?_ hs
  refine thn (hi.run pins s σ H _ I h) fun xv s1 ⟨v, H1, I1, r1, q1⟩ => ?_
  obtain ⟨yl, ws, rfl, hyl2, ⟨ps, hP, ht⟩, q1⟩ := q1
  obtain rfl : xv = Value.ref yl := r1
  obtain ⟨its, rv, hl, hz⟩ := I1.list hyl2
  have hIL := hl.isList
  have hlen : its.length = ws.length := by rw [← rv.length, List.length_map]
  have hat : ∀ (i : Nat) (v : Value), its.toArray[i]? = some v → ∃ (a : Str) (u : Tok), ws[i]? = some a ∧ v = .str a u := fun i v hv => by
    have hv2 : its[i]? = some v := by simpa using hv
    have hi2 : i < its.length := (List.getElem?_eq_some_iff.mp hv2).1
    obtain ⟨a, ha⟩ : ∃ a, ws[i]? = some a := ⟨ws[i]'(by omega), List.getElem?_eq_getElem _⟩
    have hb : (ws.map V.str)[i]? = some (V.str a) := by rw [List.getElem?_map, ha] <;> rfl
    obtain ⟨u, hu, ru⟩ := rv.get hb
    rw [hv2] at hu
    cases hu
    obtain ⟨t, e⟩ := (show ∃ t, v = Value.str a t from ru)
    exact ⟨a, t, ha, e⟩
  refine wpAny_pyIter_list hIL ?_
  generalize ho : ({ cls := .type "list_iterator", data := .fields #[.ref yl, .int 0 0] } : Obj) = o
  have hitr : (s1.heap.push o).IsListIter s1.heap.objs.size yl 0 := by
    subst ho
    exact ⟨_, Heap.get?_push_size _ rfl, rfl, rfl⟩
  have hylt : yl < s1.heap.objs.size := by
    obtain ⟨_, e, _⟩ := _root_.id hIL
    exact Heap.lt_size e
  have hPs : s1.heap.get? P = some { cls := .none, data := .fields ps } := I1.hok P _ hP
  have hPlt : P < s1.heap.objs.size := Heap.lt_size hPs
  have hP2 : (s1.heap.push o).get? P = some { cls := .none, data := .fields ps } := Heap.get?_push_of_some _ hPs
  have cd : PySem.W.CodeHd (s1.heap.push o) c P := TB.code.keeps fun b u e => Heap.get?_push_of_some _ (I1.bk b u e)
  have lim2 : (s1.heap.push o).NoLimit := I1.nolimit.push o
  have cont : ∀ (code : Value) (h3 : Heap) (tk : Nat) (ps' : Array Value), Heap.ExtBut P (s1.heap.push o) h3 → (s1.heap.push o).objs.size ≤ h3.objs.size → h3.get? P = some { cls := .none, data := .fields ps' } → (∃ more, ps' = ps ++ more) → TriplesOk ps'.toList →
      wpAny (model X.prog X.w) X.A (builtinsFor X.env.globals X.env.builtins) (fun bi s₄ =>
        ∀ h', h'.Ns s₄.heap.objs.size (fun y => if y = ".0" then some (.ref s1.heap.objs.size) else none) → Heap.SameBut s₄.heap.objs.size (s₄.heap.push { cls := .type "frame", data := .dict #[] }) h' →
          Q' (.ref h'.objs.size) { s₄ with
            gens := s₄.gens.push (.fresh (.compStart (gx elt iter x y px py qy scope gpos) 0 (.ref s1.heap.objs.size) .none (genEnv scope (cloFrom X.env.cells scope.names []) s₄.heap.objs.size code bi X.env))),
            toks := s₄.toks + 1 + 1 + 1,
            heap := h'.push { cls := .type "generator", data := .fields #[.int s₄.gens.size 0, .str "<genexpr>" (s₄.toks + 1), .str (X.env.qual ++ "<genexpr>") (s₄.toks + 1 + 1)] } }) X.xe { s1 with heap := h3, toks := tk } := by
    intro code h3 tk ps' hx hsz hP3 hmore ht3
    obtain ⟨bm, ob, e1, e2, e3, e4, e5, e6, e7, e8⟩ := TB.bm
    have hcP : cStatics ≠ P := fun e => by
      obtain ⟨_, hns, _⟩ := I1.nolimit
      obtain ⟨o', es, ep, ho, hd, _⟩ := hns
      rw [e, hPs] at ho
      cases ho
      cases hd
    have hcl : cStatics < s1.heap.objs.size := let ⟨_, hns, _⟩ := I1.nolimit; hns.lt
    have sz2 : (s1.heap.push o).objs.size = s1.heap.objs.size + 1 := Heap.size_push ..
    have keep3 : ∀ b u, b ≠ P → s1.heap.get? b = some u → h3.get? b = some u := fun b u hb e => hx b u hb (Heap.get?_push_of_some _ e)
    refine wpAny_builtinsFor (m := X.mg) (by rw [I1.ok.glob]; exact ((I1.mod.glob.keeps I1.bk).push o).extBut hx TB.gP) e1 e2 (keep3 _ _ e4 (I1.bk _ _ e5)) e6 e7 e8 ?_
    have hylP : yl ≠ P := fun z => by
      obtain ⟨_, e, hc1, _, hd1⟩ := _root_.id hIL
      rw [z, hPs] at e
      cases e
      cases hd1
    have hIL3 : h3.IsList yl its.toArray := by
      obtain ⟨ob, e, r⟩ := _root_.id hIL
      exact ⟨ob, keep3 _ _ hylP e, r⟩
    have hItr3 : h3.IsListIter s1.heap.objs.size yl 0 := hitr.at fun u e => hx _ u (Nat.ne_of_gt hPlt) e
    have lim3 : h3.NoLimit := lim2.extBut hx hcP
    intro h' hn' hs'
    have hszc : h'.objs.size = h3.objs.size + 1 := by
      have q := hs'.1
      rw [Heap.size_push] at q
      exact q
    have keep' : ∀ b u, h3.get? b = some u → h'.get? b = some u := fun b u e => hs'.extBut b u (Nat.ne_of_lt (Heap.lt_size e)) (Heap.get?_push_of_some _ e)
    generalize hgo : ({ cls := .type "generator", data := .fields #[.int s1.gens.size 0, .str "<genexpr>" (tk + 1), .str (X.env.qual ++ "<genexpr>") (tk + 1 + 1)] } : Obj) = go
    have keep5 : ∀ b u, h3.get? b = some u → (h'.push go).get? b = some u := fun b u e => Heap.get?_push_of_some _ (keep' b u e)
    have haC : h'.objs.size ≠ h3.objs.size := by rw [hszc]; exact Nat.succ_ne_self _
    have sz1 : s1.heap.objs.size < h3.objs.size := by omega
    have nI : s1.heap.objs.size ≠ h3.objs.size := Nat.ne_of_lt sz1
    have haI : h'.objs.size ∉ [s1.heap.objs.size] := fun hm => by
      have z := List.mem_singleton.mp hm
      omega
    have hsI : cStatics ∉ [s1.heap.objs.size] := fun hm => Nat.ne_of_lt hcl (List.mem_singleton.mp hm)
    have hcl3 : cStatics < h3.objs.size := Nat.lt_trans hcl sz1
    have oldB : ∀ b u, s1.heap.get? b = some u → b < h'.objs.size + 1 ∧ b ≠ h3.objs.size ∧ b ∉ [s1.heap.objs.size] := fun b u e => by
      have hl := Heap.lt_size e
      refine ⟨?_, ?_, fun hm => ?_⟩
      · rw [hszc]
        exact Nat.lt_succ_of_lt (Nat.lt_succ_of_lt (Nat.lt_trans hl sz1))
      · exact Nat.ne_of_lt (Nat.lt_trans hl sz1)
      · exact Nat.ne_of_lt hl (List.mem_singleton.mp hm)
    have hgg : (h'.push go).IsGen h'.objs.size s1.gens.size := by
      subst hgo
      exact ⟨_, _, _, Heap.get?_push_size _ rfl, rfl, rfl, rfl⟩
    have hns5 : (h'.push go).Ns h3.objs.size (fun y => if y = ".0" then some (.ref s1.heap.objs.size) else none) := hn'.push _
    refine hQ ws H1 _ _ q1 ⟨h'.objs.size + 1, _, _, _, _, WalksK.gen (A := X.A.in1) hd h'.objs.size s1.gens.size h3.objs.size (h'.objs.size + 1) [s1.heap.objs.size] (flat ws).length (fun n v => ∃ c, (flat ws)[n]? = some c ∧ v = .bool (pb c)) haC (Nat.lt_succ_self _) haI (by have := hr.dp; show X.A.depth < recursionLimit; omega) (by rw [hszc]; exact Nat.lt_succ_of_lt (Nat.lt_succ_of_lt hcl3)) (Nat.ne_of_lt hcl3) hsI, ?_, ?_, fun s' hm => ?_⟩
    · refine ⟨hgg, lim3.keeps keep5, _, Array.getElem?_push_size .., fun s'' hal => ⟨rfl, ?_⟩⟩
      rw [Nat.sub_zero]
      refine seg_start (A := X.A.in1.in1) (cenv := gE X scope h3.objs.size code) (fp := [s1.heap.objs.size, yl]) (href := h'.push go) (St₀ := fun i h => h.IsListIter s1.heap.objs.size yl i ∧ h.IsList yl its.toArray) (P := fun i v => its.toArray[i]? = some v) (a₀ := h'.objs.size)
        hd rfl (let ⟨o, _, _, e, _⟩ := hgg; ⟨o, e⟩) haC haI ?_ ?_ ?_ (fun A' hA => ?_) (fun i v hv => ?_) S.loc hyl S.kind (by show ((scope.kind == .class) || (scope.kind == .module && _)) = false; rw [S.kind]; rfl) S.co ?_ hdx s'' s'' _ ?_ (hns5.at' fun o e => hal _ o e) (Since.refl _ _ _ _) (fun b o _ _ _ e => hal b o e)
      · intro b hb
        rcases List.mem_cons.mp hb with z | z
        · rw [z, hszc]
          exact Nat.lt_succ_of_lt (Nat.lt_succ_of_lt sz1)
        · rw [List.mem_singleton.mp z, hszc]
          exact Nat.lt_succ_of_lt (Nat.lt_succ_of_lt (Nat.lt_trans hylt sz1))
      · intro hm
        rcases List.mem_cons.mp hm with z | z
        · exact nI z.symm
        · exact Nat.ne_of_gt (Nat.lt_trans hylt sz1) (List.mem_singleton.mp z)
      · show h3.objs.size < h'.objs.size + 1
        rw [hszc]
        exact Nat.lt_succ_of_lt (Nat.lt_succ_self _)
      · have W := Walks.list (prog := X.prog) (w := X.w) hA s1.heap.objs.size yl (Nat.ne_of_lt hylt) its.toArray
        have hn5 : its.toArray.size = ws.length := by rw [List.size_toArray, hlen]
        rw [hn5] at W
        exact W
      · obtain ⟨a, u, ha, e⟩ := hat i v hv
        exact ⟨a, u, ha, e⟩
      · intro A' E' c u s₂ m₂ hA hn2 hm2 hk2
        refine hel pins σ H1 s1 I1 h3.objs.size code A' E' c u s₂ m₂ hA (fun b o hbP e => ?_) hn2 hm2
        obtain ⟨z1, z2, z3⟩ := oldB b o e
        exact hk2 b o z1 z2 z3 (keep5 b o (keep3 b o hbP e))
      · exact ⟨hItr3.at fun u e => hal _ u (keep5 _ u e), let ⟨ob, e, r⟩ := hIL3; ⟨ob, hal _ ob (keep5 _ ob e), r⟩⟩
    · intro j v sj Qj Ej hy hQj
      obtain ⟨cc, hcc, rfl⟩ := hy
      have hQ2 : Qj (trF pb (flat ws) j) sj := hQj
      rw [trF_some hcc] at hQ2
      exact wpAny_truthy_bool hQ2
    · obtain ⟨more, em⟩ := hmore
      have nw : ∀ b u, s1.heap.get? b = some u → b ∉ h3.objs.size :: [s1.heap.objs.size] := fun b u e hb => by
        obtain ⟨_, z2, z3⟩ := oldB b u e
        rcases List.mem_cons.mp hb with z | z
        · exact z2 z
        · exact z3 z
      have hgens : AllBare s'.gens := (I1.bare.push (g := .fresh (.compStart (gx elt iter x y px py qy scope gpos) 0 (.ref s1.heap.objs.size) .none (gE X scope h3.objs.size code))) rfl).moved hm.gens
      have J := inv_tab (more := more) (h' := s'.heap) (g' := s'.gens) (d' := s'.drawn) (t' := s'.toks) I1 hP (fun b u hb e => hm.heap b u (oldB b u e).1 (nw b u e) (keep5 b u (keep3 b u hb e)))
        (by rw [← em]; exact hm.heap P _ (oldB P _ hPs).1 (nw P _ hPs) (keep5 P _ hP3)) hgens
      rw [sh_eta s1 s' hm.os] at J
      exact ⟨upd H1 P (.tbl (ps ++ more)), ⟨⟨ps ++ more, upd_same, by rw [← em]; exact ht3⟩, fun b hb => upd_ne hb⟩, J⟩
  refine ⟨lim2, ?_⟩
  cases hf : codeAmong gpos ps.toList with
  | none =>
    refine wpAny_genexprCodeX hcode (cd.code hP2 ht) (cd.tab hP2) hf fun c' h' tk hx hge hlt hco' _ htab' _ => ?_
    obtain ⟨o1, vs, f1, tf, fl, tg, inF, tx, tt, op, _, _, _, _, _, _, _, _, _, htr, _⟩ := hco'
    exact cont _ h' tk _ hx (Nat.le_trans hge (Nat.le_of_lt hlt)) htab'.2 ⟨_, rfl⟩ htr
  | some cv =>
    refine wpAny_genexprCode_hit hcode (cd.code hP2 ht) hf ?_
    exact cont cv (s1.heap.push o) s1.toks ps (Heap.ExtBut.refl _ _) (Nat.le_refl _) hP2 ⟨#[], by simp⟩ ht

/-- any(test of y for x in e for y in x), e a list of texts -/
def tAny2 (K : PySem.W.Frag) (P : Addr) (pb : Nat → Bool) (te : TE) : TE := fun σ H Q => te σ H fun v H1 => ∃ (yl : Addr) (ws : List Str), v = .ref yl ∧ SqL K H1 yl (ws.map V.str) ∧ TabG H1 P ∧ ∀ H2, Tabbed P H1 H2 → Q (.bl ((flat ws).any pb)) H2
theorem pe_any2 {c P : Addr} {elt iter : Expr} {x y : Str} {px py qy p pos gpos : Pos} {scope : Scope} {pb : Nat → Bool} {te : TE} {k : Nat}
    (hr : Room k X.A) (hg : Gl X "any") (hm : X.mg "any" = none) (TB : TabB X.base X.mg c P) (hcode : X.env.code = .ref c) (S : GenS X.env scope x) (hyl : scope.names.lookup y = some .local) (hdx : (x == ("__debug__" : Str)) = false) (hi : PE X iter te) (hel : Elt2 X P scope y elt pb)
    (hs : ∀ v, genFold iter X.env v = pure v)
    (he : starEach [gx elt iter x y px py qy scope gpos] X.env = (false, eval (gx elt iter x y px py qy scope gpos) X.env) :: starEach [] X.env := by rfl) :
    PE X (.Call (.Name "any" p) [gx elt iter x y px py qy scope gpos] [] pos) (tAny2 X.K P pb te) := by
  refine ⟨fun pins s σ H Q I h => ?_⟩
  refine wpAny_Call_Name_kw (ld_blt I hg hm boot_any ?_)
  refine PyProof.Rows.callWith_builtin1 ?_ he (by rfl)
  rw [he]
  show wpAny _ _ (spliced ((false, eval (gx elt iter x y px py qy scope gpos) X.env) :: backTo pos (starEach [] X.env))) _ _ s
  refine Calls.spliced_cons (gen2 (R := fun ws H1 => ∀ H2, Tabbed P H1 H2 → Q (.bl ((flat ws).any pb)) H2) hr TB hcode S hyl hdx hi hel hs I h fun ws H1 g s5 hR hG => ?_)
  obtain ⟨B, wr, G, F, St, W, hst, htr, hI⟩ := hG
  refine Calls.spliced_nil ?_
  refine call_any_walkK (W.self 0 _ _ _ hst ⟨g, B, wr, G, _, F, St, _, rfl, W, hst, htr, fun s' hmv => ?_⟩)
  obtain ⟨H2, hT, J⟩ := hI s' hmv
  refine ⟨.bl _, H2, J, rfl, ?_⟩
  rw [any_trF]
  exact hR H2 hT
end
end Gx2
namespace Gx2
open PySem PySem.Spec PyProof.Rows L2 GxR
/-- the test at place j -/
def trS (pb : Str → Bool) (l : List Str) (j : Nat) : Bool := match l[j]? with
  | some b => pb b
  | none => false
theorem trS_some {pb : Str → Bool} {l : List Str} {j : Nat} {b : Str} (h : l[j]? = some b) : trS pb l j = pb b := by
  unfold trS
  rw [h]
theorem any_trS (l : List Str) (pb : Str → Bool) : (List.range l.length).any (trS pb l) = l.any pb := by
  rw [Bool.eq_iff_iff, List.any_eq_true, List.any_eq_true]
  constructor
  · intro ⟨j, hj, h⟩
    have hj' := List.mem_range.mp hj
    rw [trS_some (List.getElem?_eq_getElem hj')] at h
    exact ⟨l[j], List.getElem_mem hj', h⟩
  · intro ⟨b, hb, h⟩
    obtain ⟨j, hj, e⟩ := List.getElem_of_mem hb
    refine ⟨j, List.mem_range.mpr hj, ?_⟩
    rw [trS_some (List.getElem?_eq_getElem hj), e]
    exact h
section
variable {X : Cx} {pins : List (Addr × Obj)} {σ : L2.St} {H : Hp} {s : Shared}
def Elt1 (X : Cx) (P : Addr) (scope : Scope) (x : Str) (elt : Expr) (Ex : L2.St → Addr → List Str → Prop) (pb : List Str → Str → Bool) : Prop :=
  ∀ (pins : List (Addr × Obj)) (σ : L2.St) (H1 : Hp) (s1 : Shared) (yl : Addr) (ws : List Str), Inv X pins σ H1 s1 → SqL X.K H1 yl (ws.map V.str) → H1 P ≠ none → (∃ ps, H1 P = some (.tbl ps)) → Ex σ yl ws → ∀ (C : Addr) (code : Value) (A' : Around) (E' : Value → Shared → Prop) (a : Str) (t : Tok) (s₂ : Shared) (m₂ : Str → Option Value), A'.handled = none →
    (∀ b o, b ≠ P → s1.heap.get? b = some o → s₂.heap.get? b = some o) → a ∈ ws → s₂.heap.Ns C m₂ → m₂ x = some (.str a t) →
    wpAny (model X.prog X.w) A' (eval elt (gE X scope C code)) (fun v s₃ => v = .bool (pb ws a) ∧ Keeps s₂ s₃) E' s₂
def Ready1 (X : Cx) (pins : List (Addr × Obj)) (σ : L2.St) (H1 : Hp) (P : Addr) (ws : List Str) (pb : Str → Bool) (g : Addr) (s5 : Shared) : Prop :=
  ∃ (fp wr : List Addr) (G : Array GenState → Array GenState → Prop) (F : Nat → Value → Prop) (St : Nat → Shared → Prop),
    WalksS X.prog X.w X.A.in1 g fp wr G ws.length F St ∧ St 0 s5 ∧ TruthOf X.prog X.w X.A.in1 F (trS pb ws) ∧
    ∀ s', Moved wr G s5 s' → ∃ H2, Tabbed P H1 H2 ∧ Inv X pins σ H2 s'

theorem gen1 {c P : Addr} {elt iter : Expr} {x : Str} {px gpos : Pos} {scope : Scope} {Ex : L2.St → Addr → List Str → Prop} {pb : List Str → Str → Bool} {te : TE} {k : Nat} {Q' : Value → Shared → Prop} {R : List Str → Hp → Prop}
    (hr : Room k X.A) (TB : TabB X.base X.mg c P) (hcode : X.env.code = .ref c) (S : GenS X.env scope x) (hi : PE X iter te) (hel : Elt1 X P scope x elt Ex pb)
    (hs : ∀ v, genFold iter X.env v = pure v) (I : Inv X pins σ H s) (h : te σ H fun v H1 => ∃ (yl : Addr) (ws : List Str), v = .ref yl ∧ SqL X.K H1 yl (ws.map V.str) ∧ Ex σ yl ws ∧ TabG H1 P ∧ R ws H1)
    (hQ : ∀ ws H1 g s5, R ws H1 → Ready1 X pins σ H1 P ws (pb ws) g s5 → Q' (.ref g) s5) :
    wpAny (model X.prog X.w) X.A (eval (.GeneratorExp elt [⟨.Name x px, iter, [], 0⟩] scope gpos) X.env) Q' X.xe s := by
  refine wpAny_GeneratorExp_walksQ hr.hd S.co (closure_ok S.free) S.cell S.dot S.loc S.kind (by have := hr.dp; omega) ?_ hs
  refine thn (hi.run pins s σ H _ I h) fun xv s1 ⟨v, H1, I1, r1, q1⟩ => ?_
  obtain ⟨yl, ws, rfl, hyl, hEx, ⟨ps, hP, ht⟩, q1⟩ := q1
  obtain rfl : xv = Value.ref yl := r1
  obtain ⟨its, rv, hl, hz⟩ := I1.list hyl
  have hIL := hl.isList
  have hlen : its.length = ws.length := by rw [← rv.length, List.length_map]
  have hat : ∀ (i : Nat) (v : Value), its.toArray[i]? = some v → ∃ (a : Str) (u : Tok), ws[i]? = some a ∧ v = .str a u := fun i v hv => by
    have hv2 : its[i]? = some v := by simpa using hv
    have hi2 : i < its.length := (List.getElem?_eq_some_iff.mp hv2).1
    obtain ⟨a, ha⟩ : ∃ a, ws[i]? = some a := ⟨ws[i]'(by omega), List.getElem?_eq_getElem _⟩
    have hb : (ws.map V.str)[i]? = some (V.str a) := by rw [List.getElem?_map, ha] <;> rfl
    obtain ⟨u, hu, ru⟩ := rv.get hb
    rw [hv2] at hu
    cases hu
    obtain ⟨t, e⟩ := (show ∃ t, v = Value.str a t from ru)
    exact ⟨a, t, ha, e⟩
  refine wpAny_pyIter_list hIL ?_
  generalize ho : ({ cls := .type "list_iterator", data := .fields #[.ref yl, .int 0 0] } : Obj) = o
  have hitr : (s1.heap.push o).IsListIter s1.heap.objs.size yl 0 := by
    subst ho
    exact ⟨_, Heap.get?_push_size _ rfl, rfl, rfl⟩
  have hylt : yl < s1.heap.objs.size := by
    obtain ⟨_, e, _⟩ := _root_.id hIL
    exact Heap.lt_size e
  have hPs : s1.heap.get? P = some { cls := .none, data := .fields ps } := I1.hok P _ hP
  have hPlt : P < s1.heap.objs.size := Heap.lt_size hPs
  have hP2 : (s1.heap.push o).get? P = some { cls := .none, data := .fields ps } := Heap.get?_push_of_some _ hPs
  have cd : PySem.W.CodeHd (s1.heap.push o) c P := TB.code.keeps fun b u e => Heap.get?_push_of_some _ (I1.bk b u e)
  have lim2 : (s1.heap.push o).NoLimit := I1.nolimit.push o
  have cont : ∀ (code : Value) (h3 : Heap) (tk : Nat) (ps' : Array Value), Heap.ExtBut P (s1.heap.push o) h3 → (s1.heap.push o).objs.size ≤ h3.objs.size → h3.get? P = some { cls := .none, data := .fields ps' } → (∃ more, ps' = ps ++ more) → TriplesOk ps'.toList →
      wpAny (model X.prog X.w) X.A (builtinsFor X.env.globals X.env.builtins) (fun bi s₄ =>
        ∃ Ia fp wr n₀ Pf St₀ pz F, Value.ref s1.heap.objs.size = .ref Ia ∧ (∀ A' : Around, A'.handled = none → Walks X.prog X.w A' Ia fp wr n₀ Pf St₀) ∧ St₀ 0 s₄.heap ∧ (∀ b ∈ fp, b < s₄.heap.objs.size) ∧ s₄.heap.NoLimit ∧ cStatics ∉ wr ∧
          (∀ href : Heap, (∀ b o, s₄.heap.get? b = some o → href.get? b = some o) →
            QuietGen X.prog X.w (genEnv scope (cloFrom X.env.cells scope.names []) s₄.heap.objs.size code bi X.env) x [] elt (List.range s₄.heap.objs.size) wr Pf pz F href) ∧
          (∀ a h₅ tk gs, gs.bare = true → s₄.heap.objs.size < a → h₅.objs.size = a + 1 → (∀ b o, s₄.heap.get? b = some o → h₅.get? b = some o) →
            WalksS X.prog X.w X.A.in4 a (a :: s₄.heap.objs.size :: List.range s₄.heap.objs.size) (s₄.heap.objs.size :: wr) (GenOnlyQ s₄.gens.size) (passing pz n₀ 0).length
              (fun j y => ∃ i, (passing pz n₀ 0)[j]? = some i ∧ F i y) (GenAt X.prog X.w X.A.in4 a s₄.gens.size s₄.heap.objs.size (List.range s₄.heap.objs.size) wr pz n₀ F) →
            GenAt X.prog X.w X.A.in4 a s₄.gens.size s₄.heap.objs.size (List.range s₄.heap.objs.size) wr pz n₀ F 0 { s₄ with gens := s₄.gens.push gs, toks := tk, heap := h₅ } →
            Q' (.ref a) { s₄ with gens := s₄.gens.push gs, toks := tk, heap := h₅ })) X.xe { s1 with heap := h3, toks := tk } := by
    intro code h3 tk ps' hx hsz hP3 hmore ht3
    obtain ⟨bm, ob, e1, e2, e3, e4, e5, e6, e7, e8⟩ := TB.bm
    have hcP : cStatics ≠ P := fun e => by
      obtain ⟨_, hns, _⟩ := I1.nolimit
      obtain ⟨o', es, ep, ho, hd, _⟩ := hns
      rw [e, hPs] at ho
      cases ho
      cases hd
    have hcl : cStatics < s1.heap.objs.size := let ⟨_, hns, _⟩ := I1.nolimit; hns.lt
    have sz2 : (s1.heap.push o).objs.size = s1.heap.objs.size + 1 := Heap.size_push ..
    have keep3 : ∀ b u, b ≠ P → s1.heap.get? b = some u → h3.get? b = some u := fun b u hb e => hx b u hb (Heap.get?_push_of_some _ e)
    refine wpAny_builtinsFor (m := X.mg) (by rw [I1.ok.glob]; exact ((I1.mod.glob.keeps I1.bk).push o).extBut hx TB.gP) e1 e2 (keep3 _ _ e4 (I1.bk _ _ e5)) e6 e7 e8 ?_
    have hylP : yl ≠ P := fun z => by
      obtain ⟨_, e, hc1, _, hd1⟩ := _root_.id hIL
      rw [z, hPs] at e
      cases e
      cases hd1
    have hIL3 : h3.IsList yl its.toArray := by
      obtain ⟨ob, e, r⟩ := _root_.id hIL
      exact ⟨ob, keep3 _ _ hylP e, r⟩
    have hItr3 : h3.IsListIter s1.heap.objs.size yl 0 := hitr.at fun u e => hx _ u (Nat.ne_of_gt hPlt) e
    refine ⟨s1.heap.objs.size, [s1.heap.objs.size, yl], [s1.heap.objs.size], its.toArray.size, (fun i v => its.toArray[i]? = some v), (fun i h => h.IsListIter s1.heap.objs.size yl i ∧ h.IsList yl its.toArray), (fun _ => true),
      (fun i y => ∃ (a : Str), ws[i]? = some a ∧ y = .bool (pb ws a)), rfl, (fun A' hA => Walks.list hA _ _ (Nat.ne_of_lt hylt) _), ⟨hItr3, hIL3⟩, ?_, lim2.extBut hx hcP, ?_, ?_, ?_⟩
    · intro b hb
      rcases List.mem_cons.mp hb with z | z
      · rw [z]
        show s1.heap.objs.size < h3.objs.size
        omega
      · rcases List.mem_cons.mp z with z | z
        · rw [z]
          have e9 : s1.heap.objs.size ≤ h3.objs.size := by omega
          exact Nat.lt_of_lt_of_le hylt e9
        · cases z
    · intro z
      rcases List.mem_cons.mp z with z | z
      · exact Nat.ne_of_lt hcl z
      · cases z
    · intro href hhref
      refine ⟨fun A' E' i v s₂ m₂ hA hPv hn hm hk => ?_, fun A' E' i v s₂ m₂ hA hPv hp hn hm hk => ?_⟩
      · simp only [List.forIn_nil]
        exact wpAny_pure ⟨rfl, GxR.keeps_refl _⟩
      · obtain ⟨a, u, ha, rfl⟩ := hat i v hPv
        refine wpAny_mono (hel pins σ H1 s1 yl ws I1 hyl (by rw [hP]; simp) ⟨ps, hP⟩ hEx _ code A' E' a u s₂ m₂ hA (fun b o hbP e => ?_) (List.mem_of_getElem? ha) hn hm) (fun y s3 r => ?_) fun _ _ e => e
        · have hl := Heap.lt_size e
          refine hk b (List.mem_range.mpr ?_) (fun z => Nat.ne_of_lt hl (List.mem_singleton.mp z)) o (hhref b o (keep3 b o hbP e))
          show b < h3.objs.size
          have e9 : s1.heap.objs.size ≤ h3.objs.size := by omega
          exact Nat.lt_of_lt_of_le hl e9
        · exact ⟨⟨a, ha, r.1⟩, r.2⟩
    · intro g h5 tk5 gs hgb hag hsz5 hk5 W5 hgat
      simp only [GxR.passing_true, List.length_range] at W5
      have hn5 : its.toArray.size = ws.length := by rw [List.size_toArray, hlen]
      rw [hn5] at W5 hgat
      refine hQ ws H1 g _ q1 ⟨_, _, _, _, _, W5.in4_1, hgat, ?_, fun s' hm => ?_⟩
      · intro j v sj Qj Ej hy hQj
        obtain ⟨i, hij, a, ha, rfl⟩ := hy
        obtain ⟨hj, ej⟩ := List.getElem?_eq_some_iff.mp hij
        rw [List.getElem_range] at ej
        subst ej
        have hQ2 : Qj (trS (pb ws) ws j) sj := hQj
        rw [trS_some ha] at hQ2
        exact wpAny_truthy_bool hQ2
      · obtain ⟨more, em⟩ := hmore
        have nwr : ∀ b u, s1.heap.get? b = some u → b ∉ h3.objs.size :: [s1.heap.objs.size] := fun b u e hb => by
          have hl := Heap.lt_size e
          rcases List.mem_cons.mp hb with z | z
          · rw [z] at hl
            have h9 : (h3.objs.size : Nat) < s1.heap.objs.size := hl
            omega
          · rcases List.mem_cons.mp z with z | z
            · rw [z] at hl
              exact Nat.lt_irrefl _ hl
            · cases z
        have J := GxR.inv_tab (more := more) (h' := s'.heap) (g' := s'.gens) (d' := s'.drawn) (t' := s'.toks) I1 hP (fun b u hb e => hm.heap b u (nwr b u e) (hk5 b u (keep3 b u hb e)))
          (by rw [← em]; exact hm.heap P _ (nwr P _ hPs) (hk5 P _ hP3)) (AllBare.movedS (I1.bare.push hgb) hm)
        rw [GxR.sh_eta s1 s' hm.os] at J
        refine ⟨upd H1 P (.tbl (ps ++ more)), ⟨⟨ps ++ more, upd_same, by rw [← em]; exact ht3⟩, fun b hb => upd_ne hb⟩, J⟩
  refine ⟨lim2, ?_⟩
  cases hf : codeAmong gpos ps.toList with
  | none =>
    refine wpAny_genexprCodeX hcode (cd.code hP2 ht) (cd.tab hP2) hf fun c' h' tk hx hge hlt hco' _ htab' _ => ?_
    obtain ⟨o1, vs, f1, tf, fl, tg, inF, tx, tt, op, _, _, _, _, _, _, _, _, _, htr, _⟩ := hco'
    exact cont _ h' tk _ hx (Nat.le_trans hge (Nat.le_of_lt hlt)) htab'.2 ⟨_, rfl⟩ htr
  | some cv =>
    refine wpAny_genexprCode_hit hcode (cd.code hP2 ht) hf ?_
    exact cont cv (s1.heap.push o) s1.toks ps (Heap.ExtBut.refl _ _) (Nat.le_refl _) hP2 ⟨#[], by simp⟩ ht

/-- any(test of x for x in e), e a list of texts -/
def tAny1 (K : PySem.W.Frag) (P : Addr) (Ex : L2.St → Addr → List Str → Prop) (pb : List Str → Str → Bool) (te : TE) : TE := fun σ H Q => te σ H fun v H1 => ∃ (yl : Addr) (ws : List Str), v = .ref yl ∧ SqL K H1 yl (ws.map V.str) ∧ Ex σ yl ws ∧ TabG H1 P ∧ ∀ H2, Tabbed P H1 H2 → Q (.bl (ws.any (pb ws))) H2
theorem pe_any1 {c P : Addr} {elt iter : Expr} {x : Str} {px p pos gpos : Pos} {scope : Scope} {Ex : L2.St → Addr → List Str → Prop} {pb : List Str → Str → Bool} {te : TE} {k : Nat}
    (hr : Room k X.A) (hg : Gl X "any") (hm : X.mg "any" = none) (TB : TabB X.base X.mg c P) (hcode : X.env.code = .ref c) (S : GenS X.env scope x) (hi : PE X iter te) (hel : Elt1 X P scope x elt Ex pb)
    (hs : ∀ v, genFold iter X.env v = pure v)
    (he : starEach [.GeneratorExp elt [⟨.Name x px, iter, [], 0⟩] scope gpos] X.env = (false, eval (.GeneratorExp elt [⟨.Name x px, iter, [], 0⟩] scope gpos) X.env) :: starEach [] X.env := by rfl) :
    PE X (.Call (.Name "any" p) [.GeneratorExp elt [⟨.Name x px, iter, [], 0⟩] scope gpos] [] pos) (tAny1 X.K P Ex pb te) := by
  refine ⟨fun pins s σ H Q I h => ?_⟩
  refine wpAny_Call_Name_kw (ld_blt I hg hm boot_any ?_)
  refine PyProof.Rows.callWith_builtin1 ?_ he (by rfl)
  rw [he]
  show wpAny _ _ (spliced ((false, eval (.GeneratorExp elt [⟨.Name x px, iter, [], 0⟩] scope gpos) X.env) :: backTo pos (starEach [] X.env))) _ _ s
  refine Calls.spliced_cons (gen1 (R := fun ws H1 => ∀ H2, Tabbed P H1 H2 → Q (.bl (ws.any (pb ws))) H2) hr TB hcode S hi hel hs I h fun ws H1 g s5 hR hG => ?_)
  obtain ⟨fp, wr, G, F, St, W, hst, htr, hI⟩ := hG
  refine Calls.spliced_nil ?_
  refine call_any_walkS (W.self 0 _ _ _ hst ⟨g, fp, wr, G, _, F, St, _, rfl, W, hst, htr, fun s' hmv => ?_⟩)
  obtain ⟨H2, hT, J⟩ := hI s' hmv
  refine ⟨.bl _, H2, J, rfl, ?_⟩
  rw [any_trS]
  exact hR H2 hT
end

/-! ### elements -/
section
variable {prog : Program} {w : World} {A : Around} {E : Value → Shared → Prop} {s : Shared} {cenv : Env}
theorem el_name {x : Str} {p : Pos} {v : Value} {m : Str → Option Value} {Q : Value → Shared → Prop} (hk : cenv.scope.kind = .function) (hx : cenv.kindOf x = some .local) (hn : s.heap.Ns cenv.locals m) (hm : m x = some v) (h : Q v s) (hd : (x == ("__debug__" : Str)) = false := by decide) :
    wpAny (model prog w) A (eval (.Name x p) cenv) Q E s := wpAny_Name (wpAny_loadName_local hk hx hn hm h) hd
theorem el_glob {x : Str} {p : Pos} {v : Value} {mg : Str → Option Value} {Q : Value → Shared → Prop} (hk : cenv.scope.kind = .function) (hx : cenv.kindOf x = some .globalImplicit) (hg : s.heap.Ns cenv.globals mg) (hm : mg x = some v) (h : Q v s) (hd : (x == ("__debug__" : Str)) = false := by decide) :
    wpAny (model prog w) A (eval (.Name x p) cenv) Q E s := Calls.Name_function_global hk hx (Calls.loadGlobal_global hg hm h) hd
theorem el_blt {x : Str} {p : Pos} {v : Value} {mg mb : Str → Option Value} {Q : Value → Shared → Prop} (hk : cenv.scope.kind = .function) (hx : cenv.kindOf x = some .globalImplicit) (hg : s.heap.Ns cenv.globals mg) (hmiss : mg x = none) (hb : s.heap.Ns cenv.builtins mb) (hv : mb x = some v) (h : Q v s) (hd : (x == ("__debug__" : Str)) = false := by decide) :
    wpAny (model prog w) A (eval (.Name x p) cenv) Q E s := Calls.Name_function_global hk hx (Calls.loadGlobal_builtin hg hmiss hb hv h) hd
/-- len(e) of a text -/
theorem el_len {e : Expr} {p1 p3 : Pos} {mg mb : Str → Option Value} {Q : Value → Shared → Prop} {R : Str → Shared → Prop} (hk : cenv.scope.kind = .function) (hx : cenv.kindOf "len" = some .globalImplicit) (hg : s.heap.Ns cenv.globals mg) (hmiss : mg "len" = none) (hb : s.heap.Ns cenv.builtins mb) (hv : mb "len" = some (.builtin "len"))
    (he1 : wpAny (model prog w) A (eval e cenv) (fun v s' => ∃ a t, v = .str a t ∧ a.length ≤ 1000 ∧ R a s') E s)
    (h : ∀ a s' tk u, R a s' → Q (.int a.length u) { s' with toks := tk })
    (he : starEach [e] cenv = (false, eval e cenv) :: starEach [] cenv := by rfl) :
    wpAny (model prog w) A (eval (.Call (.Name "len" p1) [e] [] p3) cenv) Q E s := by
  refine wpAny_Call_Name_kw (el_blt hk hx hg hmiss hb hv ?_)
  refine PyProof.Rows.callWith_builtin1 ?_ he (by rfl)
  rw [he]
  show wpAny _ _ (spliced ((false, eval e cenv) :: backTo p3 (starEach [] cenv))) _ _ s
  refine Calls.spliced_cons (wpAny_mono he1 (fun v s' hv => ?_) fun _ _ e => e)
  obtain ⟨a, t, rfl, hl, hR⟩ := hv
  refine Calls.spliced_nil ?_
  exact PyProof.Rows.len_str (by omega) (h a s' _ _ hR)
end
end Gx2
namespace Gx2
open PySem PySem.Spec PyProof.Rows L2 GxR
section
variable {X : Cx} {P : Addr} {scope : Scope}
theorem base_keeps {pins : List (Addr × Obj)} {σ : L2.St} {H1 : Hp} {s1 s₂ : Shared} (I : Inv X pins σ H1 s1) (hP : H1 P ≠ none) (hk : ∀ b o, b ≠ P → s1.heap.get? b = some o → s₂.heap.get? b = some o) :
    ∀ b o, X.base.get? b = some o → s₂.heap.get? b = some o := fun b o e => by
  obtain ⟨e1, e2⟩ := I.bs b o e
  refine hk b o (fun z => ?_) e1
  rw [z] at e2
  exact hP e2
/-- len(row) > MOST -/
theorem elt_gt {x cN : Str} {n : Int} {t0 : Tok} {p1 p2 p3 p4 p5 : Pos} (hk : scope.kind = .function) (hl : scope.names.lookup ("len" : Str) = some .globalImplicit) (hc : scope.names.lookup cN = some .globalImplicit) (hx : scope.names.lookup x = some .local)
    (hmg : X.mg "len" = none) (hmc : X.mg cN = some (.int n t0)) (hdx : (x == ("__debug__" : Str)) = false := by decide) (hdc : (cN == ("__debug__" : Str)) = false := by decide) :
    Elt1 X P scope x (.Compare (.Call (.Name "len" p1) [.Name x p2] [] p3) [.Gt] [.Name cN p4] p5) (fun _ _ ws => ∀ a ∈ ws, a.length ≤ 1000) (fun _ a => decide (n < (a.length : Int))) := by
  intro pins σ H1 s1 yl ws I hS hP hPt hEx C code A' E' a t s₂ m₂ hA hkeep ha hn hm
  have hB := base_keeps I hP hkeep
  have hg : s₂.heap.Ns mainGlobals X.mg := I.mod.glob.keeps hB
  obtain ⟨mb, hb0, hb1⟩ := I.mod.blt
  have hb : s₂.heap.Ns builtinsNs mb := hb0.keeps hB
  have eG : (gE X scope C code).globals = mainGlobals := I.ok.glob
  refine wpAny_Compare1 ?_
  refine el_len (R := fun b s' => b = a ∧ s' = s₂) hk hl (by rw [eG]; exact hg) hmg hb ((hb1 "len" (by decide)).trans PySem.boot_len) ?_ ?_
  · exact el_name hk hx hn hm ⟨a, t, rfl, hEx a ha, rfl, rfl⟩ hdx
  · rintro b s' tk u ⟨rfl, rfl⟩
    refine el_glob hk hc (by rw [eG]; exact hg) hmc ?_ hdc
    exact PyProof.Rows.gt_int ⟨rfl, keeps_tok _ _⟩
/-- len(row) != len(rows[0]) -/
theorem elt_ne {x r : Str} {i : Nat} {p1 p2 p3 p4 p5 p6 p7 p8 p9 : Pos} {k0 : Nat} (hk : scope.kind = .function) (hl : scope.names.lookup ("len" : Str) = some .globalImplicit) (hx : scope.names.lookup x = some .local) (hr : scope.names.lookup r = some .free)
    (hfree : ∀ c, X.env.cells.lookup r = some c → (cloFrom X.env.cells scope.names []).lookup r = some c) (hN : X.N[i]? = some r) (hv : X.env.kindOf r = some .cell)
    (hmg : X.mg "len" = none) (hdx : (x == ("__debug__" : Str)) = false := by decide) (hdr : (r == ("__debug__" : Str)) = false := by decide) (hdcr : (r == ("__classdict__" : Str)) = false := by decide) :
    Elt1 X P scope x (.Compare (.Call (.Name "len" p1) [.Name x p2] [] p3) [.NotEq] [.Call (.Name "len" p4) [.Subscript (.Name r p5) (.Constant (.int 0) k0 p6) p7] [] p8] p9)
      (fun σ yl ws => (∀ a ∈ ws, a.length ≤ 1000) ∧ σ[i]? = some (some (.ref yl))) (fun ws a => (a.length : Int) != ((ws.headD "").length : Int)) := by
  intro pins σ H1 s1 yl ws I hS hP hPt hEx C code A' E' a t s₂ m₂ hA hkeep ha hn hm
  obtain ⟨hEx, hσ⟩ := hEx
  have hB := base_keeps I hP hkeep
  have hg : s₂.heap.Ns mainGlobals X.mg := I.mod.glob.keeps hB
  obtain ⟨mb, hb0, hb1⟩ := I.mod.blt
  have hb : s₂.heap.Ns builtinsNs mb := hb0.keeps hB
  have eG : (gE X scope C code).globals = mainGlobals := I.ok.glob
  obtain ⟨ps, hPt⟩ := hPt
  have hPs : s1.heap.get? P = some { cls := .none, data := .fields ps } := I.hok P _ hPt
  -- rows itself
  obtain ⟨m, hn0, hl0⟩ := I.loc
  obtain ⟨u, ru, lk⟩ := hl0 i r _ hN hσ (.inr (.inl hv))
  obtain rfl : u = Value.ref yl := ru
  have hcell : ∃ c, X.env.cells.lookup r = some c ∧ s1.heap.IsCell c (some (.ref yl)) := by
    rcases lk with ⟨hk2, _⟩ | ⟨_, c, hc, hcell⟩
    · rw [hv] at hk2
      cases hk2
    · exact ⟨c, hc, hcell⟩
  obtain ⟨c, hc, oc, hoc, hdc⟩ := hcell
  have hcP : c ≠ P := fun z => by
    rw [z, hPs] at hoc
    cases hoc
    cases hdc
  have hcell2 : s₂.heap.IsCell c (some (.ref yl)) := ⟨oc, hkeep c oc hcP hoc, hdc⟩
  obtain ⟨its, rv, hl2, hz⟩ := I.list hS
  have hIL := hl2.isList
  have hylP : yl ≠ P := fun z => by
    obtain ⟨_, e, hc1, _, hd1⟩ := _root_.id hIL
    rw [z, hPs] at e
    cases e
    cases hd1
  have hIL2 : s₂.heap.IsList yl its.toArray := by
    obtain ⟨ob, e, q⟩ := _root_.id hIL
    exact ⟨ob, hkeep yl ob hylP e, q⟩
  obtain ⟨b0, rest, rfl⟩ : ∃ b0 rest, ws = b0 :: rest := by
    cases ws with
    | nil => cases ha
    | cons b0 rest => exact ⟨b0, rest, rfl⟩
  obtain ⟨u0, hu0, ru0⟩ := rv.get (i := 0) (x := V.str b0) rfl
  obtain ⟨t0, rfl⟩ := (show ∃ t, u0 = Value.str b0 t from ru0)
  refine wpAny_Compare1 ?_
  refine el_len (R := fun b s' => b = a ∧ s' = s₂) hk hl (by rw [eG]; exact hg) hmg hb ((hb1 "len" (by decide)).trans PySem.boot_len) ?_ ?_
  · exact el_name hk hx hn hm ⟨a, t, rfl, hEx a ha, rfl, rfl⟩ hdx
  · rintro b s' tk u ⟨rfl, rfl⟩
    refine el_len (R := fun b s3 => b = b0 ∧ ∃ tk3, s3 = { s' with toks := tk3 }) hk hl (by rw [eG]; exact hg) hmg hb ((hb1 "len" (by decide)).trans PySem.boot_len) ?_ ?_
    · refine Subscript_ (wpAny_Name (wpAny_loadName_free hk hr (hfree c hc) hcell2 ?_ hdcr) hdr)
      refine wpAny_Constant_int ?_
      exact item_listR hIL2 (by decide) (by decide) (by simpa using hu0) ⟨b0, t0, rfl, hEx b0 List.mem_cons_self, rfl, _, rfl⟩ (by with_unfolding_all rfl)
    · rintro b s3 tk2 u2 ⟨rfl, tk3, rfl⟩
      exact PyProof.Rows.ne_int ⟨rfl, keeps_tok _ _⟩
/-- sign not in SIGNS -/
theorem elt_notin {y cN : Str} {z : Str} {t0 : Tok} {p1 p2 p3 : Pos} (hk : scope.kind = .function) (hc : scope.names.lookup cN = some .globalImplicit) (hy : scope.names.lookup y = some .local) (hmc : X.mg cN = some (.str z t0)) (hgP : mainGlobals ≠ P) (hdy : (y == ("__debug__" : Str)) = false := by decide) (hdc : (cN == ("__debug__" : Str)) = false := by decide) :
    Elt2 X P scope y (.Compare (.Name y p1) [.NotIn] [.Name cN p2] p3) (fun c => !decide (c ∈ z.cps.toList)) := by
  intro pins σ H1 s1 I C code A' E' c u s₂ m₂ hA hkeep hn hm
  have eG : (gE X scope C code).globals = mainGlobals := I.ok.glob
  have hg : s₂.heap.Ns mainGlobals X.mg := (I.mod.glob.keeps I.bk).at' fun o e => hkeep _ o hgP e
  refine wpAny_Compare1 ?_
  refine el_name hk hy hn hm ?_ hdy
  refine el_glob hk hc (by rw [eG]; exact hg) hmc ?_ hdc
  refine PyProof.Rows.notIn_str ?_
  rw [PySem.StrLaws.found_one]
  exact ⟨rfl, keeps_refl _⟩
end
end Gx2
namespace Sf
open PySem L2
def top (i : Nat) : Stmt := PySem.Challenge.pw_slabfloor_k05_drawn_and_read.main.body.getD i (.Pass ⟨0, 0, 0, 0⟩)
abbrev s_wall : Stmt := top 0
abbrev s_refuse_wrong : Stmt := top 16
abbrev s_sign_at : Stmt := top 17
abbrev s_neighbours : Stmt := top 18
abbrev s_neighbours_of_cells : Stmt := top 19
abbrev srefuse_no_cell : Stmt := top 20
abbrev sFloor___init__ : Stmt := inClass (top 21) 0
abbrev sFloor_cells : Stmt := inClass (top 21) 1
abbrev sFloor_has : Stmt := inClass (top 21) 2
abbrev sFloor_row_and_column : Stmt := inClass (top 21) 3
abbrev sFloor_sign : Stmt := inClass (top 21) 4
abbrev sFloor_shade : Stmt := inClass (top 21) 5
abbrev sFloor_may : Stmt := inClass (top 21) 6
abbrev sFloor_beside : Stmt := inClass (top 21) 7
abbrev sLaying___init__ : Stmt := inClass (top 23) 0
abbrev sLaying_put : Stmt := inClass (top 23) 1
abbrev sLaying_lift : Stmt := inClass (top 23) 2
abbrev sLaying_bare : Stmt := inClass (top 23) 3
abbrev sLaying_slabs : Stmt := inClass (top 23) 4
abbrev sLaying_copied : Stmt := inClass (top 23) 5
abbrev s_sign_drawn : Stmt := top 30
abbrev sdrawn : Stmt := top 31
abbrev s_slabs_begun : Stmt := top 32
abbrev sread : Stmt := top 33
abbrev s_law_cell_at : Stmt := top 35
abbrev s_law_number : Stmt := top 36
abbrev s_law_rows : Stmt := top 37
abbrev s_law_may : Stmt := top 38
abbrev s_law_cells : Stmt := top 39
abbrev s_law_beside : Stmt := top 40
abbrev s_law_over : Stmt := top 41
abbrev s_law_made : Stmt := top 42
abbrev s_law_half : Stmt := top 43
abbrev s_law_drawn : Stmt := top 44
abbrev s_law_faulty : Stmt := top 45
abbrev s_law_due : Stmt := top 46
abbrev s_law_one_class : Stmt := top 47
abbrev s_law_covered : Stmt := top 48
abbrev s_law_put_again : Stmt := top 49
abbrev s_law_bare_taken : Stmt := top 50
abbrev s_law_told_well : Stmt := top 51
abbrev s_law_read : Stmt := top 52
abbrev s_law_less : Stmt := top 53
abbrev slaw : Stmt := top 54
/-- all that was tracked is as it was, but for the table at P, which may have grown -/
structure Sm (P : Addr) (H H' : Hp) : Prop where
  k : ∀ b o, b ≠ P → H b = some o → H' b = some o
  t : GxR.TabG H P → GxR.TabG H' P
theorem Sm.of {P : Addr} {H H' : Hp} (e : Same H H') : Sm P H H' := ⟨fun b o _ h => e b o h, fun ⟨ps, h, q⟩ => ⟨ps, e _ _ h, q⟩⟩
theorem Sm.refl (P : Addr) (H : Hp) : Sm P H H := .of (Same.refl H)
theorem Sm.trans {P : Addr} {H H1 H2 : Hp} (a : Sm P H H1) (b : Sm P H1 H2) : Sm P H H2 := ⟨fun c o hc h => b.k c o hc (a.k c o hc h), fun h => b.t (a.t h)⟩
theorem Sm.tabbed {P : Addr} {H H' : Hp} (h : GxR.Tabbed P H H') : Sm P H H' := ⟨fun b o hb e => by rw [h.2 b hb]; exact e, fun _ => h.1⟩
theorem Sm.free {P : Addr} {H H' : Hp} (e : Sm P H H') (hT : GxR.TabG H P) {l : Addr} (h : H' l = none) : H l = none := by
  by_cases hl : l = P
  · obtain ⟨ps, z, _⟩ := e.t hT
    rw [hl, z] at h
    cases h
  · cases q : H l with
    | none => rfl
    | some o =>
      rw [e.k l o hl q] at h
      cases h
theorem Sm.seq {P : Addr} {K : PySem.W.Frag} {H H' : Hp} {a : Addr} {xs : List V} (e : Sm P H H') (hT : GxR.TabG H P) (h : SqL K H a xs) : SqL K H' a xs := by
  obtain ⟨ps, z, _⟩ := hT
  rcases h with (h | ⟨o, h⟩) | h
  · exact .inl (.inl (e.k _ _ (fun q => by rw [q, z] at h; cases h) h))
  · exact .inl (.inr ⟨o, e.k _ _ (fun q => by rw [q, z] at h; cases h) h⟩)
  · exact .inr h
theorem Same.new {H : Hp} {a : Addr} {o : HO} (h : H a = none) : Same H (upd H a o) := fun b u e => by
  rw [upd_ne (ne_of_none e h)]
  exact e
/-! ### the script's cells -/
/-- script[k], 0 beyond -/
def cellN (ns : List Int) (k : Nat) : Int := ns.getD k 0
theorem int_at {ns : List Int} {j : Nat} (h : j < ns.length) : (ns.map V.int)[j]? = some (V.int (ns.getD j 0)) := by
  rw [List.getElem?_map, List.getElem?_eq_getElem h, List.getD_eq_getElem?_getD, List.getElem?_eq_getElem h] <;> rfl
def spCellAt (K : PySem.W.Frag) : Sp := fun vs H Q _ => ∃ (a : Addr) (ns : List Int) (k : Nat), vs = [.ref a, .int k] ∧ SqL K H a (ns.map V.int) ∧ Q (.int (cellN ns k)) H
def spNumber (K : PySem.W.Frag) : Sp := fun vs H Q _ => ∃ (a : Addr) (ns : List Int) (k : Nat), vs = [.ref a, .int k] ∧ SqL K H a (ns.map V.int) ∧ ns.length ≤ 63 ∧ k ≤ 100000 ∧ ∀ r : Int, Q (.int r) H
section
variable {P : Program} {w : World} {K : PySem.W.Frag} {mg : Str → Option Value} {base : Heap}
theorem scCell : FnScope ["_law_script", "_law_k"] ["_law_script", "_law_k"] (defScope s_law_cell_at) := ⟨rfl, rfl, rfl, by decide +kernel, rfl, by decide +kernel, by decide +kernel⟩
theorem ok_cell {f : Addr} {fd : FuncData} (F : Fun K "_law_cell_at" "_law_cell_at" s_law_cell_at f fd) (gL : mg "len" = none) : FnOk P w K mg base CX0 1 f fd ["_law_script", "_law_k"] (spCellAt K) := by
  refine F.ok scCell (fun vs H Q E h => ?_) (fun cdv A outer s H vs Q E hr h => ?_)
  · obtain ⟨a, ns, k, rfl, _⟩ := h
    rfl
  · obtain ⟨a, ns, k, rfl, hS, hQ⟩ := h
    refine ⟨_, pss_cons (ps_if (pt_cmpR op_lt (pv 1) (pe_callB call_len (by rfl) gL PySem.boot_len (pa_cons (pv 0) pa_nil)) (nomark _)) (pss_one (ps_ret (pe_ix ix_list (pv 0) (pv 1) (fun _ _ => rfl)))) pss_nil) (pss_one (ps_ret pe_int)), ?_⟩
    refine ⟨_, rfl, _, rfl, _, _, rfl, .inl ⟨_, hS, rfl⟩, _, _, rfl, rfl, _, rfl, ?_⟩
    rw [List.length_map]
    refine ite2 (fun hc => ?_) (fun hc => ?_)
    · have hlt : k < ns.length := by
        have := of_decide_eq_true hc
        omega
      exact ⟨_, rfl, _, rfl, _, _, _, _, rfl, rfl, hS, atI_nat (int_at hlt), hQ⟩
    · have hge : ns.length ≤ k := by
        have := of_decide_eq_false (Bool.eq_false_iff.mpr hc)
        omega
      have e : cellN ns k = 0 := by
        unfold cellN
        rw [List.getD_eq_getElem?_getD, List.getElem?_eq_none hge] <;> rfl
      rw [e] at hQ
      exact hQ
theorem scNumber : FnScope ["_law_script", "_law_k", "_law_base"] ["_law_script", "_law_k"] (defScope s_law_number) := ⟨rfl, rfl, rfl, by decide +kernel, rfl, by decide +kernel, by decide +kernel⟩
theorem ok_number {f : Addr} {fd : FuncData} (F : Fun K "_law_number" "_law_number" s_law_number f fd) (gL : mg "len" = none) : FnOk P w K mg base CX0 1 f fd ["_law_script", "_law_k"] (spNumber K) := by
  refine F.ok scNumber (fun vs H Q E h => ?_) (fun cdv A outer s H vs Q E hr h => ?_)
  · obtain ⟨a, ns, k, rfl, _⟩ := h
    rfl
  · obtain ⟨a, ns, k, rfl, hS, hl, hk, hQ⟩ := h
    refine ⟨_, pss_cons (ps_if (pt_cmpR op_eq (pe_callB call_len (by rfl) gL PySem.boot_len (pa_cons (pv 0) pa_nil)) pe_int (nomark _)) (pss_one (ps_ret (pv 1))) pss_nil)
      (pss_cons (ps_set (i := 2) scNumber.nd rfl (Or.inl rfl) (pe_op op_add (pe_ix ix_list (pv 0) (pe_op op_modN (pe_op op_add pe_int (pv 1)) (pe_callB call_len (by rfl) gL PySem.boot_len (pa_cons (pv 0) pa_nil))) (fun _ _ => rfl)) (pe_op op_mul pe_int (pe_op op_fdivN (pv 1) (pe_callB call_len (by rfl) gL PySem.boot_len (pa_cons (pv 0) pa_nil))))))
      (pss_one (ps_ret (pe_op op_mod (pe_op op_mul (pv 2) pe_int) pe_int)))), ?_⟩
    refine ⟨_, rfl, _, _, rfl, .inl ⟨_, hS, rfl⟩, rfl, _, rfl, ?_⟩
    rw [List.length_map]
    refine ite2 (fun hc => ?_) (fun hc => ?_)
    · exact ⟨_, rfl, hQ _⟩
    · have hne : ns.length ≠ 0 := by
        intro e
        apply hc
        rw [e]
        rfl
      have hpos : (0 : Int) < (ns.length : Int) := by omega
      have hm0 : 0 ≤ Int.fmod (2 + (k : Int)) (ns.length : Int) := Int.fmod_nonneg_of_pos _ hpos
      have hm1 : Int.fmod (2 + (k : Int)) (ns.length : Int) < (ns.length : Int) := Int.fmod_lt_of_pos _ hpos
      obtain ⟨j, hj⟩ : ∃ j : Nat, Int.fmod (2 + (k : Int)) (ns.length : Int) = (j : Int) := ⟨(Int.fmod (2 + (k : Int)) (ns.length : Int)).toNat, by omega⟩
      have hjl : j < ns.length := by omega
      refine ⟨_, rfl, _, rfl, _, _, rfl, rfl, _, rfl, _, _, rfl, .inl ⟨_, hS, rfl⟩, _, _, rfl, rfl, ?_, ?_⟩
      · rw [List.length_map]
        omega
      · rw [List.length_map]
        refine ⟨_, _, _, _, rfl, rfl, hS, at_of hj (int_at hjl), ?_⟩
        refine ⟨_, rfl, _, rfl, _, _, rfl, .inl ⟨_, hS, rfl⟩, _, _, rfl, rfl, ?_, ?_⟩
        · rw [List.length_map]
          exact ⟨by omega, by omega⟩
        · rw [List.length_map]
          refine ⟨_, _, rfl, rfl, .inl ⟨by decide, by decide⟩, _, _, rfl, rfl, ?_⟩
          exact ⟨_, rfl, _, _, rfl, rfl, .inr ⟨by decide, by decide⟩, _, _, rfl, rfl, (by show (0 : Int) < 65521; decide), hQ _⟩
end
end Sf
namespace Sf
open PySem L2
theorem join_flat : ∀ ws : List Str, (Txt.join ("" : Str) ws).cps.toList = Gx2.flat ws := by
  intro ws
  show (Builtin.Str.glued _ ws).cps.toList = _
  rw [StrLaws.glued_eq_join]
  have e0 : ("" : Str) = ⟨#[]⟩ := by decide +kernel
  induction ws with
  | nil => rfl
  | cons a r ih =>
    cases r with
    | nil =>
      show a.cps.toList = (a :: []).flatMap _
      simp
    | cons b r =>
      show (a ++ ("" : Str) ++ Str.join ("" : Str) (b :: r)).cps.toList = (a :: b :: r).flatMap (fun a => a.cps.toList)
      rw [Str.cps_append, Str.cps_append, Array.toList_append, Array.toList_append, ih, List.flatMap_cons, e0]
      simp
/-- a sign that a floor may have -/
def okSign (c : Nat) : Prop := c = 46 ∨ c = 45 ∨ c = 124 ∨ c = 35
def wide (ws : List Str) : Nat := (ws.headD "").length
structure Wf (ws : List Str) : Prop where
  high : ws.length ≤ 12
  len : ∀ a ∈ ws, a.length = wide ws
  wid : wide ws ≤ 12
  sign : ∀ a ∈ ws, ∀ c ∈ a.cps.toList, okSign c
theorem empty_len : ("" : Str).length = 0 := by decide +kernel
theorem Wf.of {ws : List Str} {n : Nat} (h1 : ws.length ≤ 12) (h2 : ∀ a ∈ ws, a.length = n) (h3 : n ≤ 12) (h4 : ∀ a ∈ ws, ∀ c ∈ a.cps.toList, okSign c) : Wf ws := by
  cases ws with
  | nil => exact ⟨h1, fun a ha => (by cases ha), (by show ("" : Str).length ≤ 12; rw [empty_len]; omega), h4⟩
  | cons b r =>
    have e : Sf.wide (b :: r) = n := h2 b List.mem_cons_self
    exact ⟨h1, fun a ha => (h2 a ha).trans e.symm, (by rw [e]; exact h3), h4⟩
/-- the six menus -/
def menus : List Str := [".", "....-|#.", ".-|#", "..#", "...-||", ".#-.-."]
structure MenuOk (z : Str) : Prop where
  pos : 0 < z.length
  sm : z.length ≤ 8
  sg : ∀ c ∈ z.cps.toList, okSign c
theorem menu_b : menus.all (fun z => decide (0 < z.length) && decide (z.length ≤ 8) && z.cps.toList.all (fun c => c == 46 || c == 45 || c == 124 || c == 35)) = true := by decide +kernel
theorem menu_ok : ∀ z ∈ menus, MenuOk z := fun z hz => by
  have h := List.all_eq_true.mp menu_b z hz
  simp only [Bool.and_eq_true, decide_eq_true_eq, List.all_eq_true, Bool.or_eq_true, beq_iff_eq] at h
  exact ⟨h.1.1, h.1.2, fun c hc => by
    have q := h.2 c hc
    unfold okSign
    omega⟩
theorem mod_nat (i : Int) {k : Int} (h : 0 < k) : ∃ n : Nat, i % k = (n : Int) ∧ (n : Int) < k :=
  ⟨(i % k).toNat, (Int.toNat_of_nonneg (Int.emod_nonneg _ (by omega))).symm, by rw [Int.toNat_of_nonneg (Int.emod_nonneg _ (by omega))]; exact Int.emod_lt_of_pos _ h⟩
/-- _law_rows: some rows of a floor, a new list -/
def spRows (K : PySem.W.Frag) : Sp := fun vs H Q _ => ∃ (a : Addr) (ns : List Int), vs = [.ref a] ∧ SqL K H a (ns.map V.int) ∧ ns.length ≤ 63 ∧
  ∀ (l : Addr) (ws : List Str) (H' : Hp), Wf ws → Same H H' → H l = none → H' l = some (.lst (ws.map V.str)) → Q (.ref l) H'
theorem sum_len {c n : Nat} : ∀ {ys : List Str}, (∀ y ∈ ys, y.length = c) → (ys.map (·.length)).sum = ys.length * c
  | [], _ => by simp
  | y :: r, h => by
    rw [List.map_cons, List.sum_cons, h y List.mem_cons_self, sum_len (n := n) (fun z hz => h z (List.mem_cons_of_mem _ hz)), List.length_cons, Nat.succ_mul]
    omega
theorem len_flat1 : ∀ {ys : List Str}, (∀ y ∈ ys, y.length = 1) → (Gx2.flat ys).length = ys.length
  | [], _ => rfl
  | y :: r, h => by
    have e : y.cps.toList.length = 1 := by
      rw [Array.length_toList]
      exact h y List.mem_cons_self
    show ((y :: r).flatMap _).length = _
    rw [List.flatMap_cons, List.length_append, e, List.length_cons, Nat.add_comm 1]
    show (Gx2.flat r).length + 1 = _
    rw [len_flat1 (fun z hz => h z (List.mem_cons_of_mem _ hz))]
section
variable {P : Program} {w : World} {K : PySem.W.Frag} {mg : Str → Option Value} {base : Heap}
def nRows : List Str := ["_law_script", "_law_first", "_law_high", "_law_wide", "_law_menu", "_law_rows_here", "_law_row", "_law_signs", "_law_column"]
theorem scRows : FnScope nRows ["_law_script"] (defScope s_law_rows) := ⟨rfl, rfl, rfl, by decide +kernel, rfl, by decide +kernel, by decide +kernel⟩
theorem ok_rows {f fc fn : Addr} {fd fdc fdn : FuncData} (F : Fun K "_law_rows" "_law_rows" s_law_rows f fd)
    (GC : FnOk P w K mg base CX0 1 fc fdc ["_law_script", "_law_k"] (spCellAt K)) (gC : mg "_law_cell_at" = some (.ref fc)) (kC : PySem.W.keepIn K (.ref fc) = true) (bC : Binds K fdc ["_law_script", "_law_k"] [])
    (GN : FnOk P w K mg base CX0 1 fn fdn ["_law_script", "_law_k"] (spNumber K)) (gN : mg "_law_number" = some (.ref fn)) (kN : PySem.W.keepIn K (.ref fn) = true) (bN : Binds K fdn ["_law_script", "_law_k"] [])
    (gL : mg "len" = none) (gR : mg "range" = none) : FnOk P w K mg base CX0 2 f fd ["_law_script"] (spRows K) := by
  refine F.ok scRows (fun vs H Q E h => ?_) (fun cdv A outer s H vs Q E hr h => ?_)
  · obtain ⟨a, ns, rfl, _⟩ := h
    rfl
  · obtain ⟨a, ns, rfl, hS, hl, hQ⟩ := h
    refine ⟨_, pss_cons (ps_set (i := 1) scRows.nd rfl (Or.inl rfl) (pe_call GC hr rfl gC kC bC .nil pass0 (pa_cons (pv 0) (pa_cons pe_int pa_nil))))
      (pss_cons (ps_set (i := 2) scRows.nd rfl (Or.inl rfl) (pe_op op_mod (pv 1) pe_int))
      (pss_cons (ps_set (i := 3) scRows.nd rfl (Or.inr rfl) (pe_op op_mod (pe_op op_fdiv (pv 1) pe_int) pe_int))
      (C8.pss_cut (ps_if (pt_cmpR op_eq (pe_op op_mod (pe_op op_fdiv (pv 1) pe_int) pe_int) pe_int (nomark _)) (pss_cons (ps_set (i := 2) scRows.nd rfl (Or.inl rfl) (pe_op op_mod (pe_op op_fdiv (pv 1) pe_int) pe_int)) (pss_one (ps_set (i := 3) scRows.nd rfl (Or.inr rfl) (pe_op op_mod (pe_op op_fdiv (pv 1) pe_int) pe_int)))) pss_nil)
      (C8.pss_cut (ps_if (pt_cmpR op_eq (pe_op op_mod (pe_op op_fdiv (pv 1) pe_int) pe_int) pe_int (nomark _)) (pss_cons (ps_set (i := 2) scRows.nd rfl (Or.inl rfl) (pe_op op_mod (pe_op op_fdiv (pv 1) pe_int) pe_int)) (pss_one (ps_set (i := 3) scRows.nd rfl (Or.inr rfl) (pe_op op_mod (pe_op op_fdiv (pv 1) pe_int) pe_int)))) pss_nil)
      (C8.pss_cut (ps_if (PW.pt (pw_and (pt_cmpR op_eq (pe_op op_mod (pe_op op_fdiv (pv 1) pe_int) pe_int) pe_int (nomark _)) (pw_and1 (pt_cmpR op_eq (pe_op op_mod (pe_op op_fdiv (pv 1) pe_int) pe_int) pe_int (nomark _))))) (pss_cons (ps_set (i := 2) scRows.nd rfl (Or.inl rfl) (pe_op op_mod (pe_op op_fdiv (pv 1) pe_int) pe_int)) (pss_one (ps_set (i := 3) scRows.nd rfl (Or.inr rfl) (pe_op op_mod (pe_op op_fdiv (pv 1) pe_int) pe_int)))) pss_nil)
      (pss_cons (ps_set (i := 4) scRows.nd rfl (Or.inr rfl) (pe_ix ix_list (pe_lst (pa_cons pe_str (pa_cons pe_str (pa_cons pe_str (pa_cons pe_str (pa_cons pe_str (pa_cons pe_str pa_nil))))))) (pe_op op_mod (pe_call GC hr rfl gC kC bC .nil pass0 (pa_cons (pv 0) (pa_cons pe_int pa_nil))) pe_int) (fun _ _ => rfl)))
      (pss_cons (ps_set (i := 5) scRows.nd rfl (Or.inl rfl) (pe_lst pa_nil))
      (pss_cons (ps_for PassesOwn.never rfl (pi_range1 rfl gR (pa_cons (pv 2) pa_nil)) (pg_name (i := 6) scRows.nd rfl (Or.inr rfl))
        (pss_cons (ps_setLc (i := 7) (own := [("_law_column", 8)]) (g := gName 8) (tt := tYes) rfl scRows.nd rfl rfl (sw_true rfl rfl rfl (by decide +kernel)) (pi_range1 rfl gR (pa_cons (pv 3) pa_nil)) (blkOk_by (N := nRows) (sc := defScope s_law_rows) (by decide +kernel)) (fun _ _ _ _ _ => pg_name (i := 8) scRows.nd rfl (Or.inl rfl)) (fun _ _ _ _ _ => pts_nil)
            (fun _ _ _ _ _ => pe_ix ix_str (pv 4) (pe_op op_modN (pe_call GN hr rfl gN kN bN .nil pass0 (pa_cons (pv 0) (pa_cons (pe_op op_add (pe_op op_mul (pv 6) (pv 3)) (pv 8)) pa_nil))) (pe_callB call_len_str (by rfl) gL PySem.boot_len (pa_cons (pv 4) pa_nil))) (fun _ _ => rfl)))
        (pss_one (ps_expr (pe_bm PySem.F.plainAttrs_list PySem.F.slot_list_append PySem.F.type_list_append mt_append (pv 5) (pa_cons (pe_join pe_str (pv 7)) pa_nil))))))
      (pss_one (ps_ret (pv 5))))))))))), ?_⟩
    refine ⟨_, rfl, a, ns, 0, rfl, hS, ?_⟩
    refine ⟨_, rfl, _, _, rfl, rfl, (by show (0 : Int) < 7; decide), ?_⟩
    refine ⟨_, rfl, _, _, rfl, rfl, ⟨by decide, by decide⟩, _, _, rfl, rfl, (by show (0 : Int) < 7; decide), ?_⟩
    generalize cellN ns 0 = first
    let Mid : L2.St → Hp → Prop := fun σ' H' => ∃ hi wd : Nat, hi ≤ 12 ∧ wd ≤ 12 ∧ H = H' ∧ σ' = [some (.ref a), some (.int first), some (.int hi), some (.int wd), none, none, none, none, none]
    have mk : ∀ {i j : Int} {k1 k2 : Int}, 0 < k1 → k1 ≤ 13 → 0 < k2 → k2 ≤ 13 → Mid [some (.ref a), some (.int first), some (.int (i % k1)), some (.int (j % k2)), none, none, none, none, none] H := fun {i j k1 k2} h1 h2 h3 h4 => by
      obtain ⟨n1, e1, l1⟩ := mod_nat i h1
      obtain ⟨n2, e2, l2⟩ := mod_nat j h3
      exact ⟨n1, n2, by omega, by omega, rfl, by rw [e1, e2]⟩
    refine ⟨Mid, ?_, ?_⟩
    · refine ⟨_, rfl, _, _, rfl, rfl, ⟨by decide, by decide⟩, _, _, rfl, rfl, (by show (0 : Int) < 8; decide), rfl, _, rfl, ?_⟩
      refine ite2 (fun hc => ?_) (fun hc => ?_)
      · refine ⟨_, rfl, _, _, rfl, rfl, ⟨by decide, by decide⟩, _, _, rfl, rfl, (by show (0 : Int) < 13; decide), ?_⟩
        refine ⟨_, rfl, _, _, rfl, rfl, ⟨by decide, by decide⟩, _, _, rfl, rfl, (by show (0 : Int) < 5; decide), ?_⟩
        exact mk (by decide) (by decide) (by decide) (by decide)
      · exact mk (by decide) (by decide) (by decide) (by decide)
    rintro _ _ ⟨hi, wd, h1, h2, rfl, rfl⟩
    refine ⟨Mid, ?_, ?_⟩
    · refine ⟨_, rfl, _, _, rfl, rfl, ⟨by decide, by decide⟩, _, _, rfl, rfl, (by show (0 : Int) < 8; decide), rfl, _, rfl, ?_⟩
      refine ite2 (fun hc => ?_) (fun hc => ?_)
      · refine ⟨_, rfl, _, _, rfl, rfl, ⟨by decide, by decide⟩, _, _, rfl, rfl, (by show (0 : Int) < 5; decide), ?_⟩
        refine ⟨_, rfl, _, _, rfl, rfl, ⟨by decide, by decide⟩, _, _, rfl, rfl, (by show (0 : Int) < 13; decide), ?_⟩
        exact mk (by decide) (by decide) (by decide) (by decide)
      · exact ⟨hi, wd, h1, h2, rfl, rfl⟩
    clear h1 h2
    rintro _ _ ⟨hi, wd, h1, h2, rfl, rfl⟩
    refine ⟨Mid, ?_, ?_⟩
    · refine ⟨_, rfl, _, _, rfl, rfl, ⟨by decide, by decide⟩, _, _, rfl, rfl, (by show (0 : Int) < 8; decide), rfl, _, rfl, ?_⟩
      refine ite2 (fun hc => ?_) (fun hc => ?_)
      · refine ⟨_, rfl, _, _, rfl, rfl, ⟨by decide, by decide⟩, _, _, rfl, rfl, (by show (0 : Int) < 4; decide), rfl, _, rfl, ?_⟩
        refine ite2 (fun hc => ?_) (fun hc => ?_)
        · refine ⟨_, rfl, _, _, rfl, rfl, ⟨by decide, by decide⟩, _, _, rfl, rfl, (by show (0 : Int) < 13; decide), ?_⟩
          refine ⟨_, rfl, _, _, rfl, rfl, ⟨by decide, by decide⟩, _, _, rfl, rfl, (by show (0 : Int) < 13; decide), ?_⟩
          exact mk (by decide) (by decide) (by decide) (by decide)
        · exact ⟨hi, wd, h1, h2, rfl, rfl⟩
      · exact ⟨hi, wd, h1, h2, rfl, rfl⟩
    clear h1 h2
    rintro _ _ ⟨hi, wd, h1, h2, rfl, rfl⟩
    clear mk Mid
    -- the menu
    refine ⟨(by show 6 ≤ sizeLine; decide), fun lm hlm => ?_⟩
    have s0 : Same H (upd H lm (.lst (menus.map V.str))) := Same.new hlm
    refine ⟨_, rfl, a, ns, 1, rfl, s0.seq hS, _, _, rfl, rfl, (by show (0 : Int) < 6; decide), ?_⟩
    obtain ⟨mi, hmi, hml⟩ := mod_nat (cellN ns 1) (k := 6) (by decide)
    have hml2 : mi < 6 := by omega
    obtain ⟨z, hz⟩ : ∃ z, menus[mi]? = some z := ⟨_, List.getElem?_eq_getElem (show mi < menus.length from hml2)⟩
    have Z := menu_ok z (List.mem_of_getElem? hz)
    refine ⟨lm, menus.map V.str, _, .str z, rfl, rfl, .inl (.inl upd_same), at_of hmi (by rw [List.getElem?_map, hz] <;> rfl), ?_⟩
    refine ⟨(by show 0 ≤ sizeLine; decide), fun lr hlr => ?_⟩
    have s1 : Same H (upd (upd H lm (.lst (menus.map V.str))) lr (.lst [])) := s0.trans (Same.new hlr)
    have hlr0 : H lr = none := s0.free hlr
    -- for row in range(high)
    refine ⟨_, rfl, (hi : Int), rfl, by omega, by omega, for_range (n := (hi : Int).toNat) (fun i σ H2 => ∃ (ws : List Str) (v6 v7 : Option V), σ = [some (.ref a), some (.int first), some (.int hi), some (.int wd), some (.str z), some (.ref lr), v6, v7, none] ∧ Same H H2 ∧ H2 lr = some (.lst (ws.map V.str)) ∧ ws.length = i ∧ (∀ x ∈ ws, x.length = wd) ∧ ∀ x ∈ ws, ∀ c ∈ x.cps.toList, okSign c)
      ⟨[], none, none, rfl, s1, upd_same, rfl, (fun x hx => by cases hx), fun x hx => by cases hx⟩ ?_ ?_⟩
    · rintro i σ H2 hi2 ⟨ws, v6, v7, rfl, s2, hw, hwl, hw1, hw2⟩
      have hil : i < hi := by omega
      -- signs = [..]
      refine ⟨_, rfl, (wd : Int), rfl, by omega, by omega, fun D hD => ?_⟩
      refine lc_range (lo := 0) (n := (wd : Int).toNat) (fun j H3 => ∃ ys : List Str, Same H2 H3 ∧ H3 D = some (.lst (ys.map V.str)) ∧ ys.length = j ∧ (∀ y ∈ ys, y.length = 1) ∧ ∀ y ∈ ys, ∀ c ∈ y.cps.toList, okSign c) ?_ ?_ ?_
      · exact ⟨[], Same.new hD, upd_same, rfl, fun x hx => (by cases hx), fun x hx => (by cases hx)⟩
      · rintro j H3 hj ⟨ys, s3, hD3, hyl, hy1, hy2⟩
        have hjl : j < wd := by omega
        refine ⟨rfl, ?_⟩
        refine ⟨_, rfl, _, rfl, _, rfl, _, rfl, _, _, rfl, rfl, .inl ⟨by omega, by omega⟩, _, rfl, _, _, rfl, rfl, a, ns, i * wd + j, ?_, s3.seq (s2.seq hS), hl, ?_, fun r => ?_⟩
        · show [V.ref a, V.int ((0 + (i : Int)) * (wd : Int) + (0 + (j : Int)))] = [V.ref a, V.int ((i * wd + j : Nat) : Int)]
          rw [Int.zero_add, Int.zero_add, Int.natCast_add, Int.natCast_mul]
        · have : i * wd ≤ 12 * 12 := Nat.mul_le_mul (by omega) h2
          omega
        · have hp := Z.pos
          have hs8 := Z.sm
          have hzs : z.length ≤ sizeLine := Nat.le_trans hs8 (by decide)
          refine ⟨_, rfl, z, rfl, hzs, _, _, rfl, rfl, by omega, ?_⟩
          have hm0 : 0 ≤ Int.fmod r (z.length : Int) := Int.fmod_nonneg_of_pos _ (by omega)
          have hm1 : Int.fmod r (z.length : Int) < (z.length : Int) := Int.fmod_lt_of_pos _ (by omega)
          obtain ⟨jj, hjj⟩ : ∃ jj : Nat, Int.fmod r (z.length : Int) = (jj : Int) := ⟨(Int.fmod r (z.length : Int)).toNat, (Int.toNat_of_nonneg hm0).symm⟩
          have hjj2 : jj < z.cps.size := by
            have : (z.length : Int) = (z.cps.size : Int) := rfl
            omega
          have hcc : z.cps.toList[jj]? = some z.cps[jj] := by rw [Array.getElem?_toList, Array.getElem?_eq_getElem hjj2]
          refine ⟨z, _, z.cps[jj], rfl, rfl, hzs, by rw [hjj]; exact atI_nat hcc, ys.map V.str, hD3, ?_, ys ++ [⟨#[z.cps[jj]]⟩], ?_, ?_, ?_, ?_, ?_⟩
          · rw [List.length_map]
            exact small1000 (by omega)
          · exact fun b o e => by rw [upd_ne (ne_of_none e hD)]; exact s3 b o e
          · rw [upd_same, List.map_append] <;> rfl
          · rw [List.length_append, hyl] <;> rfl
          · intro y hy
            rcases List.mem_append.mp hy with q | q
            · exact hy1 y q
            · rw [List.mem_singleton.mp q] <;> rfl
          · intro y hy c hc
            rcases List.mem_append.mp hy with q | q
            · exact hy2 y q c hc
            · rw [List.mem_singleton.mp q] at hc
              have e : c = z.cps[jj] := List.mem_singleton.mp hc
              rw [e]
              exact Z.sg _ (List.mem_of_getElem? hcc)
      · rintro H3 ⟨ys, s3, hD3, hyl, hy1, hy2⟩
        have hyl2 : ys.length = wd := by omega
        have nD : D ≠ lr := fun e => by rw [e, hw] at hD; cases hD
        have jl : (Gx2.flat ys).length = wd := by rw [len_flat1 hy1, hyl2]
        have jc : (Txt.join ("" : Str) ys).cps.toList = Gx2.flat ys := join_flat ys
        have jlen : (Txt.join ("" : Str) ys).length = wd := by
          show (Txt.join ("" : Str) ys).cps.size = wd
          rw [← Array.length_toList, jc, jl]
        have hw3 : H3 lr = some (.lst (ws.map V.str)) := s3 _ _ hw
        refine ⟨_, rfl, .inl ⟨rfl, _, SqL.of hw3⟩, ⟨_, rfl⟩, _, rfl, _, D, ys, rfl, rfl, .inl (SqL.of hD3), ?_, ?_⟩
        · rw [sum_len (n := 0) hy1, hyl2, empty_len]
          omega
        · refine ⟨lr, _, _, rfl, rfl, hw3, by rw [List.length_map]; exact small1000 (by omega), ?_⟩
          refine ⟨ws ++ [Txt.join ("" : Str) ys], _, _, rfl, ?_, ?_, ?_, ?_, ?_⟩
          · exact fun b o e => by rw [upd_ne (ne_of_none e hlr0)]; exact s3 b o (s2 b o e)
          · rw [upd_same, List.map_append] <;> rfl
          · rw [List.length_append, hwl] <;> rfl
          · intro x hx
            rcases List.mem_append.mp hx with q | q
            · exact hw1 x q
            · rw [List.mem_singleton.mp q]
              exact jlen
          · intro x hx c hc
            rcases List.mem_append.mp hx with q | q
            · exact hw2 x q c hc
            · rw [List.mem_singleton.mp q, jc] at hc
              obtain ⟨y, hy, hcy⟩ := List.mem_flatMap.mp hc
              exact hy2 y hy c hcy
    · rintro σ H2 ⟨ws, v6, v7, rfl, s2, hw, hwl, hw1, hw2⟩
      exact ⟨_, rfl, hQ lr ws H2 (Wf.of (by omega) hw1 h2 hw2) s2 hlr0 hw⟩
end
end Sf
namespace Sf
open PySem L2 Gx2
/-- a def whose code object stands at c -/
structure FunC (K : PySem.W.Frag) (x qual : Str) (st : Stmt) (f : Addr) (fd : FuncData) (c : Addr) : Prop where
  ex : ∃ (oc : Value) (od : Option Addr) (kV doc pm : Value) (an : Option Addr) (ct : Value) (osl : Array (Option Value)),
    fd = PySem.W.fnOf x qual (defArgs st) (defBody st) (defScope st) .none kV doc pm an (.ref c) ct ∧ K.lookup f = some ⟨oc, od, .func fd, osl⟩ ∧ PySem.W.codeIn K (.ref c) qual = true
  kp : PySem.W.keepIn K (.ref f) = true
/-- _refuse_wrong of rows that are a floor's -/
def spRefuse (K : PySem.W.Frag) (P : Addr) : Sp := fun vs H Q _ => ∃ (l : Addr) (ws : List Str), vs = [.ref l] ∧ SqL K H l (ws.map V.str) ∧ Wf ws ∧ GxR.TabG H P ∧ ∀ H', Sm P H H' → Q .non H'
theorem any_false {α : Type} {l : List α} {p : α → Bool} (h : ∀ a ∈ l, p a = false) : l.any p = false := by
  rw [List.any_eq_false]
  intro a ha
  rw [h a ha]
  exact Bool.false_ne_true
theorem free_none {names : List (Str × NameKind)} {cells : List (Str × Addr)} (h : (names.all fun y => !decide (y.2 = .free)) = true) : ∀ y ∈ names, y.2 = .free → ∃ c, cells.lookup y.1 = some c := fun y hy e => by
  have q := List.all_eq_true.mp h y hy
  rw [e] at q
  cases q
theorem free_one {names : List (Str × NameKind)} {cells : List (Str × Addr)} {x : Str} {c : Addr} (h : (names.all fun y => !decide (y.2 = .free) || decide (y.1 = x)) = true) (hc : cells.lookup x = some c) : ∀ y ∈ names, y.2 = .free → ∃ c, cells.lookup y.1 = some c := fun y hy e => by
  have q := List.all_eq_true.mp h y hy
  rw [e] at q
  have q2 : y.1 = x := by simpa using q
  rw [q2]
  exact ⟨c, hc⟩
theorem iteTd {c A B : Prop} [Decidable c] (hc : c) (h : A) : if decide c = true then A else B := by
  rw [decide_eq_true hc]
  exact iteT h
theorem iteNS2 {c A B : Prop} [Decidable c] (hc : ¬ c) (h : B) : if decide c = true then A else B := by
  rw [decide_eq_false hc]
  exact iteF h
section
variable {P : Program} {w : World} {K : PySem.W.Frag} {mg : Str → Option Value} {base : Heap}
theorem scRefuse : FnScope ["rows"] ["rows"] (defScope s_refuse_wrong) := ⟨rfl, rfl, rfl, by decide +kernel, rfl, by decide +kernel, by decide +kernel⟩
theorem ok_refuse {f c Pt : Addr} {fd : FuncData} {tM tS : Tok} (F : FunC K "_refuse_wrong" "_refuse_wrong" s_refuse_wrong f fd c) (TB : GxR.TabB base mg c Pt) (gL : mg "len" = none) (gA : mg "any" = none) (gM : mg "MOST" = some (.int 12 tM)) (gS : mg "SIGNS" = some (.str ".-|#" tS)) :
    FnOk P w K mg base CX0 1 f fd ["rows"] (spRefuse K Pt) := by
  obtain ⟨oc, od, kV, doc, pm, an, ct, osl, rfl, lk, hcd⟩ := F.ex
  refine fn_of lk hcd scRefuse (fun vs H Q E h => ?_) fun A outer s H vs Q E hr hsp => ?_
  · obtain ⟨l, ws, rfl, _⟩ := h
    rfl
  · obtain ⟨l, ws, rfl, hS, hw, hT, hQ⟩ := hsp
    have hs1000 : ∀ a ∈ ws, a.length ≤ 1000 := fun a ha => by
      have := hw.len a ha
      have := hw.wid
      omega
    refine ⟨_, pss_cons (ps_if (PW.pt (pw_or (pt_cmpR op_gt (pe_callB call_len (by rfl) gL PySem.boot_len (pa_cons (pv 0) pa_nil)) (pe_glob (v := .int 12) rfl gM ⟨_, rfl⟩) (nomark _))
        (pw_or1 (pt_val (pe_any1 hr rfl gA TB rfl ⟨rfl, rfl, by decide +kernel, rfl, rfl, free_none (by decide +kernel)⟩ (pv 0) (elt_gt rfl rfl rfl rfl gL gM) (fun _ => rfl)))))) (pss_one ps_never) pss_nil)
      (pss_cons (ps_if (pt_val (pe_any1 hr rfl gA TB rfl ⟨rfl, rfl, by decide +kernel, rfl, rfl, free_one (by decide +kernel) (x := "rows") (c := s.heap.objs.size + 1) rfl⟩ (pv 0) (elt_ne (i := 0) rfl rfl rfl rfl (fun c hc => by (show (List.lookup _ [(_, (List.lookup _ _).getD 0)]) = _; rw [hc]; rfl)) rfl rfl gL) (fun _ => rfl))) (pss_one ps_never) pss_nil)
      (pss_one (ps_if (pt_val (pe_any2 hr rfl gA TB rfl ⟨rfl, rfl, by decide +kernel, rfl, rfl, free_none (by decide +kernel)⟩ rfl rfl (pv 0) (elt_notin rfl rfl rfl gS TB.gP) (fun _ => rfl))) (pss_one ps_never) pss_nil))), ?_⟩
    refine ⟨_, rfl, _, _, rfl, .inl ⟨_, hS, rfl⟩, _, _, rfl, rfl, _, rfl, ?_⟩
    have hh := hw.high
    refine iteNS2 (by rw [List.length_map]; omega) ?_
    refine ⟨_, rfl, l, ws, rfl, hS, hs1000, hT, fun H1 hT1 => ?_⟩
    have S1 := Sm.tabbed hT1
    have e1 : ws.any (fun a => decide ((12 : Int) < (a.length : Int))) = false := any_false fun a ha => decide_eq_false (by have := hw.len a ha; have := hw.wid; omega)
    refine ⟨_, rfl, ?_⟩
    rw [e1]
    refine iteF ?_
    refine ⟨_, rfl, l, ws, rfl, S1.seq hT hS, ⟨hs1000, rfl⟩, hT1.1, fun H2 hT2 => ?_⟩
    have S2 := S1.trans (Sm.tabbed hT2)
    have e2 : ws.any (fun a => (a.length : Int) != ((ws.headD "").length : Int)) = false := any_false fun a ha => by
      have := hw.len a ha
      rw [this]
      exact bne_self_eq_false _
    refine ⟨_, rfl, ?_⟩
    rw [e2]
    refine iteF ?_
    refine ⟨_, rfl, l, ws, rfl, S2.seq hT hS, hT2.1, fun H3 hT3 => ?_⟩
    have S3 := S2.trans (Sm.tabbed hT3)
    have e3 : (flat ws).any (fun c => !decide (c ∈ (".-|#" : Str).cps.toList)) = false := any_false fun c hc => by
      obtain ⟨a, ha, hca⟩ := List.mem_flatMap.mp hc
      have q := hw.sign a ha c hca
      have ez : (".-|#" : Str).cps.toList = [46, 45, 124, 35] := by decide +kernel
      rw [ez]
      unfold okSign at q
      rcases q with q | q | q | q <;> (rw [q]; decide)
    refine ⟨_, rfl, ?_⟩
    rw [e3]
    refine iteF ?_
    exact hQ _ S3
end
end Sf
namespace Sf
open PySem L2
/-! ### the floor as plain functions -/
def signAt (ws : List Str) (r c : Nat) : Nat := (ws.getD r ("" : Str)).cps.getD c 35
def sgN (ws : List Str) (r c : Int) : Nat := if 0 ≤ r ∧ r < (ws.length : Int) ∧ 0 ≤ c ∧ c < (wide ws : Int) then signAt ws r.toNat c.toNat else 35
def sg1 (n : Nat) : Str := ⟨#[n]⟩
def steps : List (Int × Int × Str) := [(-1, 0, ".|"), (0, -1, ".-"), (0, 1, ".-"), (1, 0, ".|")]
def tk (z : Str) (n : Nat) : Bool := decide (n ∈ z.cps.toList)
def stepOk (ws : List Str) (r c : Int) (p : Int × Int × Str) : Bool := tk p.2.2 (sgN ws r c) && tk p.2.2 (sgN ws (r + p.1) (c + p.2.1))
def stepTo (wd : Nat) (r c : Int) (p : Int × Int × Str) : Int := (r + p.1) * (wd : Int) + c + p.2.1
def nbs (ws : List Str) (r c : Int) : List Int := (steps.filter (stepOk ws r c)).map (stepTo (wide ws) r c)
theorem Same.sqT {K : PySem.W.Frag} {H H' : Hp} {a : Addr} {xs : List V} (e : Same H H') (h : SqT K H a xs) : SqT K H' a xs := by
  rcases h with (h | ⟨o, h⟩) | h
  · exact .inl (.inl (e _ _ h))
  · exact .inl (.inr ⟨o, e _ _ h⟩)
  · exact .inr h
theorem row_at {ws : List Str} {r : Nat} (h : r < ws.length) : ws[r]? = some (ws.getD r ("" : Str)) := by
  rw [List.getD_eq_getElem?_getD, List.getElem?_eq_getElem h] <;> rfl
theorem Wf.rlen {ws : List Str} (w : Wf ws) {r : Nat} (h : r < ws.length) : (ws.getD r ("" : Str)).length = wide ws := w.len _ (List.mem_of_getElem? (row_at h))
theorem sign_at {ws : List Str} (w : Wf ws) {r c : Nat} (h : r < ws.length) (hc : c < wide ws) : (ws.getD r ("" : Str)).cps.toList[c]? = some (signAt ws r c) := by
  have e : (ws.getD r ("" : Str)).cps.size = wide ws := w.rlen h
  have hc2 : c < (ws.getD r ("" : Str)).cps.size := by omega
  unfold signAt
  rw [Array.getElem?_toList, Array.getElem?_eq_getElem hc2, Array.getD_eq_getD_getElem?, Array.getElem?_eq_getElem hc2] <;> rfl
theorem sgN_in {ws : List Str} {r c : Nat} (h : r < ws.length) (hc : c < wide ws) : sgN ws (r : Int) (c : Int) = signAt ws r c := by
  unfold sgN
  rw [if_pos ⟨by omega, by omega, by omega, by omega⟩]
  rfl
theorem str_at {ws : List Str} {r : Nat} (h : r < ws.length) : (ws.map V.str)[r]? = some (V.str (ws.getD r ("" : Str))) := by
  rw [List.getElem?_map, row_at h] <;> rfl
def spSignAt (K : PySem.W.Frag) : Sp := fun vs H Q _ => ∃ (l : Addr) (ws : List Str) (r c : Int), vs = [.ref l, .int r, .int c] ∧ SqT K H l (ws.map V.str) ∧ Wf ws ∧ Q (.str (sg1 (sgN ws r c))) H
def spNbs (K : PySem.W.Frag) : Sp := fun vs H Q _ => ∃ (l : Addr) (ws : List Str) (r c : Nat), vs = [.ref l, .int r, .int c] ∧ SqT K H l (ws.map V.str) ∧ Wf ws ∧ r < ws.length ∧ c < wide ws ∧
  ∀ (lf : Addr) (H' : Hp), Same H H' → H lf = none → H' lf = some (.lst ((nbs ws r c).map V.int)) → Q (.ref lf) H'
/-- STEPS, as the top has written it -/
def StepsAt (K : PySem.W.Frag) (t0 : Addr) : Prop := ∃ ts : List Addr, ts.length = 4 ∧ (∀ H, SqT K H t0 (ts.map V.ref)) ∧ ∀ (i : Nat) (t : Addr) (p : Int × Int × Str), ts[i]? = some t → steps[i]? = some p → ∀ H, SqT K H t [.int p.1, .int p.2.1, .str p.2.2]
section
variable {P : Program} {w : World} {K : PySem.W.Frag} {mg : Str → Option Value} {base : Heap}
theorem scSignAt : FnScope ["rows", "row", "column"] ["rows", "row", "column"] (defScope s_sign_at) := ⟨rfl, rfl, rfl, by decide +kernel, rfl, by decide +kernel, by decide +kernel⟩
theorem ok_signAt {f : Addr} {fd : FuncData} {tP : Tok} (F : Fun K "_sign_at" "_sign_at" s_sign_at f fd) (gL : mg "len" = none) (gP : mg "PILLAR" = some (.str "#" tP)) : FnOk P w K mg base CX0 1 f fd ["rows", "row", "column"] (spSignAt K) := by
  refine F.ok scSignAt (fun vs H Q E h => ?_) (fun cdv A outer s H vs Q E hr h => ?_)
  · obtain ⟨l, ws, r, c, rfl, _⟩ := h
    rfl
  · obtain ⟨l, ws, r, c, rfl, hS, hw, hQ⟩ := h
    have hh := hw.high
    have hwd := hw.wid
    have eP : ("#" : Str) = sg1 35 := by decide +kernel
    have out : ¬ (0 ≤ r ∧ r < (ws.length : Int) ∧ 0 ≤ c ∧ c < (wide ws : Int)) → Q (.str ("#" : Str)) H := fun hn => by
      rw [eP]
      have e : sgN ws r c = 35 := by
        unfold sgN
        rw [if_neg hn]
      rw [e] at hQ
      exact hQ
    refine ⟨_, pss_cons (ps_if (PW.pt (pw_and (pt_chain op_le op_lt pe_int (pv 1) (pe_callB call_len (by rfl) gL PySem.boot_len (pa_cons (pv 0) pa_nil)))
        (pw_and1 (pt_chain op_le op_lt pe_int (pv 2) (pe_callB call_len_str (by rfl) gL PySem.boot_len (pa_cons (pe_ix ix_tup (pv 0) (pv 1) (fun _ _ => rfl)) pa_nil)))))) (pss_one (ps_ret (pe_ix ix_str (pe_ix ix_tup (pv 0) (pv 1) (fun _ _ => rfl)) (pv 2) (fun _ _ => rfl)))) pss_nil)
      (pss_one (ps_ret (pe_glob (v := .str "#") rfl gP ⟨_, rfl⟩))), ?_⟩
    refine ⟨_, rfl, _, _, rfl, rfl, _, rfl, ?_⟩
    refine ite2 (fun h1 => ?_) (fun h1 => ?_)
    · have h1' : 0 ≤ r := of_decide_eq_true h1
      refine ⟨_, rfl, _, _, rfl, .inr ⟨_, hS, rfl⟩, _, _, rfl, rfl, _, rfl, ?_⟩
      rw [List.length_map]
      refine ite2 (fun h2 => ?_) (fun h2 => ?_)
      · have h2' : r < (ws.length : Int) := of_decide_eq_true h2
        obtain ⟨rn, rfl⟩ : ∃ rn : Nat, r = (rn : Int) := ⟨r.toNat, by omega⟩
        have hrn : rn < ws.length := by omega
        have hlr := hw.rlen hrn
        refine ⟨_, rfl, _, _, rfl, rfl, _, rfl, ?_⟩
        refine ite2 (fun h3 => ?_) (fun h3 => ?_)
        · have h3' : 0 ≤ c := of_decide_eq_true h3
          refine ⟨_, rfl, _, rfl, _, _, _, _, rfl, rfl, hS, atI_nat (str_at hrn), _, rfl, Nat.le_trans (by rw [hlr]; exact hwd) (by decide), _, _, rfl, rfl, _, rfl, ?_⟩
          rw [hlr]
          refine ite2 (fun h4 => ?_) (fun h4 => ?_)
          · have h4' : c < (wide ws : Int) := of_decide_eq_true h4
            obtain ⟨cn, rfl⟩ : ∃ cn : Nat, c = (cn : Int) := ⟨c.toNat, by omega⟩
            have hcn : cn < wide ws := by omega
            refine ⟨_, rfl, _, rfl, _, _, _, _, rfl, rfl, hS, atI_nat (str_at hrn), _, rfl, _, _, _, rfl, rfl, Nat.le_trans (by rw [hlr]; exact hwd) (by decide), atI_nat (sign_at hw hrn hcn), ?_⟩
            rw [sgN_in hrn hcn] at hQ
            exact hQ
          · exact out fun q => h4 (decide_eq_true q.2.2.2)
        · exact ⟨false, rfl, out fun q => h3 (decide_eq_true q.2.2.1)⟩
      · exact out fun q => h2 (decide_eq_true q.2.1)
    · exact ⟨false, rfl, out fun q => h1 (decide_eq_true q.1)⟩
def nNbs : List Str := ["rows", "row", "column", "wide", "sign", "found", "down", "right", "takers"]
theorem scNbs : FnScope nNbs ["rows", "row", "column"] (defScope s_neighbours) := ⟨rfl, rfl, rfl, by decide +kernel, rfl, by decide +kernel, by decide +kernel⟩
theorem ok_nbs {f fs t0 : Addr} {fd fds : FuncData} (F : Fun K "_neighbours" "_neighbours" s_neighbours f fd) (GS : FnOk P w K mg base CX0 1 fs fds ["rows", "row", "column"] (spSignAt K)) (gS : mg "_sign_at" = some (.ref fs)) (kS : PySem.W.keepIn K (.ref fs) = true) (bS : Binds K fds ["rows", "row", "column"] [])
    (gL : mg "len" = none) (gT : mg "STEPS" = some (.ref t0)) (T : StepsAt K t0) : FnOk P w K mg base CX0 2 f fd ["rows", "row", "column"] (spNbs K) := by
  refine F.ok scNbs (fun vs H Q E h => ?_) (fun cdv A outer s H vs Q E hr h => ?_)
  · obtain ⟨l, ws, r, c, rfl, _⟩ := h
    rfl
  · obtain ⟨l, ws, r, c, rfl, hS, hw, hr1, hc1, hQ⟩ := h
    have hh := hw.high
    have hwd := hw.wid
    have hlr := hw.rlen hr1
    have sz : (ws.getD r ("" : Str)).length ≤ sizeLine := Nat.le_trans (by rw [hlr]; exact hwd) (by decide)
    obtain ⟨ts, htl, hT0, hT⟩ := T
    refine ⟨_, pss_cons (ps_set (i := 3) scNbs.nd rfl (Or.inl rfl) (pe_callB call_len_str (by rfl) gL PySem.boot_len (pa_cons (pe_ix ix_tup (pv 0) (pv 1) (fun _ _ => rfl)) pa_nil)))
      (pss_cons (ps_set (i := 4) scNbs.nd rfl (Or.inl rfl) (pe_ix ix_str (pe_ix ix_tup (pv 0) (pv 1) (fun _ _ => rfl)) (pv 2) (fun _ _ => rfl)))
      (pss_cons (ps_set (i := 5) scNbs.nd rfl (Or.inl rfl) (pe_lst pa_nil))
      (pss_cons (ps_for PassesOwn.never rfl (pi_tup (pe_glob (v := .ref t0) rfl gT rfl)) (pg_tup (by rfl) (pgs_cons (pg_name (i := 6) scNbs.nd rfl (Or.inl rfl)) (pgs_cons (pg_name (i := 7) scNbs.nd rfl (Or.inl rfl)) (pgs_cons (pg_name (i := 8) scNbs.nd rfl (Or.inl rfl)) pgs_nil))))
        (pss_one (ps_if (PW.pt (pw_and (pt_cmpR op_in_sign (pv 4) (pv 8) rfl) (pw_and1 (pt_cmpR op_in_sign (pe_call GS hr rfl gS kS bS .nil pass0 (pa_cons (pv 0) (pa_cons (pe_op op_add (pv 1) (pv 6)) (pa_cons (pe_op op_add (pv 2) (pv 7)) pa_nil)))) (pv 8) rfl))))
          (pss_one (ps_expr (pe_bm PySem.F.plainAttrs_list PySem.F.slot_list_append PySem.F.type_list_append mt_append (pv 5) (pa_cons (pe_op op_add (pe_op op_add (pe_op op_mul (pe_op op_add (pv 1) (pv 6)) (pv 3)) (pv 2)) (pv 7)) pa_nil)))) pss_nil)))
      (pss_one (ps_ret (pv 5)))))), ?_⟩
    refine ⟨_, rfl, _, rfl, _, _, _, _, rfl, rfl, hS, atI_nat (str_at hr1), _, rfl, sz, ?_⟩
    rw [hlr]
    refine ⟨_, rfl, _, rfl, _, _, _, _, rfl, rfl, hS, atI_nat (str_at hr1), _, rfl, _, _, _, rfl, rfl, sz, atI_nat (sign_at hw hr1 hc1), ?_⟩
    refine ⟨(by show 0 ≤ sizeLine; decide), fun lf hlf => ?_⟩
    refine ⟨t0, rfl, ⟨_, hT0 _⟩, for_tup (K := K) (a := t0) (xs := ts.map V.ref) (fun i σ H2 => ∃ v6 v7 v8 : Option V, σ = [some (.ref l), some (.int r), some (.int c), some (.int (wide ws)), some (.str ⟨#[signAt ws r c]⟩), some (.ref lf), v6, v7, v8] ∧ Same H H2 ∧
      H2 lf = some (.lst ((((steps.take i).filter (stepOk ws r c)).map (stepTo (wide ws) r c)).map V.int))) ⟨none, none, none, rfl, Same.new hlf, upd_same⟩ (fun _ _ _ _ _ => hT0 _) ?_ ?_⟩
    · rintro i y σ H2 hi ⟨v6, v7, v8, rfl, s2, h5⟩
      have hil : i < 4 := by
        have := (List.getElem?_eq_some_iff.mp hi).1
        rw [List.length_map] at this
        omega
      obtain ⟨t, ht, rfl⟩ : ∃ t, ts[i]? = some t ∧ y = V.ref t := by
        rw [List.getElem?_map] at hi
        cases e : ts[i]? with
        | none => rw [e] at hi; cases hi
        | some t => rw [e] at hi; exact ⟨t, rfl, (Option.some.inj hi).symm⟩
      obtain ⟨p, hp⟩ : ∃ p, steps[i]? = some p := ⟨_, List.getElem?_eq_getElem (show i < steps.length from hil)⟩
      obtain ⟨d, e, z⟩ := p
      have hstep := hT i t _ ht hp
      have tke : steps.take (i + 1) = steps.take i ++ [(d, e, z)] := by
        rw [List.take_add_one, hp] <;> rfl
      have en : sgN ws (r : Int) (c : Int) = signAt ws r c := sgN_in hr1 hc1
      have noK : ¬ stepOk ws r c (d, e, z) = true → ((steps.take (i + 1)).filter (stepOk ws r c)).map (stepTo (wide ws) r c) = ((steps.take i).filter (stepOk ws r c)).map (stepTo (wide ws) r c) := fun hn => by
        rw [tke, List.filter_append, List.filter_cons_of_neg hn, List.filter_nil, List.append_nil]
      have yesK : stepOk ws r c (d, e, z) = true → ((steps.take (i + 1)).filter (stepOk ws r c)).map (stepTo (wide ws) r c) = ((steps.take i).filter (stepOk ws r c)).map (stepTo (wide ws) r c) ++ [stepTo (wide ws) r c (d, e, z)] := fun hn => by
        rw [tke, List.filter_append, List.filter_cons_of_pos hn, List.filter_nil, List.map_append] <;> rfl
      have hdb : d.natAbs ≤ 1 ∧ e.natAbs ≤ 1 := by
        have : ∀ q ∈ steps, q.1.natAbs ≤ 1 ∧ q.2.1.natAbs ≤ 1 := by decide +kernel
        exact this _ (List.mem_of_getElem? hp)
      refine ⟨t, _, rfl, hstep _, rfl, _, _, rfl, _, _, rfl, _, _, rfl, rfl, ?_⟩
      refine ⟨_, rfl, _, rfl, _, _, rfl, rfl, _, rfl, ?_⟩
      refine ite2 (fun h1 => ?_) (fun h1 => ?_)
      · refine ⟨_, rfl, _, rfl, _, rfl, _, _, rfl, rfl, _, rfl, _, rfl, _, _, rfl, rfl, l, ws, _, _, rfl, Same.sqT s2 hS, hw, ?_⟩
        refine ⟨_, rfl, _, _, rfl, rfl, _, rfl, ?_⟩
        refine ite2 (fun h2 => ?_) (fun h2 => ?_)
        · have hok : stepOk ws r c (d, e, z) = true := by
            unfold stepOk tk
            rw [en]
            exact Bool.and_eq_true_iff.mpr ⟨h1, h2⟩
          refine ⟨_, rfl, .inl ⟨rfl, _, SqL.of h5⟩, _, rfl, _, rfl, _, _, rfl, rfl, _, rfl, _, _, rfl, rfl, .inl ⟨by omega, by omega⟩, _, rfl, _, _, rfl, rfl, _, rfl, _, _, rfl, rfl, lf, _, _, rfl, rfl, h5, ?_, ?_⟩
          · rw [List.length_map, List.length_map]
            refine small1000 (Nat.le_trans (List.length_filter_le _ _) ?_)
            rw [List.length_take]
            omega
          · refine ⟨_, _, _, rfl, ?_, ?_⟩
            · exact fun b o q => by rw [upd_ne (ne_of_none q hlf)]; exact s2 b o q
            · rw [upd_same, yesK hok, List.map_append] <;> rfl
        · refine ⟨_, _, _, rfl, s2, ?_⟩
          rw [noK]
          · exact h5
          · intro q
            unfold stepOk tk at q
            exact h2 (Bool.and_eq_true_iff.mp q).2
      · refine ⟨_, _, _, rfl, s2, ?_⟩
        rw [noK]
        · exact h5
        · intro q
          unfold stepOk tk at q
          rw [en] at q
          exact h1 (Bool.and_eq_true_iff.mp q).1
    · rintro σ H2 ⟨v6, v7, v8, rfl, s2, h5⟩
      refine ⟨_, rfl, hQ lf H2 s2 hlf ?_⟩
      rw [h5]
      have e4 : steps.take (ts.map V.ref).length = steps := by
        rw [List.length_map, htl]
        rfl
      rw [e4]
      rfl
end
end Sf
namespace Sf
open PySem L2
/-- the sign at a place -/
def atP (ws : List Str) (p : Nat) : Nat := signAt ws (p / wide ws) (p % wide ws)
/-- the cells among the first n places -/
def cellsTo (ws : List Str) (n : Nat) : List Nat := (List.range n).filter fun p => decide (atP ws p ≠ 35)
def cellsOf (ws : List Str) : List Nat := cellsTo ws (ws.length * wide ws)
def nbsP (ws : List Str) (p : Nat) : List Int := nbs ws ((p / wide ws : Nat) : Int) ((p % wide ws : Nat) : Int)
theorem cellsTo_succ (ws : List Str) (n : Nat) : cellsTo ws (n + 1) = if atP ws n ≠ 35 then cellsTo ws n ++ [n] else cellsTo ws n := by
  unfold cellsTo
  rw [List.range_succ, List.filter_append]
  by_cases h : atP ws n ≠ 35
  · rw [if_pos h]
    simp [List.filter_cons, h]
  · rw [if_neg h]
    simp only [Decidable.not_not] at h
    simp [List.filter_cons, h]
theorem cellsTo_lt {ws : List Str} {n p : Nat} (h : p ∈ cellsTo ws n) : p < n := List.mem_range.mp (List.mem_filter.mp h).1
theorem cellsTo_mem {ws : List Str} {n p : Nat} : p ∈ cellsTo ws n ↔ p < n ∧ atP ws p ≠ 35 := by
  unfold cellsTo
  rw [List.mem_filter, List.mem_range, decide_eq_true_eq]
theorem cellsTo_len (ws : List Str) (n : Nat) : (cellsTo ws n).length ≤ n := by
  have := List.length_filter_le (fun p => decide (atP ws p ≠ 35)) (List.range n)
  rw [List.length_range] at this
  exact this
/-- the table: each cell's place, and the address of the list of the cells beside it -/
def tab (f : Nat → Addr) (ps : List Nat) : List (Key × V) := ps.map fun (p : Nat) => ((Sum.inl (p : Int) : Key), V.ref (f p))
theorem valV_tab (f : Nat → Addr) (i : Int) : ∀ ps : List Nat, valV (tab f ps) (Sum.inl i : Key) = if (0 ≤ i ∧ i.toNat ∈ ps) then some (.ref (f i.toNat)) else none
  | [] => by
    rw [if_neg (fun q => by cases q.2)]
    rfl
  | p :: r => by
    show valV (((Sum.inl (p : Int) : Key), V.ref (f p)) :: tab f r) _ = _
    by_cases e : (p : Int) = i
    · subst e
      rw [valV_pos rfl, if_pos ⟨by omega, by rw [Int.toNat_natCast]; exact List.mem_cons_self⟩, Int.toNat_natCast]
    · rw [valV_neg (fun q => e (Sum.inl.inj q)), valV_tab f i r]
      by_cases h : 0 ≤ i ∧ i.toNat ∈ r
      · rw [if_pos h, if_pos ⟨h.1, List.mem_cons_of_mem _ h.2⟩]
      · rw [if_neg h, if_neg]
        rintro ⟨h0, h1⟩
        rcases List.mem_cons.mp h1 with q | q
        · exact e (by omega)
        · exact h ⟨h0, q⟩
theorem tab_congr {f g : Nat → Addr} {ps : List Nat} (h : ∀ p ∈ ps, f p = g p) : tab f ps = tab g ps := by
  unfold tab
  exact List.map_congr_left fun p hp => by rw [h p hp]
/-- the table stands at d -/
structure TabAt (H : Hp) (d : Addr) (ws : List Str) (ps : List Nat) (f : Nat → Addr) : Prop where
  dc : H d = some (.dK (tab f ps))
  ls : ∀ p ∈ ps, H (f p) = some (.lst ((nbsP ws p).map V.int))
theorem TabAt.same {H H' : Hp} {d : Addr} {ws : List Str} {ps : List Nat} {f : Nat → Addr} (t : TabAt H d ws ps f) (s : Same H H') : TabAt H' d ws ps f := ⟨s _ _ t.dc, fun p hp => s _ _ (t.ls p hp)⟩
theorem ne_tbl {H : Hp} {P a : Addr} {o : HO} (hT : GxR.TabG H P) (h : H a = some o) (ho : ∀ ps, o ≠ .tbl ps) : a ≠ P := fun e => by
  obtain ⟨ps, z, _⟩ := hT
  rw [e, z] at h
  exact ho ps (Option.some.inj h).symm
theorem TabAt.sm {P : Addr} {H H' : Hp} {d : Addr} {ws : List Str} {ps : List Nat} {f : Nat → Addr} (t : TabAt H d ws ps f) (hT : GxR.TabG H P) (s : Sm P H H') : TabAt H' d ws ps f :=
  ⟨s.k _ _ (ne_tbl hT t.dc (fun _ z => by cases z)) t.dc, fun p hp => s.k _ _ (ne_tbl hT (t.ls p hp) (fun _ z => by cases z)) (t.ls p hp)⟩
def spTable (K : PySem.W.Frag) : Sp := fun vs H Q _ => ∃ (l : Addr) (ws : List Str), vs = [.ref l, .int (wide ws)] ∧ SqT K H l (ws.map V.str) ∧ Wf ws ∧
  ∀ (d : Addr) (f : Nat → Addr) (H' : Hp), Same H H' → H d = none → TabAt H' d ws (cellsOf ws) f → (∀ p ∈ cellsOf ws, H (f p) = none) → Q (.ref d) H'
section
variable {P : Program} {w : World} {K : PySem.W.Frag} {mg : Str → Option Value} {base : Heap}
def nTable : List Str := ["rows", "wide", "table", "row", "column"]
theorem scTable : FnScope nTable ["rows", "wide"] (defScope s_neighbours_of_cells) := ⟨rfl, rfl, rfl, by decide +kernel, rfl, by decide +kernel, by decide +kernel⟩
theorem ok_table {f fn : Addr} {fd fdn : FuncData} {tP : Tok} (F : Fun K "_neighbours_of_cells" "_neighbours_of_cells" s_neighbours_of_cells f fd) (GN : FnOk P w K mg base CX0 2 fn fdn ["rows", "row", "column"] (spNbs K)) (gN : mg "_neighbours" = some (.ref fn)) (kN : PySem.W.keepIn K (.ref fn) = true) (bN : Binds K fdn ["rows", "row", "column"] [])
    (gL : mg "len" = none) (gR : mg "range" = none) (gP : mg "PILLAR" = some (.str "#" tP)) : FnOk P w K mg base CX0 3 f fd ["rows", "wide"] (spTable K) := by
  refine F.ok scTable (fun vs H Q E h => ?_) (fun cdv A outer s H vs Q E hr h => ?_)
  · obtain ⟨l, ws, rfl, _⟩ := h
    rfl
  · obtain ⟨l, ws, rfl, hS, hw, hQ⟩ := h
    have hu := hu_of hr
    have hh := hw.high
    have hwd := hw.wid
    refine ⟨_, pss_cons (ps_set (i := 2) scTable.nd rfl (Or.inl rfl) pe_dnewK)
      (pss_cons (ps_for PassesOwn.never rfl (pi_range1 rfl gR (pa_cons (pe_callB call_len (by rfl) gL PySem.boot_len (pa_cons (pv 0) pa_nil)) pa_nil)) (pg_name (i := 3) scTable.nd rfl (Or.inl rfl))
        (pss_one (ps_for PassesOwn.never rfl (pi_range1 rfl gR (pa_cons (pv 1) pa_nil)) (pg_name (i := 4) scTable.nd rfl (Or.inl rfl))
          (pss_one (ps_if (pt_cmpR op_ne (pe_ix ix_str (pe_ix ix_tup (pv 0) (pv 3) (fun _ _ => rfl)) (pv 4) (fun _ _ => rfl)) (pe_glob (v := .str "#") rfl gP ⟨_, rfl⟩) (nomark _))
            (pss_one (ps_dput hu (pv 2) (pe_op op_add (pe_op op_mul (pv 3) (pv 1)) (pv 4)) (pe_call GN hr rfl gN kN bN .nil pass0 (pa_cons (pv 0) (pa_cons (pv 3) (pa_cons (pv 4) pa_nil)))) rfl)) pss_nil)))))
      (pss_one (ps_ret (pv 2)))), ?_⟩
    intro d hd
    refine ⟨_, rfl, _, _, rfl, .inr ⟨_, Same.sqT (Same.new hd) hS, rfl⟩, ?_⟩
    rw [List.length_map]
    refine ⟨_, rfl, by omega, by omega, for_range (n := ((ws.length : Nat) : Int).toNat) (fun i σ H2 => ∃ (v3 v4 : Option V) (f : Nat → Addr), σ = [some (.ref l), some (.int (wide ws)), some (.ref d), v3, v4] ∧ Same H H2 ∧ TabAt H2 d ws (cellsTo ws (i * wide ws)) f ∧ ∀ p ∈ cellsTo ws (i * wide ws), H (f p) = none)
      ⟨none, none, fun _ => 0, rfl, Same.new hd, ?_, ?_⟩ ?_ ?_⟩
    · rw [Nat.zero_mul]
      exact ⟨upd_same, fun p hp => by cases hp⟩
    · rw [Nat.zero_mul]
      exact fun p hp => by cases hp
    · rintro i σ H2 hi ⟨v3, v4, f, rfl, s2, T2, n2⟩
      have hil : i < ws.length := by omega
      refine ⟨_, rfl, _, rfl, by omega, by omega, for_range (n := ((wide ws : Nat) : Int).toNat) (fun j σ H3 => ∃ (v4 : Option V) (f : Nat → Addr), σ = [some (.ref l), some (.int (wide ws)), some (.ref d), some (.int (0 + (i : Int))), v4] ∧ Same H H3 ∧ TabAt H3 d ws (cellsTo ws (i * wide ws + j)) f ∧ ∀ p ∈ cellsTo ws (i * wide ws + j), H (f p) = none)
        ⟨v4, f, rfl, s2, T2, n2⟩ ?_ ?_⟩
      · clear T2 n2 f v4
        rintro j σ H3 hj ⟨v4, f, rfl, s3, T3, n3⟩
        have hjl : j < wide ws := by omega
        have sz : (ws.getD i ("" : Str)).length ≤ sizeLine := Nat.le_trans (by rw [hw.rlen hil]; exact hwd) (by decide)
        have e1 : (i * wide ws + j) / wide ws = i := by
          rw [Nat.mul_comm, Nat.mul_add_div (by omega), Nat.div_eq_of_lt hjl, Nat.add_zero]
        have e2 : (i * wide ws + j) % wide ws = j := by
          rw [Nat.mul_comm, Nat.mul_add_mod, Nat.mod_eq_of_lt hjl]
        have ea : atP ws (i * wide ws + j) = signAt ws i j := by
          unfold atP
          rw [e1, e2]
        have z1 : (0 : Int) + (i : Int) = (i : Int) := Int.zero_add _
        have z2 : (0 : Int) + (j : Int) = (j : Int) := Int.zero_add _
        have nb : nbsP ws (i * wide ws + j) = nbs ws i j := by
          unfold nbsP
          rw [e1, e2]
        refine ⟨_, rfl, _, rfl, _, _, _, _, rfl, rfl, Same.sqT s3 hS, by rw [z1]; exact atI_nat (str_at hil), _, rfl, _, _, _, rfl, rfl, sz, by rw [z2]; exact atI_nat (sign_at hw hil hjl), ?_⟩
        have eP : ("#" : Str) = sg1 35 := by decide +kernel
        refine ⟨rfl, _, rfl, ?_⟩
        rw [eP]
        have ed : (V.str ⟨#[signAt ws i j]⟩ = V.str (sg1 35)) ↔ signAt ws i j = 35 := ⟨fun q => by
          have q1 := V.str.inj q
          unfold sg1 at q1
          injection q1 with q2
          have q3 := congrArg (fun a : Array Nat => a.toList) q2
          exact (List.cons.inj q3).1, fun q => by rw [q]; rfl⟩
        by_cases h35 : signAt ws i j = 35
        · rw [decide_eq_true (ed.mpr h35)]
          refine iteF ?_
          refine ⟨_, f, rfl, s3, ?_, ?_⟩
          · rw [← Nat.add_assoc, cellsTo_succ, if_neg (by rw [ea, h35]; simp)]
            exact T3
          · rw [← Nat.add_assoc, cellsTo_succ, if_neg (by rw [ea, h35]; simp)]
            exact n3
        · rw [decide_eq_false (fun q => h35 (ed.mp q))]
          refine iteT ?_
          refine ⟨_, rfl, _, rfl, _, rfl, l, ws, i, j, by rw [z1, z2] <;> rfl, Same.sqT s3 hS, hw, hil, hjl, fun lf H4 s4 hlf h4 => ?_⟩
          have T4 := T3.same s4
          have hlf0 : H lf = none := s3.free hlf
          have key : V.int ((0 + (i : Int)) * (wide ws : Int) + (0 + (j : Int))) = kV (Sum.inl ((i * wide ws + j : Nat) : Int)) := by
            rw [z1, z2]
            show V.int _ = V.int _
            rw [Int.natCast_add, Int.natCast_mul]
          have nin : ¬ (i * wide ws + j) ∈ cellsTo ws (i * wide ws + j) := fun q => Nat.lt_irrefl _ (cellsTo_lt q)
          have vn : valV (tab f (cellsTo ws (i * wide ws + j))) (Sum.inl ((i * wide ws + j : Nat) : Int) : Key) = none := by
            rw [valV_tab, if_neg]
            rintro ⟨_, q⟩
            rw [Int.toNat_natCast] at q
            exact nin q
          have ndl : lf ≠ d := fun e => by
            have q := s4 _ _ T3.dc
            rw [e, q] at h4
            cases h4
          refine ⟨_, rfl, _, rfl, _, rfl, _, _, rfl, rfl, .inl ⟨by omega, by omega⟩, _, rfl, _, _, rfl, rfl, d, _, rfl, by show DPut H4 d (V.int ((0 + (i : Int)) * (wide ws : Int) + (0 + (j : Int)))) _ _; rw [key]; exact DPut.k T4.dc (small1000 (by
            unfold tab
            rw [List.length_map]
            have := cellsTo_len ws (i * wide ws + j)
            have : i * wide ws ≤ 12 * 12 := Nat.mul_le_mul (by omega) hwd
            omega)), ?_⟩
          let f' : Nat → Addr := fun p => if p = i * wide ws + j then lf else f p
          have ff : ∀ p ∈ cellsTo ws (i * wide ws + j), f p = f' p := fun p hp => (if_neg (fun e : p = i * wide ws + j => nin (by rw [e] at hp; exact hp))).symm
          have fn : f' (i * wide ws + j) = lf := if_pos rfl
          refine ⟨_, f', rfl, ?_, ?_, ?_⟩
          · exact fun b o q => by rw [upd_ne (ne_of_none q hd)]; exact s4 b o (s3 b o q)
          · rw [← Nat.add_assoc, cellsTo_succ, if_pos (by rw [ea]; exact h35)]
            refine ⟨?_, fun p hp => ?_⟩
            · rw [upd_same, putK_new _ vn]
              unfold tab
              rw [List.map_append, List.map_cons, List.map_nil, fn]
              show some (HO.dK (tab f _ ++ _)) = some (HO.dK (tab f' _ ++ _))
              rw [tab_congr ff]
            · rcases List.mem_append.mp hp with q | q
              · rw [← ff p q, upd_ne (fun e => by
                  have z := T4.dc
                  rw [← e, T4.ls p q] at z
                  cases z)]
                exact T4.ls p q
              · rw [List.mem_singleton.mp q, fn, upd_ne ndl, nb]
                exact h4
          · rw [← Nat.add_assoc, cellsTo_succ, if_pos (by rw [ea]; exact h35)]
            intro p hp
            rcases List.mem_append.mp hp with q | q
            · rw [← ff p q]
              exact n3 p q
            · rw [List.mem_singleton.mp q, fn]
              exact hlf0
      · rintro σ H3 ⟨v4, f, rfl, s3, T3, n3⟩
        have ew : ((wide ws : Nat) : Int).toNat = wide ws := Int.toNat_natCast _
        rw [ew] at T3 n3
        refine ⟨_, _, f, rfl, s3, ?_, ?_⟩
        · rw [Nat.succ_mul]
          exact T3
        · rw [Nat.succ_mul]
          exact n3
    · rintro σ H2 ⟨v3, v4, f, rfl, s2, T2, n2⟩
      rw [Int.toNat_natCast] at T2 n2
      exact ⟨_, rfl, hQ d f H2 s2 hd T2 n2⟩
end
end Sf
namespace Sf
open PySem L2
/-! ### the Floor object -/
def flds (lr : Addr) (ws : List Str) (d lt : Addr) : List (Str × V) := putF "_neighbours" (.ref d) (putF "_signs" (.ref lt) (putF "wide" (.int (wide ws)) (putF "high" (.int ws.length) (putF "rows" (.ref lr) []))))
theorem fne : ¬ (("rows" : Str) = "high") ∧ ¬ (("rows" : Str) = "wide") ∧ ¬ (("rows" : Str) = "_neighbours") ∧ ¬ (("high" : Str) = "wide") ∧ ¬ (("high" : Str) = "_neighbours") ∧ ¬ (("wide" : Str) = "_neighbours") ∧ ¬ (("rows" : Str) = "_signs") ∧ ¬ (("high" : Str) = "_signs") ∧ ¬ (("wide" : Str) = "_signs") ∧ ¬ (("_signs" : Str) = "_neighbours") := by decide +kernel
theorem flds_rows (lr : Addr) (ws : List Str) (d lt : Addr) : (flds lr ws d lt).lookup ("rows" : Str) = some (.ref lr) := by
  obtain ⟨a, b, c, e, f, g, h, i, j, k⟩ := fne
  unfold flds
  rw [lookup_putF, if_neg c, lookup_putF, if_neg h, lookup_putF, if_neg b, lookup_putF, if_neg a, lookup_putF, if_pos rfl]
theorem flds_high (lr : Addr) (ws : List Str) (d lt : Addr) : (flds lr ws d lt).lookup ("high" : Str) = some (.int ws.length) := by
  obtain ⟨a, b, c, e, f, g, h, i, j, k⟩ := fne
  unfold flds
  rw [lookup_putF, if_neg f, lookup_putF, if_neg i, lookup_putF, if_neg e, lookup_putF, if_pos rfl]
theorem flds_wide (lr : Addr) (ws : List Str) (d lt : Addr) : (flds lr ws d lt).lookup ("wide" : Str) = some (.int (wide ws)) := by
  obtain ⟨a, b, c, e, f, g, h, i, j, k⟩ := fne
  unfold flds
  rw [lookup_putF, if_neg g, lookup_putF, if_neg j, lookup_putF, if_pos rfl]
theorem flds_signs (lr : Addr) (ws : List Str) (d lt : Addr) : (flds lr ws d lt).lookup ("_signs" : Str) = some (.ref lt) := by
  obtain ⟨a, b, c, e, f, g, h, i, j, k⟩ := fne
  unfold flds
  rw [lookup_putF, if_neg k, lookup_putF, if_pos rfl]
theorem flds_nbs (lr : Addr) (ws : List Str) (d lt : Addr) : (flds lr ws d lt).lookup ("_neighbours" : Str) = some (.ref d) := by
  unfold flds
  rw [lookup_putF, if_pos rfl]
theorem flds_no (lr : Addr) (ws : List Str) (d lt : Addr) {m : Str} (h1 : ¬ m = "_neighbours") (h2 : ¬ m = "wide") (h3 : ¬ m = "high") (h4 : ¬ m = "rows") (h5 : ¬ m = "_signs" := by decide +kernel) : (flds lr ws d lt).lookup m = none := by
  unfold flds
  rw [lookup_putF, if_neg h1, lookup_putF, if_neg h5, lookup_putF, if_neg h2, lookup_putF, if_neg h3, lookup_putF, if_neg h4]
  all_goals rfl
/-- where the tuple of the signs stands: ahead of no cell -/
def topP (ws : List Str) : Nat := ws.length * wide ws
theorem topP_no {ws : List Str} {p : Nat} (h : p ∈ cellsOf ws) : p ≠ topP ws := Nat.ne_of_lt (cellsTo_lt h)
/-- a Floor of the rows ws stands at x -/
structure FloorAt (C : Addr) (H : Hp) (x dx lr d : Addr) (f : Nat → Addr) (ws : List Str) : Prop where
  ob : H x = some (.ins C dx (flds lr ws d (f (topP ws))))
  rw : H lr = some (.lst (ws.map V.str))
  tb : TabAt H d ws (cellsOf ws) f
  sg : H (f (topP ws)) = some (.tup (ws.map V.str))
theorem FloorAt.same {C : Addr} {H H' : Hp} {x dx lr d : Addr} {f : Nat → Addr} {ws : List Str} (a : FloorAt C H x dx lr d f ws) (s : Same H H') : FloorAt C H' x dx lr d f ws := ⟨s _ _ a.ob, s _ _ a.rw, a.tb.same s, s _ _ a.sg⟩
/-- its parts are new -/
structure FNew (H0 : Hp) (lr d : Addr) (f : Nat → Addr) (ws : List Str) : Prop where
  rw : H0 lr = none
  dc : H0 d = none
  ls : ∀ p ∈ cellsOf ws, H0 (f p) = none
  sg : H0 (f (topP ws)) = none
theorem SqL_but {K : PySem.W.Frag} {H H' : Hp} {x l : Addr} {xs : List V} (h : SqL K H l xs) (nx : ∀ ys, H x ≠ some (.lst ys)) (nf : ∀ o u, H x ≠ some (.frz o u)) (k : ∀ b o, b ≠ x → H b = some o → H' b = some o) : SqL K H' l xs := by
  rcases h with (h | ⟨o, h⟩) | h
  · exact .inl (.inl (k _ _ (fun e => by rw [e] at h; exact nx _ h) h))
  · exact .inl (.inr ⟨o, k _ _ (fun e => by rw [e] at h; exact nf _ _ h) h⟩)
  · exact .inr h
def spInit (K : PySem.W.Frag) (Pt C : Addr) : Sp := fun vs H Q _ => ∃ (x dx l : Addr) (ws : List Str), vs = [.ref x, .ref l] ∧ H x = some (.ins C dx []) ∧ SqL K H l (ws.map V.str) ∧ Wf ws ∧ GxR.TabG H Pt ∧
  ∀ (lr d : Addr) (f : Nat → Addr) (H' : Hp), FNew H lr d f ws → (∀ b o, b ≠ x → b ≠ Pt → H b = some o → H' b = some o) → GxR.TabG H' Pt → FloorAt C H' x dx lr d f ws → Q .non H'
def isCell (ws : List Str) (i : Int) : Bool := decide (0 ≤ i ∧ i.toNat ∈ cellsOf ws)
def mayB (ws : List Str) (i j : Int) : Bool := isCell ws i && decide (j ∈ nbsP ws i.toNat)
def nats (ps : List Nat) : List V := ps.map fun (p : Nat) => V.int (p : Int)
def spCells (C : Addr) : Sp := fun vs H Q _ => ∃ (x dx lr d : Addr) (f : Nat → Addr) (ws : List Str), vs = [.ref x] ∧ FloorAt C H x dx lr d f ws ∧ ∀ (l : Addr) (H' : Hp), Same H H' → H l = none → H' l = some (.lst (nats (cellsOf ws))) → Q (.ref l) H'
def spHas (C : Addr) : Sp := fun vs H Q _ => ∃ (x dx lr d : Addr) (f : Nat → Addr) (ws : List Str) (i : Int), vs = [.ref x, .int i] ∧ FloorAt C H x dx lr d f ws ∧ Q (.bl (isCell ws i)) H
def spMay (C : Addr) : Sp := fun vs H Q _ => ∃ (x dx lr d : Addr) (f : Nat → Addr) (ws : List Str) (i j : Int), vs = [.ref x, .int i, .int j] ∧ FloorAt C H x dx lr d f ws ∧ Q (.bl (mayB ws i j)) H
/-- the class as the top has made it -/
structure FTxt (K : PySem.W.Frag) (mg : Str → Option Value) (C : Addr) : Prop where
  cl : Cls K C
  nR : NoAttr K C "rows"
  nH : NoAttr K C "high"
  nW : NoAttr K C "wide"
  nN : NoAttr K C "_neighbours"
  nS : NoAttr K C "_signs"
  mgC : mg "Floor" = some (.ref C)
theorem in_ints (j : Int) : ∀ l : List Int, inV (V.int j) (l.map V.int) = decide (j ∈ l)
  | [] => rfl
  | a :: r => by
    have ih := in_ints j r
    unfold inV at ih ⊢
    rw [List.map_cons, List.any_cons, ih, Bool.eq_iff_iff, Bool.or_eq_true, decide_eq_true_eq, decide_eq_true_eq, List.mem_cons]
    show (eqV (V.int a) (V.int j) = true ∨ _) ↔ _
    have e : eqV (V.int a) (V.int j) = true ↔ j = a := by
      simp [eqV]
      exact ⟨fun h => h.symm, fun h => h.symm⟩
    rw [e]
theorem flat_ints (l : List Int) : (l.map V.int).all flatV = true := List.all_eq_true.mpr fun x hx => by
  obtain ⟨i, _, rfl⟩ := List.mem_map.mp hx
  rfl
section
variable {P : Program} {w : World} {K : PySem.W.Frag} {mg : Str → Option Value} {base : Heap}
theorem scInit : FnScope ["self", "rows"] ["self", "rows"] (defScope sFloor___init__) := ⟨rfl, rfl, rfl, by decide +kernel, rfl, by decide +kernel, by decide +kernel⟩
theorem ok_init {f fr ft C Pt : Addr} {fd fdr fdt : FuncData} (F : Fun K "__init__" "Floor.__init__" sFloor___init__ f fd) (T : FTxt K mg C) (GR : FnOk P w K mg base CX0 1 fr fdr ["rows"] (spRefuse K Pt)) (gR : mg "_refuse_wrong" = some (.ref fr)) (kR : PySem.W.keepIn K (.ref fr) = true) (bR : Binds K fdr ["rows"] [])
    (GT : FnOk P w K mg base CX0 3 ft fdt ["rows", "wide"] (spTable K)) (gT : mg "_neighbours_of_cells" = some (.ref ft)) (kT : PySem.W.keepIn K (.ref ft) = true) (bT : Binds K fdt ["rows", "wide"] []) (gL : mg "len" = none) (gl : mg "list" = none) (gt : mg "tuple" = none) :
    FnOk P w K mg base CX0 4 f fd ["self", "rows"] (spInit K Pt C) := by
  refine F.ok scInit (fun vs H Q E h => ?_) (fun cdv A outer s H vs Q E hr h => ?_)
  · obtain ⟨x, dx, l, ws, rfl, _⟩ := h
    rfl
  · obtain ⟨x, dx, l, ws, rfl, hx, hS, hw, hT, hQ⟩ := h
    have hu := hu_of hr
    have hr1 : Room 1 _ := hr.mono (by decide)
    refine ⟨_, pss_cons (ps_expr (pe_call GR hr1 rfl gR kR bR .nil pass0 (pa_cons (pv 1) pa_nil)))
      (pss_cons (ps_fld (pv 0) (pe_callTy call_list_of (by rfl) gl (by decide +kernel) (pa_cons (pv 1) pa_nil)) rfl)
      (pss_cons (ps_fld (pv 0) (pe_callB call_len (by rfl) gL PySem.boot_len (pa_cons (pv 1) pa_nil)) rfl)
      (C8.pss_cut (ps_fld (pv 0) (pe_ifExp (pt_truth (pv 1) (by intro _; rfl)) (pe_callB call_len_str (by rfl) gL PySem.boot_len (pa_cons (pe_ix ix_list (pv 1) pe_int (fun _ _ => rfl)) pa_nil)) pe_int) rfl)
      (pss_cons (ps_fld (pv 0) (pe_callTy call_tuple_of (by rfl) gt (by decide +kernel) (pa_cons (pv 1) pa_nil)) rfl)
      (pss_one (ps_fld (pv 0) (pe_call GT hr rfl gT kT bT .nil pass0 (pa_cons (pe_fld (pv 0) rfl) (pa_cons (pe_fld (pv 0) rfl) pa_nil))) rfl)))))), ?_⟩
    refine ⟨_, rfl, l, ws, rfl, hS, hw, hT, fun H1 S1 => ?_⟩
    have hT1 := S1.t hT
    have hS1 := S1.seq hT hS
    have hx1 : H1 x = some (.ins C dx []) := S1.k _ _ (ne_tbl hT hx (fun _ z => by cases z)) hx
    refine ⟨_, rfl, l, _, rfl, .inl hS1, fun lr hlr => ?_⟩
    have nxl : x ≠ lr := ne_of_none hx1 hlr
    refine ⟨_, rfl, x, C, dx, _, rfl, (by rw [upd_ne nxl]; exact hx1), T.cl, T.nR, (by show 0 < 1000; decide), ?_⟩
    -- what stands now: H2
    generalize h2 : upd (upd H1 lr (.lst (ws.map V.str))) x (.ins C dx (putF "rows" (.ref lr) [])) = H2
    have k2 : ∀ b o, b ≠ x → H1 b = some o → H2 b = some o := fun b o hb e => by
      rw [← h2, upd_ne hb, upd_ne (ne_of_none e hlr)]
      exact e
    have hx2 : H2 x = some (.ins C dx (putF "rows" (.ref lr) [])) := by rw [← h2, upd_same]
    have hl2 : H2 lr = some (.lst (ws.map V.str)) := by rw [← h2, upd_ne nxl.symm, upd_same]
    have hS2 : SqL K H2 l (ws.map V.str) := SqL_but hS1 (fun _ z => by rw [hx1] at z; cases z) (fun _ _ z => by rw [hx1] at z; cases z) k2
    refine ⟨_, rfl, _, _, rfl, .inl ⟨_, hS2, rfl⟩, _, rfl, x, C, dx, _, rfl, hx2, T.cl, T.nH, (by show 1 < 1000; decide), ?_⟩
    rw [List.length_map]
    generalize h3 : upd H2 x (.ins C dx (putF "high" (.int ((ws.length : Nat) : Int)) (putF "rows" (.ref lr) []))) = H3
    have k3 : ∀ b o, b ≠ x → H2 b = some o → H3 b = some o := fun b o hb e => by
      rw [← h3, upd_ne hb]
      exact e
    have hx3 : H3 x = some (.ins C dx (putF "high" (.int ((ws.length : Nat) : Int)) (putF "rows" (.ref lr) []))) := by rw [← h3, upd_same]
    have hS3 : SqL K H3 l (ws.map V.str) := SqL_but hS2 (fun _ z => by rw [hx2] at z; cases z) (fun _ _ z => by rw [hx2] at z; cases z) k3
    refine ⟨fun σ' H' => σ' = [some (.ref x), some (.ref l)] ∧ H' = upd H3 x (.ins C dx (putF "wide" (.int ((wide ws : Nat) : Int)) (putF "high" (.int ((ws.length : Nat) : Int)) (putF "rows" (.ref lr) [])))), ?_, ?_⟩
    · refine ⟨_, rfl, _, .inl ⟨_, hS3, rfl⟩, ?_⟩
      cases ws with
      | nil =>
        refine iteF ?_
        refine ⟨_, rfl, x, C, dx, _, rfl, hx3, T.cl, T.nW, (by show 2 < 1000; decide), rfl, ?_⟩
        have e0 : wide ([] : List Str) = 0 := empty_len
        rw [e0]
        rfl
      | cons a r =>
        refine iteT ?_
        have ea : wide (a :: r) = a.length := rfl
        have wl := hw.wid
        refine ⟨_, rfl, _, _, _, _, rfl, rfl, hS3, atI_nat (j := 0) rfl, a, rfl, Nat.le_trans (by rw [← ea]; exact wl) (by decide), ?_⟩
        exact ⟨_, rfl, x, C, dx, _, rfl, hx3, T.cl, T.nW, (by show 2 < 1000; decide), rfl, rfl⟩
    · rintro _ H4 ⟨rfl, h4⟩
      have hx4 : H4 x = some (.ins C dx (putF "wide" (.int ((wide ws : Nat) : Int)) (putF "high" (.int ((ws.length : Nat) : Int)) (putF "rows" (.ref lr) [])))) := by rw [h4, upd_same]
      have k4 : ∀ b o, b ≠ x → H3 b = some o → H4 b = some o := fun b o hb e => by
        rw [h4, upd_ne hb]
        exact e
      have hS4 : SqL K H4 l (ws.map V.str) := SqL_but hS3 (fun _ z => by rw [hx3] at z; cases z) (fun _ _ z => by rw [hx3] at z; cases z) k4
      refine ⟨_, rfl, l, _, rfl, .inl ⟨hS4, fun lt hlt => ?_⟩⟩
      have nxt : x ≠ lt := ne_of_none hx4 hlt
      have nPx : x ≠ Pt := ne_tbl hT hx (fun _ z => by cases z)
      let fs5 : List (Str × V) := putF "_signs" (.ref lt) (putF "wide" (.int ((wide ws : Nat) : Int)) (putF "high" (.int ((ws.length : Nat) : Int)) (putF "rows" (.ref lr) [])))
      refine ⟨_, rfl, x, C, dx, _, rfl, (by rw [upd_ne nxt]; exact hx4), T.cl, T.nS, (by show 3 < 1000; decide), ?_⟩
      generalize h5 : upd (upd H4 lt (.tup (ws.map V.str))) x (.ins C dx (putF "_signs" (.ref lt) (putF "wide" (.int ((wide ws : Nat) : Int)) (putF "high" (.int ((ws.length : Nat) : Int)) (putF "rows" (.ref lr) []))))) = H5
      have k5 : ∀ b o, b ≠ x → H4 b = some o → H5 b = some o := fun b o hb e => by
        rw [← h5, upd_ne hb, upd_ne (ne_of_none e hlt)]
        exact e
      have hx5 : H5 x = some (.ins C dx fs5) := by rw [← h5, upd_same]
      have ht5 : H5 lt = some (.tup (ws.map V.str)) := by rw [← h5, upd_ne nxt.symm, upd_same]
      have lw : fs5.lookup ("wide" : Str) = some (V.int ((wide ws : Nat) : Int)) := by
        show (putF "_signs" _ _).lookup _ = _
        rw [lookup_putF, if_neg fne.2.2.2.2.2.2.2.2.1, lookup_putF, if_pos rfl]
      have lg : fs5.lookup ("_signs" : Str) = some (V.ref lt) := by
        show (putF "_signs" _ _).lookup _ = _
        rw [lookup_putF, if_pos rfl]
      refine ⟨_, rfl, x, C, dx, _, _, rfl, hx5, T.cl, T.nS, lg, _, rfl, x, C, dx, _, _, rfl, hx5, T.cl, T.nW, lw, lt, ws, rfl, SqT.of ht5, hw, fun d f H6 s6 hd t6 n6 => ?_⟩
      have hx6 := s6 _ _ hx5
      refine ⟨_, rfl, x, C, dx, _, rfl, hx6, T.cl, T.nN, (by show 4 < 1000; decide), ?_⟩
      have up1 : ∀ b o, b ≠ x → H1 b = some o → H5 b = some o := fun b o hb e => k5 b o hb (k4 b o hb (k3 b o hb (k2 b o hb e)))
      have nd : ∀ b o, H5 b = some o → b ≠ d := fun b o e => ne_of_none e hd
      have f0 : ∀ b, b ≠ x → H5 b = none → H b = none := fun b hb e => by
        cases q : H b with
        | none => rfl
        | some o =>
          by_cases hbp : b = Pt
          · obtain ⟨ps, z, _⟩ := hT1
            have := up1 b _ hb (by rw [hbp]; exact z)
            rw [e] at this
            cases this
          · have := up1 b o hb (S1.k b o hbp q)
            rw [e] at this
            cases this
      have ft : H lt = none := by
        cases q : H lt with
        | none => rfl
        | some o =>
          by_cases hbp : lt = Pt
          · obtain ⟨ps, z, _⟩ := hT1
            have := k4 lt _ nxt.symm (k3 _ _ nxt.symm (k2 _ _ nxt.symm (by rw [hbp]; exact z)))
            rw [hlt] at this
            cases this
          · have := k4 lt _ nxt.symm (k3 _ _ nxt.symm (k2 _ _ nxt.symm (S1.k _ o hbp q)))
            rw [hlt] at this
            cases this
      have lr5 : H5 lr = some (.lst (ws.map V.str)) := k5 _ _ nxl.symm (k4 _ _ nxl.symm (k3 _ _ nxl.symm hl2))
      have hdx : d ≠ x := (nd _ _ hx5).symm
      have hfx : ∀ p ∈ cellsOf ws, f p ≠ x := fun p hp e => by
        have := n6 p hp
        rw [e, hx5] at this
        cases this
      let f' : Nat → Addr := fun p => if p = topP ws then lt else f p
      have ff : ∀ p ∈ cellsOf ws, f p = f' p := fun p hp => (if_neg (topP_no hp)).symm
      have ft' : f' (topP ws) = lt := if_pos rfl
      refine hQ lr d f' _ ⟨S1.free hT hlr, f0 d hdx hd, fun p hp => by rw [← ff p hp]; exact f0 _ (hfx p hp) (n6 p hp), by rw [ft']; exact ft⟩ (fun b o hb hp e => ?_) ?_ ⟨?_, ?_, ⟨?_, fun p hp => ?_⟩, ?_⟩
      · rw [upd_ne hb]
        exact s6 b o (up1 b o hb (S1.k b o hp e))
      · obtain ⟨ps, z, q⟩ := hT1
        exact ⟨ps, by rw [upd_ne nPx.symm]; exact s6 _ _ (up1 _ _ nPx.symm z), q⟩
      · rw [upd_same, ft']
        rfl
      · rw [upd_ne nxl.symm]
        exact s6 _ _ lr5
      · rw [upd_ne hdx, t6.dc, tab_congr ff]
      · rw [← ff p hp, upd_ne (hfx p hp)]
        exact t6.ls p hp
      · rw [ft', upd_ne nxt.symm]
        exact s6 _ _ ht5
theorem scCells : FnScope ["self"] ["self"] (defScope sFloor_cells) := ⟨rfl, rfl, rfl, by decide +kernel, rfl, by decide +kernel, by decide +kernel⟩
theorem tab_keys (f : Nat → Addr) (ps : List Nat) : ((tab f ps).map fun kv => kV kv.1) = nats ps := by
  unfold tab nats
  rw [List.map_map]
  rfl
theorem ok_cells {f C : Addr} {fd : FuncData} (F : Fun K "cells" "Floor.cells" sFloor_cells f fd) (T : FTxt K mg C) (gl : mg "list" = none) : FnOk P w K mg base CX0 1 f fd ["self"] (spCells C) := by
  refine F.ok scCells (fun vs H Q E h => ?_) (fun cdv A outer s H vs Q E hr h => ?_)
  · obtain ⟨x, dx, lr, d, g, ws, rfl, _⟩ := h
    rfl
  · obtain ⟨x, dx, lr, d, g, ws, rfl, a, hQ⟩ := h
    refine ⟨_, pss_one (ps_ret (pe_callTy (call_listD rfl) (by rfl) gl (by decide +kernel) (pa_cons (pe_fld (pv 0) rfl) pa_nil))), ?_⟩
    refine ⟨_, rfl, x, C, dx, _, _, rfl, a.ob, T.cl, T.nN, flds_nbs _ _ _ _, d, _, rfl, .inl a.tb.dc, fun l hl => ?_⟩
    refine hQ l _ (Same.new hl) hl ?_
    rw [upd_same, tab_keys]
theorem scHas : FnScope ["self", "place"] ["self", "place"] (defScope sFloor_has) := ⟨rfl, rfl, rfl, by decide +kernel, rfl, by decide +kernel, by decide +kernel⟩
theorem ok_has {f C : Addr} {fd : FuncData} (F : Fun K "has" "Floor.has" sFloor_has f fd) (T : FTxt K mg C) : FnOk P w K mg base CX0 1 f fd ["self", "place"] (spHas C) := by
  refine F.ok scHas (fun vs H Q E h => ?_) (fun cdv A outer s H vs Q E hr h => ?_)
  · obtain ⟨x, dx, lr, d, g, ws, i, rfl, _⟩ := h
    rfl
  · obtain ⟨x, dx, lr, d, g, ws, i, rfl, a, hQ⟩ := h
    have hu := hu_of hr
    refine ⟨_, pss_one (ps_ret (pe_cmp (pc_din hu (pv 1) (pe_fld (pv 0) rfl)) rfl)), ?_⟩
    refine ⟨_, rfl, _, rfl, x, C, dx, _, _, rfl, a.ob, T.cl, T.nN, flds_nbs _ _ _ _, d, _, rfl, DGet.k (k := Sum.inl i) a.tb.dc, ?_⟩
    have e : (valV (tab g (cellsOf ws)) (Sum.inl i : Key)).isSome = isCell ws i := by
      rw [valV_tab]
      unfold isCell
      by_cases h : 0 ≤ i ∧ i.toNat ∈ cellsOf ws
      · rw [if_pos h, decide_eq_true h] <;> rfl
      · rw [if_neg h, decide_eq_false h] <;> rfl
    rw [e]
    exact hQ
end
end Sf
namespace Sf
open PySem L2
section
variable {P : Program} {w : World} {K : PySem.W.Frag} {mg : Str → Option Value} {base : Heap}
theorem scMay : FnScope ["self", "one", "other"] ["self", "one", "other"] (defScope sFloor_may) := ⟨rfl, rfl, rfl, by decide +kernel, rfl, by decide +kernel, by decide +kernel⟩
theorem ok_may {f fh C : Addr} {fd fdh : FuncData} (F : Fun K "may" "Floor.may" sFloor_may f fd) (T : FTxt K mg C) (GH : FnOk P w K mg base CX0 1 fh fdh ["self", "place"] (spHas C)) (mH : Meth K C "has" fh) (bH : Binds K fdh ["self", "place"] []) : FnOk P w K mg base CX0 2 f fd ["self", "one", "other"] (spMay C) := by
  refine F.ok scMay (fun vs H Q E h => ?_) (fun cdv A outer s H vs Q E hr h => ?_)
  · obtain ⟨x, dx, lr, d, g, ws, i, j, rfl, _⟩ := h
    rfl
  · obtain ⟨x, dx, lr, d, g, ws, i, j, rfl, a, hQ⟩ := h
    have hu := hu_of hr
    refine ⟨_, pss_one (ps_ret (pe_and (pe_meth (pv 0) T.cl mH GH hr bH .nil pass0 (pa_cons (pv 1) pa_nil)) (pe_one (pe_cmpR op_in_seq (pv 2) (pe_dget hu (pe_fld (pv 0) rfl) (pv 1) (fun _ _ => rfl)) (by rfl))))), ?_⟩
    refine ⟨_, rfl, x, dx, _, rfl, a.ob, flds_no _ _ _ _ (by decide +kernel) (by decide +kernel) (by decide +kernel) (by decide +kernel), _, rfl, x, dx, lr, d, g, ws, i, rfl, a, _, rfl, ?_⟩
    by_cases hc : 0 ≤ i ∧ i.toNat ∈ cellsOf ws
    · have e : isCell ws i = true := decide_eq_true hc
      rw [e]
      refine iteT ?_
      refine ⟨_, rfl, _, rfl, x, C, dx, _, _, rfl, a.ob, T.cl, T.nN, flds_nbs _ _ _ _, _, rfl, d, .ref (g i.toNat), rfl, ?_, ?_⟩
      · have q := DGet.k (k := (Sum.inl i : Key)) a.tb.dc
        rw [valV_tab, if_pos hc] at q
        exact q
      · refine ⟨_, _, rfl, .inl (SqL.of (a.tb.ls _ hc.2)), rfl, flat_ints _, ?_⟩
        rw [in_ints]
        unfold mayB at hQ
        rw [e] at hQ
        exact hQ
    · have e : isCell ws i = false := decide_eq_false hc
      rw [e]
      refine iteF ?_
      unfold mayB at hQ
      rw [e] at hQ
      exact hQ
end
end Sf
namespace Sf
open PySem PySem.Spec PyProof.Rows L2
structure Rz (K : PySem.W.Frag) (mg : Str → Option Value) (nm : Str) (C : Addr) : Prop where
  g : mg nm = some (.ref C)
  x : PySem.W.excIn K C [.type "ValueError", .type "Exception", .type "BaseException", .type "object"] "ValueError.__new__" = true
  k : PySem.W.keepIn K (.ref C) = true
  s : PySem.W.subIn K (.ref C) (.type "BaseException") = some true
  t : PySem.W.typeIn K (.ref C) = some (.type "type")
def spRef (C cN : Addr) : Sp := fun vs H Q E => ∃ (x dx lr df : Addr) (f : Nat → Addr) (ws : List Str) (i : Int), vs = [.ref x, .int i] ∧ FloorAt C H x dx lr df f ws ∧ (isCell ws i = true → Q .non H) ∧ (isCell ws i = false → E (.ref cN) none H)
section
variable {P : Program} {w : World} {K : PySem.W.Frag} {mg : Str → Option Value} {base : Heap}
theorem scRef : FnScope ["floor", "number"] ["floor", "number"] (defScope srefuse_no_cell) := ⟨rfl, rfl, rfl, by decide +kernel, rfl, by decide +kernel, by decide +kernel⟩
theorem ok_ref {f fh C cN : Addr} {fd fdh : FuncData} (F : Fun K "refuse_no_cell" "refuse_no_cell" srefuse_no_cell f fd) (T : FTxt K mg C) (GH : FnOk P w K mg base CX0 1 fh fdh ["self", "place"] (spHas C)) (mH : Meth K C "has" fh) (bH : Binds K fdh ["self", "place"] []) (R : Rz K mg "NoCell" cN) :
    FnOk P w K mg base (L2.CX P w) 2 f fd ["floor", "number"] (spRef C cN) := by
  refine F.okX scRef (fun vs H Q E h => ?_) (fun cdv A outer s H vs Q E hr h => ?_)
  · obtain ⟨x, dx, lr, df, g, ws, i, rfl, _⟩ := h
    rfl
  · obtain ⟨x, dx, lr, df, g, ws, i, rfl, fa, hQ, hE⟩ := h
    refine ⟨_, pss_one (ps_if (pt_not (pt_val (pe_meth (pv 0) T.cl mH GH hr bH .nil pass0 (pa_cons (pv 1) pa_nil)))) (pss_one (ps_raise rfl (takes_of rfl rfl rfl rfl) (pmk_own PySem.F.excBase_ValueError R.x R.g R.k (raises_own R.s R.t) rfl))) pss_nil), ?_⟩
    refine ⟨_, rfl, x, dx, _, rfl, fa.ob, flds_no _ _ _ _ (by decide +kernel) (by decide +kernel) (by decide +kernel) (by decide +kernel), _, rfl, x, dx, lr, df, g, ws, i, rfl, fa, _, rfl, ?_⟩
    cases e : isCell ws i with
    | true => exact iteF (hQ e)
    | false => exact iteT (hE e)
end
end Sf
namespace Sf
open PySem L2
/-! ### the law's own telling, and that it is the same -/
def lmay (ws : List Str) (i j : Int) : Bool :=
  if 0 ≤ i ∧ i < ((wide ws * ws.length : Nat) : Int) ∧ 0 ≤ j ∧ j < ((wide ws * ws.length : Nat) : Int) then
    if i / (wide ws : Int) = j / (wide ws : Int) ∧ (i - j).natAbs = 1 then tk ".-" (atP ws i.toNat) && tk ".-" (atP ws j.toNat)
    else if i % (wide ws : Int) = j % (wide ws : Int) ∧ (i / (wide ws : Int) - j / (wide ws : Int)).natAbs = 1 then tk ".|" (atP ws i.toNat) && tk ".|" (atP ws j.toNat)
    else false
  else false
theorem ifc {α : Type} {b c : Prop} [Decidable b] [Decidable c] {x y u v : α} (h : b ↔ c) (h1 : x = u) (h2 : y = v) : (if b then x else y) = if c then u else v := by
  by_cases hb : b
  · rw [if_pos hb, if_pos (h.mp hb), h1]
  · rw [if_neg hb, if_neg (fun q => hb (h.mpr q)), h2]
theorem lmay_symm (ws : List Str) (i j : Int) : lmay ws i j = lmay ws j i := by
  unfold lmay
  refine ifc ⟨fun q => ⟨q.2.2.1, q.2.2.2, q.1, q.2.1⟩, fun q => ⟨q.2.2.1, q.2.2.2, q.1, q.2.1⟩⟩ (ifc ⟨fun q => ⟨q.1.symm, by omega⟩, fun q => ⟨q.1.symm, by omega⟩⟩ (Bool.and_comm _ _) (ifc ⟨fun q => ⟨q.1.symm, by omega⟩, fun q => ⟨q.1.symm, by omega⟩⟩ (Bool.and_comm _ _) rfl)) rfl
theorem tk_pillar : tk ".-" 35 = false ∧ tk ".|" 35 = false := by decide +kernel
theorem coord {wd r c r' c' : Nat} (h : c < wd) (h' : c' < wd) (e : r * wd + c = r' * wd + c') : r = r' ∧ c = c' := by
  have d1 : (r * wd + c) / wd = r := by rw [Nat.mul_comm, Nat.mul_add_div (by omega), Nat.div_eq_of_lt h, Nat.add_zero]
  have d2 : (r' * wd + c') / wd = r' := by rw [Nat.mul_comm, Nat.mul_add_div (by omega), Nat.div_eq_of_lt h', Nat.add_zero]
  have m1 : (r * wd + c) % wd = c := by rw [Nat.mul_comm, Nat.mul_add_mod, Nat.mod_eq_of_lt h]
  have m2 : (r' * wd + c') % wd = c' := by rw [Nat.mul_comm, Nat.mul_add_mod, Nat.mod_eq_of_lt h']
  constructor
  · rw [← d1, ← d2, e]
  · rw [← m1, ← m2, e]
theorem sgN_ne {ws : List Str} {r c : Int} (h : sgN ws r c ≠ 35) : 0 ≤ r ∧ r < (ws.length : Int) ∧ 0 ≤ c ∧ c < (wide ws : Int) ∧ sgN ws r c = signAt ws r.toNat c.toNat := by
  unfold sgN at h ⊢
  by_cases q : 0 ≤ r ∧ r < (ws.length : Int) ∧ 0 ≤ c ∧ c < (wide ws : Int)
  · exact ⟨q.1, q.2.1, q.2.2.1, q.2.2.2, if_pos q⟩
  · rw [if_neg q] at h
    exact absurd rfl h
/-- the places, by row and column -/
theorem place {ws : List Str} {i : Int} (h0 : 0 ≤ i) (h1 : i < ((wide ws * ws.length : Nat) : Int)) : ∃ r c : Nat, r < ws.length ∧ c < wide ws ∧ i = ((r * wide ws + c : Nat) : Int) ∧ i / (wide ws : Int) = (r : Int) ∧ i % (wide ws : Int) = (c : Int) ∧ atP ws i.toNat = signAt ws r c ∧
    i.toNat / wide ws = r ∧ i.toNat % wide ws = c := by
  obtain ⟨p, rfl⟩ : ∃ p : Nat, i = (p : Int) := ⟨i.toNat, by omega⟩
  have hp : p < wide ws * ws.length := by omega
  have hw : 0 < wide ws := by
    rcases Nat.eq_zero_or_pos (wide ws) with e | e
    · rw [e, Nat.zero_mul] at hp
      omega
    · exact e
  refine ⟨p / wide ws, p % wide ws, ?_, Nat.mod_lt _ hw, ?_, ?_, ?_, ?_, ?_, ?_⟩
  · exact Nat.div_lt_of_lt_mul hp
  · rw [Nat.mul_comm, Nat.div_add_mod]
  · exact (Int.natCast_ediv _ _).symm
  · exact (Int.natCast_emod _ _).symm
  · rfl
  · rfl
  · rfl
theorem isCell_iff {ws : List Str} {i : Int} : isCell ws i = true ↔ 0 ≤ i ∧ i < ((wide ws * ws.length : Nat) : Int) ∧ atP ws i.toNat ≠ 35 := by
  unfold isCell cellsOf
  rw [decide_eq_true_eq, cellsTo_mem, Nat.mul_comm]
  constructor
  · rintro ⟨h0, h1, h2⟩
    exact ⟨h0, by omega, h2⟩
  · rintro ⟨h0, h1, h2⟩
    exact ⟨h0, by omega, h2⟩
/-- what is beside, told by coordinates -/
def near (ws : List Str) (r c r' c' : Nat) : Prop := ∃ p ∈ steps, tk p.2.2 (signAt ws r c) = true ∧ tk p.2.2 (signAt ws r' c') = true ∧ (r' : Int) = r + p.1 ∧ (c' : Int) = c + p.2.1
theorem tk_ne {p : Int × Int × Str} (hp : p ∈ steps) {n : Nat} (h : tk p.2.2 n = true) : n ≠ 35 := fun e => by
  have q : ∀ p ∈ steps, tk p.2.2 35 = false := by decide +kernel
  rw [e, q p hp] at h
  cases h
theorem mem_nbs {ws : List Str} {r c : Nat} (hr : r < ws.length) (hc : c < wide ws) {j : Int} : j ∈ nbs ws r c ↔ ∃ r' c' : Nat, r' < ws.length ∧ c' < wide ws ∧ j = ((r' * wide ws + c' : Nat) : Int) ∧ near ws r c r' c' := by
  unfold nbs
  rw [List.mem_map]
  constructor
  · rintro ⟨p, hp, rfl⟩
    obtain ⟨hps, hok⟩ := List.mem_filter.mp hp
    unfold stepOk at hok
    obtain ⟨h1, h2⟩ := Bool.and_eq_true_iff.mp hok
    rw [sgN_in hr hc] at h1
    obtain ⟨a1, a2, a3, a4, a5⟩ := sgN_ne (tk_ne hps h2)
    rw [a5] at h2
    refine ⟨((r : Int) + p.1).toNat, ((c : Int) + p.2.1).toNat, by omega, by omega, ?_, p, hps, h1, h2, by omega, by omega⟩
    unfold stepTo
    rw [Int.natCast_add, Int.natCast_mul, Int.toNat_of_nonneg a1, Int.toNat_of_nonneg a3]
    omega
  · rintro ⟨r', c', hr', hc', rfl, p, hps, h1, h2, e1, e2⟩
    refine ⟨p, List.mem_filter.mpr ⟨hps, ?_⟩, ?_⟩
    · unfold stepOk
      rw [sgN_in hr hc, ← e1, ← e2, sgN_in hr' hc', h1, h2] <;> rfl
    · unfold stepTo
      rw [Int.natCast_add, Int.natCast_mul, ← e1]
      omega
theorem near_iff {ws : List Str} {r c r' c' : Nat} : near ws r c r' c' ↔ (r = r' ∧ ((c' : Int) - c).natAbs = 1 ∧ tk ".-" (signAt ws r c) = true ∧ tk ".-" (signAt ws r' c') = true) ∨ (c = c' ∧ ((r' : Int) - r).natAbs = 1 ∧ tk ".|" (signAt ws r c) = true ∧ tk ".|" (signAt ws r' c') = true) := by
  unfold near steps
  constructor
  · rintro ⟨p, hp, h1, h2, e1, e2⟩
    rcases List.mem_cons.mp hp with rfl | hp
    · exact .inr ⟨by simp only at e2; omega, by simp only at e1; omega, h1, h2⟩
    rcases List.mem_cons.mp hp with rfl | hp
    · exact .inl ⟨by simp only at e1; omega, by simp only at e2; omega, h1, h2⟩
    rcases List.mem_cons.mp hp with rfl | hp
    · exact .inl ⟨by simp only at e1; omega, by simp only at e2; omega, h1, h2⟩
    rcases List.mem_cons.mp hp with rfl | hp
    · exact .inr ⟨by simp only at e2; omega, by simp only at e1; omega, h1, h2⟩
    · cases hp
  · rintro (⟨rfl, h, h1, h2⟩ | ⟨rfl, h, h1, h2⟩)
    · by_cases hc : (c' : Int) = c + 1
      · exact ⟨(0, 1, ".-"), by simp, h1, h2, by simp only; omega, by simp only; omega⟩
      · exact ⟨(0, -1, ".-"), by simp, h1, h2, by simp only; omega, by simp only; omega⟩
    · by_cases hc : (r' : Int) = r + 1
      · exact ⟨(1, 0, ".|"), by simp, h1, h2, by simp only; omega, by simp only; omega⟩
      · exact ⟨(-1, 0, ".|"), by simp, h1, h2, by simp only; omega, by simp only; omega⟩
theorem may_eq (ws : List Str) (i j : Int) : mayB ws i j = lmay ws i j := by
  by_cases hi : 0 ≤ i ∧ i < ((wide ws * ws.length : Nat) : Int)
  · obtain ⟨r, c, hr, hc, ei, e1, e2, e3, e4, e5⟩ := place hi.1 hi.2
    have enb : nbsP ws i.toNat = nbs ws r c := by
      unfold nbsP
      rw [e4, e5]
    by_cases hj : 0 ≤ j ∧ j < ((wide ws * ws.length : Nat) : Int)
    · obtain ⟨r', c', hr', hc', ej, f1, f2, f3, f4, f5⟩ := place hj.1 hj.2
      have nr : j ∈ nbs ws r c ↔ near ws r c r' c' := by
        rw [mem_nbs hr hc]
        constructor
        · rintro ⟨r2, c2, h1, h2, e, h⟩
          rw [ej] at e
          obtain ⟨rfl, rfl⟩ := coord hc' h2 (Int.ofNat.inj e)
          exact h
        · exact fun h => ⟨r', c', hr', hc', ej, h⟩
      unfold lmay
      rw [if_pos ⟨hi.1, hi.2, hj.1, hj.2⟩, e1, f1, e2, f2, e3, f3]
      have key : mayB ws i j = true ↔ near ws r c r' c' := by
        unfold mayB
        rw [Bool.and_eq_true_iff, decide_eq_true_eq, enb, nr]
        constructor
        · exact fun h => h.2
        · intro h
          refine ⟨isCell_iff.mpr ⟨hi.1, hi.2, ?_⟩, h⟩
          rw [e3]
          obtain ⟨p, hp, h1, _⟩ := h
          exact tk_ne hp h1
      rw [Bool.eq_iff_iff, key, near_iff]
      by_cases c1 : (r : Int) = (r' : Int) ∧ (i - j).natAbs = 1
      · rw [if_pos c1, Bool.and_eq_true_iff]
        have er : r = r' := by omega
        subst er
        have hcc : ((c' : Int) - c).natAbs = 1 := by omega
        constructor
        · rintro (h | h)
          · exact h.2.2
          · omega
        · exact fun h => .inl ⟨rfl, hcc, h⟩
      · rw [if_neg c1]
        have n1 : ¬ (r = r' ∧ ((c' : Int) - c).natAbs = 1) := by
          rintro ⟨rfl, h⟩
          exact c1 ⟨rfl, by omega⟩
        by_cases c2 : (c : Int) = (c' : Int) ∧ ((r : Int) - (r' : Int)).natAbs = 1
        · rw [if_pos c2, Bool.and_eq_true_iff]
          constructor
          · rintro (h | h)
            · exact absurd ⟨h.1, h.2.1⟩ n1
            · exact h.2.2
          · exact fun h => .inr ⟨by omega, by omega, h⟩
        · rw [if_neg c2]
          constructor
          · rintro (h | h)
            · exact absurd ⟨h.1, h.2.1⟩ n1
            · exact absurd ⟨by omega, by omega⟩ c2
          · exact fun h => absurd h Bool.false_ne_true
    · have e : lmay ws i j = false := by
        unfold lmay
        rw [if_neg (fun q => hj ⟨q.2.2.1, q.2.2.2⟩)]
      rw [e]
      unfold mayB
      rw [enb, Bool.and_eq_false_iff]
      refine .inr (decide_eq_false ?_)
      rw [mem_nbs hr hc]
      rintro ⟨r', c', h1, h2, rfl, _⟩
      refine hj ⟨by omega, ?_⟩
      have : r' * wide ws + c' < wide ws * ws.length := by
        have q : (r' + 1) * wide ws ≤ ws.length * wide ws := Nat.mul_le_mul_right _ h1
        rw [Nat.succ_mul] at q
        rw [Nat.mul_comm (wide ws)]
        omega
      omega
  · have e : lmay ws i j = false := by
      unfold lmay
      rw [if_neg (fun q => hi ⟨q.1, q.2.1⟩)]
    rw [e]
    unfold mayB
    rw [Bool.and_eq_false_iff]
    refine .inl ?_
    rw [Bool.eq_false_iff]
    intro q
    obtain ⟨h0, h1, _⟩ := isCell_iff.mp q
    exact hi ⟨h0, h1⟩
/-! ### the signs in one text -/
theorem flat_len {wd : Nat} : ∀ {ws : List Str}, (∀ a ∈ ws, a.length = wd) → (Gx2.flat ws).length = ws.length * wd
  | [], _ => by rw [List.length_nil, Nat.zero_mul] <;> rfl
  | a :: r, h => by
    have ha : a.cps.toList.length = wd := by rw [Array.length_toList]; exact h a List.mem_cons_self
    show ((a :: r).flatMap _).length = _
    rw [List.flatMap_cons, List.length_append, ha, List.length_cons, Nat.succ_mul]
    have := flat_len (ws := r) fun z hz => h z (List.mem_cons_of_mem _ hz)
    show wd + (Gx2.flat r).length = _
    omega
theorem flat_row {wd : Nat} : ∀ {ws : List Str}, (∀ a ∈ ws, a.length = wd) → ∀ (r c : Nat), r < ws.length → c < wd → (Gx2.flat ws)[r * wd + c]? = (ws.getD r ("" : Str)).cps.toList[c]?
  | [], _, r, c, h, _ => by cases h
  | a :: t, h, 0, c, _, hc => by
    have ha : a.cps.toList.length = wd := by rw [Array.length_toList]; exact h a List.mem_cons_self
    show ((a :: t).flatMap (fun a : Str => a.cps.toList))[0 * wd + c]? = _
    rw [List.flatMap_cons, Nat.zero_mul, Nat.zero_add, List.getElem?_append_left (by omega)]
    rfl
  | a :: t, h, r + 1, c, hr, hc => by
    have ha : a.cps.toList.length = wd := by rw [Array.length_toList]; exact h a List.mem_cons_self
    show ((a :: t).flatMap (fun a : Str => a.cps.toList))[(r + 1) * wd + c]? = _
    rw [List.flatMap_cons, List.getElem?_append_right (by rw [ha, Nat.succ_mul]; omega), ha]
    have e : (r + 1) * wd + c - wd = r * wd + c := by
      rw [Nat.succ_mul]
      omega
    rw [e]
    have := flat_row (ws := t) (fun z hz => h z (List.mem_cons_of_mem _ hz)) r c (Nat.lt_of_succ_lt_succ hr) hc
    rw [show (t.flatMap fun a : Str => a.cps.toList) = Gx2.flat t from rfl, this]
    rfl
theorem flat_atP {ws : List Str} (w : Wf ws) {p : Nat} (hp : p < ws.length * wide ws) : (Gx2.flat ws)[p]? = some (atP ws p) := by
  have hw : 0 < wide ws := by
    rcases Nat.eq_zero_or_pos (wide ws) with e | e
    · rw [e, Nat.mul_zero] at hp
      omega
    · exact e
  have hr : p / wide ws < ws.length := Nat.div_lt_of_lt_mul (by rw [Nat.mul_comm]; exact hp)
  have hc : p % wide ws < wide ws := Nat.mod_lt _ hw
  have e : p / wide ws * wide ws + p % wide ws = p := by rw [Nat.mul_comm, Nat.div_add_mod]
  have := flat_row (fun a ha => w.len a ha) (p / wide ws) (p % wide ws) hr hc
  rw [e] at this
  rw [this, sign_at w hr hc]
  rfl
end Sf
/-! sorted(d) of a dict of int keys, of any number. -/
namespace Gs
open PySem PySem.Spec PyProof.Rows L2
theorem key_ints : ∀ {acc : List Value} {ks : List Int}, acc.length = ks.length → (∀ (j : Nat) (v : Value), acc[j]? = some v → ∃ (y : Int) (t : Tok), ks[j]? = some y ∧ v = .int y t) → IntsAre acc ks
  | [], [], _, _ => .nil
  | [], _ :: _, e, _ => by cases e
  | _ :: _, [], e, _ => by cases e
  | v :: acc, k :: ks, e, h => by
    obtain ⟨y, t, e1, e2⟩ := h 0 v rfl
    have e3 : k = y := Option.some.inj e1
    rw [e2, ← e3]
    exact .cons k t (key_ints (Nat.succ.inj e) fun j u q => h (j + 1) u q)
theorem call_sortedAny {X : Cx} (calm : X.calm = true) : CallR X (.builtin "sorted") (fun xs G Q => ∃ (a : Addr) (kvs : List (Key × V)) (ks : List Int), xs = [.ref a] ∧ Rd G a (.dK kvs) ∧ kvs.map (·.1) = ks.map Sum.inl ∧ ks.length ≤ 1000 ∧
    ∀ (ys : List Int) (p : Addr), ys.Perm ks → ys.Pairwise (· ≤ ·) → G p = none → Q (.ref p) (upd G p (.lst (ys.map V.int)))) := by
  intro pins s τ G xs us Q I r wish
  obtain ⟨a, kvs, ks, rfl, rd, hks, hmany, q⟩ := wish
  obtain ⟨u, rfl, rx⟩ := vals1 r
  cases rx
  obtain ⟨_, loose, vs, rel, dd⟩ := dk_rd I.hok rd
  obtain ⟨ep, stands⟩ := dd.dictAt
  have keys : vs.map (·.1) = ks.map Sum.inl := by rw [← rel.keys, hks]
  have many : vs.length = ks.length := by
    have := congrArg List.length keys
    simpa using this
  have fits : ks.length ≤ sizeLine := Nat.le_trans hmany (by decide)
  refine Calls.call_function_entry kind_sorted plain_sorted entry_sorted (args_sorted1 _) ?_
  unfold Builtin.«sorted»
  refine wpAny_bind (m := checkCount "sorted" 1 1 _) (wpAny_pure ?_)
  refine wpAny_bind (PySem.W.kdu_collect (A := X.A.in1) (PySem.W.kdl_dict (knd := mixKind X.prog X.w) (kvs := vs) (ep := ep) loose) (I.ok.hd calm) stands (by rw [many]; exact fits) ?_)
  intro h1 tk acc kept told
  have len : acc.toList.length = ks.length := by rw [Array.length_toList, told.1, many]
  have isI : IntsAre acc.toList ks := key_ints len fun j v e => by
    obtain ⟨k, x, e1, e2⟩ := told.2 j v (by rw [← Array.getElem?_toList]; exact e)
    have e3 : (ks.map (Sum.inl : Int → Key))[j]? = some k := by rw [← keys, List.getElem?_map, e1] <;> rfl
    rw [List.getElem?_map] at e3
    obtain ⟨y, e4, e5⟩ := Option.map_eq_some_iff.mp e3
    rcases keyIs_shape (show keyIs k v = true from e2) with ⟨i, t, ek, ev⟩ | ⟨z, t, ek, ev⟩
    · rw [← e5] at ek
      cases ek
      exact ⟨y, t, e4, ev⟩
    · rw [← e5] at ek
      cases ek
  have I1 : Inv X pins τ G { s with heap := h1, toks := tk } := I.kept kept
  refine wpAny_bind (wpAny_newList ?_ (by rw [len]; exact fits))
  have laid : (h1.push (seqObj "list" acc.toList.toArray 0)).get? h1.objs.size = some (seqObj "list" acc.toList.toArray 0) := Heap.get?_push_size _ rfl
  have sorts := fun (h2 : 2 ≤ acc.toList.length) => SrtO.ints_sortable (prog := X.prog) (w := X.w) (A := X.A.in1.in1) (s := { s with heap := h1.push (seqObj "list" acc.toList.toArray 0), toks := tk }) (a := h1.objs.size) isI h2
  show wpAny _ _ _ _ _ { s with heap := h1.push (seqObj "list" acc.toList.toArray 0), toks := tk }
  refine wpAny_bind (wpAny_holding (wpAny_call_entry slot_list_sort ⟨_, laid, rfl⟩ entry_list_sort (SrtO.list_sort_ord SrtO.swo_int laid (by rw [len]; exact fits) sorts ?_) (args_list_sort _)))
  intro out o1 o2
  refine ⟨_, rfl, ?_⟩
  obtain ⟨k1, k2, k3⟩ := SrtO.ints_out isI o1 o2
  obtain ⟨e9, he9⟩ := sortedHeap_at (vs := acc.toList) (out := out.toArray) laid
  have hlen : ((out.map SrtO.iv).map V.int).length ≤ sizeLine := by
    rw [List.length_map, k2.length_eq]
    exact fits
  refine wpAny_pure ⟨_, rfl, .ref h1.objs.size, upd G h1.objs.size (.lst ((out.map SrtO.iv).map V.int)), I1.laid (t' := tk) ?_ (Nat.le_refl _) ?_, rfl, q _ _ k2 k3 (I1.hok.fresh (Nat.le_refl _))⟩
  · intro b u e
    have hb : b < h1.objs.size := Heap.lt_size e
    rw [sortedHeap_old (Nat.ne_of_lt hb) (by rw [size_push']; exact Nat.lt_succ_of_lt hb)]
    exact Heap.get?_push_of_some _ e
  · exact (show ObjOk X.prog X.w _ _ _ (.lst ((out.map SrtO.iv).map V.int)) from ⟨hlen, out, e9, vals_of_ints k1, he9⟩)
end Gs
/-! An object of an own class that has no __eq__ and no __ne__, held against itself. -/
namespace Go
open PySem PySem.Spec PyProof.Rows L2
def SelfC (K : PySem.W.Frag) (C : Addr) : Prop := ∃ (nm q : Str) (N : Addr) (bs : List Value) (hd : Bool) (sn : List Str) (sub : List Value) (ab : Bool) (col : Option Bool) (dd : Option Addr) (m0 m1 m2 m3 m5 : Option Value) (nw : String),
  K.lookup C = some (excClassObj nm q C N bs [.type "object"] hd sn sub ab col dd m0 m1 m2 m3 m5 nw) ∧ PySem.W.nsOkIn K N = true ∧ PySem.W.nsIn K N "__eq__" = some none ∧ PySem.W.nsIn K N "__ne__" = some none
theorem op_neSelf {X : Cx} (room : X.A.units + 1 < cLine) : OpR X (compareOp .NotEq) (fun x y G Q => ∃ (a C dx : Addr) (fs : List (Str × V)), x = .ref a ∧ y = .ref a ∧ G a = some (.ins C dx fs) ∧ SelfC X.K C ∧ Q (.bl false) G) := by
  intro pins s τ G x y v u Q I rx ry wish
  obtain ⟨a, C, dx, fs, rfl, rfl, here, ⟨nm, q, N, bs, hd, sn, sub, ab, col, dd, m0, m1, m2, m3, m5, nw, lk, okN, noE, noN⟩, go⟩ := wish
  cases rx
  cases ry
  obtain ⟨_, _, _, stands, _⟩ := I.hok a _ here
  have ki := I.kIn
  have inst : s.heap.CmpInst a C [.type "object"] := ⟨_, nm, q, N, bs, hd, sn, sub, ab, col, dd, m0, m1, m2, m3, m5, nw, _, stands, rfl, ki _ _ lk, .of_isNs (PySem.W.isNs_of_in ki okN), PySem.W.nsMap_none_of_in ki okN noE, PySem.W.nsMap_none_of_in ki okN noN⟩
  exact compareOp_ne_same PySem.F.cmp_object inst room ⟨.bl false, G, I, rfl, go⟩
end Go
namespace Sf
open PySem PySem.Spec PyProof.Rows L2
/-! ### the Laying object -/
def lfl (x d : Addr) : List (Str × V) := putF "over" (.ref d) (putF "floor" (.ref x) [])
theorem lne : ¬ (("floor" : Str) = "over") := by decide +kernel
theorem lfl_floor (x d : Addr) : (lfl x d).lookup ("floor" : Str) = some (.ref x) := by
  unfold lfl
  rw [lookup_putF, if_neg lne, lookup_putF, if_pos rfl]
theorem lfl_over (x d : Addr) : (lfl x d).lookup ("over" : Str) = some (.ref d) := by
  unfold lfl
  rw [lookup_putF, if_pos rfl]
theorem lfl_no (x d : Addr) {m : Str} (h1 : ¬ m = "over") (h2 : ¬ m = "floor") : (lfl x d).lookup m = none := by
  unfold lfl
  rw [lookup_putF, if_neg h1, lookup_putF, if_neg h2]
  rfl
/-- the slabs: each cell and the cell that it is covered with -/
abbrev Ovr := List (Int × Int)
def look (ov : Ovr) (i : Int) : Option Int := (ov.find? fun p => decide (p.1 = i)).map (·.2)
def dk (ov : Ovr) : List (Key × V) := ov.map fun p => ((Sum.inl p.1 : Key), V.int p.2)
theorem dk_val (i : Int) : ∀ ov : Ovr, valV (dk ov) (Sum.inl i : Key) = (look ov i).map V.int
  | [] => rfl
  | p :: r => by
    show valV (((Sum.inl p.1 : Key), V.int p.2) :: dk r) _ = _
    unfold look
    rw [List.find?_cons]
    by_cases e : p.1 = i
    · rw [decide_eq_true e, valV_pos (by rw [e])]
      rfl
    · rw [decide_eq_false e, valV_neg (fun q => e (Sum.inl.inj q))]
      exact dk_val i r
theorem dk_put {ov : Ovr} {i j : Int} (h : look ov i = none) : putK (dk ov) (Sum.inl i : Key) (V.int j) = dk (ov ++ [(i, j)]) := by
  rw [putK_new _ (by rw [dk_val, h] <;> rfl)]
  unfold dk
  rw [List.map_append] <;> rfl
theorem dk_drop (i : Int) (ov : Ovr) : dropK (dk ov) (Sum.inl i : Key) = dk (ov.filter fun p => decide (p.1 ≠ i)) := by
  unfold dropK dk
  rw [List.filter_map]
  congr 1
  refine List.filter_congr fun p _ => ?_
  show decide ((Sum.inl p.1 : Key) ≠ Sum.inl i) = decide (p.1 ≠ i)
  refine decide_eq_decide.mpr ⟨fun h q => h (by rw [q]), fun h q => h (Sum.inl.inj q)⟩
theorem look_snoc {ov : Ovr} {i j k : Int} (h : look ov i = none) : look (ov ++ [(i, j)]) k = if k = i then some j else look ov k := by
  unfold look at h ⊢
  rw [List.find?_append]
  by_cases e : k = i
  · subst e
    have h2 : (ov.find? fun p => decide (p.1 = k)) = none := by
      cases q : ov.find? fun p => decide (p.1 = k) with
      | none => rfl
      | some p => rw [q] at h; cases h
    rw [h2, if_pos rfl]
    rw [Option.none_or, List.find?_cons, decide_eq_true rfl] <;> rfl
  · rw [if_neg e]
    cases q : ov.find? fun p => decide (p.1 = k) with
    | none =>
      rw [Option.none_or, List.find?_cons, decide_eq_false (fun q => e q.symm)] <;> rfl
    | some p => rfl
theorem look_drop (i k : Int) : ∀ ov : Ovr, look (ov.filter fun p => decide (p.1 ≠ i)) k = if k = i then none else look ov k
  | [] => by
    rw [List.filter_nil]
    by_cases e : k = i
    · rw [if_pos e] <;> rfl
    · rw [if_neg e]
  | p :: r => by
    have ih := look_drop i k r
    rw [List.filter_cons]
    by_cases e : p.1 = i
    · rw [if_neg (by rw [decide_eq_true_eq]; exact fun q => q e), ih]
      by_cases e2 : k = i
      · rw [if_pos e2, if_pos e2]
      · rw [if_neg e2, if_neg e2]
        unfold look
        rw [List.find?_cons, decide_eq_false (fun q => e2 (q.symm.trans e))]
    · rw [if_pos (decide_eq_true e)]
      unfold look at ih ⊢
      rw [List.find?_cons, List.find?_cons]
      by_cases e3 : p.1 = k
      · rw [decide_eq_true e3]
        rw [if_neg (fun q => e (e3.trans q))]
      · rw [decide_eq_false e3]
        exact ih
structure LayAt (CL : Addr) (H : Hp) (y dy x d : Addr) (ov : Ovr) : Prop where
  ob : H y = some (.ins CL dy (lfl x d))
  dc : H d = some (.dK (dk ov))
theorem LayAt.same {CL : Addr} {H H' : Hp} {y dy x d : Addr} {ov : Ovr} (a : LayAt CL H y dy x d ov) (s : Same H H') : LayAt CL H' y dy x d ov := ⟨s _ _ a.ob, s _ _ a.dc⟩
structure LTxt (K : PySem.W.Frag) (mg : Str → Option Value) (CL : Addr) : Prop where
  cl : Cls K CL
  nF : NoAttr K CL "floor"
  nO : NoAttr K CL "over"
  mgC : mg "Laying" = some (.ref CL)
def has (ov : Ovr) (i : Int) : Bool := (look ov i).isSome
/-- how a slab's put ends: 0 well, 1 no cell, 2 not beside, 3 covered -/
def putN (ws : List Str) (ov : Ovr) (i j : Int) : Nat := if (isCell ws i && isCell ws j) = true then (if mayB ws i j = true then (if (has ov i || has ov j) = true then 3 else 0) else 2) else 1
/-- how a lift ends: 0 well, 1 no cell, 4 uncovered -/
def liftN (ws : List Str) (ov : Ovr) (i : Int) : Nat := if isCell ws i = true then (if has ov i = true then 0 else 4) else 1
def clsD (cN cB cC cU : Addr) : Nat → Addr
  | 1 => cN
  | 2 => cB
  | 3 => cC
  | _ => cU
/-- each slab covers two cells -/
def Sym (ov : Ovr) : Prop := ∀ i j, look ov i = some j → look ov j = some i ∧ i ≠ j
def lifted (ov : Ovr) (i j : Int) : Ovr := (ov.filter fun p => decide (p.1 ≠ i)).filter fun p => decide (p.1 ≠ j)
theorem may_ne {ws : List Str} {i j : Int} (h : mayB ws i j = true) : i ≠ j := fun e => by
  subst e
  rw [may_eq] at h
  unfold lmay at h
  split at h
  · rw [if_neg (fun q => by have := q.2; omega), if_neg (fun q => by have := q.2; omega)] at h
    cases h
  · cases h
def spLInit (CL : Addr) : Sp := fun vs H Q _ => ∃ (y dy x : Addr), vs = [.ref y, .ref x] ∧ H y = some (.ins CL dy []) ∧ ∀ (d : Addr) (H' : Hp), H d = none → (∀ b o, b ≠ y → H b = some o → H' b = some o) → LayAt CL H' y dy x d [] → Q .non H'
def spPut (C CL cN cB cC cU : Addr) : Sp := fun vs H Q E => ∃ (y dy x dx lr df d : Addr) (f : Nat → Addr) (ws : List Str) (ov : Ovr) (i j : Int), vs = [.ref y, .int i, .int j] ∧ LayAt CL H y dy x d ov ∧ FloorAt C H x dx lr df f ws ∧ ov.length ≤ 900 ∧
  (putN ws ov i j = 0 → ∀ H', (∀ b, b ≠ d → H' b = H b) → H' d = some (.dK (dk (ov ++ [(i, j)] ++ [(j, i)]))) → Q .non H') ∧ (putN ws ov i j ≠ 0 → E (.ref (clsD cN cB cC cU (putN ws ov i j))) none H)
def spLift (C CL cN cB cC cU : Addr) : Sp := fun vs H Q E => ∃ (y dy x dx lr df d : Addr) (f : Nat → Addr) (ws : List Str) (ov : Ovr) (i : Int), vs = [.ref y, .int i] ∧ LayAt CL H y dy x d ov ∧ FloorAt C H x dx lr df f ws ∧ Sym ov ∧
  (liftN ws ov i = 0 → ∀ (j : Int) (H' : Hp), look ov i = some j → (∀ b, b ≠ d → H' b = H b) → H' d = some (.dK (dk (lifted ov i j))) → Q .non H') ∧ (liftN ws ov i ≠ 0 → E (.ref (clsD cN cB cC cU (liftN ws ov i))) none H)
section
variable {P : Program} {w : World} {K : PySem.W.Frag} {mg : Str → Option Value} {base : Heap}
theorem scLI : FnScope ["self", "floor"] ["self", "floor"] (defScope sLaying___init__) := ⟨rfl, rfl, rfl, by decide +kernel, rfl, by decide +kernel, by decide +kernel⟩
theorem ok_linit {f CL : Addr} {fd : FuncData} (F : Fun K "__init__" "Laying.__init__" sLaying___init__ f fd) (T : LTxt K mg CL) : FnOk P w K mg base CX0 1 f fd ["self", "floor"] (spLInit CL) := by
  refine F.ok scLI (fun vs H Q E h => ?_) (fun cdv A outer s H vs Q E hr h => ?_)
  · obtain ⟨y, dy, x, rfl, _⟩ := h
    rfl
  · obtain ⟨y, dy, x, rfl, hy, hQ⟩ := h
    refine ⟨_, pss_cons (ps_fld (pv 0) (pv 1) rfl) (pss_one (ps_fld (pv 0) pe_dnewK rfl)), ?_⟩
    refine ⟨_, rfl, _, rfl, y, CL, dy, _, rfl, hy, T.cl, T.nF, (by show 0 < 1000; decide), fun d hd => ?_⟩
    have ny : d ≠ y := fun q => by rw [q, upd_same] at hd; cases hd
    have hd0 : H d = none := by rw [upd_ne ny] at hd; exact hd
    refine ⟨_, rfl, y, CL, dy, _, rfl, (by rw [upd_ne ny.symm, upd_same]), T.cl, T.nO, (by show 1 < 1000; decide), ?_⟩
    refine hQ d _ hd0 (fun b o hb e => ?_) ⟨upd_same, ?_⟩
    · rw [upd_ne hb, upd_ne (ne_of_none e hd0), upd_ne hb]
      exact e
    · rw [upd_ne ny, upd_same] <;> rfl
theorem scPut : FnScope ["self", "one", "other"] ["self", "one", "other"] (defScope sLaying_put) := ⟨rfl, rfl, rfl, by decide +kernel, rfl, by decide +kernel, by decide +kernel⟩
theorem ok_put {f fr fm C CL cN cB cC cU : Addr} {fd fdr fdm : FuncData} (F : Fun K "put" "Laying.put" sLaying_put f fd) (T : FTxt K mg C) (L : LTxt K mg CL)
    (GR : FnOk P w K mg base (L2.CX P w) 2 fr fdr ["floor", "number"] (spRef C cN)) (gR : mg "refuse_no_cell" = some (.ref fr)) (kR : PySem.W.keepIn K (.ref fr) = true) (bR : Binds K fdr ["floor", "number"] [])
    (GM : FnOk P w K mg base CX0 2 fm fdm ["self", "one", "other"] (spMay C)) (mM : Meth K C "may" fm) (bM : Binds K fdm ["self", "one", "other"] []) (RB : Rz K mg "NotBeside" cB) (RC : Rz K mg "Covered" cC) :
    FnOk P w K mg base (L2.CX P w) 3 f fd ["self", "one", "other"] (spPut C CL cN cB cC cU) := by
  refine F.okX scPut (fun vs H Q E h => ?_) (fun cdv A outer s H vs Q E hr h => ?_)
  · obtain ⟨y, dy, x, dx, lr, df, d, g, ws, ov, i, j, rfl, _⟩ := h
    rfl
  · obtain ⟨y, dy, x, dx, lr, df, d, g, ws, ov, i, j, rfl, la, fa, hn, hQ, hE⟩ := h
    have hu := hu_of hr
    have go : Passes (L2.CX P w) (cxOf (L2.CX P w) P w K mg base ["self", "one", "other"] "Laying.put" (defScope sLaying_put) f cdv A outer s H E) E := passes_call (takes_of rfl rfl rfl rfl) (fun _ _ _ _ h => h)
    refine ⟨_, pss_cons (ps_expr (pe_call GR hr rfl gR kR bR .nil go (pa_cons (pe_fld (pv 0) rfl) (pa_cons (pv 1) pa_nil))))
      (pss_cons (ps_expr (pe_call GR hr rfl gR kR bR .nil go (pa_cons (pe_fld (pv 0) rfl) (pa_cons (pv 2) pa_nil))))
      (pss_cons (ps_if (pt_not (pt_val (pe_meth (pe_fld (pv 0) rfl) T.cl mM GM hr bM .nil pass0 (pa_cons (pv 1) (pa_cons (pv 2) pa_nil))))) (pss_one (ps_raise rfl (takes_of rfl rfl rfl rfl) (pmk_own PySem.F.excBase_ValueError RB.x RB.g RB.k (raises_own RB.s RB.t) rfl))) pss_nil)
      (pss_cons (ps_if (PW.pt (pw_or (pt_cmp (pc_din hu (pv 1) (pe_fld (pv 0) rfl)) rfl) (pw_or1 (pt_cmp (pc_din hu (pv 2) (pe_fld (pv 0) rfl)) rfl)))) (pss_one (ps_raise rfl (takes_of rfl rfl rfl rfl) (pmk_own PySem.F.excBase_ValueError RC.x RC.g RC.k (raises_own RC.s RC.t) rfl))) pss_nil)
      (pss_cons (ps_dput hu (pe_fld (pv 0) rfl) (pv 1) (pv 2) rfl)
      (pss_one (ps_dput hu (pe_fld (pv 0) rfl) (pv 2) (pv 1) rfl)))))), ?_⟩
    have lno : ∀ m : Str, ¬ m = "over" → ¬ m = "floor" → (lfl x d).lookup m = none := fun m => lfl_no x d
    have nM : (flds lr ws df (g (topP ws))).lookup ("may" : Str) = none := flds_no _ _ _ _ (by decide +kernel) (by decide +kernel) (by decide +kernel) (by decide +kernel)
    have no1 : (isCell ws i && isCell ws j) = false → E (.ref cN) none H := fun e => by
      have q : putN ws ov i j = 1 := by unfold putN; rw [e, if_neg Bool.false_ne_true]
      rw [q] at hE
      exact hE (by decide)
    refine ⟨_, rfl, y, CL, dy, _, _, rfl, la.ob, L.cl, L.nF, lfl_floor _ _, _, rfl, x, dx, lr, df, g, ws, i, rfl, fa, fun ci => ?_, fun ci => no1 (by rw [ci, Bool.false_and])⟩
    refine ⟨_, rfl, y, CL, dy, _, _, rfl, la.ob, L.cl, L.nF, lfl_floor _ _, _, rfl, x, dx, lr, df, g, ws, j, rfl, fa, fun cj => ?_, fun cj => no1 (by rw [cj, Bool.and_false])⟩
    refine ⟨_, rfl, y, CL, dy, _, _, rfl, la.ob, L.cl, L.nF, lfl_floor _ _, x, dx, _, rfl, fa.ob, nM, _, rfl, _, rfl, x, dx, lr, df, g, ws, i, j, rfl, fa, _, rfl, ?_⟩
    have both : (isCell ws i && isCell ws j) = true := by rw [ci, cj] <;> rfl
    cases hm : mayB ws i j with
    | false =>
      refine iteT ?_
      have q : putN ws ov i j = 2 := by unfold putN; rw [both, hm, if_pos rfl, if_neg Bool.false_ne_true]
      rw [q] at hE
      exact hE (by decide)
    | true =>
    refine iteF ?_
    have q3 : (has ov i || has ov j) = true → E (.ref cC) none H := fun e => by
      have q : putN ws ov i j = 3 := by unfold putN; rw [both, hm, e, if_pos rfl, if_pos rfl, if_pos rfl]
      rw [q] at hE
      exact hE (by decide)
    have dg : ∀ i, DGet H d (V.int i) ((look ov i).map V.int) := fun i => by
      have q := DGet.k (k := (Sum.inl i : Key)) la.dc
      rw [dk_val] at q
      exact q
    have hs : ∀ i, ((look ov i).map V.int).isSome = has ov i := fun i => by
      unfold has
      cases look ov i <;> rfl
    refine ⟨_, rfl, _, rfl, y, CL, dy, _, _, rfl, la.ob, L.cl, L.nO, lfl_over _ _, d, _, rfl, dg i, _, rfl, ?_⟩
    rw [hs]
    refine ite2 (fun hi => ?_) (fun hi => ?_)
    · exact iteT (q3 (by rw [hi, Bool.true_or]))
    refine ⟨_, rfl, _, rfl, y, CL, dy, _, _, rfl, la.ob, L.cl, L.nO, lfl_over _ _, d, _, rfl, dg j, _, rfl, ?_⟩
    rw [hs]
    refine ite2 (fun hj => ?_) (fun hj => ?_)
    · exact q3 (by rw [hj, Bool.or_true])
    have li : look ov i = none := by
      cases e : look ov i with
      | none => rfl
      | some z => exact absurd (by unfold has; rw [e] <;> rfl) hi
    have lj : look ov j = none := by
      cases e : look ov j with
      | none => rfl
      | some z => exact absurd (by unfold has; rw [e] <;> rfl) hj
    have ne := may_ne hm
    have ndy : y ≠ d := fun q => by
      have := la.dc
      rw [← q, la.ob] at this
      cases this
    have sz : ∀ o : Ovr, o.length ≤ 1000 → (dk o).length < sizeLine := fun o h => by
      unfold dk
      rw [List.length_map]
      exact small1000 h
    refine ⟨_, rfl, _, rfl, y, CL, dy, _, _, rfl, la.ob, L.cl, L.nO, lfl_over _ _, _, rfl, d, _, rfl, DPut.k (k := (Sum.inl i : Key)) la.dc (sz ov (by omega)), ?_⟩
    rw [dk_put li]
    have l2 : look (ov ++ [(i, j)]) j = none := by rw [look_snoc li, if_neg (fun q => ne q.symm)]; exact lj
    refine ⟨_, rfl, _, rfl, y, CL, dy, _, _, rfl, (by rw [upd_ne ndy]; exact la.ob), L.cl, L.nO, lfl_over _ _, _, rfl, d, _, rfl, DPut.k (k := (Sum.inl j : Key)) upd_same (sz _ (by rw [List.length_append]; show ov.length + 1 ≤ 1000; omega)), ?_⟩
    rw [dk_put l2]
    refine hQ ?_ _ (fun b hb => by rw [upd_ne hb, upd_ne hb]) upd_same
    unfold putN
    rw [both, hm, if_pos rfl, if_pos rfl, if_neg]
    rw [Bool.or_eq_true]
    rintro (q | q)
    · exact hi q
    · exact hj q
theorem scLift : FnScope ["self", "cell", "other"] ["self", "cell"] (defScope sLaying_lift) := ⟨rfl, rfl, rfl, by decide +kernel, rfl, by decide +kernel, by decide +kernel⟩
theorem ok_lift {f fr C CL cN cB cC cU : Addr} {fd fdr : FuncData} (F : Fun K "lift" "Laying.lift" sLaying_lift f fd) (L : LTxt K mg CL)
    (GR : FnOk P w K mg base (L2.CX P w) 2 fr fdr ["floor", "number"] (spRef C cN)) (gR : mg "refuse_no_cell" = some (.ref fr)) (kR : PySem.W.keepIn K (.ref fr) = true) (bR : Binds K fdr ["floor", "number"] []) (RU : Rz K mg "Uncovered" cU) :
    FnOk P w K mg base (L2.CX P w) 3 f fd ["self", "cell"] (spLift C CL cN cB cC cU) := by
  refine F.okX scLift (fun vs H Q E h => ?_) (fun cdv A outer s H vs Q E hr h => ?_)
  · obtain ⟨y, dy, x, dx, lr, df, d, g, ws, ov, i, rfl, _⟩ := h
    rfl
  · obtain ⟨y, dy, x, dx, lr, df, d, g, ws, ov, i, rfl, la, fa, hy, hQ, hE⟩ := h
    have hu := hu_of hr
    have go : Passes (L2.CX P w) (cxOf (L2.CX P w) P w K mg base ["self", "cell", "other"] "Laying.lift" (defScope sLaying_lift) f cdv A outer s H E) E := passes_call (takes_of rfl rfl rfl rfl) (fun _ _ _ _ h => h)
    refine ⟨_, pss_cons (ps_expr (pe_call GR hr rfl gR kR bR .nil go (pa_cons (pe_fld (pv 0) rfl) (pa_cons (pv 1) pa_nil))))
      (pss_cons (ps_if (pt_cmp (pc_dnotin hu (pv 1) (pe_fld (pv 0) rfl)) rfl) (pss_one (ps_raise rfl (takes_of rfl rfl rfl rfl) (pmk_own PySem.F.excBase_ValueError RU.x RU.g RU.k (raises_own RU.s RU.t) rfl))) pss_nil)
      (pss_cons (ps_set (i := 2) scLift.nd rfl (Or.inl rfl) (pe_dget hu (pe_fld (pv 0) rfl) (pv 1) (fun _ _ => rfl)))
      (pss_cons (ps_ddel (pe_fld (pv 0) rfl) (pv 1))
      (pss_one (ps_ddel (pe_fld (pv 0) rfl) (pv 2)))))), ?_⟩
    refine ⟨_, rfl, y, CL, dy, _, _, rfl, la.ob, L.cl, L.nF, lfl_floor _ _, _, rfl, x, dx, lr, df, g, ws, i, rfl, fa, fun ci => ?_, fun ci => ?_⟩
    case _ =>
      have dg : DGet H d (V.int i) ((look ov i).map V.int) := by
        have q := DGet.k (k := (Sum.inl i : Key)) la.dc
        rw [dk_val] at q
        exact q
      refine ⟨_, rfl, _, rfl, y, CL, dy, _, _, rfl, la.ob, L.cl, L.nO, lfl_over _ _, d, _, rfl, dg, _, rfl, ?_⟩
      cases lk : look ov i with
      | none =>
        refine iteT ?_
        have q : liftN ws ov i = 4 := by
          unfold liftN has
          rw [ci, lk, if_pos rfl]
          rfl
        rw [q] at hE
        exact hE (by decide)
      | some j =>
        refine iteF ?_
        rw [lk] at dg
        have q0 : liftN ws ov i = 0 := by
          unfold liftN has
          rw [ci, lk, if_pos rfl]
          rfl
        obtain ⟨lj, ne⟩ := hy i j lk
        have ndy : y ≠ d := fun q => by
          have := la.dc
          rw [← q, la.ob] at this
          cases this
        refine ⟨_, rfl, y, CL, dy, _, _, rfl, la.ob, L.cl, L.nO, lfl_over _ _, _, rfl, d, _, rfl, dg, ?_⟩
        refine ⟨_, rfl, y, CL, dy, _, _, rfl, la.ob, L.cl, L.nO, lfl_over _ _, _, rfl, d, _, (Sum.inl i : Key), rfl, la.dc, rfl, (by rw [dk_val, lk] <;> rfl), ?_⟩
        rw [dk_drop]
        refine ⟨_, rfl, y, CL, dy, _, _, rfl, (by rw [upd_ne ndy]; exact la.ob), L.cl, L.nO, lfl_over _ _, _, rfl, d, _, (Sum.inl j : Key), rfl, upd_same, rfl, (by rw [dk_val, look_drop, if_neg (fun q => ne q.symm), lj] <;> rfl), ?_⟩
        rw [dk_drop]
        exact hQ q0 j _ lk (fun b hb => by rw [upd_ne hb, upd_ne hb]) upd_same
    case _ =>
      have q : liftN ws ov i = 1 := by
        unfold liftN
        rw [ci, if_neg Bool.false_ne_true]
      rw [q] at hE
      exact hE (by decide)
end
end Sf
namespace Sf
open PySem L2
def natI (ps : List Nat) : List Int := ps.map fun (p : Nat) => (p : Int)
theorem nats_eq (ps : List Nat) : nats ps = (natI ps).map V.int := by
  unfold nats natI
  rw [List.map_map]
  rfl
theorem mem_natI {ps : List Nat} {i : Int} : i ∈ natI ps ↔ 0 ≤ i ∧ i.toNat ∈ ps := by
  unfold natI
  rw [List.mem_map]
  constructor
  · rintro ⟨p, hp, rfl⟩
    exact ⟨by omega, by rw [Int.toNat_natCast]; exact hp⟩
  · rintro ⟨h0, h1⟩
    exact ⟨_, h1, by omega⟩
theorem dp_ints {K : PySem.W.Frag} {H : Hp} : ∀ xs : List Int, DpAll K H (xs.map V.int) (xs.map PyData.int)
  | [] => .nil
  | x :: r => .cons (.int x) (dp_ints r)
theorem dp_strs {K : PySem.W.Frag} {H : Hp} : ∀ xs : List Str, DpAll K H (xs.map V.str) (xs.map PyData.str)
  | [] => .nil
  | x :: r => .cons (.str x) (dp_strs r)
theorem shaped_atoms {ds : List PyData} (h : ∀ d ∈ ds, d.canLay0 = true ∧ d.depth = 0) : SeqAt.shaped (.list ds) = true := by
  have h1 : ∀ ds : List PyData, (∀ d ∈ ds, d.canLay0 = true ∧ d.depth = 0) → PyData.canLayAll0 ds = true ∧ PyData.depthAll ds = 0 := by
    intro ds
    induction ds with
    | nil => exact fun _ => ⟨rfl, rfl⟩
    | cons d r ih =>
      intro h
      obtain ⟨a, b⟩ := ih fun z hz => h z (List.mem_cons_of_mem _ hz)
      obtain ⟨c, e⟩ := h d List.mem_cons_self
      refine ⟨?_, ?_⟩
      · show (PyData.canLay0 d && PyData.canLayAll0 r) = true
        rw [c, a] <;> rfl
      · show max (PyData.depth d) (PyData.depthAll r) = 0
        rw [e, b] <;> rfl
  obtain ⟨a, b⟩ := h1 ds h
  unfold SeqAt.shaped
  have e1 : (PyData.list ds).canLay0 = true := a
  have e2 : (PyData.list ds).depth = PyData.depthAll ds + 1 := rfl
  rw [e1, e2, b]
  decide
theorem shaped_ints (xs : List Int) : SeqAt.shaped (.list (xs.map PyData.int)) = true := shaped_atoms fun d hd => by
  obtain ⟨i, _, rfl⟩ := List.mem_map.mp hd
  exact ⟨rfl, rfl⟩
def spLCells (K : PySem.W.Frag) : Sp := fun vs H Q _ => ∃ (l : Addr) (ws : List Str), vs = [.ref l] ∧ SqL K H l (ws.map V.str) ∧ Wf ws ∧ ∀ (lc : Addr) (H' : Hp), Same H H' → H lc = none → H' lc = some (.lst (nats (cellsOf ws))) → Q (.ref lc) H'
def spWhole : Sp := fun vs H Q _ => ∃ i : Int, vs = [.int i] ∧ Q (.bl true) H
def spListed (K : PySem.W.Frag) : Sp := fun vs H Q _ => ∃ (a b : Addr) (xs : List Int), vs = [.ref a, .ref b] ∧ H a = some (.lst (xs.map V.int)) ∧ SqL K H b (xs.map V.int) ∧ Q (.bl true) H
theorem sg_ne {a b : Nat} : (V.str ⟨#[a]⟩ = V.str (sg1 b)) ↔ a = b := ⟨fun q => by
  have q1 := V.str.inj q
  unfold sg1 at q1
  injection q1 with q2
  have q3 := congrArg (fun a : Array Nat => a.toList) q2
  exact (List.cons.inj q3).1, fun q => by rw [q]; rfl⟩
end Sf
namespace Sf
open PySem PySem.Spec PyProof.Rows L2
def bareOf (ws : List Str) (ov : Ovr) : List Int := ((cellsOf ws).map fun (p : Nat) => (p : Int)).filter fun c => !has ov c
def keysOf (ov : Ovr) : List Int := ov.map (·.1)
/-- the slabs of the cells ks, each by its lower cell -/
def pairsOf (ks : List Int) (ov : Ovr) : List (Int × Int) := (ks.filter fun c => decide (c < (look ov c).getD 0)).map fun c => (c, (look ov c).getD 0)
/-- tuples of two ints at the addresses ts -/
def TupsAt (H : Hp) (ts : List Addr) (ps : List (Int × Int)) : Prop := ts.length = ps.length ∧ ∀ (i : Nat) (t : Addr) (p : Int × Int), ts[i]? = some t → ps[i]? = some p → H t = some (.tup [.int p.1, .int p.2])
theorem TupsAt.same {H H' : Hp} {ts : List Addr} {ps : List (Int × Int)} (a : TupsAt H ts ps) (s : Same H H') : TupsAt H' ts ps := ⟨a.1, fun i t p h1 h2 => s _ _ (a.2 i t p h1 h2)⟩
theorem TupsAt.snoc {H : Hp} {ts : List Addr} {ps : List (Int × Int)} {t : Addr} {p : Int × Int} (a : TupsAt H ts ps) (h : H t = some (.tup [.int p.1, .int p.2])) : TupsAt H (ts ++ [t]) (ps ++ [p]) := by
  refine ⟨by rw [List.length_append, List.length_append, a.1] <;> rfl, fun i t' p' h1 h2 => ?_⟩
  rcases Nat.lt_or_ge i ts.length with q | q
  · rw [List.getElem?_append_left q] at h1
    rw [List.getElem?_append_left (by rw [← a.1]; exact q)] at h2
    exact a.2 i t' p' h1 h2
  · rw [List.getElem?_append_right q] at h1
    rw [List.getElem?_append_right (by rw [← a.1]; exact q), ← a.1] at h2
    cases hi : i - ts.length with
    | zero =>
      rw [hi] at h1 h2
      cases h1
      cases h2
      exact h
    | succ n =>
      rw [hi] at h1
      simp at h1
theorem int_el {ks : List Int} {j : Nat} {y : V} (h : (ks.map V.int)[j]? = some y) : ∃ z, ks[j]? = some z ∧ y = V.int z ∧ ks.take (j + 1) = ks.take j ++ [z] := by
  rw [List.getElem?_map] at h
  cases e : ks[j]? with
  | none => rw [e] at h; cases h
  | some z =>
    rw [e] at h
    refine ⟨z, rfl, (Option.some.inj h).symm, ?_⟩
    rw [List.take_add_one, e] <;> rfl
theorem look_key {ov : Ovr} {k : Int} (h : k ∈ keysOf ov) : ∃ j, look ov k = some j := by
  obtain ⟨p, hp, rfl⟩ := List.mem_map.mp h
  unfold look
  cases e : ov.find? fun q => decide (q.1 = p.1) with
  | none =>
    have := List.find?_eq_none.mp e p hp
    simp at this
  | some q => exact ⟨q.2, rfl⟩
theorem dk_keys (ov : Ovr) : (dk ov).map (·.1) = (keysOf ov).map (Sum.inl : Int → Key) := by
  unfold dk keysOf
  rw [List.map_map, List.map_map]
  rfl
def spBare (C CL : Addr) : Sp := fun vs H Q _ => ∃ (y dy x dx lr df d : Addr) (f : Nat → Addr) (ws : List Str) (ov : Ovr), vs = [.ref y] ∧ LayAt CL H y dy x d ov ∧ FloorAt C H x dx lr df f ws ∧ (cellsOf ws).length ≤ 900 ∧
  ∀ (l : Addr) (H' : Hp), Same H H' → H l = none → H' l = some (.lst ((bareOf ws ov).map V.int)) → Q (.ref l) H'
def spSlabs (CL : Addr) : Sp := fun vs H Q _ => ∃ (y dy x d : Addr) (ov : Ovr), vs = [.ref y] ∧ LayAt CL H y dy x d ov ∧ ov.length ≤ 900 ∧
  ∀ (l : Addr) (ts : List Addr) (ks : List Int) (H' : Hp), ks.Perm (keysOf ov) → ks.Pairwise (· ≤ ·) → Same H H' → H l = none → H' l = some (.lst (ts.map V.ref)) → TupsAt H' ts (pairsOf ks ov) → Q (.ref l) H'
section
variable {P : Program} {w : World} {K : PySem.W.Frag} {mg : Str → Option Value} {base : Heap}
theorem scBare : FnScope ["self", "cell"] ["self"] (defScope sLaying_bare) := ⟨rfl, rfl, rfl, by decide +kernel, rfl, by decide +kernel, by decide +kernel⟩
theorem ok_bare {f fk C CL : Addr} {fd fdk : FuncData} (F : Fun K "bare" "Laying.bare" sLaying_bare f fd) (T : FTxt K mg C) (L : LTxt K mg CL) (GK : FnOk P w K mg base CX0 1 fk fdk ["self"] (spCells C)) (mK : Meth K C "cells" fk) (bK : Binds K fdk ["self"] []) :
    FnOk P w K mg base CX0 2 f fd ["self"] (spBare C CL) := by
  refine F.ok scBare (fun vs H Q E h => ?_) (fun cdv A outer s H vs Q E hr h => ?_)
  · obtain ⟨y, dy, x, dx, lr, df, d, g, ws, ov, rfl, _⟩ := h
    rfl
  · obtain ⟨y, dy, x, dx, lr, df, d, g, ws, ov, rfl, la, fa, hn, hQ⟩ := h
    have hu := hu_of hr
    refine ⟨_, pss_one (ps_ret (pe_lc (own := [("cell", 1)]) (g := gName 1) rfl scBare.nd (pi_list (pe_meth0 (pe_fld (pv 0) rfl) T.cl mK GK hr bK .nil pass0)) (blkOk_by (N := ["self", "cell"]) (sc := defScope sLaying_bare) (by decide +kernel)) (fun _ _ _ _ _ => pg_name (i := 1) scBare.nd rfl (Or.inl rfl))
      (fun _ _ _ _ _ => pts_one (pt_cmp (pc_dnotin hu (pv 1) (show PE _ _ (tFld K (tVar 0) "over") from pe_fld (pv 0) rfl)) rfl)) (fun _ _ _ _ _ => pv 1))), ?_⟩
    have nK : (flds lr ws df (g (topP ws))).lookup ("cells" : Str) = none := flds_no _ _ _ _ (by decide +kernel) (by decide +kernel) (by decide +kernel) (by decide +kernel)
    refine ⟨_, rfl, y, CL, dy, _, _, rfl, la.ob, L.cl, L.nF, lfl_floor _ _, x, dx, _, rfl, fa.ob, nK, x, dx, lr, df, g, ws, rfl, fa, fun lc H1 s1 hlc h1 => ?_⟩
    have e1 : nats (cellsOf ws) = ((cellsOf ws).map fun (p : Nat) => (p : Int)).map V.int := nats_eq _
    rw [e1] at h1
    generalize hcs : ((cellsOf ws).map fun (p : Nat) => (p : Int)) = cs at h1
    have lcs : cs.length ≤ 900 := by rw [← hcs, List.length_map]; exact hn
    have la1 := la.same s1
    refine ⟨lc, rfl, ⟨_, SqL.of h1⟩, fun D hD => ?_⟩
    refine lc_list (K := K) (a := lc) (xs := cs.map V.int) (fun j H3 => Same H1 H3 ∧ H3 D = some (.lst (((cs.take j).filter fun c => !has ov c).map V.int))) ⟨Same.new hD, upd_same⟩ (fun i H3 _ ⟨s3, _⟩ => SqL.of (s3 _ _ h1)) ?_ ?_
    · rintro j z H3 hj ⟨s3, h3⟩
      obtain ⟨c, hc, rfl, tk1⟩ := int_el hj
      have la3 := la1.same s3
      have dg : DGet H3 d (V.int c) ((look ov c).map V.int) := by
        have q := DGet.k (k := (Sum.inl c : Key)) la3.dc
        rw [dk_val] at q
        exact q
      have hs : ((look ov c).map V.int).isSome = has ov c := by
        unfold has
        cases look ov c <;> rfl
      refine ⟨rfl, _, rfl, _, rfl, y, CL, dy, _, _, rfl, la3.ob, L.cl, L.nO, lfl_over _ _, d, _, rfl, dg, _, rfl, ?_⟩
      rw [hs]
      cases hh : has ov c with
      | false =>
        refine iteT ?_
        refine ⟨_, rfl, _, h3, ?_, ?_, ?_⟩
        · rw [List.length_map]
          have q1 := List.length_filter_le (fun c => !has ov c) (cs.take j)
          have q2 : (cs.take j).length ≤ cs.length := by rw [List.length_take]; omega
          exact small1000 (by omega)
        · exact fun b o e => by rw [upd_ne (ne_of_none e hD)]; exact s3 b o e
        · rw [upd_same, tk1, List.filter_append, List.map_append, List.filter_cons, if_pos (by rw [hh] <;> rfl)] <;> rfl
      | true =>
        refine iteF ?_
        refine ⟨s3, ?_⟩
        rw [tk1, List.filter_append, List.filter_cons, if_neg (by rw [hh]; decide), List.filter_nil, List.append_nil]
        exact h3
    · rintro H3 ⟨s3, h3⟩
      rw [List.length_map, List.take_length] at h3
      have hD0 : H D = none := by
        cases q : H D with
        | none => rfl
        | some o =>
          have := s1 _ _ q
          rw [hD] at this
          cases this
      refine hQ D H3 (s1.trans s3) hD0 ?_
      unfold bareOf
      rw [hcs]
      exact h3
theorem scSlabs : FnScope ["self", "cell"] ["self"] (defScope sLaying_slabs) := ⟨rfl, rfl, rfl, by decide +kernel, rfl, by decide +kernel, by decide +kernel⟩
theorem ok_slabs {f CL : Addr} {fd : FuncData} (F : Fun K "slabs" "Laying.slabs" sLaying_slabs f fd) (L : LTxt K mg CL) (gs : mg "sorted" = none) : FnOk P w K mg base CX0 1 f fd ["self"] (spSlabs CL) := by
  refine F.ok scSlabs (fun vs H Q E h => ?_) (fun cdv A outer s H vs Q E hr h => ?_)
  · obtain ⟨y, dy, x, d, ov, rfl, _⟩ := h
    rfl
  · obtain ⟨y, dy, x, d, ov, rfl, la, hn, hQ⟩ := h
    have hu := hu_of hr
    refine ⟨_, pss_one (ps_ret (pe_lc (own := [("cell", 1)]) (g := gName 1) rfl scSlabs.nd (pi_list (pe_callB (Gs.call_sortedAny rfl) (by rfl) gs rfl (pa_cons (pe_fld (pv 0) rfl) pa_nil))) (blkOk_by (N := ["self", "cell"]) (sc := defScope sLaying_slabs) (by decide +kernel)) (fun _ _ _ _ _ => pg_name (i := 1) scSlabs.nd rfl (Or.inl rfl))
      (fun _ _ _ _ _ => pts_one (pt_cmpR op_lt (pv 1) (pe_dget hu (show PE _ _ (tFld K (tVar 0) "over") from pe_fld (pv 0) rfl) (pv 1) (fun _ _ => rfl)) (nomark _)))
      (fun _ _ _ _ _ => pe_tup (pa_cons (pv 1) (pa_cons (pe_dget hu (show PE _ _ (tFld K (tVar 0) "over") from pe_fld (pv 0) rfl) (pv 1) (fun _ _ => rfl)) pa_nil))))), ?_⟩
    refine ⟨_, rfl, y, CL, dy, _, _, rfl, la.ob, L.cl, L.nO, lfl_over _ _, d, dk ov, keysOf ov, rfl, .inl la.dc, dk_keys ov, (by unfold keysOf; rw [List.length_map]; omega), fun ks p hp hsrt hp0 => ?_⟩
    have s1 : Same H (upd H p (.lst (ks.map V.int))) := Same.new hp0
    have h1 : (upd H p (.lst (ks.map V.int))) p = some (.lst (ks.map V.int)) := upd_same
    generalize upd H p (.lst (ks.map V.int)) = H1 at s1 h1
    have la1 := la.same s1
    have lks : ks.length ≤ 900 := by
      rw [hp.length_eq]
      unfold keysOf
      rw [List.length_map]
      exact hn
    refine ⟨p, rfl, ⟨_, SqL.of h1⟩, fun D hD => ?_⟩
    refine lc_list (K := K) (a := p) (xs := ks.map V.int) (fun j H3 => Same H1 H3 ∧ ∃ ts : List Addr, H3 D = some (.lst (ts.map V.ref)) ∧ TupsAt H3 ts (pairsOf (ks.take j) ov)) ⟨Same.new hD, [], upd_same, rfl, fun i t p h => by simp at h⟩ (fun i H3 _ ⟨s3, _⟩ => SqL.of (s3 _ _ h1)) ?_ ?_
    · rintro j z H3 hj ⟨s3, ts, h3, t3⟩
      obtain ⟨c, hc, rfl, tk1⟩ := int_el hj
      have la3 := la1.same s3
      obtain ⟨o, lo⟩ := look_key (hp.mem_iff.mp (List.mem_of_getElem? hc))
      have dg : ∀ H4, Same H3 H4 → DGet H4 d (V.int c) (some (V.int o)) := fun H4 s4 => by
        have q := DGet.k (k := (Sum.inl c : Key)) (s4 _ _ la3.dc)
        rw [dk_val, lo] at q
        exact q
      refine ⟨rfl, _, rfl, _, rfl, y, CL, dy, _, _, rfl, la3.ob, L.cl, L.nO, lfl_over _ _, _, rfl, d, _, rfl, dg H3 (Same.refl _), _, _, rfl, rfl, _, rfl, ?_⟩
      have po : pairsOf (ks.take (j + 1)) ov = pairsOf (ks.take j) ov ++ (if c < o then [(c, o)] else []) := by
        unfold pairsOf
        rw [tk1, List.filter_append, List.map_append, List.filter_cons, lo]
        show _ ++ List.map _ (if decide (c < o) = true then c :: List.filter _ [] else List.filter _ []) = _
        by_cases q : c < o
        · rw [if_pos (decide_eq_true q), if_pos q, List.filter_nil, List.map_cons, List.map_nil, lo] <;> rfl
        · rw [if_neg (fun z => q (of_decide_eq_true z)), if_neg q, List.filter_nil, List.map_nil]
      by_cases q : c < o
      · refine iteTd q ?_
        rw [if_pos q] at po
        refine ⟨_, rfl, _, rfl, y, CL, dy, _, _, rfl, la3.ob, L.cl, L.nO, lfl_over _ _, _, rfl, d, _, rfl, dg H3 (Same.refl _), (by show 2 ≤ sizeLine; decide), fun t ht => ?_⟩
        have s4 : Same H3 (upd H3 t (.tup [.int c, .int o])) := Same.new ht
        have ntD : D ≠ t := fun z => by rw [← z, h3] at ht; cases ht
        refine ⟨ts.map V.ref, s4 _ _ h3, ?_, ?_, ts ++ [t], ?_, ?_⟩
        · rw [List.length_map, t3.1]
          unfold pairsOf
          rw [List.length_map]
          have q1 := List.length_filter_le (fun c => decide (c < (look ov c).getD 0)) (ks.take j)
          have q2 : (ks.take j).length ≤ ks.length := by rw [List.length_take]; omega
          exact small1000 (by omega)
        · exact fun b o2 e => by rw [upd_ne (ne_of_none e hD)]; exact s4 _ _ (s3 b o2 e)
        · rw [upd_same, List.map_append] <;> rfl
        · rw [po]
          have t4 := t3.same s4
          have base_ : TupsAt (upd H3 t (.tup [.int c, .int o])) (ts ++ [t]) (pairsOf (ks.take j) ov ++ [(c, o)]) := t4.snoc upd_same
          refine ⟨base_.1, fun i t' p' g1 g2 => ?_⟩
          have g3 := base_.2 i t' p' g1 g2
          rw [upd_ne (fun z => by rw [z, s4 _ _ h3] at g3; cases g3)]
          exact g3
      · refine iteNS2 q ?_
        rw [if_neg q, List.append_nil] at po
        refine ⟨s3, ts, h3, ?_⟩
        rw [po]
        exact t3
    · rintro H3 ⟨s3, ts, h3, t3⟩
      rw [List.length_map, List.take_length] at t3
      have hD0 : H D = none := by
        cases q : H D with
        | none => rfl
        | some o =>
          have := s1 _ _ q
          rw [hD] at this
          cases this
      exact hQ D ts ks H3 hp hsrt (s1.trans s3) hD0 h3 t3
end
end Sf
namespace Sf
open PySem PySem.Spec PyProof.Rows L2
/-! ### the cells beside: the law's own list -/
def nearL (ws : List Str) (p : Nat) : List Int := if 1 < wide ws then [(p : Int) - wide ws, (p : Int) - 1, (p : Int) + 1, (p : Int) + wide ws] else [(p : Int) - 1, (p : Int) + 1]
theorem cell_place {ws : List Str} {p : Nat} (h : p ∈ cellsOf ws) : p < wide ws * ws.length ∧ atP ws p ≠ 35 := by
  obtain ⟨a, b⟩ := cellsTo_mem.mp h
  exact ⟨by rw [Nat.mul_comm]; exact a, b⟩
theorem isCell_nat {ws : List Str} {p : Nat} : isCell ws (p : Int) = true ↔ p ∈ cellsOf ws := by
  unfold isCell
  rw [decide_eq_true_eq, Int.toNat_natCast]
  exact ⟨fun h => h.2, fun h => ⟨by omega, h⟩⟩
theorem lmay_cell {ws : List Str} {p : Nat} (h : p ∈ cellsOf ws) (j : Int) : lmay ws (p : Int) j = decide (j ∈ nbsP ws p) := by
  rw [← may_eq]
  unfold mayB
  rw [isCell_nat.mpr h, Bool.true_and, Int.toNat_natCast]
theorem beside_eq {ws : List Str} {p : Nat} (h : p ∈ cellsOf ws) : (nearL ws p).filter (fun j => lmay ws (p : Int) j) = nbsP ws p := by
  have e : (fun j => lmay ws (p : Int) j) = fun j => decide (j ∈ nbsP ws p) := funext (lmay_cell h)
  rw [e]
  obtain ⟨hp, _⟩ := cell_place h
  have hw : 0 < wide ws := by
    rcases Nat.eq_zero_or_pos (wide ws) with q | q
    · rw [q, Nat.zero_mul] at hp
      omega
    · exact q
  have dm := Nat.div_add_mod p (wide ws)
  have ml := Nat.mod_lt p hw
  unfold nbsP nbs
  generalize hr : p / wide ws = r at dm
  generalize hc : p % wide ws = c at dm ml
  have pz : (p : Int) = (r : Int) * (wide ws : Int) + (c : Int) := by
    have q : (p : Int) = ((wide ws * r + c : Nat) : Int) := by rw [dm]
    rw [q, Int.natCast_add, Int.natCast_mul, Int.mul_comm]
  have s1 : stepTo (wide ws) r c (-1, 0, ".|") = (p : Int) - wide ws := by
    show ((r : Int) + -1) * ((wide ws : Nat) : Int) + (c : Int) + 0 = _
    rw [pz, Int.add_mul]
    omega
  have s2 : stepTo (wide ws) r c (0, -1, ".-") = (p : Int) - 1 := by
    show ((r : Int) + 0) * ((wide ws : Nat) : Int) + (c : Int) + -1 = _
    rw [pz, Int.add_mul]
    omega
  have s3 : stepTo (wide ws) r c (0, 1, ".-") = (p : Int) + 1 := by
    show ((r : Int) + 0) * ((wide ws : Nat) : Int) + (c : Int) + 1 = _
    rw [pz, Int.add_mul]
    omega
  have s4 : stepTo (wide ws) r c (1, 0, ".|") = (p : Int) + wide ws := by
    show ((r : Int) + 1) * ((wide ws : Nat) : Int) + (c : Int) + 0 = _
    rw [pz, Int.add_mul]
    omega
  unfold steps nearL
  by_cases h1 : 1 < wide ws
  · rw [if_pos h1]
    have d12 : ¬ ((p : Int) - wide ws = (p : Int) - 1) := by omega
    have d13 : ¬ ((p : Int) - wide ws = (p : Int) + 1) := by omega
    have d14 : ¬ ((p : Int) - wide ws = (p : Int) + wide ws) := by omega
    have d23 : ¬ ((p : Int) - 1 = (p : Int) + 1) := by omega
    have d24 : ¬ ((p : Int) - 1 = (p : Int) + wide ws) := by omega
    have d34 : ¬ ((p : Int) + 1 = (p : Int) + wide ws) := by omega
    have d21 : ¬ ((p : Int) - 1 = (p : Int) - wide ws) := by omega
    have d31 : ¬ ((p : Int) + 1 = (p : Int) - wide ws) := by omega
    have d41 : ¬ ((p : Int) + wide ws = (p : Int) - wide ws) := by omega
    have d32 : ¬ ((p : Int) + 1 = (p : Int) - 1) := by omega
    have d42 : ¬ ((p : Int) + wide ws = (p : Int) - 1) := by omega
    have d43 : ¬ ((p : Int) + wide ws = (p : Int) + 1) := by omega
    generalize stepOk ws (r : Int) (c : Int) = ok
    cases a1 : ok (-1, 0, ".|") <;> cases a2 : ok (0, -1, ".-") <;> cases a3 : ok (0, 1, ".-") <;> cases a4 : ok (1, 0, ".|") <;>
      simp only [a1, a2, a3, a4, if_true, if_false, Bool.false_eq_true, reduceIte, List.map_cons, List.map_nil, s1, s2, s3, s4, List.filter_cons, List.filter_nil, List.mem_cons, List.not_mem_nil, d12, d13, d14, d23, d24, d34, d21, d31, d41, d32, d42, d43, or_false, false_or, or_true, true_or, decide_true, decide_false]
  · rw [if_neg h1]
    have hw1 : wide ws = 1 := by omega
    have a2 : stepOk ws (r : Int) (c : Int) (0, -1, ".-") = false := by
      unfold stepOk sgN
      rw [if_neg (c := 0 ≤ (r : Int) + (0, -1, ".-").1 ∧ _) (by rintro ⟨_, _, q, _⟩; have q2 : (0 : Int) ≤ (c : Int) + (-1) := q; omega)]
      rw [tk_pillar.1, Bool.and_false]
    have a3 : stepOk ws (r : Int) (c : Int) (0, 1, ".-") = false := by
      unfold stepOk sgN
      rw [if_neg (c := 0 ≤ (r : Int) + (0, 1, ".-").1 ∧ _) (by rintro ⟨_, _, _, q⟩; have q2 : (c : Int) + 1 < (wide ws : Int) := q; omega)]
      rw [tk_pillar.1, Bool.and_false]
    have e1 : (p : Int) - wide ws = (p : Int) - 1 := by rw [hw1]; rfl
    have e4 : (p : Int) + wide ws = (p : Int) + 1 := by rw [hw1]; rfl
    rw [e1] at s1
    rw [e4] at s4
    have d23 : ¬ ((p : Int) - 1 = (p : Int) + 1) := by omega
    have d32 : ¬ ((p : Int) + 1 = (p : Int) - 1) := by omega
    generalize stepOk ws (r : Int) (c : Int) = ok at a2 a3
    cases a1 : ok (-1, 0, ".|") <;> cases a4 : ok (1, 0, ".|") <;>
      simp only [a1, a2, a3, a4, if_true, if_false, Bool.false_eq_true, reduceIte, List.map_cons, List.map_nil, s1, s4, List.filter_cons, List.filter_nil, List.mem_cons, List.not_mem_nil, d23, d32, or_false, false_or, or_true, true_or, decide_true, decide_false]
/-- a cell beside a cell is a cell, and lies beside it too -/
theorem beside_back {ws : List Str} {p : Nat} (h : p ∈ cellsOf ws) {j : Int} (hj : j ∈ nbsP ws p) : isCell ws j = true ∧ (p : Int) ∈ nbsP ws j.toNat := by
  have q : lmay ws (p : Int) j = true := by
    rw [lmay_cell h]
    exact decide_eq_true hj
  rw [lmay_symm, ← may_eq] at q
  unfold mayB at q
  rw [Bool.and_eq_true, decide_eq_true_eq] at q
  exact q
/-- row + column, halved -/
def shadeN (ws : List Str) (p : Int) : Int := (p / (wide ws : Int) + p % (wide ws : Int)) % 2
theorem shade_ne {ws : List Str} {p : Nat} (h : p ∈ cellsOf ws) {j : Int} (hj : j ∈ nbsP ws p) : shadeN ws j ≠ shadeN ws (p : Int) := by
  obtain ⟨hp, _⟩ := cell_place h
  obtain ⟨r, c, h1, h2, e, d, m, _⟩ := place (ws := ws) (i := (p : Int)) (by omega) (by omega)
  have e2 : p = r * wide ws + c := by omega
  have dr : p / wide ws = r := by
    have q := d
    rw [← Int.natCast_ediv] at q
    omega
  have dc : p % wide ws = c := by
    have q := m
    rw [← Int.natCast_emod] at q
    omega
  unfold nbsP at hj
  rw [dr, dc] at hj
  obtain ⟨r', c', h3, h4, rfl, nr⟩ := (mem_nbs h1 h2).mp hj
  have b1 : ((r' * wide ws + c' : Nat) : Int) < ((wide ws * ws.length : Nat) : Int) := by
    have q : r' * wide ws + c' < ws.length * wide ws := by
      have : (r' + 1) * wide ws ≤ ws.length * wide ws := Nat.mul_le_mul_right _ h3
      rw [Nat.add_mul] at this
      omega
    rw [Nat.mul_comm (wide ws)]
    omega
  obtain ⟨r2, c2, k1, k2, ke, kd, km, _⟩ := place (ws := ws) (i := ((r' * wide ws + c' : Nat) : Int)) (by omega) b1
  obtain ⟨rfl, rfl⟩ := coord (wd := wide ws) (r := r') (c := c') (r' := r2) (c' := c2) h4 k2 (by omega)
  unfold shadeN
  rw [d, m, kd, km]
  rcases near_iff.mp nr with ⟨q1, q2, _⟩ | ⟨q1, q2, _⟩
  · omega
  · omega
def spLBeside (K : PySem.W.Frag) : Sp := fun vs H Q _ => ∃ (l : Addr) (ws : List Str) (p : Nat), vs = [.ref l, .int p] ∧ SqL K H l (ws.map V.str) ∧ Wf ws ∧ p ∈ cellsOf ws ∧
  ∀ (lc : Addr) (H' : Hp), Same H H' → H lc = none → H' lc = some (.lst ((nbsP ws p).map V.int)) → Q (.ref lc) H'
end Sf
namespace Sf
open PySem L2
/-! ### layings as lists of pairs -/
theorem look_mem {ov : Ovr} {i j : Int} (h : look ov i = some j) : (i, j) ∈ ov := by
  unfold look at h
  cases e : ov.find? fun p => decide (p.1 = i) with
  | none => rw [e] at h; cases h
  | some p =>
    rw [e] at h
    have h1 := List.find?_some e
    have h2 := List.mem_of_find?_eq_some e
    have h3 : p.1 = i := of_decide_eq_true h1
    have h4 : p.2 = j := Option.some.inj h
    rw [← h3, ← h4]
    exact h2
theorem look_none {ov : Ovr} {i : Int} : look ov i = none ↔ i ∉ keysOf ov := by
  constructor
  · intro h q
    obtain ⟨j, e⟩ := look_key q
    rw [h] at e
    cases e
  · intro h
    cases e : look ov i with
    | none => rfl
    | some j => exact absurd (List.mem_map.mpr ⟨(i, j), look_mem e, rfl⟩) h
theorem look_some {ov : Ovr} {i : Int} : i ∈ keysOf ov ↔ ∃ j, look ov i = some j := by
  constructor
  · exact fun h => look_key h
  · rintro ⟨j, e⟩
    exact List.mem_map.mpr ⟨(i, j), look_mem e, rfl⟩
theorem has_iff {ov : Ovr} {i : Int} : has ov i = true ↔ i ∈ keysOf ov := by
  unfold has
  cases e : look ov i with
  | none => exact ⟨fun h => (by cases h), fun h => absurd h (look_none.mp e)⟩
  | some j => exact ⟨fun _ => look_some.mpr ⟨j, e⟩, fun _ => rfl⟩
theorem mem_look : ∀ {ov : Ovr}, (keysOf ov).Nodup → ∀ {i j : Int}, (i, j) ∈ ov → look ov i = some j
  | [], _, i, j, h => by cases h
  | p :: r, nd, i, j, h => by
    have nd' : (p.1 :: keysOf r).Nodup := nd
    rw [List.nodup_cons] at nd'
    unfold look
    rw [List.find?_cons]
    rcases List.mem_cons.mp h with q | q
    · rw [← q, decide_eq_true rfl]
      rfl
    · have ne : ¬ p.1 = i := fun e => nd'.1 (by rw [e]; exact List.mem_map.mpr ⟨(i, j), q, rfl⟩)
      rw [decide_eq_false ne]
      exact mem_look (ov := r) nd'.2 q
theorem keys_perm {ov ov2 : Ovr} (p : ov.Perm ov2) : (keysOf ov).Perm (keysOf ov2) := p.map _
theorem look_perm {ov ov2 : Ovr} (p : ov.Perm ov2) (nd : (keysOf ov).Nodup) (i : Int) : look ov2 i = look ov i := by
  have nd2 : (keysOf ov2).Nodup := (keys_perm p).nodup_iff.mp nd
  cases e : look ov i with
  | none =>
    rw [look_none] at e ⊢
    exact fun q => e ((keys_perm p).mem_iff.mpr q)
  | some j => exact mem_look nd2 (p.mem_iff.mp (look_mem e))
theorem mayB_symm (ws : List Str) (i j : Int) : mayB ws i j = mayB ws j i := by rw [may_eq, may_eq, lmay_symm]
theorem may_cell {ws : List Str} {i j : Int} (h : mayB ws i j = true) : isCell ws i = true ∧ isCell ws j = true := by
  have h2 := h
  rw [mayB_symm] at h2
  unfold mayB at h h2
  exact ⟨(Bool.and_eq_true_iff.mp h).1, (Bool.and_eq_true_iff.mp h2).1⟩
theorem may_nbs {ws : List Str} {i j : Int} : mayB ws i j = true ↔ isCell ws i = true ∧ j ∈ nbsP ws i.toNat := by
  unfold mayB
  rw [Bool.and_eq_true_iff, decide_eq_true_eq]
theorem cell_nat {ws : List Str} {i : Int} (h : isCell ws i = true) : ∃ p : Nat, i = (p : Int) ∧ p ∈ cellsOf ws := by
  have q := of_decide_eq_true h
  exact ⟨i.toNat, (Int.toNat_of_nonneg q.1).symm, q.2⟩
theorem cell_natI {ws : List Str} {i : Int} : isCell ws i = true ↔ i ∈ natI (cellsOf ws) := by
  rw [mem_natI]
  exact ⟨fun h => of_decide_eq_true h, fun h => decide_eq_true h⟩
theorem may_shade {ws : List Str} {i j : Int} (h : mayB ws i j = true) : shadeN ws j ≠ shadeN ws i := by
  obtain ⟨h1, h2⟩ := may_nbs.mp h
  obtain ⟨p, rfl, hp⟩ := cell_nat h1
  rw [Int.toNat_natCast] at h2
  exact shade_ne hp h2
theorem shade_two (ws : List Str) (i : Int) : shadeN ws i = 0 ∨ shadeN ws i = 1 := by
  unfold shadeN
  have h1 := Int.emod_nonneg (i / (wide ws : Int) + i % (wide ws : Int)) (show (2 : Int) ≠ 0 by decide)
  have h2 := Int.emod_lt_of_pos (i / (wide ws : Int) + i % (wide ws : Int)) (show (0 : Int) < 2 by decide)
  omega
theorem cellsOf_nd (ws : List Str) : (cellsOf ws).Nodup := (List.nodup_range).sublist List.filter_sublist
theorem natI_nd {ps : List Nat} (h : ps.Nodup) : (natI ps).Nodup := by
  unfold natI
  exact List.pairwise_map.mpr (List.Pairwise.imp (fun {a b} (q : a ≠ b) => fun e => q (Int.ofNat.inj e)) h)
theorem cells144 {ws : List Str} (w : Wf ws) : (cellsOf ws).length ≤ 144 := by
  have q1 := cellsTo_len ws (ws.length * wide ws)
  have q2 : ws.length * wide ws ≤ 12 * 12 := Nat.mul_le_mul w.high w.wid
  have q3 : (cellsOf ws).length ≤ ws.length * wide ws := q1
  omega
/-- a laying of the floor -/
structure Vl (ws : List Str) (ov : Ovr) : Prop where
  nd : (keysOf ov).Nodup
  sym : ∀ i j, look ov i = some j → look ov j = some i
  may : ∀ i j, look ov i = some j → mayB ws i j = true
theorem Vl.toSym {ws : List Str} {ov : Ovr} (v : Vl ws ov) : Sym ov := fun i j h => ⟨v.sym i j h, may_ne (v.may i j h)⟩
theorem Vl.nil (ws : List Str) : Vl ws [] := ⟨List.Pairwise.nil, fun i j h => (by cases h), fun i j h => (by cases h)⟩
theorem Vl.cell {ws : List Str} {ov : Ovr} (v : Vl ws ov) {i : Int} (h : i ∈ keysOf ov) : isCell ws i = true := by
  obtain ⟨j, e⟩ := look_some.mp h
  exact (may_cell (v.may i j e)).1
theorem Vl.len {ws : List Str} {ov : Ovr} (v : Vl ws ov) (w : Wf ws) : ov.length ≤ 144 := by
  have h : (keysOf ov).length ≤ (natI (cellsOf ws)).length := List.Nodup.length_le_of_subset v.nd fun i hi => cell_natI.mp (v.cell hi)
  have h2 := cells144 w
  unfold keysOf natI at h
  rw [List.length_map, List.length_map] at h
  omega
theorem Vl.perm {ws : List Str} {ov ov2 : Ovr} (v : Vl ws ov) (p : ov.Perm ov2) : Vl ws ov2 := by
  refine ⟨(keys_perm p).nodup_iff.mp v.nd, fun i j h => ?_, fun i j h => ?_⟩
  · rw [look_perm p v.nd] at h ⊢
    exact v.sym i j h
  · rw [look_perm p v.nd] at h
    exact v.may i j h
theorem putN0 {ws : List Str} {ov : Ovr} {i j : Int} (h : mayB ws i j = true) (hi : look ov i = none) (hj : look ov j = none) : putN ws ov i j = 0 := by
  obtain ⟨c1, c2⟩ := may_cell h
  unfold putN has
  rw [c1, c2, h, hi, hj]
  rfl
theorem look_put {ov : Ovr} {i j : Int} (ne : i ≠ j) (li : look ov i = none) (lj : look ov j = none) (k : Int) : look (ov ++ [(i, j)] ++ [(j, i)]) k = if k = j then some i else if k = i then some j else look ov k := by
  have l2 : look (ov ++ [(i, j)]) j = none := by rw [look_snoc li, if_neg (fun q => ne q.symm)]; exact lj
  rw [look_snoc l2, look_snoc li]
theorem keys_put (ov : Ovr) (i j : Int) : keysOf (ov ++ [(i, j)] ++ [(j, i)]) = keysOf ov ++ [i, j] := by
  unfold keysOf
  rw [List.map_append, List.map_append, List.append_assoc]
  rfl
theorem Vl.put {ws : List Str} {ov : Ovr} {i j : Int} (v : Vl ws ov) (h : mayB ws i j = true) (li : look ov i = none) (lj : look ov j = none) : Vl ws (ov ++ [(i, j)] ++ [(j, i)]) := by
  have ne := may_ne h
  refine ⟨?_, fun a b hab => ?_, fun a b hab => ?_⟩
  · rw [keys_put, List.nodup_append]
    refine ⟨v.nd, ?_, fun a ha b hb => ?_⟩
    · rw [List.nodup_cons]
      exact ⟨by simpa using ne, by simp⟩
    · rcases List.mem_cons.mp hb with e | e
      · rw [e]
        exact fun q => look_none.mp li (by rw [q] at ha; exact ha)
      · rw [List.mem_singleton.mp e]
        exact fun q => look_none.mp lj (by rw [q] at ha; exact ha)
  · rw [look_put ne li lj] at hab ⊢
    by_cases aj : a = j
    · rw [if_pos aj] at hab
      cases hab
      rw [if_neg ne, if_pos rfl, aj]
    · rw [if_neg aj] at hab
      by_cases ai : a = i
      · rw [if_pos ai] at hab
        cases hab
        rw [if_pos rfl, ai]
      · rw [if_neg ai] at hab
        have h1 := v.sym a b hab
        have bi : b ≠ i := fun q => by rw [q, li] at h1; cases h1
        have bj : b ≠ j := fun q => by rw [q, lj] at h1; cases h1
        rw [if_neg bj, if_neg bi]
        exact h1
  · rw [look_put ne li lj] at hab
    by_cases aj : a = j
    · rw [if_pos aj] at hab
      cases hab
      rw [aj, mayB_symm]
      exact h
    · rw [if_neg aj] at hab
      by_cases ai : a = i
      · rw [if_pos ai] at hab
        cases hab
        rw [ai]
        exact h
      · rw [if_neg ai] at hab
        exact v.may a b hab
theorem look_lifted (ov : Ovr) (i j k : Int) : look (lifted ov i j) k = if k = j then none else if k = i then none else look ov k := by
  unfold lifted
  rw [look_drop, look_drop]
theorem lifted_nd {ov : Ovr} (nd : (keysOf ov).Nodup) (i j : Int) : (keysOf (lifted ov i j)).Nodup := by
  unfold lifted keysOf
  exact nd.sublist ((List.filter_sublist.trans List.filter_sublist).map _)
theorem Vl.lift {ws : List Str} {ov : Ovr} {i j : Int} (v : Vl ws ov) (h : look ov i = some j) : Vl ws (lifted ov i j) := by
  have hj := v.sym i j h
  refine ⟨lifted_nd v.nd i j, fun a b hab => ?_, fun a b hab => ?_⟩
  · rw [look_lifted] at hab ⊢
    by_cases aj : a = j
    · rw [if_pos aj] at hab
      cases hab
    rw [if_neg aj] at hab
    by_cases ai : a = i
    · rw [if_pos ai] at hab
      cases hab
    rw [if_neg ai] at hab
    have h1 := v.sym a b hab
    have bi : b ≠ i := fun q => by rw [q, h] at h1; exact aj (Option.some.inj h1).symm
    have bj : b ≠ j := fun q => by rw [q, hj] at h1; exact ai (Option.some.inj h1).symm
    rw [if_neg bj, if_neg bi]
    exact h1
  · rw [look_lifted] at hab
    by_cases aj : a = j
    · rw [if_pos aj] at hab
      cases hab
    rw [if_neg aj] at hab
    by_cases ai : a = i
    · rw [if_pos ai] at hab
      cases hab
    rw [if_neg ai] at hab
    exact v.may a b hab
theorem liftN0 {ws : List Str} {ov : Ovr} {i j : Int} (v : Vl ws ov) (h : look ov i = some j) : liftN ws ov i = 0 := by
  have c := v.cell (look_some.mpr ⟨j, h⟩)
  unfold liftN has
  rw [c, h]
  rfl
/-- a pair taken away and put back is where it was, but for the order -/
theorem lift_put_perm {ov : Ovr} {i j : Int} (nd : (keysOf ov).Nodup) (h : look ov i = some j) (hj : look ov j = some i) (ne : i ≠ j) : ov.Perm (lifted ov i j ++ [(i, j)] ++ [(j, i)]) := by
  have ndo : ov.Nodup := by
    unfold keysOf at nd
    exact List.Pairwise.imp (fun {a b} (q : a.1 ≠ b.1) e => q (by rw [e])) (List.pairwise_map.mp nd)
  have lj : look (lifted ov i j) j = none := by rw [look_lifted, if_pos rfl]
  have li : look (lifted ov i j) i = none := by rw [look_lifted, if_neg ne, if_pos rfl]
  have nd2 : (lifted ov i j ++ [(i, j)] ++ [(j, i)]).Nodup := by
    have q : (keysOf (lifted ov i j ++ [(i, j)] ++ [(j, i)])).Nodup := by
      rw [keys_put, List.nodup_append]
      refine ⟨lifted_nd nd i j, ?_, fun a ha b hb => ?_⟩
      · rw [List.nodup_cons]
        exact ⟨by simpa using ne, by simp⟩
      · rcases List.mem_cons.mp hb with e | e
        · rw [e]
          exact fun q => look_none.mp li (by rw [q] at ha; exact ha)
        · rw [List.mem_singleton.mp e]
          exact fun q => look_none.mp lj (by rw [q] at ha; exact ha)
    unfold keysOf at q
    exact List.Pairwise.imp (fun {a b} (q : a.1 ≠ b.1) e => q (by rw [e])) (List.pairwise_map.mp q)
  refine (List.perm_ext_iff_of_nodup ndo nd2).mpr fun p => ?_
  obtain ⟨a, b⟩ := p
  unfold lifted
  rw [List.mem_append, List.mem_append, List.mem_singleton, List.mem_singleton, List.mem_filter, List.mem_filter, decide_eq_true_eq, decide_eq_true_eq]
  constructor
  · intro hab
    have lab := mem_look nd hab
    by_cases ai : a = i
    · rw [ai, h] at lab
      exact .inl (.inr (by rw [ai, ← Option.some.inj lab]))
    · by_cases aj : a = j
      · rw [aj, hj] at lab
        exact .inr (by rw [aj, ← Option.some.inj lab])
      · exact .inl (.inl ⟨⟨hab, ai⟩, aj⟩)
  · rintro ((q | q) | q)
    · exact q.1.1
    · rw [q]
      exact look_mem h
    · rw [q]
      exact look_mem hj
end Sf
/-! Defs, methods and classes that may be called, each in one word. -/
namespace Gc
open PySem PySem.Spec PyProof.Rows L2
/-- a def that may be called by its name -/
structure Cl (P : Program) (w : World) (K : PySem.W.Frag) (mg : Str → Option Value) (base : Heap) (CX : CXT) (k : Nat) (x : Str) (ps : List Str) (sp : Sp) : Prop where
  ex : ∃ f fd, FnOk P w K mg base CX k f fd ps sp ∧ mg x = some (.ref f) ∧ PySem.W.keepIn K (.ref f) = true ∧ Binds K fd ps []
/-- a method that may be called -/
structure Cm (P : Program) (w : World) (K : PySem.W.Frag) (mg : Str → Option Value) (base : Heap) (CX : CXT) (k : Nat) (C : Addr) (m : Str) (ps : List Str) (sp : Sp) : Prop where
  ex : ∃ f fd, FnOk P w K mg base CX k f fd ps sp ∧ Meth K C m f ∧ Binds K fd ps []
/-- a class that may be called -/
structure Cn (P : Program) (w : World) (K : PySem.W.Frag) (mg : Str → Option Value) (base : Heap) (k : Nat) (C : Addr) (x : Str) (ps : List Str) (sp : Sp) : Prop where
  ex : ∃ f fd, FnOk P w K mg base CX0 k f fd ps sp ∧ Mk K C f ∧ mg x = some (.ref C) ∧ Binds K fd ps []
/-- a def as the top has left it -/
structure Df (K : PySem.W.Frag) (mg : Str → Option Value) (x : Str) (st : Stmt) (ps : List Str) : Prop where
  ex : ∃ f fd, Fun K x x st f fd ∧ mg x = some (.ref f) ∧ PySem.W.keepIn K (.ref f) = true ∧ Binds K fd ps []
structure Dm (K : PySem.W.Frag) (C : Addr) (m q : Str) (st : Stmt) (ps : List Str) : Prop where
  ex : ∃ f fd, Fun K m q st f fd ∧ Meth K C m f ∧ Binds K fd ps []
section
variable {P : Program} {w : World} {K : PySem.W.Frag} {mg : Str → Option Value} {base : Heap} {CX : CXT} {k : Nat} {x m q : Str} {st : Stmt} {ps : List Str} {sp sp' : Sp} {C : Addr}
theorem Df.cl (D : Df K mg x st ps) (h : ∀ f fd, Fun K x x st f fd → FnOk P w K mg base CX k f fd ps sp) : Cl P w K mg base CX k x ps sp := by
  obtain ⟨f, fd, F, g, kp, b⟩ := D.ex
  exact ⟨f, fd, h f fd F, g, kp, b⟩
theorem Dm.cm (D : Dm K C m q st ps) (h : ∀ f fd, Fun K m q st f fd → FnOk P w K mg base CX k f fd ps sp) : Cm P w K mg base CX k C m ps sp := by
  obtain ⟨f, fd, F, g, b⟩ := D.ex
  exact ⟨f, fd, h f fd F, g, b⟩
/-- a def that may raise, called where it doesn't -/
theorem FnOk.calm {f : Addr} {fd : FuncData} (F : FnOk P w K mg base (L2.CX P w) k f fd ps sp) (h : ∀ vs H Q E, sp' vs H Q E → sp vs H Q (fun _ _ _ => False)) : FnOk P w K mg base CX0 k f fd ps sp' :=
  ⟨fun vs H Q E q => F.len _ _ _ _ (h _ _ _ _ q), fun A outer s H args us vs Q E hr he hb hv hs => codeAny_mono (F.run A outer s H args us vs Q (fun _ _ _ => False) hr he hb hv (h _ _ _ _ hs)) fun r s' hq => by
    cases r with
    | error e =>
      obtain ⟨_, _, _, _, _, _, _, _, _, _, _, _, hE⟩ := hq
      exact hE.elim
    | ok fl =>
      cases fl with
      | ret u => exact hq
      | next => exact hq
      | brk => exact hq
      | cont => exact hq⟩
theorem Cl.calm (c : Cl P w K mg base (L2.CX P w) k x ps sp) (h : ∀ vs H Q E, sp' vs H Q E → sp vs H Q (fun _ _ _ => False)) : Cl P w K mg base CX0 k x ps sp' := by
  obtain ⟨f, fd, F, g, kp, b⟩ := c.ex
  exact ⟨f, fd, FnOk.calm F h, g, kp, b⟩
theorem Cm.calm (c : Cm P w K mg base (L2.CX P w) k C m ps sp) (h : ∀ vs H Q E, sp' vs H Q E → sp vs H Q (fun _ _ _ => False)) : Cm P w K mg base CX0 k C m ps sp' := by
  obtain ⟨f, fd, F, g, b⟩ := c.ex
  exact ⟨f, fd, FnOk.calm F h, g, b⟩
theorem Cl.imp (c : Cl P w K mg base CX k x ps sp) (h : ∀ vs H Q E, sp' vs H Q E → sp vs H Q E) : Cl P w K mg base CX k x ps sp' := by
  obtain ⟨f, fd, F, g, kp, b⟩ := c.ex
  exact ⟨f, fd, F.imp h, g, kp, b⟩
theorem Cm.imp (c : Cm P w K mg base CX k C m ps sp) (h : ∀ vs H Q E, sp' vs H Q E → sp vs H Q E) : Cm P w K mg base CX k C m ps sp' := by
  obtain ⟨f, fd, F, g, b⟩ := c.ex
  exact ⟨f, fd, F.imp h, g, b⟩
end
section
variable {X : Cx} {CX : CXT} {k : Nat} {C : Addr} {ps : List Str} {sp : Sp} {E : XK} {x m : Str} {p pos apos : Pos} {e o : Expr} {es : List Expr} {ta : TE} {t : TA}
theorem pe_cl (c : Cl X.prog X.w X.K X.mg X.base CX0 k x ps sp) (hr : Room k X.A) (hg : Gl X x) (ha : PA X (e :: es) t) (hdb : (x == ("__debug__" : Str)) = false := by decide)
    (he : starEach (e :: es) X.env = (false, eval e X.env) :: starEach es X.env := by rfl) (hpl : (backTo pos (starEach es X.env)).any (·.1) = false := by rfl) : PE X (.Call (.Name x p) (e :: es) [] pos) (tCall sp [] E0 t) := by
  obtain ⟨f, fd, F, hm, hk, hb⟩ := c.ex
  exact pe_call F hr hg hm hk hb .nil pass0 ha hdb he hpl
theorem pe_cn (c : Cn X.prog X.w X.K X.mg X.base k C x ps sp) (hr : Room (k + 1) X.A) (hg : Gl X x) (ha : PA X (e :: es) t) (hdb : (x == ("__debug__" : Str)) = false := by decide)
    (he : starEach (e :: es) X.env = (false, eval e X.env) :: starEach es X.env := by rfl) (hpl : (backTo pos (starEach es X.env)).any (·.1) = false := by rfl) : PE X (.Call (.Name x p) (e :: es) [] pos) (tMake C sp [] E0 t) := by
  obtain ⟨f, fd, F, M, hm, hb⟩ := c.ex
  exact pe_make M F hr hg hm hb .nil pass0 ha hdb he hpl
theorem pe_cm {pl : Sem Bool} (he : PE X o ta) (cc : Cls X.K C) (c : Cm X.prog X.w X.K X.mg X.base CX0 k C m ps sp) (hr : Room k X.A) (ha : PA X (e :: es) t)
    (hst : starEach (e :: es) X.env = (false, eval e X.env) :: starEach es X.env := by rfl) (hpl : (backTo pos (starEach es X.env)).any (·.1) = false := by rfl)
    (ht : eval (.Call (.Attribute o m apos) (e :: es) [] pos) X.env = (do
      let ov ← eval o X.env
      standAt apos.atName
      let (f, first) ← holding [ov] (getMethod ov m pl)
      callWith pos f first (backTo pos (starEach (e :: es) X.env)) (backToKw pos (keywordEach [] X.env))) := by rfl) :
    PE X (.Call (.Attribute o m apos) (e :: es) [] pos) (tMeth C m sp [] E0 ta t) := by
  obtain ⟨f, fd, F, hm, hb⟩ := c.ex
  exact pe_meth he cc hm F hr hb .nil pass0 ha hst hpl ht
theorem pe_cm0 {pl : Sem Bool} (he : PE X o ta) (cc : Cls X.K C) (c : Cm X.prog X.w X.K X.mg X.base CX0 k C m ps sp) (hr : Room k X.A)
    (ht : eval (.Call (.Attribute o m apos) [] [] pos) X.env = (do
      let ov ← eval o X.env
      standAt apos.atName
      let (f, first) ← holding [ov] (getMethod ov m pl)
      callWith pos f first (backTo pos (starEach [] X.env)) (backToKw pos (keywordEach [] X.env))) := by rfl) :
    PE X (.Call (.Attribute o m apos) [] [] pos) (tMeth C m sp [] E0 ta tNil) := by
  obtain ⟨f, fd, F, hm, hb⟩ := c.ex
  exact pe_meth0 he cc hm F hr hb .nil pass0 ht
end
/-- the built-in names that the top leaves as they are -/
structure Bi (mg : Str → Option Value) : Prop where
  len : mg "len" = none
  any : mg "any" = none
  range : mg "range" = none
  list : mg "list" = none
  tuple : mg "tuple" = none
  dict : mg "dict" = none
  set : mg "set" = none
  abs : mg "abs" = none
  isinstance : mg "isinstance" = none
  int : mg "int" = none
  bool : mg "bool" = none
  min : mg "min" = none
  max : mg "max" = none
  divmod : mg "divmod" = none
  sorted : mg "sorted" = none
  reversed : mg "reversed" = none
  ValueError : mg "ValueError" = none
end Gc
namespace Sf
open PySem PySem.Spec PyProof.Rows L2 Gc
/-! ### floors and layings in the heap, in one word each -/
def FloorD (C : Addr) (H : Hp) (x df : Addr) (ws : List Str) : Prop := ∃ dx lr g, FloorAt C H x dx lr df g ws
def LayD (CL : Addr) (H : Hp) (y x d : Addr) (ov : Ovr) : Prop := ∃ dy, LayAt CL H y dy x d ov
/-- all that stood is as it was, but for d -/
def Keep (d : Addr) (H H' : Hp) : Prop := ∀ b o, b ≠ d → H b = some o → H' b = some o
theorem Keep.refl (d : Addr) (H : Hp) : Keep d H H := fun _ _ _ e => e
theorem Keep.trans {d : Addr} {H H1 H2 : Hp} (a : Keep d H H1) (b : Keep d H1 H2) : Keep d H H2 := fun c o h e => b c o h (a c o h e)
theorem Keep.of {d : Addr} {H H' : Hp} (s : Same H H') : Keep d H H' := fun b o _ e => s b o e
theorem Keep.upd {d : Addr} {H : Hp} {o : HO} : Keep d H (upd H d o) := fun b u h e => by rw [upd_ne h]; exact e
theorem Keep.new {d : Addr} {H0 H1 H2 : Hp} (s : Same H0 H1) (hd : H0 d = none) (k : Keep d H1 H2) : Same H0 H2 := fun b o e => k b o (ne_of_none e hd) (s b o e)
theorem Keep.at {d b : Addr} {H H' : Hp} {kv : List (Key × V)} {o : HO} (k : Keep d H H') (hd : H d = some (.dK kv)) (e : H b = some o) (h : ∀ kv, o ≠ .dK kv) : H' b = some o :=
  k b o (fun q => by rw [q, hd] at e; exact h kv (Option.some.inj e).symm) e
theorem Keep.seq {K : PySem.W.Frag} {d a : Addr} {H H' : Hp} {kv : List (Key × V)} {xs : List V} (k : Keep d H H') (hd : H d = some (.dK kv)) (h : SqL K H a xs) : SqL K H' a xs := by
  rcases h with (h | ⟨o, h⟩) | h
  · exact .inl (.inl (k.at hd h (fun _ z => by cases z)))
  · exact .inl (.inr ⟨o, k.at hd h (fun _ z => by cases z)⟩)
  · exact .inr h
theorem FloorD.same {C : Addr} {H H' : Hp} {x df : Addr} {ws : List Str} (f : FloorD C H x df ws) (s : Same H H') : FloorD C H' x df ws := by
  obtain ⟨dx, lr, g, a⟩ := f
  exact ⟨dx, lr, g, a.same s⟩
theorem FloorD.dc {C : Addr} {H : Hp} {x df : Addr} {ws : List Str} (f : FloorD C H x df ws) : ∃ kv, H df = some (.dK kv) := by
  obtain ⟨dx, lr, g, a⟩ := f
  exact ⟨_, a.tb.dc⟩
theorem FloorD.keep {C : Addr} {H H' : Hp} {x df d : Addr} {ws : List Str} {kv : List (Key × V)} (f : FloorD C H x df ws) (hd : H d = some (.dK kv)) (ne : df ≠ d) (k : Keep d H H') : FloorD C H' x df ws := by
  obtain ⟨dx, lr, g, a⟩ := f
  exact ⟨dx, lr, g, k.at hd a.ob (fun _ z => by cases z), k.at hd a.rw (fun _ z => by cases z), ⟨k _ _ ne a.tb.dc, fun p hp => k.at hd (a.tb.ls p hp) (fun _ z => by cases z)⟩, k.at hd a.sg (fun _ z => by cases z)⟩
theorem LayD.same {CL : Addr} {H H' : Hp} {y x d : Addr} {ov : Ovr} (l : LayD CL H y x d ov) (s : Same H H') : LayD CL H' y x d ov := by
  obtain ⟨dy, a⟩ := l
  exact ⟨dy, a.same s⟩
theorem LayD.dc {CL : Addr} {H : Hp} {y x d : Addr} {ov : Ovr} (l : LayD CL H y x d ov) : H d = some (.dK (dk ov)) := by
  obtain ⟨dy, a⟩ := l
  exact a.dc
theorem LayD.keep {CL : Addr} {H H' : Hp} {y x d d2 : Addr} {ov : Ovr} {kv : List (Key × V)} (l : LayD CL H y x d ov) (hd : H d2 = some (.dK kv)) (ne : d ≠ d2) (k : Keep d2 H H') : LayD CL H' y x d ov := by
  obtain ⟨dy, a⟩ := l
  exact ⟨dy, k.at hd a.ob (fun _ z => by cases z), k _ _ ne a.dc⟩
theorem LayD.wrote {CL : Addr} {H H' : Hp} {y x d : Addr} {ov ov' : Ovr} (l : LayD CL H y x d ov) (k : Keep d H H') (h : H' d = some (.dK (dk ov'))) : LayD CL H' y x d ov' := by
  obtain ⟨dy, a⟩ := l
  exact ⟨dy, k.at a.dc a.ob (fun _ z => by cases z), h⟩
theorem back_none {H H' : Hp} {a : Addr} (s : Same H H') (h : H' a = none) : H a = none := by
  cases q : H a with
  | none => rfl
  | some o =>
    have := s _ _ q
    rw [h] at this
    cases this
/-! ### the methods, as those call them who know that nothing is refused -/
def spPut0 (C CL : Addr) : Sp := fun vs H Q _ => ∃ (y x df d : Addr) (ws : List Str) (ov : Ovr) (i j : Int), vs = [.ref y, .int i, .int j] ∧ LayD CL H y x d ov ∧ FloorD C H x df ws ∧ ov.length ≤ 900 ∧ putN ws ov i j = 0 ∧
  ∀ H', Keep d H H' → H' d = some (.dK (dk (ov ++ [(i, j)] ++ [(j, i)]))) → Q .non H'
def spLift0 (C CL : Addr) : Sp := fun vs H Q _ => ∃ (y x df d : Addr) (ws : List Str) (ov : Ovr) (i j : Int), vs = [.ref y, .int i] ∧ LayD CL H y x d ov ∧ FloorD C H x df ws ∧ Vl ws ov ∧ look ov i = some j ∧
  ∀ H', Keep d H H' → H' d = some (.dK (dk (lifted ov i j))) → Q .non H'
def spBare0 (C CL : Addr) : Sp := fun vs H Q _ => ∃ (y x df d : Addr) (ws : List Str) (ov : Ovr), vs = [.ref y] ∧ LayD CL H y x d ov ∧ FloorD C H x df ws ∧ Wf ws ∧
  ∀ (l : Addr) (H' : Hp), Same H H' → H l = none → H' l = some (.lst ((bareOf ws ov).map V.int)) → Q (.ref l) H'
def spSlabs0 (CL : Addr) : Sp := fun vs H Q _ => ∃ (y x d : Addr) (ov : Ovr), vs = [.ref y] ∧ LayD CL H y x d ov ∧ ov.length ≤ 900 ∧
  ∀ (l : Addr) (ts : List Addr) (ks : List Int) (H' : Hp), ks.Perm (keysOf ov) → ks.Pairwise (· ≤ ·) → Same H H' → H l = none → H' l = some (.lst (ts.map V.ref)) → TupsAt H' ts (pairsOf ks ov) → Q (.ref l) H'
section
variable {P : Program} {w : World} {K : PySem.W.Frag} {mg : Str → Option Value} {base : Heap} {C CL cN cB cC cU : Addr}
theorem put0 (c : Cm P w K mg base (L2.CX P w) 3 CL "put" ["self", "one", "other"] (spPut C CL cN cB cC cU)) : Cm P w K mg base CX0 3 CL "put" ["self", "one", "other"] (spPut0 C CL) := c.calm fun vs H Q E h => by
  obtain ⟨y, x, df, d, ws, ov, i, j, rfl, ⟨dy, la⟩, ⟨dx, lr, g, fa⟩, hl, hp, hQ⟩ := h
  exact ⟨y, dy, x, dx, lr, df, d, g, ws, ov, i, j, rfl, la, fa, hl, fun _ H' k hd => hQ H' (fun b o hb e => by rw [k b hb]; exact e) hd, fun q => absurd hp q⟩
theorem lift0 (c : Cm P w K mg base (L2.CX P w) 3 CL "lift" ["self", "cell"] (spLift C CL cN cB cC cU)) : Cm P w K mg base CX0 3 CL "lift" ["self", "cell"] (spLift0 C CL) := c.calm fun vs H Q E h => by
  obtain ⟨y, x, df, d, ws, ov, i, j, rfl, ⟨dy, la⟩, ⟨dx, lr, g, fa⟩, v, hl, hQ⟩ := h
  refine ⟨y, dy, x, dx, lr, df, d, g, ws, ov, i, rfl, la, fa, v.toSym, fun _ j2 H' hj k hd => ?_, fun q => absurd (liftN0 v hl) q⟩
  rw [hl] at hj
  cases hj
  exact hQ H' (fun b o hb e => by rw [k b hb]; exact e) hd
theorem bare0 (c : Cm P w K mg base CX0 2 CL "bare" ["self"] (spBare C CL)) : Cm P w K mg base CX0 2 CL "bare" ["self"] (spBare0 C CL) := c.imp fun vs H Q E h => by
  obtain ⟨y, x, df, d, ws, ov, rfl, ⟨dy, la⟩, ⟨dx, lr, g, fa⟩, hw, hQ⟩ := h
  exact ⟨y, dy, x, dx, lr, df, d, g, ws, ov, rfl, la, fa, Nat.le_trans (cells144 hw) (by decide), hQ⟩
theorem slabs0 (c : Cm P w K mg base CX0 1 CL "slabs" ["self"] (spSlabs CL)) : Cm P w K mg base CX0 1 CL "slabs" ["self"] (spSlabs0 CL) := c.imp fun vs H Q E h => by
  obtain ⟨y, x, d, ov, rfl, ⟨dy, la⟩, hl, hQ⟩ := h
  exact ⟨y, dy, x, d, ov, rfl, la, hl, hQ⟩
end
/-! ### short readings -/
theorem rd_over {K : PySem.W.Frag} {mg : Str → Option Value} {CL : Addr} (L : LTxt K mg CL) {ta : TE} {σ : L2.St} {H H1 : Hp} {Q : V → Hp → Prop} {y x d : Addr} {ov : Ovr} (h : ta σ H fun v H1 => v = .ref y ∧ LayD CL H1 y x d ov ∧ Q (.ref d) H1) (mono : ∀ σ H Q Q', (∀ v H1, Q v H1 → Q' v H1) → ta σ H Q → ta σ H Q') :
    tFld K ta "over" σ H Q := mono _ _ _ _ (fun v H1 ⟨e, ⟨dy, l⟩, q⟩ => ⟨y, CL, dy, _, _, e, l.ob, L.cl, L.nO, lfl_over _ _, q⟩) h
end Sf
namespace Sf
open PySem PySem.Spec PyProof.Rows L2 Gc
/-- law's: a list of at most 63 ints is handed in, True comes out -/
def spLaw (K : PySem.W.Frag) (Pt : Addr) : Sp := fun vs H Q _ => ∃ (a : Addr) (ns : List Int), vs = [.ref a] ∧ SqL K H a (ns.map V.int) ∧ ns.length ≤ 63 ∧ GxR.TabG H Pt ∧ ∀ H', Q (.bl true) H'
theorem Sm.at {P : Addr} {H H' : Hp} {b : Addr} {o : HO} (s : Sm P H H') (hT : GxR.TabG H P) (e : H b = some o) (h : ∀ ps, o ≠ .tbl ps) : H' b = some o := s.k _ _ (ne_tbl hT e h) e
theorem mk_floor {K : PySem.W.Frag} {Pt C lh x dx : Addr} {H : Hp} {ws : List Str} {Q : VK} {E : XK} (hS : SqL K H lh (ws.map V.str)) (hw : Wf ws) (hT : GxR.TabG H Pt) (nx : H x = none) (ndx : H dx = none) (nex : dx ≠ x)
    (h : ∀ df H', Sm Pt H H' → GxR.TabG H' Pt → H df = none → FloorD C H' x df ws → Q .non H') :
    spInit K Pt C [.ref x, .ref lh] (upd (upd H dx (.own x)) x (.ins C dx [])) Q E := by
  have s3 : Same H (upd (upd H dx (.own x)) x (.ins C dx [])) := fun b o e => by
    rw [upd_ne (ne_of_none e nx), upd_ne (ne_of_none e ndx)]
    exact e
  have hT3 := (Sm.of s3 (P := Pt)).t hT
  refine ⟨x, dx, lh, ws, rfl, upd_same, s3.seq hS, hw, hT3, fun lr df g H4 nw kp0 hT4 fa => ?_⟩
  refine h df H4 ⟨fun b o hb e => kp0 b o (ne_of_none e nx) hb (s3 b o e), fun _ => hT4⟩ hT4 ?_ ⟨dx, lr, g, fa⟩
  exact back_none s3 nw.dc
end Sf
namespace Sf
open PySem PySem.Spec PyProof.Rows L2
def spRC (C : Addr) : Sp := fun vs H Q _ => ∃ (x dx lr d : Addr) (f : Nat → Addr) (ws : List Str) (p : Int), vs = [.ref x, .int p] ∧ FloorAt C H x dx lr d f ws ∧ 0 < wide ws ∧ wide ws ≤ 12 ∧ ∀ t H', Same H H' → H t = none → H' t = some (.tup [.int (p / (wide ws : Int)), .int (p % (wide ws : Int))]) → Q (.ref t) H'
section
variable {P : Program} {w : World} {K : PySem.W.Frag} {mg : Str → Option Value} {base : Heap}
theorem scRC : FnScope ["self", "place"] ["self", "place"] (defScope sFloor_row_and_column) := ⟨rfl, rfl, rfl, by decide +kernel, rfl, by decide +kernel, by decide +kernel⟩
theorem ok_rc {f C : Addr} {fd : FuncData} (F : Fun K "row_and_column" "Floor.row_and_column" sFloor_row_and_column f fd) (T : FTxt K mg C) (gd : mg "divmod" = none) (gm : mg "max" = none) : FnOk P w K mg base CX0 1 f fd ["self", "place"] (spRC C) := by
  refine F.ok scRC (fun vs H Q E h => ?_) (fun cdv A outer s H vs Q E hr h => ?_)
  · obtain ⟨x, dx, lr, d, g, ws, p, rfl, _⟩ := h
    rfl
  · obtain ⟨x, dx, lr, d, g, ws, p, rfl, a, h0, h1, hQ⟩ := h
    refine ⟨_, pss_one (ps_ret (pe_callB call_divmod (by rfl) gd rfl (pa_cons (pv 1) (pa_cons (pe_callB (call_max2 rfl) (by rfl) gm rfl (pa_cons (pe_fld (pv 0) rfl) (pa_cons pe_int pa_nil))) pa_nil)))), ?_⟩
    have em : (if (1 : Int) > ((wide ws : Nat) : Int) then (1 : Int) else ((wide ws : Nat) : Int)) = ((wide ws : Nat) : Int) := if_neg (by omega)
    refine ⟨_, rfl, _, rfl, x, C, dx, _, _, rfl, a.ob, T.cl, T.nW, flds_wide _ _ _ _, _, _, rfl, _, _, rfl, ?_, fun t ht => ?_⟩
    · rw [em]
      exact ⟨by omega, by omega⟩
    · rw [em]
      exact hQ t _ (Same.new ht) ht upd_same
end
end Sf
namespace Sf
open PySem L2
def spLMay (K : PySem.W.Frag) : Sp := fun vs H Q _ => ∃ (l : Addr) (ws : List Str) (i j : Int), vs = [.ref l, .int i, .int j] ∧ SqL K H l (ws.map V.str) ∧ Wf ws ∧ Q (.bl (lmay ws i j)) H
theorem iteNot {c A B : Prop} [Decidable c] (h1 : c → B) (h2 : ¬ c → A) : if (!decide c) = true then A else B := by
  by_cases h : c
  · rw [decide_eq_true h]
    exact iteF (h1 h)
  · rw [decide_eq_false h]
    exact iteT (h2 h)
theorem abs_one (n : Int) : (V.int (if n < 0 then -n else n) = V.int 1) ↔ n.natAbs = 1 := by
  constructor
  · intro q
    have q := V.int.inj q
    split at q <;> omega
  · intro q
    congr 1
    split <;> omega
section
variable {P : Program} {w : World} {K : PySem.W.Frag} {mg : Str → Option Value} {base : Heap}
def nLMay : List Str := ["_law_rows_here", "_law_one", "_law_other", "_law_wide", "_law_a", "_law_b"]
theorem scLMay : FnScope nLMay ["_law_rows_here", "_law_one", "_law_other"] (defScope s_law_may) := ⟨rfl, rfl, rfl, by decide +kernel, rfl, by decide +kernel, by decide +kernel⟩
theorem ok_lmay {f : Addr} {fd : FuncData} (F : Fun K "_law_may" "_law_may" s_law_may f fd) (gL : mg "len" = none) (gA : mg "abs" = none) : FnOk P w K mg base CX0 1 f fd ["_law_rows_here", "_law_one", "_law_other"] (spLMay K) := by
  refine F.ok scLMay (fun vs H Q E h => ?_) (fun cdv A outer s H vs Q E hr h => ?_)
  · obtain ⟨l, ws, i, j, rfl, _⟩ := h
    rfl
  · obtain ⟨l, ws, i, j, rfl, hS, hw, hQ⟩ := h
    have hh := hw.high
    have hwd := hw.wid
    refine ⟨_, C8.pss_cut (ps_set (i := 3) scLMay.nd rfl (Or.inl rfl) (pe_ifExp (pt_cmpR op_gt (pe_callB call_len (by rfl) gL PySem.boot_len (pa_cons (pv 0) pa_nil)) pe_int (nomark _)) (pe_callB call_len_str (by rfl) gL PySem.boot_len (pa_cons (pe_ix ix_list (pv 0) pe_int (fun _ _ => rfl)) pa_nil)) pe_int))
      (pss_cons (ps_if (PW.pt (pw_or (pt_not (pt_chain op_le op_lt pe_int (pv 1) (pe_op op_mul (pv 3) (pe_callB call_len (by rfl) gL PySem.boot_len (pa_cons (pv 0) pa_nil))))) (pw_or1 (pt_not (pt_chain op_le op_lt pe_int (pv 2) (pe_op op_mul (pv 3) (pe_callB call_len (by rfl) gL PySem.boot_len (pa_cons (pv 0) pa_nil)))))))) (pss_one (ps_ret pe_bl)) pss_nil)
      (pss_cons (ps_set (i := 4) scLMay.nd rfl (Or.inl rfl) (pe_ix ix_str (pe_ix ix_list (pv 0) (pe_op op_fdiv (pv 1) (pv 3)) (fun _ _ => rfl)) (pe_op op_mod (pv 1) (pv 3)) (fun _ _ => rfl)))
      (pss_cons (ps_set (i := 5) scLMay.nd rfl (Or.inl rfl) (pe_ix ix_str (pe_ix ix_list (pv 0) (pe_op op_fdiv (pv 2) (pv 3)) (fun _ _ => rfl)) (pe_op op_mod (pv 2) (pv 3)) (fun _ _ => rfl)))
      (C8.pss_cut (ps_if (PW.pt (pw_and (pt_cmpR op_eq (pe_op op_fdiv (pv 1) (pv 3)) (pe_op op_fdiv (pv 2) (pv 3)) (nomark _)) (pw_and1 (pt_cmpR op_eq (pe_callB call_abs (by rfl) gA PyProof.Rows.boot_abs (pa_cons (pe_op op_sub (pv 1) (pv 2)) pa_nil)) pe_int (nomark _)))))
        (pss_one (ps_ret (pe_and (pe_cmpR op_in_sign (pv 4) pe_str (by rfl)) (pe_one (pe_cmpR op_in_sign (pv 5) pe_str (by rfl)))))) pss_nil)
      (C8.pss_cut (ps_if (PW.pt (pw_and (pt_cmpR op_eq (pe_op op_mod (pv 1) (pv 3)) (pe_op op_mod (pv 2) (pv 3)) (nomark _)) (pw_and1 (pt_cmpR op_eq (pe_callB call_abs (by rfl) gA PyProof.Rows.boot_abs (pa_cons (pe_op op_sub (pe_op op_fdiv (pv 1) (pv 3)) (pe_op op_fdiv (pv 2) (pv 3))) pa_nil)) pe_int (nomark _)))))
        (pss_one (ps_ret (pe_and (pe_cmpR op_in_sign (pv 4) pe_str (by rfl)) (pe_one (pe_cmpR op_in_sign (pv 5) pe_str (by rfl)))))) pss_nil)
      (pss_one (ps_ret pe_bl))))))), ?_⟩
    refine ⟨fun σ' H' => σ' = [some (.ref l), some (.int i), some (.int j), some (.int (wide ws)), none, none] ∧ H' = H, ?_, ?_⟩
    · refine ⟨_, rfl, _, _, rfl, .inl ⟨_, hS, rfl⟩, _, _, rfl, rfl, _, rfl, ?_⟩
      rw [List.length_map]
      cases ws with
      | nil =>
        refine iteF ?_
        have e0 : wide ([] : List Str) = 0 := empty_len
        rw [e0]
        exact ⟨rfl, rfl⟩
      | cons a r =>
        refine iteTd (by rw [List.length_cons]; omega) ?_
        have ea : wide (a :: r) = a.length := rfl
        refine ⟨_, rfl, _, _, _, _, rfl, rfl, hS, atI_nat (j := 0) rfl, a, rfl, Nat.le_trans (by rw [← ea]; exact hwd) (by decide), rfl, rfl⟩
    · rintro _ H' ⟨rfl, rfl⟩
      have eN : ((wide ws : Nat) : Int) * ((ws.length : Nat) : Int) = ((wide ws * ws.length : Nat) : Int) := (Int.natCast_mul _ _).symm
      have out : ∀ h : ¬ (0 ≤ i ∧ i < ((wide ws * ws.length : Nat) : Int) ∧ 0 ≤ j ∧ j < ((wide ws * ws.length : Nat) : Int)), Q (.bl false) H' := fun h => by
        have e : lmay ws i j = false := by
          unfold lmay
          rw [if_neg h]
        rw [e] at hQ
        exact hQ
      refine ⟨_, rfl, _, _, rfl, rfl, _, rfl, ?_⟩
      refine ite2 (fun i0 => ?_) (fun i0 => ?ee)
      case ee => exact ⟨false, rfl, out fun q => i0 (decide_eq_true q.1)⟩
      refine ⟨_, rfl, _, rfl, _, _, rfl, .inl ⟨_, hS, rfl⟩, _, _, rfl, rfl, .inl ⟨by omega, by omega⟩, _, _, rfl, rfl, _, rfl, ?_⟩
      rw [List.length_map, eN]
      refine iteNot (fun i1 => ?_) (fun i1 => ?ee)
      case ee => exact out fun q => i1 q.2.1
      refine ⟨_, rfl, _, _, rfl, rfl, _, rfl, ?_⟩
      refine ite2 (fun j0 => ?_) (fun j0 => ?ee)
      case ee => exact ⟨false, rfl, out fun q => j0 (decide_eq_true q.2.2.1)⟩
      refine ⟨_, rfl, _, rfl, _, _, rfl, .inl ⟨_, hS, rfl⟩, _, _, rfl, rfl, .inl ⟨by omega, by omega⟩, _, _, rfl, rfl, _, rfl, ?_⟩
      rw [List.length_map, eN]
      refine iteNot (fun j1 => ?_) (fun j1 => ?ee)
      case ee => exact out fun q => j1 q.2.2.2
      have i0' : 0 ≤ i := of_decide_eq_true i0
      have j0' : 0 ≤ j := of_decide_eq_true j0
      have el : lmay ws i j = if i / (wide ws : Int) = j / (wide ws : Int) ∧ (i - j).natAbs = 1 then tk ".-" (atP ws i.toNat) && tk ".-" (atP ws j.toNat)
          else if i % (wide ws : Int) = j % (wide ws : Int) ∧ (i / (wide ws : Int) - j / (wide ws : Int)).natAbs = 1 then tk ".|" (atP ws i.toNat) && tk ".|" (atP ws j.toNat) else false := by
        unfold lmay
        rw [if_pos ⟨i0', i1, j0', j1⟩]
      rw [el] at hQ
      obtain ⟨r, c, hr1, hc1, ei, d1, m1, a1, _, _⟩ := place i0' i1
      obtain ⟨r', c', hr2, hc2, ej, d2, m2, a2, _, _⟩ := place j0' j1
      have hw0 : (0 : Int) < ((wide ws : Nat) : Int) := by omega
      have hw1 : ((wide ws : Nat) : Int) < 1073741824 := by omega
      have sz : ∀ n, n < ws.length → (ws.getD n ("" : Str)).length ≤ sizeLine := fun n hn => Nat.le_trans (by rw [hw.rlen hn]; exact hwd) (by decide)
      refine ⟨_, rfl, _, rfl, _, rfl, _, _, rfl, rfl, ⟨hw0, hw1⟩, _, _, _, _, rfl, rfl, hS, by rw [d1]; exact atI_nat (str_at hr1), _, rfl, _, rfl, _, _, rfl, rfl, hw0, _, _, _, rfl, rfl, sz r hr1, by rw [m1]; exact atI_nat (sign_at hw hr1 hc1), ?_⟩
      refine ⟨_, rfl, _, rfl, _, rfl, _, _, rfl, rfl, ⟨hw0, hw1⟩, _, _, _, _, rfl, rfl, hS, by rw [d2]; exact atI_nat (str_at hr2), _, rfl, _, rfl, _, _, rfl, rfl, hw0, _, _, _, rfl, rfl, sz r' hr2, by rw [m2]; exact atI_nat (sign_at hw hr2 hc2), ?_⟩
      rw [a1, a2] at hQ
      -- the first test
      have veq : ∀ a b : Int, (V.int a = V.int b) ↔ a = b := fun a b => ⟨fun q => V.int.inj q, fun q => by rw [q]⟩
      refine ⟨fun σ' H2 => σ' = [some (.ref l), some (.int i), some (.int j), some (.int (wide ws)), some (.str ⟨#[signAt ws r c]⟩), some (.str ⟨#[signAt ws r' c']⟩)] ∧ H' = H2 ∧ ¬ (i / (wide ws : Int) = j / (wide ws : Int) ∧ (i - j).natAbs = 1), ?_, ?_⟩
      · refine ⟨_, rfl, _, rfl, _, _, rfl, rfl, ⟨hw0, hw1⟩, _, rfl, _, rfl, _, _, rfl, rfl, ⟨hw0, hw1⟩, rfl, _, rfl, ?_⟩
        refine ite2 (fun z1 => ?_) (fun z1 => ?ee)
        case ee => exact ⟨rfl, rfl, fun q => z1 (decide_eq_true ((veq _ _).mpr q.1))⟩
        have z1' := (veq _ _).mp (of_decide_eq_true z1)
        refine ⟨_, rfl, _, rfl, _, _, rfl, rfl, _, rfl, rfl, _, rfl, ?_⟩
        refine ite2 (fun z2 => ?_) (fun z2 => ?ee)
        case ee => exact ⟨rfl, rfl, fun q => z2 (decide_eq_true ((abs_one _).mpr q.2))⟩
        have z2' := (abs_one _).mp (of_decide_eq_true z2)
        rw [if_pos ⟨z1', z2'⟩] at hQ
        refine ⟨_, rfl, _, _, rfl, rfl, _, rfl, ?_⟩
        refine ite2 (fun t1 => ?_) (fun t1 => ?_)
        · refine ⟨_, rfl, _, _, rfl, rfl, ?_⟩
          have e : tk ".-" (signAt ws r c) = true := t1
          rw [e, Bool.true_and] at hQ
          exact hQ
        · have e : tk ".-" (signAt ws r c) = false := Bool.eq_false_iff.mpr t1
          rw [e, Bool.false_and] at hQ
          exact hQ
      rintro _ _ ⟨rfl, rfl, nz⟩
      rw [if_neg nz] at hQ
      refine ⟨fun σ' H2 => σ' = [some (.ref l), some (.int i), some (.int j), some (.int (wide ws)), some (.str ⟨#[signAt ws r c]⟩), some (.str ⟨#[signAt ws r' c']⟩)] ∧ H' = H2 ∧ ¬ (i % (wide ws : Int) = j % (wide ws : Int) ∧ (i / (wide ws : Int) - j / (wide ws : Int)).natAbs = 1), ?_, ?_⟩
      · refine ⟨_, rfl, _, rfl, _, _, rfl, rfl, hw0, _, rfl, _, rfl, _, _, rfl, rfl, hw0, rfl, _, rfl, ?_⟩
        refine ite2 (fun z1 => ?_) (fun z1 => ?ee)
        case ee => exact ⟨rfl, rfl, fun q => z1 (decide_eq_true ((veq _ _).mpr q.1))⟩
        have z1' := (veq _ _).mp (of_decide_eq_true z1)
        refine ⟨_, rfl, _, rfl, _, _, rfl, rfl, ⟨hw0, hw1⟩, _, rfl, _, rfl, _, _, rfl, rfl, ⟨hw0, hw1⟩, _, _, rfl, rfl, _, rfl, rfl, _, rfl, ?_⟩
        refine ite2 (fun z2 => ?_) (fun z2 => ?ee)
        case ee => exact ⟨rfl, rfl, fun q => z2 (decide_eq_true ((abs_one _).mpr q.2))⟩
        have z2' := (abs_one _).mp (of_decide_eq_true z2)
        rw [if_pos ⟨z1', z2'⟩] at hQ
        refine ⟨_, rfl, _, _, rfl, rfl, _, rfl, ?_⟩
        refine ite2 (fun t1 => ?_) (fun t1 => ?_)
        · refine ⟨_, rfl, _, _, rfl, rfl, ?_⟩
          have e : tk ".|" (signAt ws r c) = true := t1
          rw [e, Bool.true_and] at hQ
          exact hQ
        · have e : tk ".|" (signAt ws r c) = false := Bool.eq_false_iff.mpr t1
          rw [e, Bool.false_and] at hQ
          exact hQ
      rintro _ _ ⟨rfl, rfl, nz2⟩
      rw [if_neg nz2] at hQ
      exact hQ
end
end Sf
namespace Sf
open PySem PySem.Spec PyProof.Rows L2
section
variable {P : Program} {w : World} {K : PySem.W.Frag} {mg : Str → Option Value} {base : Heap}
def nLB : List Str := ["_law_rows_here", "_law_place", "_law_wide", "_law_near", "_law_other"]
theorem scLB : FnScope nLB ["_law_rows_here", "_law_place"] (defScope s_law_beside) := ⟨rfl, rfl, rfl, by decide +kernel, rfl, by decide +kernel, by decide +kernel⟩
theorem ok_lbeside {f fm : Addr} {fd fdm : FuncData} (F : Fun K "_law_beside" "_law_beside" s_law_beside f fd) (Gm : FnOk P w K mg base CX0 1 fm fdm ["_law_rows_here", "_law_one", "_law_other"] (spLMay K)) (gm : mg "_law_may" = some (.ref fm)) (km : PySem.W.keepIn K (.ref fm) = true) (bm : Binds K fdm ["_law_rows_here", "_law_one", "_law_other"] [])
    (gL : mg "len" = none) : FnOk P w K mg base CX0 2 f fd ["_law_rows_here", "_law_place"] (spLBeside K) := by
  refine F.ok scLB (fun vs H Q E h => ?_) (fun cdv A outer s H vs Q E hr h => ?_)
  · obtain ⟨l, ws, p, rfl, _⟩ := h
    rfl
  · obtain ⟨l, ws, p, rfl, hS, hw, hp, hQ⟩ := h
    have hwd := hw.wid
    have hr2 : Room 1 _ := hr.mono (by decide)
    obtain ⟨hp1, _⟩ := cell_place hp
    refine ⟨_, pss_cons (ps_set (i := 2) scLB.nd rfl (Or.inl rfl) (pe_callB call_len_str (by rfl) gL PySem.boot_len (pa_cons (pe_ix ix_list (pv 0) pe_int (fun _ _ => rfl)) pa_nil)))
      (pss_cons (ps_set (i := 3) scLB.nd rfl (Or.inl rfl) (pe_lst (pa_cons (pe_op op_sub (pv 1) pe_int) (pa_cons (pe_op op_add (pv 1) pe_int) pa_nil))))
      (C8.pss_cut (ps_if (pt_cmpR op_gt (pv 2) pe_int (nomark _)) (pss_one (ps_set (i := 3) scLB.nd rfl (Or.inl rfl) (pe_lst (pa_cons (pe_op op_sub (pv 1) (pv 2)) (pa_cons (pe_op op_sub (pv 1) pe_int) (pa_cons (pe_op op_add (pv 1) pe_int) (pa_cons (pe_op op_add (pv 1) (pv 2)) pa_nil))))))) pss_nil)
      (pss_one (ps_ret (pe_lc (own := [("_law_other", 4)]) (g := gName 4) rfl scLB.nd (pi_list (pv 3)) (blkOk_by (N := nLB) (sc := defScope s_law_beside) (by decide +kernel)) (fun _ _ _ _ _ => pg_name (i := 4) scLB.nd rfl (Or.inl rfl))
        (fun _ _ _ _ _ => pts_one (pt_val (pe_call Gm hr2 rfl gm km bm .nil pass0 (pa_cons (pv 0) (pa_cons (pv 1) (pa_cons (pv 4) pa_nil)))))) (fun _ _ _ _ _ => pv 4)))))), ?_⟩
    cases hws : ws with
    | nil =>
      rw [hws] at hp1
      simp at hp1
    | cons a r =>
    have ea : wide ws = a.length := by rw [hws]; rfl
    have hS2 := hS
    rw [hws] at hS2
    refine ⟨_, rfl, _, _, _, _, rfl, rfl, hS2, atI_nat (j := 0) rfl, a, rfl, Nat.le_trans (by rw [← ea]; exact hwd) (by decide), ?_⟩
    rw [← ea]
    refine ⟨_, rfl, _, _, rfl, rfl, _, rfl, _, _, rfl, rfl, (by show 2 ≤ sizeLine; decide), fun l1 hl1 => ?_⟩
    have t1 : Same H (upd H l1 (.lst [.int ((p : Int) - 1), .int ((p : Int) + 1)])) := Same.new hl1
    refine ⟨fun σ' H' => ∃ ln, σ' = [some (.ref l), some (.int p), some (.int (wide ws)), some (.ref ln), none] ∧ Same H H' ∧ H' ln = some (.lst ((nearL ws p).map V.int)), ?_, ?_⟩
    · refine ⟨_, rfl, _, _, rfl, rfl, _, rfl, ?_⟩
      by_cases h1 : 1 < wide ws
      · refine iteTd (by omega) ?_
        refine ⟨_, rfl, _, rfl, _, _, rfl, rfl, _, rfl, _, _, rfl, rfl, _, rfl, _, _, rfl, rfl, _, rfl, _, rfl, _, _, rfl, rfl, (by show 4 ≤ sizeLine; decide), fun l2 hl2 => ?_⟩
        refine ⟨l2, rfl, t1.trans (Same.new hl2), ?_⟩
        rw [upd_same]
        unfold nearL
        rw [if_pos h1] <;> rfl
      · refine iteNS2 (by omega) ?_
        refine ⟨l1, rfl, t1, ?_⟩
        rw [upd_same]
        unfold nearL
        rw [if_neg h1] <;> rfl
    rintro _ H1 ⟨ln, rfl, s1, h1⟩
    refine ⟨_, rfl, ln, rfl, ⟨_, SqL.of h1⟩, fun D hD => ?_⟩
    refine lc_list (K := K) (a := ln) (xs := (nearL ws p).map V.int) (fun j H3 => Same H1 H3 ∧ H3 D = some (.lst ((((nearL ws p).take j).filter fun j => lmay ws (p : Int) j).map V.int))) ⟨Same.new hD, upd_same⟩ (fun i H3 _ ⟨s3, _⟩ => SqL.of (s3 _ _ h1)) ?_ ?_
    · rintro j y H3 hj ⟨s3, h3⟩
      obtain ⟨z, hz, rfl⟩ : ∃ z, (nearL ws p)[j]? = some z ∧ y = V.int z := by
        rw [List.getElem?_map] at hj
        cases e : (nearL ws p)[j]? with
        | none => rw [e] at hj; cases hj
        | some z => rw [e] at hj; exact ⟨z, rfl, (Option.some.inj hj).symm⟩
      have tk1 : (nearL ws p).take (j + 1) = (nearL ws p).take j ++ [z] := by
        rw [List.take_add_one, hz] <;> rfl
      refine ⟨rfl, _, rfl, _, rfl, _, rfl, l, ws, p, z, rfl, (s1.trans s3).seq hS, hw, _, rfl, ?_⟩
      by_cases hm : lmay ws (p : Int) z = true
      · rw [hm]
        refine iteT ?_
        refine ⟨_, rfl, _, h3, ?_, ?_, ?_⟩
        · rw [List.length_map]
          refine small1000 ?_
          have q1 := List.length_filter_le (fun j => lmay ws (p : Int) j) ((nearL ws p).take j)
          have q2 : ((nearL ws p).take j).length ≤ (nearL ws p).length := by rw [List.length_take]; omega
          have q3 : (nearL ws p).length ≤ 4 := by
            unfold nearL
            split <;> simp
          omega
        · exact fun b o e => by rw [upd_ne (ne_of_none e hD)]; exact s3 b o e
        · rw [upd_same, tk1, List.filter_append, List.map_append, List.filter_cons, if_pos hm] <;> rfl
      · rw [Bool.eq_false_iff.mpr hm]
        refine iteF ?_
        refine ⟨s3, ?_⟩
        rw [tk1, List.filter_append, List.filter_cons, if_neg hm, List.filter_nil, List.append_nil]
        exact h3
    · rintro H3 ⟨s3, h3⟩
      rw [List.length_map, List.take_length, beside_eq hp] at h3
      have hD2 : H D = none := by
        cases q : H D with
        | none => rfl
        | some o =>
          have := s1 _ _ q
          rw [hD] at this
          cases this
      exact hQ D H3 (s1.trans s3) hD2 h3
end
end Sf
namespace Sf
open PySem L2
section
variable {P : Program} {w : World} {K : PySem.W.Frag} {mg : Str → Option Value} {base : Heap}
def nLCells : List Str := ["_law_rows_here", "_law_signs", "_law_place"]
theorem scLCells : FnScope nLCells ["_law_rows_here"] (defScope s_law_cells) := ⟨rfl, rfl, rfl, by decide +kernel, rfl, by decide +kernel, by decide +kernel⟩
theorem ok_lcells {f : Addr} {fd : FuncData} (F : Fun K "_law_cells" "_law_cells" s_law_cells f fd) (gL : mg "len" = none) (gR : mg "range" = none) : FnOk P w K mg base CX0 1 f fd ["_law_rows_here"] (spLCells K) := by
  refine F.ok scLCells (fun vs H Q E h => ?_) (fun cdv A outer s H vs Q E hr h => ?_)
  · obtain ⟨l, ws, rfl, _⟩ := h
    rfl
  · obtain ⟨l, ws, rfl, hS, hw, hQ⟩ := h
    have hh := hw.high
    have hwd := hw.wid
    have flen : (Gx2.flat ws).length = ws.length * wide ws := flat_len fun a ha => hw.len a ha
    have small : ws.length * wide ws ≤ 12 * 12 := Nat.mul_le_mul hh hwd
    refine ⟨_, pss_cons (ps_set (i := 1) scLCells.nd rfl (Or.inr rfl) (pe_join pe_str (pv 0)))
      (pss_one (ps_ret (pe_lc (own := [("_law_place", 2)]) (g := gName 2) rfl scLCells.nd (pi_range1 rfl gR (pa_cons (pe_callB call_len_str (by rfl) gL PySem.boot_len (pa_cons (pv 1) pa_nil)) pa_nil)) (blkOk_by (N := nLCells) (sc := defScope s_law_cells) (by decide +kernel)) (fun _ _ _ _ _ => pg_name (i := 2) scLCells.nd rfl (Or.inl rfl))
        (fun _ _ _ _ _ => pts_one (pt_cmpR op_ne (pe_ix ix_str (pv 1) (pv 2) (fun _ _ => rfl)) pe_str (nomark _))) (fun _ _ _ _ _ => pv 2)))), ?_⟩
    refine ⟨⟨_, rfl⟩, _, rfl, _, l, ws, rfl, rfl, .inl hS, ?_, ?_⟩
    · rw [sum_len (n := 0) (fun a ha => hw.len a ha), empty_len]
      omega
    · have jc : (Txt.join ("" : Str) ws).cps.toList = Gx2.flat ws := join_flat ws
      have jl : (Txt.join ("" : Str) ws).length = ws.length * wide ws := by
        show (Txt.join ("" : Str) ws).cps.size = _
        rw [← Array.length_toList, jc, flen]
      generalize Txt.join ("" : Str) ws = z at jc jl
      have zs : z.length ≤ sizeLine := Nat.le_trans (by rw [jl]; exact small) (by decide)
      refine ⟨_, rfl, z, rfl, zs, _, rfl, by omega, by omega, fun D hD => ?_⟩
      refine lc_range (lo := 0) (n := ((z.length : Nat) : Int).toNat) (fun j H3 => Same H H3 ∧ H3 D = some (.lst (nats (cellsTo ws j)))) ⟨Same.new hD, upd_same⟩ ?_ ?_
      · rintro j H3 hj ⟨s3, h3⟩
        have hj2 : j < ws.length * wide ws := by rw [Int.toNat_natCast, jl] at hj; exact hj
        have z2 : (0 : Int) + (j : Int) = (j : Int) := Int.zero_add _
        have ga : z.cps.toList[j]? = some (atP ws j) := by rw [jc]; exact flat_atP hw hj2
        refine ⟨rfl, _, rfl, _, rfl, z, _, _, rfl, rfl, zs, by rw [z2]; exact atI_nat ga, rfl, _, rfl, ?_⟩
        have eP : ("#" : Str) = sg1 35 := by decide +kernel
        rw [eP]
        by_cases h35 : atP ws j = 35
        · rw [decide_eq_true (sg_ne.mpr h35)]
          refine iteF ?_
          refine ⟨s3, ?_⟩
          rw [cellsTo_succ, if_neg (by rw [h35]; simp)]
          exact h3
        · rw [decide_eq_false (fun q => h35 (sg_ne.mp q))]
          refine iteT ?_
          refine ⟨_, rfl, _, h3, ?_, ?_, ?_⟩
          · unfold nats
            rw [List.length_map]
            have := cellsTo_len ws j
            exact small1000 (by omega)
          · exact fun b o e => by rw [upd_ne (ne_of_none e hD)]; exact s3 b o e
          · rw [upd_same, cellsTo_succ, if_pos h35]
            unfold nats
            rw [List.map_append, z2] <;> rfl
      · rintro H3 ⟨s3, h3⟩
        rw [Int.toNat_natCast, jl] at h3
        exact hQ D H3 s3 hD h3
end
end Sf
/-! Comprehensions over ints: the kept ones, and a value of each. -/
namespace Gc
open PySem PySem.Spec PyProof.Rows L2
theorem int_at0 {ks : List Int} {j : Nat} {y : V} (h : (ks.map V.int)[j]? = some y) : ∃ z, ks[j]? = some z ∧ y = V.int z ∧ ks.take (j + 1) = ks.take j ++ [z] := by
  rw [List.getElem?_map] at h
  cases e : ks[j]? with
  | none => rw [e] at h; cases h
  | some z =>
    rw [e] at h
    refine ⟨z, rfl, (Option.some.inj h).symm, ?_⟩
    rw [List.take_add_one, e] <;> rfl
theorem same_new {H : Hp} {a : Addr} {o : HO} (h : H a = none) : Same H (upd H a o) := fun b u e => by
  rw [upd_ne (ne_of_none e h)]
  exact e
theorem same_off {H0 H1 : Hp} {a : Addr} {o : HO} (s : Same H0 H1) (h : H0 a = none) : Same H0 (upd H1 a o) := fun b u e => by
  rw [upd_ne (ne_of_none e h)]
  exact s b u e
theorem none_back {H H' : Hp} {a : Addr} (s : Same H H') (h : H' a = none) : H a = none := by
  cases q : H a with
  | none => rfl
  | some o =>
    have := s _ _ q
    rw [h] at this
    cases this
theorem wipe1 (σ : L2.St) (i : Nat) (x : Option V) : wipe ((wipe σ [i]).set i x) [i] = wipe σ [i] := by
  show ((σ.set i none).set i x).set i none = σ.set i none
  rw [List.set_set, List.set_set]
/-- [c for c in xs if t] -/
theorem lc_filt {K : PySem.W.Frag} {a : Addr} {xs : List Int} {i : Nat} {tt : TT} {σ : L2.St} {H1 : Hp} {D : Addr} {Qd : Hp → Prop} (p : Int → Bool) (hS : SqL K H1 a (xs.map V.int)) (hD : H1 D = none) (hl : xs.length ≤ 900) (hi : i < σ.length)
    (ht : ∀ c H3, c ∈ xs → Same H1 H3 → ∀ R : Bool → Hp → Prop, (∀ H4, Same H3 H4 → R (p c) H4) → tt ((wipe σ [i]).set i (some (.int c))) H3 R)
    (hd : ∀ H3, Same H1 H3 → H3 D = some (.lst ((xs.filter p).map V.int)) → Qd H3) :
    ∃ W : Nat → Nat → Hp → Prop, (∃ m, W 0 m (upd H1 D (.lst []))) ∧ ∀ i' m H, W i' m H →
      ((Itl K a).stop i' H ∧ Qd H) ∨ ((Itl K a).go i' H ∧ ∃ Nx : Hp → Prop, (∀ H', Nx H' → ∃ m', m' < m ∧ W (i' + 1) m' H') ∧ ∀ x H', (Itl K a).yld i' H x H' → gName i x (wipe σ [i]) H' fun σ2 H2 => wipe σ2 [i] = wipe σ [i] ∧ tt σ2 H2 fun b H3 =>
        if b = true then tVar i σ2 H3 fun y H4 => ∃ acc, H4 D = some (.lst acc) ∧ acc.length < sizeLine ∧ Nx (upd H4 D (.lst (acc ++ [y]))) else Nx H3) := by
  refine lc_list (K := K) (a := a) (xs := xs.map V.int) (fun j H3 => Same H1 H3 ∧ H3 D = some (.lst (((xs.take j).filter p).map V.int))) ⟨same_new hD, upd_same⟩ (fun i H3 _ ⟨s3, _⟩ => s3.seq hS) ?_ ?_
  · rintro j y H3 hj ⟨s3, h3⟩
    obtain ⟨z, hz, rfl, tk1⟩ := int_at0 hj
    refine ⟨wipe1 σ i _, ht z H3 (List.mem_of_getElem? hz) s3 _ fun H4 s4 => ?_⟩
    have h4 := s4 _ _ h3
    have s34 := s3.trans s4
    cases hp : p z with
    | true =>
      refine iteT ?_
      refine ⟨.int z, ?_, _, h4, ?_, same_off s34 hD, ?_⟩
      · show ((σ.set i none).set i (some (V.int z)))[i]? = _
        rw [List.getElem?_set_self (by rw [List.length_set]; exact hi)]
      · rw [List.length_map]
        have q1 := List.length_filter_le p (xs.take j)
        have q2 : (xs.take j).length ≤ xs.length := by rw [List.length_take]; omega
        exact small1000 (by omega)
      · rw [upd_same, tk1, List.filter_append, List.map_append, List.filter_cons, if_pos hp] <;> rfl
    | false =>
      refine iteF ?_
      refine ⟨s34, ?_⟩
      rw [tk1, List.filter_append, List.filter_cons, if_neg (by rw [hp]; decide), List.filter_nil, List.append_nil]
      exact h4
  · rintro H3 ⟨s3, h3⟩
    rw [List.length_map, List.take_length] at h3
    exact hd H3 s3 h3
end Gc
namespace Sf
open PySem PySem.Spec PyProof.Rows L2 Gc
theorem mod_ix {xs : List Int} {r : Int} (h : 0 < xs.length) : ∃ j z, r % ((xs.length : Nat) : Int) = ((j : Nat) : Int) ∧ xs[j]? = some z := by
  have h1 := Int.emod_nonneg r (show ((xs.length : Nat) : Int) ≠ 0 by omega)
  have h2 := Int.emod_lt_of_pos r (show (0 : Int) < ((xs.length : Nat) : Int) by omega)
  have hj : (r % ((xs.length : Nat) : Int)).toNat < xs.length := by omega
  exact ⟨(r % ((xs.length : Nat) : Int)).toNat, xs[(r % ((xs.length : Nat) : Int)).toNat], by omega, List.getElem?_eq_getElem hj⟩
theorem mod_cell {ws : List Str} {r : Int} (h : 0 < (cellsOf ws).length) : ∃ j p, r % (((cellsOf ws).length : Nat) : Int) = ((j : Nat) : Int) ∧ (natI (cellsOf ws))[j]? = some ((p : Nat) : Int) ∧ p ∈ cellsOf ws := by
  have hl : (natI (cellsOf ws)).length = (cellsOf ws).length := by unfold natI; rw [List.length_map]
  obtain ⟨j, z, e1, e2⟩ := mod_ix (xs := natI (cellsOf ws)) (r := r) (by omega)
  obtain ⟨p, rfl, hp⟩ := cell_nat (cell_natI.mpr (List.mem_of_getElem? e2))
  exact ⟨j, p, by rw [← hl]; exact e1, e2, hp⟩
theorem isSome_has (ov : Ovr) (i : Int) : ((look ov i).map V.int).isSome = has ov i := by
  unfold has
  cases look ov i <;> rfl
theorem dget {H : Hp} {d : Addr} {ov : Ovr} (h : H d = some (.dK (dk ov))) (i : Int) : DGet H d (V.int i) ((look ov i).map V.int) := by
  have q := DGet.k (k := (Sum.inl i : Key)) h
  rw [dk_val] at q
  exact q
end Sf
namespace Sf
open PySem PySem.Spec PyProof.Rows L2 Gc
/-! ### drawings -/
def sigD (ws : List Str) (ov : Ovr) (p : Int) : Str :=
  if isCell ws p = true then
    match look ov p with
    | none => ("o" : Str)
    | some o => if p / (wide ws : Int) = o / (wide ws : Int) then (if p < o then ("<" : Str) else (">" : Str)) else (if p < o then ("^" : Str) else ("v" : Str))
  else ("#" : Str)
theorem sigD_no {ws : List Str} {ov : Ovr} {p : Int} (h : isCell ws p = false) : sigD ws ov p = ("#" : Str) := by
  unfold sigD
  rw [if_neg (by rw [h]; decide)]
theorem sigD_bare {ws : List Str} {ov : Ovr} {p : Int} (h : isCell ws p = true) (h2 : look ov p = none) : sigD ws ov p = ("o" : Str) := by
  unfold sigD
  rw [if_pos h, h2]
theorem sigD_half {ws : List Str} {ov : Ovr} {p o : Int} (h : isCell ws p = true) (h2 : look ov p = some o) : sigD ws ov p = if p / (wide ws : Int) = o / (wide ws : Int) then (if p < o then ("<" : Str) else (">" : Str)) else (if p < o then ("^" : Str) else ("v" : Str)) := by
  unfold sigD
  rw [if_pos h, h2]
theorem atP_cell {ws : List Str} {p : Nat} (h : p < wide ws * ws.length) : isCell ws (p : Int) = decide (atP ws p ≠ 35) := by
  unfold isCell
  rw [Int.toNat_natCast]
  refine decide_eq_decide.mpr ⟨fun q => (cellsTo_mem.mp q.2).2, fun q => ⟨by omega, cellsTo_mem.mpr ⟨by rw [Nat.mul_comm]; exact h, q⟩⟩⟩
def spSignD (C CL : Addr) : Sp := fun vs H Q _ => ∃ (y x df d : Addr) (ws : List Str) (ov : Ovr) (p : Int), vs = [.ref y, .int p] ∧ LayD CL H y x d ov ∧ FloorD C H x df ws ∧ Wf ws ∧ 0 < wide ws ∧ ∀ H', Same H H' → Q (.str (sigD ws ov p)) H'
def spHalf (K : PySem.W.Frag) : Sp := fun vs H Q _ => ∃ (l d : Addr) (ws : List Str) (ov : Ovr) (p : Int), vs = [.ref l, .ref d, .int p] ∧ SqL K H l (ws.map V.str) ∧ Wf ws ∧ H d = some (.dK (dk ov)) ∧ 0 ≤ p ∧ p < ((wide ws * ws.length : Nat) : Int) ∧ Q (.str (sigD ws ov p)) H
section
variable {P : Program} {w : World} {K : PySem.W.Frag} {mg : Str → Option Value} {base : Heap} {C CL : Addr}
theorem sc_sign_drawn : FnScope ["laying", "place", "floor", "other", "row", "_", "other_row"] ["laying", "place"] (defScope s_sign_drawn) := ⟨rfl, rfl, rfl, by decide +kernel, rfl, by decide +kernel, by decide +kernel⟩
theorem ok_signD {tP tB tL tR tU tV : Tok} (D : Df K mg "_sign_drawn" s_sign_drawn ["laying", "place"]) (T : FTxt K mg C) (L : LTxt K mg CL)
    (gPILLAR : mg "PILLAR" = some (.str "#" tP)) (gBARE : mg "BARE" = some (.str "o" tB)) (gLEFT : mg "LEFT" = some (.str "<" tL)) (gRIGHT : mg "RIGHT" = some (.str ">" tR)) (gUPPER : mg "UPPER" = some (.str "^" tU)) (gLOWER : mg "LOWER" = some (.str "v" tV))
    (c_Floor_has : Cm P w K mg base CX0 1 C "has" ["self", "place"] (spHas C)) (c_Floor_row_and_column : Cm P w K mg base CX0 1 C "row_and_column" ["self", "place"] (spRC C)) :
    Cl P w K mg base CX0 2 "_sign_drawn" ["laying", "place"] (spSignD C CL) := D.cl fun f fd F => by
  refine F.ok sc_sign_drawn (fun vs H Q E h => ?_) (fun cdv A outer s H vs Q E hr h => ?_)
  · obtain ⟨y, x, df, d, ws, ov, p, rfl, _⟩ := h
    rfl
  · obtain ⟨y, x, df, d, ws, ov, p, rfl, ⟨dy, la⟩, ⟨dxf, lrf, gf, faf⟩, hw, wp, hQ⟩ := h
    have hu := hu_of hr
    have hwd := hw.wid
    refine ⟨_, (pss_cons (ps_set (i := 2) sc_sign_drawn.nd rfl (Or.inl rfl) (pe_fld (pv 0) rfl))
      (pss_cons (ps_if (pt_not (pt_val (pe_cm (pv 2) T.cl c_Floor_has (hr.mono (by decide)) (pa_cons (pv 1) pa_nil)))) (pss_one (ps_ret (pe_glob (v := .str "#") rfl gPILLAR ⟨_, rfl⟩))) pss_nil)
      (pss_cons (ps_if (pt_cmp (pc_dnotin hu (pv 1) (pe_fld (pv 0) rfl)) rfl) (pss_one (ps_ret (pe_glob (v := .str "o") rfl gBARE ⟨_, rfl⟩))) pss_nil)
      (pss_cons (ps_set (i := 3) sc_sign_drawn.nd rfl (Or.inl rfl) (pe_dget hu (pe_fld (pv 0) rfl) (pv 1) (fun _ _ => rfl)))
      (pss_cons (ps_asg (pe_cm (pv 2) T.cl c_Floor_row_and_column (hr.mono (by decide)) (pa_cons (pv 1) pa_nil)) (pg_tup (by rfl) (pgs_cons (pg_name (i := 4) sc_sign_drawn.nd rfl (Or.inl rfl)) (pgs_cons (pg_name (i := 5) sc_sign_drawn.nd rfl (Or.inl rfl)) pgs_nil))))
      (pss_cons (ps_asg (pe_cm (pv 2) T.cl c_Floor_row_and_column (hr.mono (by decide)) (pa_cons (pv 3) pa_nil)) (pg_tup (by rfl) (pgs_cons (pg_name (i := 6) sc_sign_drawn.nd rfl (Or.inl rfl)) (pgs_cons (pg_name (i := 5) sc_sign_drawn.nd rfl (Or.inl rfl)) pgs_nil))))
      (pss_cons (ps_if (pt_cmpR op_eq (pv 4) (pv 6) (nomark _)) (pss_one (ps_ret (pe_ifExp (pt_cmpR op_lt (pv 1) (pv 3) (nomark _)) (pe_glob (v := .str "<") rfl gLEFT ⟨_, rfl⟩) (pe_glob (v := .str ">") rfl gRIGHT ⟨_, rfl⟩)))) pss_nil)
      (pss_one (ps_ret (pe_ifExp (pt_cmpR op_lt (pv 1) (pv 3) (nomark _)) (pe_glob (v := .str "^") rfl gUPPER ⟨_, rfl⟩) (pe_glob (v := .str "v") rfl gLOWER ⟨_, rfl⟩))))))))))), ?_⟩
    have nH : (flds lrf ws df (gf (topP ws))).lookup ("has" : Str) = none := flds_no _ _ _ _ (by decide +kernel) (by decide +kernel) (by decide +kernel) (by decide +kernel)
    have nR : (flds lrf ws df (gf (topP ws))).lookup ("row_and_column" : Str) = none := flds_no _ _ _ _ (by decide +kernel) (by decide +kernel) (by decide +kernel) (by decide +kernel)
    refine ⟨_, rfl, y, CL, dy, _, _, rfl, la.ob, L.cl, L.nF, lfl_floor _ _, ?_⟩
    refine ⟨_, rfl, x, dxf, _, rfl, faf.ob, nH, _, rfl, x, dxf, lrf, df, gf, ws, p, rfl, faf, ?_⟩
    refine ⟨_, rfl, ?_⟩
    have hQ0 := hQ H (Same.refl _)
    cases hc : isCell ws p with
    | false =>
      rw [sigD_no hc] at hQ0
      exact iteT hQ0
    | true =>
    refine iteF ?_
    refine ⟨_, rfl, _, rfl, y, CL, dy, _, _, rfl, la.ob, L.cl, L.nO, lfl_over _ _, d, _, rfl, dget la.dc p, _, rfl, ?_⟩
    cases lo : look ov p with
    | none =>
      rw [sigD_bare hc lo] at hQ0
      exact iteT hQ0
    | some o =>
    refine iteF ?_
    have dg := dget la.dc p
    rw [lo] at dg
    refine ⟨_, rfl, y, CL, dy, _, _, rfl, la.ob, L.cl, L.nO, lfl_over _ _, _, rfl, d, _, rfl, dg, ?_⟩
    refine ⟨_, rfl, x, dxf, _, rfl, faf.ob, nR, _, rfl, x, dxf, lrf, df, gf, ws, p, rfl, faf, wp, hwd, fun t H1 s1 ht h1t => ?_⟩
    refine ⟨t, _, rfl, SqT.of h1t, rfl, _, _, rfl, _, _, rfl, rfl, ?_⟩
    have fa1 := faf.same s1
    refine ⟨_, rfl, x, dxf, _, rfl, fa1.ob, nR, _, rfl, x, dxf, lrf, df, gf, ws, o, rfl, fa1, wp, hwd, fun t2 H2 s2 ht2 h2t => ?_⟩
    refine ⟨t2, _, rfl, SqT.of h2t, rfl, _, _, rfl, _, _, rfl, rfl, ?_⟩
    have hQ2 := hQ H2 (s1.trans s2)
    rw [sigD_half hc lo] at hQ2
    refine ⟨_, rfl, _, rfl, rfl, _, rfl, ?_⟩
    by_cases e1 : p / (wide ws : Int) = o / (wide ws : Int)
    · rw [if_pos e1] at hQ2
      refine iteTd (congrArg V.int e1) ?_
      refine ⟨_, rfl, _, rfl, _, _, rfl, rfl, _, rfl, ?_⟩
      by_cases e2 : p < o
      · rw [if_pos e2] at hQ2
        exact iteTd e2 hQ2
      · rw [if_neg e2] at hQ2
        exact iteNS2 e2 hQ2
    · rw [if_neg e1] at hQ2
      refine iteNS2 (fun q => e1 (V.int.inj q)) ?_
      refine ⟨_, rfl, _, rfl, _, _, rfl, rfl, _, rfl, ?_⟩
      by_cases e2 : p < o
      · rw [if_pos e2] at hQ2
        exact iteTd e2 hQ2
      · rw [if_neg e2] at hQ2
        exact iteNS2 e2 hQ2
theorem sc_law_half : FnScope ["_law_rows_here", "_law_over_here", "_law_place", "_law_wide"] ["_law_rows_here", "_law_over_here", "_law_place"] (defScope s_law_half) := ⟨rfl, rfl, rfl, by decide +kernel, rfl, by decide +kernel, by decide +kernel⟩
theorem ok_half (D : Df K mg "_law_half" s_law_half ["_law_rows_here", "_law_over_here", "_law_place"]) (B : Bi mg) : Cl P w K mg base CX0 1 "_law_half" ["_law_rows_here", "_law_over_here", "_law_place"] (spHalf K) := D.cl fun f fd F => by
  refine F.ok sc_law_half (fun vs H Q E h => ?_) (fun cdv A outer s H vs Q E hr h => ?_)
  · obtain ⟨l, d, ws, ov, p, rfl, _⟩ := h
    rfl
  · obtain ⟨l, d, ws, ov, p, rfl, hS, hw, hd, p0, p1, hQ⟩ := h
    have hu := hu_of hr
    have hwd := hw.wid
    refine ⟨_, (pss_cons (ps_set (i := 3) sc_law_half.nd rfl (Or.inl rfl) (pe_callB call_len_str (by rfl) B.len PySem.boot_len (pa_cons (pe_ix ix_list (pv 0) pe_int (fun _ _ => rfl)) pa_nil)))
      (pss_cons (ps_if (pt_cmpR op_eq (pe_ix ix_str (pe_ix ix_list (pv 0) (pe_op op_fdiv (pv 2) (pv 3)) (fun _ _ => rfl)) (pe_op op_mod (pv 2) (pv 3)) (fun _ _ => rfl)) pe_str (nomark _)) (pss_one (ps_ret pe_str)) pss_nil)
      (pss_cons (ps_if (pt_cmp (pc_dnotin hu (pv 2) (pv 1)) rfl) (pss_one (ps_ret pe_str)) pss_nil)
      (pss_cons (ps_if (pt_cmpR op_eq (pe_op op_fdiv (pe_dget hu (pv 1) (pv 2) (fun _ _ => rfl)) (pv 3)) (pe_op op_fdiv (pv 2) (pv 3)) (nomark _)) (pss_one (ps_ret (pe_ifExp (pt_cmpR op_gt (pe_dget hu (pv 1) (pv 2) (fun _ _ => rfl)) (pv 2) (nomark _)) pe_str pe_str))) pss_nil)
      (pss_one (ps_ret (pe_ifExp (pt_cmpR op_gt (pe_dget hu (pv 1) (pv 2) (fun _ _ => rfl)) (pv 2) (nomark _)) pe_str pe_str))))))), ?_⟩
    obtain ⟨r, c, hr1, hc1, ei, d1, m1, a1, _, _⟩ := place p0 p1
    have hw0 : (0 : Int) < ((wide ws : Nat) : Int) := by omega
    have hw1 : ((wide ws : Nat) : Int) < 1073741824 := by omega
    have sz : ∀ n, n < ws.length → (ws.getD n ("" : Str)).length ≤ sizeLine := fun n hn => Nat.le_trans (by rw [hw.rlen hn]; exact hwd) (by decide)
    have wl : (ws.getD 0 ("" : Str)).length = wide ws := hw.rlen (by omega)
    refine ⟨_, rfl, _, _, _, _, rfl, rfl, hS, atI_nat (j := 0) (str_at (by omega)), _, rfl, sz 0 (by omega), ?_⟩
    rw [wl]
    refine ⟨_, rfl, _, rfl, _, rfl, _, _, rfl, rfl, ⟨hw0, hw1⟩, _, _, _, _, rfl, rfl, hS, by rw [d1]; exact atI_nat (str_at hr1), _, rfl, _, rfl, _, _, rfl, rfl, hw0, _, _, _, rfl, rfl, sz r hr1, by rw [m1]; exact atI_nat (sign_at hw hr1 hc1), rfl, _, rfl, ?_⟩
    have eP : ("#" : Str) = sg1 35 := by decide +kernel
    have ic : isCell ws p = decide (signAt ws r c ≠ 35) := by
      have e : p = ((p.toNat : Nat) : Int) := by omega
      rw [e, atP_cell (by omega), a1]
    rw [eP]
    by_cases h35 : signAt ws r c = 35
    · rw [decide_eq_false (fun q => q h35)] at ic
      rw [sigD_no ic, eP] at hQ
      exact iteTd (sg_ne.mpr h35) hQ
    refine iteNS2 (fun q => h35 (sg_ne.mp q)) ?_
    rw [decide_eq_true h35] at ic
    refine ⟨_, rfl, _, rfl, d, _, rfl, dget hd p, _, rfl, ?_⟩
    cases lo : look ov p with
    | none =>
      rw [sigD_bare ic lo] at hQ
      exact iteT hQ
    | some o =>
    refine iteF ?_
    have dg := dget hd p
    rw [lo] at dg
    rw [sigD_half ic lo] at hQ
    refine ⟨_, rfl, _, rfl, d, _, rfl, dg, _, rfl, _, _, rfl, rfl, ⟨hw0, hw1⟩, _, rfl, _, rfl, _, _, rfl, rfl, ⟨hw0, hw1⟩, rfl, _, rfl, ?_⟩
    by_cases e1 : p / (wide ws : Int) = o / (wide ws : Int)
    · rw [if_pos e1] at hQ
      refine iteTd (congrArg V.int e1.symm) ?_
      refine ⟨_, rfl, _, rfl, d, _, rfl, dg, _, rfl, _, _, rfl, rfl, _, rfl, ?_⟩
      by_cases e2 : p < o
      · rw [if_pos e2] at hQ
        exact iteTd e2 hQ
      · rw [if_neg e2] at hQ
        exact iteNS2 e2 hQ
    · rw [if_neg e1] at hQ
      refine iteNS2 (fun q => e1 (V.int.inj q).symm) ?_
      refine ⟨_, rfl, _, rfl, d, _, rfl, dg, _, rfl, _, _, rfl, rfl, _, rfl, ?_⟩
      by_cases e2 : p < o
      · rw [if_pos e2] at hQ
        exact iteTd e2 hQ
      · rw [if_neg e2] at hQ
        exact iteNS2 e2 hQ
end
end Sf
/-! A name that is set to a dict comprehension; such a one over a list. -/
namespace Gc
open PySem PySem.Spec PyProof.Rows L2
theorem sw_trueD {kx vx : Expr} {gs : List Comprehension} {scope : Scope} {pos py : Pos} {y : Str} {l : Nat} {env : Env} (hk : env.scope.kind = .function) (hy : env.scope.names.lookup y = some .local) (hl : (py.line == pos.line) = true)
    (ha : (scope.names.any fun (n, k) => n == y && (k == .local || k == .cell)) = false) : swapsWith (.DictComp kx vx gs scope pos) (some (.Name y py)) l env = pure true := by
  have ky : env.kindOf y = some .local := hy
  have hb : env.blockKind = .function := by unfold Env.blockKind; rw [hk]; rfl
  unfold swapsWith
  simp only [hb, ky, ha, Expr.pos, hl]
  rfl
section
variable {X : Cx}
theorem ps_setDc {i : Nat} {y : Str} {py : Pos} {kx vx tg iter : Expr} {ifs : List Expr} {scope : Scope} {own : List (Str × Nat)} {pos spos : Pos} {wi : TI} {g : TG} {tt : TT} {tk tv : TE} (hc : X.calm = true) (hN : X.N.Nodup) (hy : X.N[i]? = some y) (hyl : X.env.scope.names.lookup y = some .local)
    (hsw : swapsWith (.DictComp kx vx [⟨tg, iter, ifs, 0⟩] scope pos) (some (.Name y py)) spos.line X.env = pure true) (hi : PI X tg iter wi) (ok : BlkOk X.N X.env.scope scope own)
    (hg : ∀ (s : Shared) (H : Hp) (C : Addr) (cl : List (Str × Addr)) (fp : List Addr), PG (X.blk s H scope (compEnvC scope cl C X.env) fp) tg g) (ht : ∀ (s : Shared) (H : Hp) (C : Addr) (cl : List (Str × Addr)) (fp : List Addr), PTs (X.blk s H scope (compEnvC scope cl C X.env) fp) ifs tt)
    (hk : ∀ (s : Shared) (H : Hp) (C : Addr) (cl : List (Str × Addr)) (fp : List Addr), PE (X.blk s H scope (compEnvC scope cl C X.env) fp) kx tk)
    (he : ∀ (s : Shared) (H : Hp) (C : Addr) (cl : List (Str × Addr)) (fp : List Addr), PE (X.blk s H scope (compEnvC scope cl C X.env) fp) vx tv) (hs : ∀ x, foldedSetIterable iter X.env x = pure x := by intro _; rfl) :
    PS X (.Assign [.Name y py] (.DictComp kx vx [⟨tg, iter, ifs, 0⟩] scope pos) spos) (tAsg (tDc wi g tt tk tv (own.map (·.2))) (gName i)) := by
  refine ⟨fun pins s σ H D I h => ?_⟩
  rw [exec_Assign_Name_used _ _ _ _ hsw]
  refine wpAny_bind (wpAny_standAt (wpAny_bind ?_))
  show wpAny _ X.A (do let _ ← comprehension (.DictComp kx vx [⟨tg, iter, ifs, 0⟩] scope pos) scope X.env (firstIterPos [⟨tg, iter, ifs, 0⟩] pos) newDict false (eval iter X.env) (some (assign (.Name y py) X.env))) _ _ s
  have h : tDc wi g tt tk tv (own.map (·.2)) σ H (fun x H1 => gName i x σ H1 D.nx) := h
  refine wpAny_bind (thn (dc_core (Qf := fun _ s' => SP X pins D .next s') hc hN I hi ok hg ht hk he hs h fun L C s' m H' I' q hn f => ?_) fun _ s' hq => wpAny_pure (wpAny_pure hq))
  show wpAny _ _ (assign (.Name y py) X.env (.ref L)) _ _ _
  refine wpAny_assign_Name (store_ok2 (v := V.ref L) I' hN hy (.inl hyl) rfl (fun s2 I2 ⟨a, sb, ha⟩ => ?_) (.inr hyl))
  obtain ⟨f0, f1, f2, f3, f4, f5⟩ := f
  have haC : C ≠ a := by
    rcases ha with z | z
    · rw [z]; exact f1
    · exact fun e => f4 y a z e.symm
  refine ⟨m, hn.sameBut sb haC, fun h3 sb3 => ?_⟩
  exact ⟨_, H', I2.turned (t' := s2.toks) (fun b o hb e => (sb3.2 b hb).trans e) f0 f1 f3 f4 f5, q⟩
end
/-- over a list that stays -/
theorem dc_list {K : PySem.W.Frag} {a : Addr} {xs : List V} {g : TG} {tt : TT} {tk tv : TE} {vs : List Nat} {σ : L2.St} {H1 : Hp} {D : Addr} {Qd : Hp → Prop} (Pv : Nat → Hp → Prop) (h0 : Pv 0 (upd H1 D (.dK []))) (hl : ∀ i H, i ≤ xs.length → Pv i H → SqL K H a xs)
    (hs : ∀ i x H, xs[i]? = some x → Pv i H → g x (wipe σ vs) H fun σ2 H2 => wipe σ2 vs = wipe σ vs ∧ tt σ2 H2 fun b H3 =>
      if b = true then tk σ2 H3 fun y H4 => tv σ2 H4 fun z H5 => ∃ kvs k, y = kV k ∧ H5 D = some (.dK kvs) ∧ kvs.length < sizeLine ∧ Pv (i + 1) (upd H5 D (.dK (putK kvs k z))) else Pv (i + 1) H3) (hd : ∀ H, Pv xs.length H → Qd H) :
    ∃ W : Nat → Nat → Hp → Prop, (∃ m, W 0 m (upd H1 D (.dK []))) ∧ ∀ i m H, W i m H →
      ((Itl K a).stop i H ∧ Qd H) ∨ ((Itl K a).go i H ∧ ∃ Nx : Hp → Prop, (∀ H', Nx H' → ∃ m', m' < m ∧ W (i + 1) m' H') ∧ ∀ x H', (Itl K a).yld i H x H' → g x (wipe σ vs) H' fun σ2 H2 => wipe σ2 vs = wipe σ vs ∧ tt σ2 H2 fun b H3 =>
        if b = true then tk σ2 H3 fun y H4 => tv σ2 H4 fun z H5 => ∃ kvs k, y = kV k ∧ H5 D = some (.dK kvs) ∧ kvs.length < sizeLine ∧ Nx (upd H5 D (.dK (putK kvs k z))) else Nx H3) := by
  refine ⟨fun i m H => m = xs.length - i ∧ i ≤ xs.length ∧ Pv i H, ⟨xs.length, by simp, Nat.zero_le _, h0⟩, ?_⟩
  rintro i m H ⟨rfl, hi, p⟩
  have q := hl i H hi p
  by_cases hlt : i < xs.length
  · refine .inr ⟨⟨xs, xs[i], q, by simp [hlt]⟩, Pv (i + 1), fun H' p' => ⟨xs.length - (i + 1), by omega, rfl, hlt, p'⟩, fun x H' y => ?_⟩
    obtain ⟨e, y⟩ := y
    subst e
    exact hs i x _ (y xs q) p
  · have e : i = xs.length := by omega
    subst e
    exact .inl ⟨⟨xs, q, Nat.le_refl _⟩, hd H p⟩
end Gc
/-! Comprehensions without a filter: a value for each turn. -/
namespace Gc
open PySem PySem.Spec PyProof.Rows L2
/-- sep.join(..), its frame K named: within a comprehension -/
def tJn (K : PySem.W.Frag) (to te : TE) : TE := tM1 (fun x xs H Q => ∃ a p, ∃ ys : List Str, x = .str a ∧ xs = [.ref p] ∧ (SqL K H p (ys.map V.str) ∨ SqT K H p (ys.map V.str)) ∧ (ys.map (·.length)).sum + ys.length * a.length ≤ 16777216 ∧ Q (.str (Txt.join a ys)) H) to te
theorem pe_joinK {X : Cx} {K : PySem.W.Frag} {o e : Expr} {to te : TE} {apos pos : Pos} (hK : X.K = K) (ho : PE X o to) (he : PE X e te) (hs : starEach [e] X.env = [(false, eval e X.env)]) (hbase : attributeBase o "join" X.env (eval o X.env) = eval o X.env) (hline : (apos.endLine == pos.line) = true) :
    PE X (.Call (.Attribute o "join" apos) [e] [] pos) (tJn K to te) := by
  subst hK
  exact pe_join ho he hs hbase hline
/-- a comprehension within one -/
def relS (scope sc0 : Scope) : Scope := { scope with names := scope.names.map fun (n, k) => if (k == .free && sc0.kind == .function && sc0.names.lookup n == some .cell) then (n, .cell) else (n, k) }
theorem relS_eq {scope sc0 : Scope} {env : Env} (he : env.scope = sc0) : relabel scope env = relS scope sc0 := by
  subst he
  rfl
theorem blkOk_in {N : List Str} {scope1 scope2 sc0 : Scope} {own : List (Str × Nat)} {cl : List (Str × Addr)} {C : Addr} {env : Env} (he : env.scope = sc0) (h : blkC N (relS scope1 sc0) scope2 own = true) : BlkOk N (compEnvC scope1 cl C env).scope scope2 own := by
  have e : (compEnvC scope1 cl C env).scope = relS scope1 sc0 := relS_eq he
  rw [e]
  exact blkOk_by h
/-- [f(k) for k in range(n)] -/
theorem lc_valsR {n i : Nat} {f : Nat → V} {te : TE} {σ : L2.St} {H1 : Hp} {D : Addr} {Qd : Hp → Prop} (hD : H1 D = none) (hn : n ≤ 900)
    (ht : ∀ k H3, k < n → Same H1 H3 → ∀ R : V → Hp → Prop, (∀ H4, Same H3 H4 → R (f k) H4) → te ((wipe σ [i]).set i (some (.int ((k : Nat) : Int)))) H3 R)
    (hd : ∀ H3, Same H1 H3 → H3 D = some (.lst ((List.range n).map f)) → Qd H3) :
    ∃ W : Nat → Nat → Hp → Prop, (∃ m, W 0 m (upd H1 D (.lst []))) ∧ ∀ i' m H, W i' m H →
      ((Itr 0 n).stop i' H ∧ Qd H) ∨ ((Itr 0 n).go i' H ∧ ∃ Nx : Hp → Prop, (∀ H', Nx H' → ∃ m', m' < m ∧ W (i' + 1) m' H') ∧ ∀ x H', (Itr 0 n).yld i' H x H' → gName i x (wipe σ [i]) H' fun σ2 H2 => wipe σ2 [i] = wipe σ [i] ∧ tYes σ2 H2 fun b H3 =>
        if b = true then te σ2 H3 fun y H4 => ∃ acc, H4 D = some (.lst acc) ∧ acc.length < sizeLine ∧ Nx (upd H4 D (.lst (acc ++ [y]))) else Nx H3) := by
  refine lc_range (lo := 0) (n := n) (fun j H3 => Same H1 H3 ∧ H3 D = some (.lst ((List.range j).map f))) ⟨same_new hD, upd_same⟩ ?_ ?_
  · rintro j H3 hj ⟨s3, h3⟩
    have z : (0 : Int) + ((j : Nat) : Int) = ((j : Nat) : Int) := Int.zero_add _
    refine ⟨wipe1 σ i _, ?_⟩
    show te ((wipe σ [i]).set i (some (.int ((0 : Int) + ((j : Nat) : Int))))) H3 _
    rw [z]
    refine ht j H3 hj s3 _ fun H4 s4 => ?_
    refine ⟨_, s4 _ _ h3, ?_, same_off (s3.trans s4) hD, ?_⟩
    · rw [List.length_map, List.length_range]
      exact small1000 (by omega)
    · rw [upd_same, List.range_succ, List.map_append] <;> rfl
  · rintro H3 ⟨s3, h3⟩
    exact hd H3 s3 h3
/-- [f(x) for x in list] -/
theorem lc_valsL {K : PySem.W.Frag} {a : Addr} {xs : List V} {i : Nat} {f : V → V} {te : TE} {σ : L2.St} {H1 : Hp} {D : Addr} {Qd : Hp → Prop} (hS : SqL K H1 a xs) (hD : H1 D = none) (hn : xs.length ≤ 900)
    (ht : ∀ x H3, x ∈ xs → Same H1 H3 → ∀ R : V → Hp → Prop, (∀ H4, Same H3 H4 → R (f x) H4) → te ((wipe σ [i]).set i (some x)) H3 R)
    (hd : ∀ H3, Same H1 H3 → H3 D = some (.lst (xs.map f)) → Qd H3) :
    ∃ W : Nat → Nat → Hp → Prop, (∃ m, W 0 m (upd H1 D (.lst []))) ∧ ∀ i' m H, W i' m H →
      ((Itl K a).stop i' H ∧ Qd H) ∨ ((Itl K a).go i' H ∧ ∃ Nx : Hp → Prop, (∀ H', Nx H' → ∃ m', m' < m ∧ W (i' + 1) m' H') ∧ ∀ x H', (Itl K a).yld i' H x H' → gName i x (wipe σ [i]) H' fun σ2 H2 => wipe σ2 [i] = wipe σ [i] ∧ tYes σ2 H2 fun b H3 =>
        if b = true then te σ2 H3 fun y H4 => ∃ acc, H4 D = some (.lst acc) ∧ acc.length < sizeLine ∧ Nx (upd H4 D (.lst (acc ++ [y]))) else Nx H3) := by
  refine lc_list (K := K) (a := a) (xs := xs) (fun j H3 => Same H1 H3 ∧ H3 D = some (.lst ((xs.take j).map f))) ⟨same_new hD, upd_same⟩ (fun i H3 _ ⟨s3, _⟩ => s3.seq hS) ?_ ?_
  · rintro j y H3 hj ⟨s3, h3⟩
    refine ⟨wipe1 σ i _, ?_⟩
    show te ((wipe σ [i]).set i (some y)) H3 _
    refine ht y H3 (List.mem_of_getElem? hj) s3 _ fun H4 s4 => ?_
    refine ⟨_, s4 _ _ h3, ?_, same_off (s3.trans s4) hD, ?_⟩
    · rw [List.length_map]
      have q2 : (xs.take j).length ≤ xs.length := by rw [List.length_take]; omega
      exact small1000 (by omega)
    · rw [upd_same, List.take_add_one, hj, List.map_append] <;> rfl
  · rintro H3 ⟨s3, h3⟩
    rw [List.take_length] at h3
    exact hd H3 s3 h3
end Gc
namespace Sf
open PySem PySem.Spec PyProof.Rows L2 Gc
def lineZ (ws : List Str) (ov : Ovr) (z : Int) : List Str := (List.range (wide ws)).map fun (c : Nat) => sigD ws ov (z + ((c : Nat) : Int))
def rowZ (ws : List Str) (ov : Ovr) (z : Int) : Str := Txt.join ("" : Str) (lineZ ws ov z)
def rowV (ws : List Str) (ov : Ovr) : V → V
  | .int z => .str (rowZ ws ov z)
  | v => v
def drawnR (ws : List Str) (ov : Ovr) : List Str := (List.range ws.length).map fun (r : Nat) => rowZ ws ov (((r : Nat) : Int) * ((wide ws : Nat) : Int))
theorem sigD_one (ws : List Str) (ov : Ovr) (p : Int) : (sigD ws ov p).length = 1 := by
  have e1 : ("o" : Str).length = 1 := by decide +kernel
  have e2 : ("<" : Str).length = 1 := by decide +kernel
  have e3 : (">" : Str).length = 1 := by decide +kernel
  have e4 : ("^" : Str).length = 1 := by decide +kernel
  have e5 : ("v" : Str).length = 1 := by decide +kernel
  have e6 : ("#" : Str).length = 1 := by decide +kernel
  unfold sigD
  split
  · split
    · exact e1
    · split
      · split
        · exact e2
        · exact e3
      · split
        · exact e4
        · exact e5
  · exact e6
def spDrawn (C CL : Addr) : Sp := fun vs H Q _ => ∃ (y x df d : Addr) (ws : List Str) (ov : Ovr), vs = [.ref y] ∧ LayD CL H y x d ov ∧ FloorD C H x df ws ∧ Wf ws ∧
  ∀ (l : Addr) (H' : Hp), Same H H' → H l = none → H' l = some (.lst ((drawnR ws ov).map V.str)) → Q (.ref l) H'
def spLDrawn (K : PySem.W.Frag) : Sp := fun vs H Q _ => ∃ (l d : Addr) (ws : List Str) (ov : Ovr), vs = [.ref l, .ref d] ∧ SqL K H l (ws.map V.str) ∧ Wf ws ∧ H d = some (.dK (dk ov)) ∧
  ∀ (l' : Addr) (H' : Hp), Same H H' → H l' = none → H' l' = some (.lst ((drawnR ws ov).map V.str)) → Q (.ref l') H'
theorem line_vals (ws : List Str) (ov : Ovr) (z : Int) : (List.range (wide ws)).map (fun (c : Nat) => V.str (sigD ws ov (z + ((c : Nat) : Int)))) = (lineZ ws ov z).map V.str := by
  unfold lineZ
  rw [List.map_map]
  rfl
theorem ones_sum : ∀ l : List Str, (∀ a ∈ l, a.length = 1) → (l.map (·.length)).sum = l.length
  | [], _ => rfl
  | a :: r, h => by
    rw [List.map_cons, List.sum_cons, ones_sum r (fun b hb => h b (List.mem_cons_of_mem _ hb)), h a List.mem_cons_self, List.length_cons]
    omega
theorem line_sum {ws : List Str} (hw : wide ws ≤ 12) (ov : Ovr) (z : Int) : ((lineZ ws ov z).map (·.length)).sum + (lineZ ws ov z).length * ("" : Str).length ≤ 16777216 := by
  rw [ones_sum _ (fun a ha => by
    obtain ⟨c, _, rfl⟩ := List.mem_map.mp ha
    exact sigD_one ws ov _), empty_len]
  unfold lineZ
  rw [List.length_map, List.length_range]
  omega
theorem drawn_vals (ws : List Str) (ov : Ovr) : ((List.range ws.length).map (fun (r : Nat) => V.int (((r : Nat) : Int) * ((wide ws : Nat) : Int)))).map (rowV ws ov) = (drawnR ws ov).map V.str := by
  unfold drawnR
  rw [List.map_map, List.map_map]
  rfl
section
variable {P : Program} {w : World} {K : PySem.W.Frag} {mg : Str → Option Value} {base : Heap} {C CL : Addr}
theorem scdrawn : FnScope ["laying", "wide", "starts", "row", "start", "column"] ["laying"] (defScope sdrawn) := ⟨rfl, rfl, rfl, by decide +kernel, rfl, by decide +kernel, by decide +kernel⟩
theorem ok_drawn (D : Df K mg "drawn" sdrawn ["laying"]) (B : Bi mg) (T : FTxt K mg C) (L : LTxt K mg CL) (c_sign_drawn : Cl P w K mg base CX0 2 "_sign_drawn" ["laying", "place"] (spSignD C CL)) :
    Cl P w K mg base CX0 3 "drawn" ["laying"] (spDrawn C CL) := D.cl fun f fd F => by
  refine F.ok scdrawn (fun vs H Q E h => ?_) (fun cdv A outer s H vs Q E hr h => ?_)
  · obtain ⟨y, x, df, d, ws, ov, rfl, _⟩ := h
    rfl
  · obtain ⟨y, x, df, d, ws, ov, rfl, ⟨dy, la⟩, ⟨dxf, lrf, gf, faf⟩, hw, hQ⟩ := h
    have hu := hu_of hr
    have hwd := hw.wid
    have hh := hw.high
    refine ⟨_, (pss_cons (ps_set (i := 1) scdrawn.nd rfl (Or.inr rfl) (pe_fld (pe_fld (pv 0) rfl) rfl))
      (pss_cons (ps_setLc (i := 2) (own := [("row", 3)]) (g := gName 3) (tt := tYes) rfl scdrawn.nd rfl rfl (sw_true rfl rfl rfl (by decide +kernel)) (pi_range1 rfl B.range (pa_cons (pe_fld (pe_fld (pv 0) rfl) rfl) pa_nil)) (blkOk_by (N := ["laying", "wide", "starts", "row", "start", "column"]) (sc := defScope sdrawn) (by decide +kernel)) (fun _ _ _ _ _ => pg_name (i := 3) scdrawn.nd rfl (Or.inl rfl)) (fun _ _ _ _ _ => pts_nil) (fun _ _ _ _ _ => (pe_op op_mul (pv 3) (pv 1))))
      (pss_one (ps_ret (pe_lc (own := [("start", 4)]) (g := gName 4) (tt := tYes) rfl scdrawn.nd (pi_list (pv 2)) (blkOk_by (N := ["laying", "wide", "starts", "row", "start", "column"]) (sc := defScope sdrawn) (by decide +kernel)) (fun _ _ _ _ _ => pg_name (i := 4) scdrawn.nd rfl (Or.inr rfl)) (fun _ _ _ _ _ => pts_nil) (fun _ _ _ _ _ => (Gc.pe_joinK (K := K) (by rfl) pe_str (by exact (pe_lc (own := [("column", 5)]) (g := gName 5) (tt := tYes) rfl scdrawn.nd (pi_range1 rfl B.range (pa_cons (pv 1) pa_nil)) (Gc.blkOk_in (N := ["laying", "wide", "starts", "row", "start", "column"]) (sc0 := defScope sdrawn) rfl (by decide +kernel)) (fun _ _ _ _ _ => pg_name (i := 5) scdrawn.nd rfl (Or.inl rfl)) (fun _ _ _ _ _ => pts_nil) (fun _ _ _ _ _ => (pe_cl c_sign_drawn (hr.mono (by decide)) rfl (pa_cons (pv 0) (pa_cons (pe_op op_add (pv 4) (pv 5)) pa_nil)))))) (by rfl) (by rfl) (by rfl)))))))), ?_⟩
    refine ⟨_, rfl, y, CL, dy, _, _, rfl, la.ob, L.cl, L.nF, lfl_floor _ _, x, C, dxf, _, _, rfl, faf.ob, T.cl, T.nW, flds_wide _ _ _ _, ?_⟩
    refine ⟨_, rfl, y, CL, dy, _, _, rfl, la.ob, L.cl, L.nF, lfl_floor _ _, x, C, dxf, _, _, rfl, faf.ob, T.cl, T.nH, flds_high _ _ _ _, _, rfl, by omega, by omega, fun D1 hD1 => ?_⟩
    refine lc_valsR (n := ws.length) (i := 3) (f := fun (r : Nat) => V.int (((r : Nat) : Int) * ((wide ws : Nat) : Int))) hD1 (by omega) ?_ ?_
    · intro k H3 hk s3 R hR
      exact ⟨_, rfl, _, rfl, _, _, rfl, rfl, .inl ⟨by omega, by omega⟩, hR H3 (Same.refl _)⟩
    intro H3 s3 h3
    refine ⟨_, rfl, D1, rfl, ⟨_, SqL.of h3⟩, fun D2 hD2 => ?_⟩
    refine lc_valsL (i := 4) (f := rowV ws ov) (SqL.of h3) hD2 (by rw [List.length_map, List.length_range]; omega) ?_ ?_
    · intro v H4 hv s4 R hR
      obtain ⟨r, hr', rfl⟩ := List.mem_map.mp hv
      have s34 := s3.trans s4
      generalize ((r : Nat) : Int) * ((wide ws : Nat) : Int) = z at hR
      refine ⟨⟨_, rfl⟩, _, rfl, _, rfl, by omega, by omega, fun D3 hD3 => ?_⟩
      refine lc_valsR (n := wide ws) (i := 5) (f := fun (c : Nat) => V.str (sigD ws ov (z + ((c : Nat) : Int)))) hD3 (by omega) ?_ ?_
      · intro c H5 hc s5 R2 hR2
        have s35 := s34.trans s5
        exact ⟨_, rfl, _, rfl, _, rfl, _, _, rfl, rfl, y, x, df, d, ws, ov, _, rfl, ⟨dy, la.same s35⟩, ⟨dxf, lrf, gf, faf.same s35⟩, hw, by omega, fun H6 s6 => hR2 H6 s6⟩
      · intro H5 s5 h5
        rw [line_vals] at h5
        exact ⟨_, D3, lineZ ws ov z, rfl, rfl, .inl (SqL.of h5), line_sum hwd ov z, hR H5 s5⟩
    · intro H4 s4 h4
      rw [drawn_vals] at h4
      exact hQ D2 H4 (s3.trans s4) (none_back s3 hD2) h4
theorem sc_law_drawn : FnScope ["_law_rows_here", "_law_over_here", "_law_wide", "_law_told", "_law_row", "_law_k"] ["_law_rows_here", "_law_over_here"] (defScope s_law_drawn) := ⟨rfl, rfl, rfl, by decide +kernel, rfl, by decide +kernel, by decide +kernel⟩
theorem ok_ldrawn (D : Df K mg "_law_drawn" s_law_drawn ["_law_rows_here", "_law_over_here"]) (B : Bi mg) (c_law_half : Cl P w K mg base CX0 1 "_law_half" ["_law_rows_here", "_law_over_here", "_law_place"] (spHalf K)) :
    Cl P w K mg base CX0 2 "_law_drawn" ["_law_rows_here", "_law_over_here"] (spLDrawn K) := D.cl fun f fd F => by
  refine F.ok sc_law_drawn (fun vs H Q E h => ?_) (fun cdv A outer s H vs Q E hr h => ?_)
  · obtain ⟨l, d, ws, ov, rfl, _⟩ := h
    rfl
  · obtain ⟨l, d, ws, ov, rfl, hS, hw, hd, hQ⟩ := h
    have hu := hu_of hr
    have hwd := hw.wid
    have hh := hw.high
    refine ⟨_, (C8.pss_cut (ps_set (i := 2) sc_law_drawn.nd rfl (Or.inr rfl) (pe_ifExp (pt_cmpR op_gt (pe_callB call_len (by rfl) B.len PySem.boot_len (pa_cons (pv 0) pa_nil)) pe_int (nomark _)) (pe_callB call_len_str (by rfl) B.len PySem.boot_len (pa_cons (pe_ix ix_list (pv 0) pe_int (fun _ _ => rfl)) pa_nil)) pe_int))
      (pss_cons (ps_set (i := 3) sc_law_drawn.nd rfl (Or.inl rfl) (pe_lst pa_nil))
      (pss_cons (ps_for PassesOwn.never rfl (pi_range1 rfl B.range (pa_cons (pe_callB call_len (by rfl) B.len PySem.boot_len (pa_cons (pv 0) pa_nil)) pa_nil)) (pg_name (i := 4) sc_law_drawn.nd rfl (Or.inr rfl)) (pss_one (ps_expr (pe_bm PySem.F.plainAttrs_list PySem.F.slot_list_append PySem.F.type_list_append mt_append (pv 3) (pa_cons (pe_join pe_str (pe_lc (own := [("_law_k", 5)]) (g := gName 5) (tt := tYes) rfl sc_law_drawn.nd (pi_range1 rfl B.range (pa_cons (pv 2) pa_nil)) (blkOk_by (N := ["_law_rows_here", "_law_over_here", "_law_wide", "_law_told", "_law_row", "_law_k"]) (sc := defScope s_law_drawn) (by decide +kernel)) (fun _ _ _ _ _ => pg_name (i := 5) sc_law_drawn.nd rfl (Or.inl rfl)) (fun _ _ _ _ _ => pts_nil) (fun _ _ _ _ _ => (pe_cl c_law_half (hr.mono (by decide)) rfl (pa_cons (pv 0) (pa_cons (pv 1) (pa_cons (pe_op op_add (pe_op op_mul (pv 4) (pv 2)) (pv 5)) pa_nil))))))) pa_nil)))))
      (pss_one (ps_ret (pv 3)))))), ?_⟩
    refine ⟨fun σ' H' => σ' = [some (.ref l), some (.ref d), some (.int (wide ws)), none, none, none] ∧ H = H', ?_, ?_⟩
    · refine ⟨_, rfl, _, _, rfl, .inl ⟨_, hS, rfl⟩, _, _, rfl, rfl, _, rfl, ?_⟩
      rw [List.length_map]
      cases ws with
      | nil =>
        refine iteF ?_
        have e0 : wide ([] : List Str) = 0 := empty_len
        rw [e0]
        exact ⟨rfl, rfl⟩
      | cons a r =>
        refine iteTd (by rw [List.length_cons]; omega) ?_
        have ea : wide (a :: r) = a.length := rfl
        refine ⟨_, rfl, _, _, _, _, rfl, rfl, hS, atI_nat (j := 0) rfl, a, rfl, Nat.le_trans (by rw [← ea]; exact hwd) (by decide), rfl, rfl⟩
    rintro _ _ ⟨rfl, rfl⟩
    refine ⟨(by show 0 ≤ sizeLine; decide), fun lT hlT => ?_⟩
    have s1 : Same H (upd H lT (.lst [])) := same_new hlT
    refine ⟨_, rfl, _, _, rfl, .inl ⟨_, s1.seq hS, rfl⟩, ?_⟩
    rw [List.length_map]
    refine ⟨_, rfl, by omega, by omega, ?_⟩
    refine for_range (n := ws.length) (fun i σ H3 => ∃ v4 v5 : Option V, σ = [some (.ref l), some (.ref d), some (.int (wide ws)), some (.ref lT), v4, v5] ∧ Same H H3 ∧ H3 lT = some (.lst (((List.range i).map fun (r : Nat) => rowZ ws ov (((r : Nat) : Int) * ((wide ws : Nat) : Int))).map V.str)))
      ⟨none, none, rfl, s1, upd_same⟩ ?_ ?_
    · rintro i σ H3 hi ⟨v4, v5, rfl, s3, h3⟩
      have z2 : (0 : Int) + ((i : Nat) : Int) = ((i : Nat) : Int) := Int.zero_add _
      refine ⟨_, rfl, .inl ⟨rfl, _, SqL.of h3⟩, ⟨_, rfl⟩, _, rfl, _, rfl, by omega, by omega, fun D3 hD3 => ?_⟩
      have n3 : lT ≠ D3 := ne_of_none h3 hD3
      refine lc_valsR (n := wide ws) (i := 5) (f := fun (c : Nat) => V.str (sigD ws ov (((i : Nat) : Int) * ((wide ws : Nat) : Int) + ((c : Nat) : Int)))) hD3 (by omega) ?_ ?_
      · intro c H5 hc s5 R2 hR2
        have s35 := s3.trans s5
        have R3 := hR2 H5 (Same.refl _)
        have m1 : (i + 1) * wide ws ≤ ws.length * wide ws := Nat.mul_le_mul_right _ hi
        rw [Nat.add_mul, Nat.mul_comm ws.length] at m1
        have m2 : ((i : Nat) : Int) * ((wide ws : Nat) : Int) = ((i * wide ws : Nat) : Int) := (Int.natCast_mul _ _).symm
        have m3 : wide ws * ws.length ≤ 12 * 12 := Nat.mul_le_mul hwd hh
        rw [m2] at R3
        refine ⟨_, rfl, _, rfl, _, rfl, _, rfl, _, _, rfl, rfl, .inl ⟨by omega, by omega⟩, _, rfl, _, _, rfl, rfl, ?_⟩
        rw [z2, m2]
        exact ⟨l, d, ws, ov, _, rfl, s35.seq hS, hw, s35 _ _ hd, by omega, by omega, R3⟩
      · intro H5 s5 h5
        rw [line_vals] at h5
        refine ⟨_, D3, lineZ ws ov _, rfl, rfl, .inl (SqL.of h5), line_sum hwd ov _, ?_⟩
        refine ⟨lT, _, _, rfl, rfl, s5 _ _ h3, (by rw [List.length_map, List.length_map, List.length_range]; exact small1000 (by omega)), ?_⟩
        refine ⟨_, _, rfl, same_off (s3.trans s5) hlT, ?_⟩
        rw [upd_same, List.range_succ, List.map_append, List.map_append]
        rfl
    · rintro σ H3 ⟨v4, v5, rfl, s3, h3⟩
      exact ⟨_, rfl, hQ lT H3 s3 hlT h3⟩
end
end Sf
namespace Sf
open PySem PySem.Spec PyProof.Rows L2 Gc
def spOver (K : PySem.W.Frag) : Sp := fun vs H Q _ => ∃ (l a : Addr) (ws : List Str) (ns : List Int) (m : Int), vs = [.ref l, .ref a, .int m] ∧ SqL K H l (ws.map V.str) ∧ Wf ws ∧ SqL K H a (ns.map V.int) ∧ ns.length ≤ 63 ∧ 0 ≤ m ∧ m ≤ 100 ∧
  ∀ (d : Addr) (ov : Ovr) (H' : Hp), Same H H' → H d = none → H' d = some (.dK (dk ov)) → Vl ws ov → Q (.ref d) H'
section
variable {P : Program} {w : World} {K : PySem.W.Frag} {mg : Str → Option Value} {base : Heap}
theorem sc_law_over : FnScope ["_law_rows_here", "_law_script", "_law_many", "_law_over_here", "_law_cells_here", "_law_k", "_law_cell", "_law_other", "_law_near"] ["_law_rows_here", "_law_script", "_law_many"] (defScope s_law_over) := ⟨rfl, rfl, rfl, by decide +kernel, rfl, by decide +kernel, by decide +kernel⟩
theorem ok_over (D : Df K mg "_law_over" s_law_over ["_law_rows_here", "_law_script", "_law_many"]) (B : Bi mg)
    (c_law_cells : Cl P w K mg base CX0 1 "_law_cells" ["_law_rows_here"] (spLCells K)) (c_law_number : Cl P w K mg base CX0 1 "_law_number" ["_law_script", "_law_k"] (spNumber K)) (c_law_beside : Cl P w K mg base CX0 2 "_law_beside" ["_law_rows_here", "_law_place"] (spLBeside K)) :
    Cl P w K mg base CX0 3 "_law_over" ["_law_rows_here", "_law_script", "_law_many"] (spOver K) := D.cl fun f fd F => by
  refine F.ok sc_law_over (fun vs H Q E h => ?_) (fun cdv A outer s H vs Q E hr h => ?_)
  · obtain ⟨l, a, ws, ns, m, rfl, _⟩ := h
    rfl
  · obtain ⟨l, a, ws, ns, m, rfl, hS, hw, hA, hn, h0, hm, hQ⟩ := h
    have hu := hu_of hr
    refine ⟨_, (pss_cons (ps_set (i := 3) sc_law_over.nd rfl (Or.inr rfl) pe_dnewK)
      (pss_cons (ps_set (i := 4) sc_law_over.nd rfl (Or.inl rfl) (pe_cl c_law_cells (hr.mono (by decide)) rfl (pa_cons (pv 0) pa_nil)))
      (pss_cons (ps_for PassesOwn.never rfl (pi_range1 rfl B.range (pa_cons (pv 2) pa_nil)) (pg_name (i := 5) sc_law_over.nd rfl (Or.inl rfl)) (pss_one (ps_if (pt_cmpR op_gt (pe_callB call_len (by rfl) B.len PySem.boot_len (pa_cons (pv 4) pa_nil)) pe_int (nomark _)) (pss_cons (ps_set (i := 6) sc_law_over.nd rfl (Or.inl rfl) (pe_ix ix_list (pv 4) (pe_op op_mod (pe_op op_fdiv (pe_cl c_law_number (hr.mono (by decide)) rfl (pa_cons (pv 1) (pa_cons (pe_op op_add (pe_op op_mul pe_int (pv 5)) pe_int) pa_nil))) pe_int) (pe_callB call_len (by rfl) B.len PySem.boot_len (pa_cons (pv 4) pa_nil))) (fun _ _ => rfl)))
      (pss_cons (ps_setLc (i := 8) (own := [("_law_other", 7)]) (g := gName 7) rfl sc_law_over.nd rfl rfl (sw_true rfl rfl rfl (by decide +kernel)) (pi_list (pe_cl c_law_beside (hr.mono (by decide)) rfl (pa_cons (pv 0) (pa_cons (pv 6) pa_nil)))) (blkOk_by (N := ["_law_rows_here", "_law_script", "_law_many", "_law_over_here", "_law_cells_here", "_law_k", "_law_cell", "_law_other", "_law_near"]) (sc := defScope s_law_over) (by decide +kernel)) (fun _ _ _ _ _ => pg_name (i := 7) sc_law_over.nd rfl (Or.inl rfl)) (fun _ _ _ _ _ => pts_one (pt_cmp (pc_dnotin hu (pv 7) (pv 3)) rfl)) (fun _ _ _ _ _ => (pv 7)))
      (pss_one (ps_if (PW.pt (pw_and (pt_cmp (pc_dnotin hu (pv 6) (pv 3)) rfl) (pw_and1 (pt_cmpR op_gt (pe_callB call_len (by rfl) B.len PySem.boot_len (pa_cons (pv 8) pa_nil)) pe_int (nomark _))))) (pss_cons (ps_set (i := 7) sc_law_over.nd rfl (Or.inl rfl) (pe_ix ix_list (pv 8) (pe_op op_mod (pe_op op_fdiv (pe_cl c_law_number (hr.mono (by decide)) rfl (pa_cons (pv 1) (pa_cons (pe_op op_add (pe_op op_mul pe_int (pv 5)) pe_int) pa_nil))) pe_int) (pe_callB call_len (by rfl) B.len PySem.boot_len (pa_cons (pv 8) pa_nil))) (fun _ _ => rfl)))
      (pss_cons (ps_dput hu (pv 3) (pv 6) (pv 7) rfl)
      (pss_one (ps_dput hu (pv 3) (pv 7) (pv 6) rfl)))) pss_nil)))) pss_nil)))
      (pss_one (ps_ret (pv 3)))))), ?_⟩
    intro d hd
    have s1 : Same H (upd H d (.dK (dk []))) := same_new hd
    refine ⟨_, rfl, l, ws, rfl, s1.seq hS, hw, fun lc H2 s2 hlc h2 => ?_⟩
    rw [nats_eq] at h2
    have t2 := s1.trans s2
    have d2 : H2 d = some (.dK (dk [])) := s2 _ _ upd_same
    have lcl : (natI (cellsOf ws)).length = (cellsOf ws).length := by unfold natI; rw [List.length_map]
    refine ⟨_, rfl, m, rfl, by omega, by omega, for_range (n := m.toNat) (fun i σ H3 => ∃ (v5 v6 v7 v8 : Option V) (ov : Ovr), σ = [some (.ref l), some (.ref a), some (.int m), some (.ref d), some (.ref lc), v5, v6, v7, v8] ∧ Same H H3 ∧ H3 d = some (.dK (dk ov)) ∧ H3 lc = some (.lst ((natI (cellsOf ws)).map V.int)) ∧ Vl ws ov)
      ⟨none, none, none, none, [], rfl, t2, d2, h2, Vl.nil ws⟩ ?_ ?_⟩
    · rintro i σ H3 hi ⟨v5, v6, v7, v8, ov, rfl, t3, d3, l3, v3⟩
      refine ⟨_, rfl, _, _, rfl, .inl ⟨_, SqL.of l3, rfl⟩, _, _, rfl, rfl, _, rfl, ?_⟩
      rw [List.length_map, lcl]
      by_cases hc : 0 < (cellsOf ws).length
      case neg =>
        refine iteNS2 (by omega) ?_
        exact ⟨_, _, _, _, ov, rfl, t3, d3, l3, v3⟩
      refine iteTd (by omega) ?_
      have z2 : (0 : Int) + (i : Int) = (i : Int) := Int.zero_add _
      refine ⟨_, rfl, _, rfl, _, rfl, _, _, rfl, rfl, .inl ⟨by decide, by decide⟩, _, _, rfl, rfl, a, ns, 3 * i + 1, ?_, t3.seq hA, hn, by omega, fun r => ?_⟩
      · show [V.ref a, V.int (3 * (0 + (i : Int)) + 1)] = _
        congr 2
        congr 1
        omega
      obtain ⟨j, p, ej, hj, hp⟩ := mod_cell (r := r / 5) hc
      refine ⟨_, _, rfl, rfl, ⟨by decide, by decide⟩, _, rfl, _, _, rfl, .inl ⟨_, SqL.of l3, rfl⟩, _, _, rfl, rfl, ?_, ?_⟩
      · rw [List.length_map, lcl]
        omega
      rw [List.length_map, lcl]
      refine ⟨_, _, _, _, rfl, rfl, SqL.of l3, at_of ej (by rw [List.getElem?_map, hj] <;> rfl), ?_⟩
      -- near
      refine ⟨_, rfl, _, rfl, l, ws, p, rfl, t3.seq hS, hw, hp, fun ln H4 s4 hln h4 => ?_⟩
      have d4 := s4 _ _ d3
      have l4 := s4 _ _ l3
      have t4 := t3.trans s4
      refine ⟨ln, rfl, ⟨_, SqL.of h4⟩, fun D4 hD4 => ?_⟩
      refine lc_filt (i := 7) (fun c => !has ov c) (SqL.of h4) hD4 ?_ (by show 7 < 9; decide) ?_ ?_
      · have := List.length_filter_le (stepOk ws ((p / wide ws : Nat) : Int) ((p % wide ws : Nat) : Int)) steps
        unfold nbsP nbs
        rw [List.length_map]
        have e : steps.length = 4 := rfl
        omega
      · intro c H5 hcm s5 R hR
        refine ⟨_, rfl, _, rfl, d, _, rfl, dget (s5 _ _ d4) c, _, rfl, ?_⟩
        rw [isSome_has]
        exact hR H5 (Same.refl _)
      intro H5 s5 h5
      have t5 := t4.trans s5
      have d5 := s5 _ _ d4
      have l5 := s5 _ _ l4
      refine ⟨_, rfl, _, rfl, d, _, rfl, dget d5 _, _, rfl, ?_⟩
      rw [isSome_has]
      cases hh : has ov (p : Int) with
      | true => exact ⟨_, _, _, _, ov, rfl, t5, d5, l5, v3⟩
      | false =>
      refine iteT ?_
      refine ⟨_, rfl, _, _, rfl, .inl ⟨_, SqL.of h5, rfl⟩, _, _, rfl, rfl, _, rfl, ?_⟩
      rw [List.length_map]
      by_cases hc5 : 0 < ((nbsP ws p).filter fun c => !has ov c).length
      case neg =>
        refine iteNS2 (by omega) ?_
        exact ⟨_, _, _, _, ov, rfl, t5, d5, l5, v3⟩
      refine iteTd (by omega) ?_
      refine ⟨_, rfl, _, rfl, _, rfl, _, _, rfl, rfl, .inl ⟨by decide, by decide⟩, _, _, rfl, rfl, a, ns, 3 * i + 2, ?_, t5.seq hA, hn, by omega, fun r2 => ?_⟩
      · show [V.ref a, V.int (3 * (0 + (i : Int)) + 2)] = _
        congr 2
        congr 1
        omega
      obtain ⟨j2, o, ej2, hj2⟩ := mod_ix (r := r2 / 3) hc5
      refine ⟨_, _, rfl, rfl, ⟨by decide, by decide⟩, _, rfl, _, _, rfl, .inl ⟨_, SqL.of h5, rfl⟩, _, _, rfl, rfl, ?_, ?_⟩
      · rw [List.length_map]
        omega
      rw [List.length_map]
      refine ⟨_, _, _, _, rfl, rfl, SqL.of h5, at_of ej2 (by rw [List.getElem?_map, hj2] <;> rfl), ?_⟩
      have om := List.mem_filter.mp (List.mem_of_getElem? hj2)
      have lp : look ov (p : Int) = none := by
        cases e : look ov (p : Int) with
        | none => rfl
        | some z => unfold has at hh; rw [e] at hh; cases hh
      have lo : look ov o = none := by
        have q := om.2
        cases e : look ov o with
        | none => rfl
        | some z => unfold has at q; rw [e] at q; cases q
      have my : mayB ws (p : Int) o = true := may_nbs.mpr ⟨isCell_nat.mpr hp, by rw [Int.toNat_natCast]; exact om.1⟩
      have ne := may_ne my
      have len := v3.len hw
      have sz : ∀ o : Ovr, o.length ≤ 1000 → (dk o).length < sizeLine := fun o h => by
        unfold dk
        rw [List.length_map]
        exact small1000 h
      refine ⟨_, rfl, _, rfl, _, rfl, d, _, rfl, DPut.k (k := (Sum.inl (p : Int) : Key)) d5 (sz ov (by omega)), ?_⟩
      rw [dk_put lp]
      have l2 : look (ov ++ [((p : Int), o)]) o = none := by rw [look_snoc lp, if_neg (fun q => ne q.symm)]; exact lo
      refine ⟨_, rfl, _, rfl, _, rfl, d, _, rfl, DPut.k (k := (Sum.inl o : Key)) upd_same (sz _ (by rw [List.length_append]; show ov.length + 1 ≤ 1000; omega)), ?_⟩
      rw [dk_put l2]
      refine ⟨_, _, _, _, ov ++ [((p : Int), o)] ++ [(o, (p : Int))], rfl, same_off (same_off t5 hd) hd, upd_same, ?_, v3.put my lp lo⟩
      have ndl : lc ≠ d := fun q => by rw [q, d5] at l5; cases l5
      rw [upd_ne ndl, upd_ne ndl]
      exact l5
    · rintro σ H3 ⟨v5, v6, v7, v8, ov, rfl, t3, d3, l3, v3⟩
      exact ⟨_, rfl, hQ d ov H3 t3 hd d3 v3⟩
end
end Sf
namespace Sf
open PySem PySem.Spec PyProof.Rows L2 Gc
theorem perm_of_look {ov ov2 : Ovr} (n1 : (keysOf ov).Nodup) (n2 : (keysOf ov2).Nodup) (h : ∀ k m, look ov2 k = some m ↔ look ov k = some m) : ov.Perm ov2 := by
  have nd : ∀ {o : Ovr}, (keysOf o).Nodup → o.Nodup := fun {o} q => by
    unfold keysOf at q
    exact List.Pairwise.imp (fun {a b} (q : a.1 ≠ b.1) e => q (by rw [e])) (List.pairwise_map.mp q)
  refine (List.perm_ext_iff_of_nodup (nd n1) (nd n2)).mpr fun p => ?_
  obtain ⟨a, b⟩ := p
  exact ⟨fun q => look_mem ((h a b).mpr (mem_look n1 q)), fun q => look_mem ((h a b).mp (mem_look n2 q))⟩
def spMade (C CL : Addr) : Sp := fun vs H Q _ => ∃ (x d0 df : Addr) (ws : List Str) (ov : Ovr), vs = [.ref x, .ref d0] ∧ FloorD C H x df ws ∧ Wf ws ∧ H d0 = some (.dK (dk ov)) ∧ Vl ws ov ∧
  ∀ (y d : Addr) (ov2 : Ovr) (H' : Hp), Same H H' → H y = none → H d = none → LayD CL H' y x d ov2 → ov.Perm ov2 → Q (.ref y) H'
/-- what has been laid of ov: the slabs whose lower cell is among ks -/
structure Part (ws : List Str) (ov ov2 : Ovr) (ks : List Int) : Prop where
  v : Vl ws ov2
  lk : ∀ k m, look ov2 k = some m ↔ (look ov k = some m ∧ ((k < m ∧ k ∈ ks) ∨ (m < k ∧ m ∈ ks)))
theorem Part.nil (ws : List Str) (ov : Ovr) : Part ws ov [] [] := ⟨Vl.nil ws, fun k m => ⟨fun h => (by cases h), fun h => by
  rcases h.2 with q | q
  · exact absurd q.2 (by simp)
  · exact absurd q.2 (by simp)⟩⟩
theorem Part.skip {ws : List Str} {ov ov2 : Ovr} {ks : List Int} {c o : Int} (p : Part ws ov ov2 ks) (v : Vl ws ov) (h : look ov c = some o) (n : ¬ c < o) : Part ws ov ov2 (ks ++ [c]) := by
  refine ⟨p.v, fun k m => ?_⟩
  rw [p.lk]
  constructor
  · rintro ⟨a, b⟩
    refine ⟨a, ?_⟩
    rcases b with b | b
    · exact .inl ⟨b.1, List.mem_append_left _ b.2⟩
    · exact .inr ⟨b.1, List.mem_append_left _ b.2⟩
  · rintro ⟨a, b⟩
    refine ⟨a, ?_⟩
    rcases b with b | b
    · rcases List.mem_append.mp b.2 with q | q
      · exact .inl ⟨b.1, q⟩
      · have e := List.mem_singleton.mp q
        rw [e, h] at a
        have e2 := Option.some.inj a
        exact absurd (by omega) n
    · rcases List.mem_append.mp b.2 with q | q
      · exact .inr ⟨b.1, q⟩
      · have e := List.mem_singleton.mp q
        have a2 := v.sym k m a
        rw [e, h] at a2
        have e2 := Option.some.inj a2
        exact absurd (by omega) n
theorem Part.free {ws : List Str} {ov ov2 : Ovr} {ks : List Int} {c o : Int} (p : Part ws ov ov2 ks) (v : Vl ws ov) (h : look ov c = some o) (n : c < o) (nc : c ∉ ks) : look ov2 c = none ∧ look ov2 o = none := by
  constructor
  · cases e : look ov2 c with
    | none => rfl
    | some m =>
      obtain ⟨a, b⟩ := (p.lk c m).mp e
      rw [h] at a
      have e2 := Option.some.inj a
      rcases b with b | b
      · exact absurd b.2 nc
      · omega
  · cases e : look ov2 o with
    | none => rfl
    | some m =>
      obtain ⟨a, b⟩ := (p.lk o m).mp e
      rw [v.sym c o h] at a
      have e2 := Option.some.inj a
      rcases b with b | b
      · omega
      · rw [← e2] at b
        exact absurd b.2 nc
theorem Part.put {ws : List Str} {ov ov2 : Ovr} {ks : List Int} {c o : Int} (p : Part ws ov ov2 ks) (v : Vl ws ov) (h : look ov c = some o) (n : c < o) (nc : c ∉ ks) : Part ws ov (ov2 ++ [(c, o)] ++ [(o, c)]) (ks ++ [c]) := by
  obtain ⟨l1, l2⟩ := p.free v h n nc
  have ne : c ≠ o := by omega
  refine ⟨p.v.put (v.may c o h) l1 l2, fun k m => ?_⟩
  rw [look_put ne l1 l2]
  by_cases ko : k = o
  · rw [if_pos ko, ko]
    constructor
    · intro e
      cases e
      exact ⟨v.sym c o h, .inr ⟨n, List.mem_append_right _ List.mem_cons_self⟩⟩
    · rintro ⟨a, _⟩
      rw [v.sym c o h] at a
      exact a
  rw [if_neg ko]
  by_cases kc : k = c
  · rw [if_pos kc, kc]
    constructor
    · intro e
      cases e
      exact ⟨h, .inl ⟨n, List.mem_append_right _ List.mem_cons_self⟩⟩
    · rintro ⟨a, _⟩
      rw [h] at a
      exact a
  rw [if_neg kc, p.lk]
  constructor
  · rintro ⟨a, b⟩
    refine ⟨a, ?_⟩
    rcases b with b | b
    · exact .inl ⟨b.1, List.mem_append_left _ b.2⟩
    · exact .inr ⟨b.1, List.mem_append_left _ b.2⟩
  · rintro ⟨a, b⟩
    refine ⟨a, ?_⟩
    rcases b with b | b
    · rcases List.mem_append.mp b.2 with q | q
      · exact .inl ⟨b.1, q⟩
      · exact absurd (List.mem_singleton.mp q) kc
    · rcases List.mem_append.mp b.2 with q | q
      · exact .inr ⟨b.1, q⟩
      · have a2 := v.sym k m a
        rw [List.mem_singleton.mp q, h] at a2
        exact absurd (Option.some.inj a2).symm ko
theorem Part.all {ws : List Str} {ov ov2 : Ovr} {ks : List Int} (p : Part ws ov ov2 ks) (v : Vl ws ov) (h : ks.Perm (keysOf ov)) : ov.Perm ov2 := by
  refine perm_of_look v.nd p.v.nd fun k m => ?_
  rw [p.lk]
  refine ⟨fun q => q.1, fun q => ⟨q, ?_⟩⟩
  have ne := may_ne (v.may k m q)
  have kk : k ∈ ks := h.mem_iff.mpr (look_some.mpr ⟨m, q⟩)
  have km : m ∈ ks := h.mem_iff.mpr (look_some.mpr ⟨k, v.sym k m q⟩)
  rcases Int.lt_or_gt_of_ne ne with z | z
  · exact .inl ⟨z, kk⟩
  · exact .inr ⟨z, km⟩
section
variable {P : Program} {w : World} {K : PySem.W.Frag} {mg : Str → Option Value} {base : Heap} {C CL : Addr}
theorem sc_law_made : FnScope ["_law_floor", "_law_over_here", "_law_laying", "_law_cell"] ["_law_floor", "_law_over_here"] (defScope s_law_made) := ⟨rfl, rfl, rfl, by decide +kernel, rfl, by decide +kernel, by decide +kernel⟩
theorem ok_made (D : Df K mg "_law_made" s_law_made ["_law_floor", "_law_over_here"]) (B : Bi mg) (L : LTxt K mg CL)
    (c_Laying : Cn P w K mg base 1 CL "Laying" ["self", "floor"] (spLInit CL)) (c_Laying_put : Cm P w K mg base CX0 3 CL "put" ["self", "one", "other"] (spPut0 C CL)) :
    Cl P w K mg base CX0 4 "_law_made" ["_law_floor", "_law_over_here"] (spMade C CL) := D.cl fun f fd F => by
  refine F.ok sc_law_made (fun vs H Q E h => ?_) (fun cdv A outer s H vs Q E hr h => ?_)
  · obtain ⟨x, d0, df, ws, ov, rfl, _⟩ := h
    rfl
  · obtain ⟨x, d0, df, ws, ov, rfl, fl, hw, hd0, v, hQ⟩ := h
    have hu := hu_of hr
    refine ⟨_, (pss_cons (ps_set (i := 2) sc_law_made.nd rfl (Or.inl rfl) (pe_cn c_Laying (hr.mono (by decide)) rfl (pa_cons (pv 0) pa_nil)))
      (pss_cons (ps_for PassesOwn.never rfl (pi_list (pe_callB (Gs.call_sortedAny rfl) (by rfl) B.sorted rfl (pa_cons (pv 1) pa_nil))) (pg_name (i := 3) sc_law_made.nd rfl (Or.inl rfl)) (pss_one (ps_if (pt_cmpR op_lt (pv 3) (pe_dget hu (pv 1) (pv 3) (fun _ _ => rfl)) (nomark _)) (pss_one (ps_expr (pe_cm (pv 2) L.cl c_Laying_put (hr.mono (by decide)) (pa_cons (pv 3) (pa_cons (pe_dget hu (pv 1) (pv 3) (fun _ _ => rfl)) pa_nil))))) pss_nil)))
      (pss_one (ps_ret (pv 2))))), ?_⟩
    refine ⟨_, rfl, fun y dy ny ndy ney => ?_⟩
    refine ⟨y, dy, x, rfl, upd_same, fun d H2 hd2 k2 la => ⟨rfl, ?_⟩⟩
    have s2 : Same H H2 := fun b o e => k2 b o (ne_of_none e ny) (by rw [upd_ne (ne_of_none e ny), upd_ne (ne_of_none e ndy)]; exact e)
    have hd : H d = none := by
      cases q : H d with
      | none => rfl
      | some o =>
        have z : (upd (upd H dy (.own y)) y (.ins CL dy [])) d = some o := by rw [upd_ne (ne_of_none q ny), upd_ne (ne_of_none q ndy)]; exact q
        rw [hd2] at z
        cases z
    have o2 := s2 _ _ hd0
    have len := v.len hw
    refine ⟨_, rfl, d0, dk ov, keysOf ov, rfl, .inl o2, dk_keys ov, (by unfold keysOf; rw [List.length_map]; omega), fun ks p hp hsrt hp0 => ?_⟩
    have s3 : Same H2 (upd H2 p (.lst (ks.map V.int))) := same_new hp0
    have h3 : (upd H2 p (.lst (ks.map V.int))) p = some (.lst (ks.map V.int)) := upd_same
    generalize upd H2 p (.lst (ks.map V.int)) = H3 at s3 h3
    have ndk : ks.Nodup := hp.nodup_iff.mpr v.nd
    refine ⟨p, rfl, ⟨_, SqL.of h3⟩, for_list (K := K) (a := p) (xs := ks.map V.int) (fun j σ H4 => ∃ (v3 : Option V) (ov2 : Ovr), σ = [some (.ref x), some (.ref d0), some (.ref y), v3] ∧ Same H H4 ∧ H4 p = some (.lst (ks.map V.int)) ∧ LayD CL H4 y x d ov2 ∧ Part ws ov ov2 (ks.take j))
      ⟨none, [], rfl, s2.trans s3, h3, ⟨dy, la.same s3⟩, Part.nil ws ov⟩ (fun j σ H4 _ ⟨_, _, _, _, h4, _⟩ => SqL.of h4) ?_ ?_⟩
    · rintro j z σ H4 hj ⟨v3, ov2, rfl, t4, p4, l4, pt⟩
      obtain ⟨c, hc, rfl, tk⟩ := int_el hj
      obtain ⟨o, lo⟩ := look_key (hp.mem_iff.mp (List.mem_of_getElem? hc))
      have o4 := t4 _ _ hd0
      have dg : DGet H4 d0 (V.int c) (some (V.int o)) := by
        have q := dget o4 c
        rw [lo] at q
        exact q
      refine ⟨_, rfl, _, rfl, _, rfl, d0, _, rfl, dg, _, _, rfl, rfl, _, rfl, ?_⟩
      by_cases q : c < o
      · refine iteTd q ?_
        have nc : c ∉ ks.take j := fun h => by
          have e := ndk
          rw [← List.take_append_drop j ks, List.nodup_append] at e
          refine e.2.2 c h c ?_ rfl
          rw [List.mem_iff_getElem?]
          exact ⟨0, by rw [List.getElem?_drop]; exact hc⟩
        obtain ⟨f1, f2⟩ := pt.free v lo q nc
        obtain ⟨dy4, la4⟩ := l4
        refine ⟨_, rfl, y, dy4, _, rfl, la4.ob, lfl_no x d (by decide +kernel) (by decide +kernel), _, rfl, _, rfl, _, rfl, d0, _, rfl, dg, y, x, df, d, ws, ov2, c, o, rfl, ⟨dy4, la4⟩, fl.same t4, Nat.le_trans (pt.v.len hw) (by decide), putN0 (v.may c o lo) f1 f2, fun H5 k5 d5 => ?_⟩
        refine ⟨_, _, rfl, Keep.new t4 hd k5, k5.at la4.dc p4 (fun _ z => by cases z), LayD.wrote ⟨dy4, la4⟩ k5 d5, ?_⟩
        rw [tk]
        exact pt.put v lo q nc
      · refine iteNS2 q ?_
        refine ⟨_, ov2, rfl, t4, p4, l4, ?_⟩
        rw [tk]
        exact pt.skip v lo q
    · rintro σ H4 ⟨v3, ov2, rfl, t4, p4, l4, pt⟩
      rw [List.length_map, List.take_length] at pt
      exact ⟨_, rfl, hQ y d ov2 H4 t4 ny hd l4 (pt.all v hp)⟩
end
end Sf
namespace Sf
open PySem PySem.Spec PyProof.Rows L2 Gc
/-! ### the slabs that a drawing begins -/
def begAt (wd : Nat) (r c : Nat) (n : Nat) : List (Int × Int) := (if n = 60 then [(((r * wd + c : Nat) : Int), ((r * wd + c : Nat) : Int) + 1)] else []) ++ (if n = 94 then [(((r * wd + c : Nat) : Int), ((r * wd + c : Nat) : Int) + (wd : Int))] else [])
def begRow (wd : Nat) (r : Nat) (a : Str) (m : Nat) : List (Int × Int) := (List.range m).flatMap fun c => begAt wd r c (a.cps.getD c 35)
def begun (wd : Nat) (ts : List Str) (m : Nat) : List (Int × Int) := (List.range m).flatMap fun r => begRow wd r (ts.getD r ("" : Str)) (ts.getD r ("" : Str)).length
theorem begRow_succ (wd r : Nat) (a : Str) (m : Nat) : begRow wd r a (m + 1) = begRow wd r a m ++ begAt wd r m (a.cps.getD m 35) := by
  unfold begRow
  rw [List.range_succ, List.flatMap_append]
  congr 1
  exact List.append_nil _
theorem begun_succ (wd : Nat) (ts : List Str) (m : Nat) : begun wd ts (m + 1) = begun wd ts m ++ begRow wd m (ts.getD m ("" : Str)) (ts.getD m ("" : Str)).length := by
  unfold begun
  rw [List.range_succ, List.flatMap_append]
  congr 1
  exact List.append_nil _
theorem begAt_len (wd r c n : Nat) : (begAt wd r c n).length ≤ 1 := by
  unfold begAt
  by_cases h : n = 60
  · rw [if_pos h, if_neg (by omega)]
    exact Nat.le_refl _
  · rw [if_neg h]
    split
    · exact Nat.le_refl _
    · exact Nat.zero_le _
theorem begRow_len (wd r : Nat) (a : Str) : ∀ m, (begRow wd r a m).length ≤ m
  | 0 => Nat.le_refl _
  | m + 1 => by
    rw [begRow_succ, List.length_append]
    have := begRow_len wd r a m
    have := begAt_len wd r m (a.cps.getD m 35)
    omega
theorem begun_len {wd : Nat} {ts : List Str} (h : ∀ a ∈ ts, a.length ≤ 20) : ∀ m, m ≤ ts.length → (begun wd ts m).length ≤ 20 * m
  | 0, _ => Nat.le_refl _
  | m + 1, hm => by
    rw [begun_succ, List.length_append]
    have h1 := begun_len (wd := wd) h m (by omega)
    have h2 := begRow_len wd m (ts.getD m ("" : Str)) (ts.getD m ("" : Str)).length
    have h3 : (ts.getD m ("" : Str)).length ≤ 20 := by
      rw [List.getD_eq_getElem?_getD, List.getElem?_eq_getElem (show m < ts.length by omega)]
      exact h _ (List.getElem_mem _)
    omega
def spBegun (K : PySem.W.Frag) (C : Addr) : Sp := fun vs H Q _ => ∃ (x df lt : Addr) (ws ts : List Str), vs = [.ref x, .ref lt] ∧ FloorD C H x df ws ∧ Wf ws ∧ SqL K H lt (ts.map V.str) ∧ ts.length ≤ 20 ∧ (∀ a ∈ ts, a.length ≤ 20) ∧
  ∀ (l : Addr) (as : List Addr) (H' : Hp), Same H H' → H l = none → H' l = some (.lst (as.map V.ref)) → TupsAt H' as (begun (wide ws) ts ts.length) → Q (.ref l) H'
section
variable {P : Program} {w : World} {K : PySem.W.Frag} {mg : Str → Option Value} {base : Heap} {C CL : Addr}
theorem sc_slabs_begun : FnScope ["floor", "rows", "slabs", "row", "column", "place"] ["floor", "rows"] (defScope s_slabs_begun) := ⟨rfl, rfl, rfl, by decide +kernel, rfl, by decide +kernel, by decide +kernel⟩
theorem ok_begun {tL tU : Tok} (D : Df K mg "_slabs_begun" s_slabs_begun ["floor", "rows"]) (B : Bi mg) (T : FTxt K mg C) (gLEFT : mg "LEFT" = some (.str "<" tL)) (gUPPER : mg "UPPER" = some (.str "^" tU)) :
    Cl P w K mg base CX0 1 "_slabs_begun" ["floor", "rows"] (spBegun K C) := D.cl fun f fd F => by
  refine F.ok sc_slabs_begun (fun vs H Q E h => ?_) (fun cdv A outer s H vs Q E hr h => ?_)
  · obtain ⟨x, df, lt, ws, ts, rfl, _⟩ := h
    rfl
  · obtain ⟨x, df, lt, ws, ts, rfl, ⟨dx, lr, g, fa⟩, hw, hS, ht, ha, hQ⟩ := h
    have hwd := hw.wid
    have e60 : ("<" : Str) = sg1 60 := by decide +kernel
    have e94 : ("^" : Str) = sg1 94 := by decide +kernel
    refine ⟨_, (pss_cons (ps_set (i := 2) sc_slabs_begun.nd rfl (Or.inl rfl) (pe_lst pa_nil))
      (pss_cons (ps_for PassesOwn.never rfl (pi_range1 rfl B.range (pa_cons (pe_callB call_len (by rfl) B.len PySem.boot_len (pa_cons (pv 1) pa_nil)) pa_nil)) (pg_name (i := 3) sc_slabs_begun.nd rfl (Or.inl rfl)) (pss_one (ps_for PassesOwn.never rfl (pi_range1 rfl B.range (pa_cons (pe_callB call_len_str (by rfl) B.len PySem.boot_len (pa_cons (pe_ix ix_list (pv 1) (pv 3) (fun _ _ => rfl)) pa_nil)) pa_nil)) (pg_name (i := 4) sc_slabs_begun.nd rfl (Or.inl rfl)) (pss_cons (ps_set (i := 5) sc_slabs_begun.nd rfl (Or.inl rfl) (pe_op op_add (pe_op op_mul (pv 3) (pe_fld (pv 0) rfl)) (pv 4)))
      (C8.pss_cut (ps_if (pt_cmpR op_eq (pe_ix ix_str (pe_ix ix_list (pv 1) (pv 3) (fun _ _ => rfl)) (pv 4) (fun _ _ => rfl)) (pe_glob (v := .str "<") rfl gLEFT ⟨_, rfl⟩) (nomark _)) (pss_one (ps_expr (pe_bm PySem.F.plainAttrs_list PySem.F.slot_list_append PySem.F.type_list_append mt_append (pv 2) (pa_cons (pe_tup (pa_cons (pv 5) (pa_cons (pe_op op_add (pv 5) pe_int) pa_nil))) pa_nil)))) pss_nil)
      (pss_one (ps_if (pt_cmpR op_eq (pe_ix ix_str (pe_ix ix_list (pv 1) (pv 3) (fun _ _ => rfl)) (pv 4) (fun _ _ => rfl)) (pe_glob (v := .str "^") rfl gUPPER ⟨_, rfl⟩) (nomark _)) (pss_one (ps_expr (pe_bm PySem.F.plainAttrs_list PySem.F.slot_list_append PySem.F.type_list_append mt_append (pv 2) (pa_cons (pe_tup (pa_cons (pv 5) (pa_cons (pe_op op_add (pv 5) (pe_fld (pv 0) rfl)) pa_nil))) pa_nil)))) pss_nil)))))))
      (pss_one (ps_ret (pv 2))))), ?_⟩
    refine ⟨(by show 0 ≤ sizeLine; decide), fun l hl => ?_⟩
    have s1 : Same H (upd H l (.lst [])) := same_new hl
    refine ⟨_, rfl, _, _, rfl, .inl ⟨_, s1.seq hS, rfl⟩, ?_⟩
    rw [List.length_map]
    refine ⟨_, rfl, by omega, by omega, for_range (n := ts.length) (fun i σ Hn => ∃ (v3 v4 v5 : Option V) (as : List Addr), σ = [some (.ref x), some (.ref lt), some (.ref l), v3, v4, v5] ∧ Same H Hn ∧ Hn l = some (.lst (as.map V.ref)) ∧ TupsAt Hn as (begun (wide ws) ts i))
      ⟨none, none, none, [], rfl, s1, upd_same, rfl, fun i t p h => (by simp at h)⟩ ?_ ?_⟩
    · rintro r σ Hn hr1 ⟨v3, v4, v5, as, rfl, sn, hn, ta⟩
      have z2 : (0 : Int) + ((r : Nat) : Int) = ((r : Nat) : Int) := Int.zero_add _
      obtain ⟨a, ea⟩ : ∃ a, ts[r]? = some a := ⟨_, List.getElem?_eq_getElem hr1⟩
      have eg : ts.getD r ("" : Str) = a := by rw [List.getD_eq_getElem?_getD, ea]; rfl
      have al : a.length ≤ 20 := ha a (List.mem_of_getElem? ea)
      have az : a.length ≤ sizeLine := Nat.le_trans al (by decide)
      have atr : (ts.map V.str)[r]? = some (V.str a) := by rw [List.getElem?_map, ea] <;> rfl
      refine ⟨_, rfl, _, rfl, _, _, _, _, rfl, rfl, sn.seq hS, by rw [z2]; exact atI_nat atr, _, rfl, az, _, rfl, by omega, by omega, for_range (n := a.length) (fun c σ Hm => ∃ (v4 v5 : Option V) (as : List Addr), σ = [some (.ref x), some (.ref lt), some (.ref l), some (.int ((r : Nat) : Int)), v4, v5] ∧ Same H Hm ∧ Hm l = some (.lst (as.map V.ref)) ∧ TupsAt Hm as (begun (wide ws) ts r ++ begRow (wide ws) r a c))
        ⟨v4, v5, as, by rw [z2] <;> rfl, sn, hn, by rw [show begRow (wide ws) r a 0 = [] from rfl, List.append_nil]; exact ta⟩ ?_ ?_⟩
      · rintro c σ Hm hc ⟨v4, v5, as, rfl, sm, hm, tm⟩
        have y2 : (0 : Int) + ((c : Nat) : Int) = ((c : Nat) : Int) := Int.zero_add _
        have fam := fa.same sm
        obtain ⟨n, en⟩ : ∃ n, a.cps.toList[c]? = some n := ⟨_, List.getElem?_eq_getElem (show c < a.cps.toList.length by rw [Array.length_toList]; exact hc)⟩
        have eD : a.cps.getD c 35 = n := by
          rw [Array.getElem?_toList] at en
          rw [Array.getD_eq_getD_getElem?, en]
          rfl
        have b1 := begun_len (wd := wide ws) ha r (by omega)
        have b2 := begRow_len (wide ws) r a c
        have al2 : as.length = (begun (wide ws) ts r ++ begRow (wide ws) r a c).length := tm.1
        rw [List.length_append] at al2
        refine ⟨_, rfl, _, rfl, x, C, dx, _, _, rfl, fam.ob, T.cl, T.nW, flds_wide _ _ _ _, _, _, rfl, rfl, .inl ⟨by omega, by omega⟩, _, rfl, _, _, rfl, rfl, ?_⟩
        rw [y2]
        have pz : ((r : Nat) : Int) * ((wide ws : Nat) : Int) + ((c : Nat) : Int) = ((r * wide ws + c : Nat) : Int) := by rw [Int.natCast_add, Int.natCast_mul]
        refine ⟨fun σ' H' => ∃ as2 : List Addr, σ' = [some (.ref x), some (.ref lt), some (.ref l), some (.int ((r : Nat) : Int)), some (.int ((c : Nat) : Int)), some (.int (((r : Nat) : Int) * ((wide ws : Nat) : Int) + ((c : Nat) : Int)))] ∧ Same H H' ∧ H' l = some (.lst (as2.map V.ref)) ∧ as2.length ≤ 800 ∧
          TupsAt H' as2 (begun (wide ws) ts r ++ begRow (wide ws) r a c ++ (if n = 60 then [(((r * wide ws + c : Nat) : Int), ((r * wide ws + c : Nat) : Int) + 1)] else [])), ?_, ?_⟩
        · refine ⟨_, rfl, _, rfl, _, _, _, _, rfl, rfl, sm.seq hS, atI_nat atr, _, rfl, _, _, _, rfl, rfl, az, atI_nat en, rfl, _, rfl, ?_⟩
          rw [e60]
          by_cases h60 : n = 60
          · refine iteTd (sg_ne.mpr h60) ?_
            refine ⟨_, rfl, .inl ⟨rfl, _, SqL.of hm⟩, _, rfl, _, rfl, _, _, rfl, rfl, (by show 2 ≤ sizeLine; decide), fun tp htp => ?_⟩
            have ntl : l ≠ tp := ne_of_none hm htp
            refine ⟨l, _, _, rfl, rfl, by rw [upd_ne ntl]; exact hm, (by rw [List.length_map]; exact small1000 (by omega)), ?_⟩
            have st : Same Hm (upd Hm tp (.tup [.int (((r : Nat) : Int) * ((wide ws : Nat) : Int) + ((c : Nat) : Int)), .int (((r : Nat) : Int) * ((wide ws : Nat) : Int) + ((c : Nat) : Int) + 1)])) := same_new htp
            refine ⟨as ++ [tp], rfl, same_off (sm.trans st) hl, by rw [upd_same, List.map_append] <;> rfl, by rw [List.length_append]; show _ + 1 ≤ _; omega, ?_⟩
            rw [if_pos h60]
            have tn : TupsAt (upd Hm tp (.tup [.int (((r : Nat) : Int) * ((wide ws : Nat) : Int) + ((c : Nat) : Int)), .int (((r : Nat) : Int) * ((wide ws : Nat) : Int) + ((c : Nat) : Int) + 1)])) (as ++ [tp]) (begun (wide ws) ts r ++ begRow (wide ws) r a c ++ [(((r * wide ws + c : Nat) : Int), ((r * wide ws + c : Nat) : Int) + 1)]) := TupsAt.snoc (tm.same st) (by rw [upd_same, pz])
            refine ⟨tn.1, fun i u q h1 h2 => ?_⟩
            have e := tn.2 i u q h1 h2
            rw [upd_ne (fun z => by rw [z] at e; rw [st _ _ hm] at e; cases e)]
            exact e
          · refine iteNS2 (fun q => h60 (sg_ne.mp q)) ?_
            exact ⟨as, rfl, sm, hm, by omega, by rw [if_neg h60, List.append_nil]; exact tm⟩
        rintro _ H2 ⟨as2, rfl, s2, h2, l2, t2⟩
        have fin : begun (wide ws) ts r ++ begRow (wide ws) r a (c + 1) = begun (wide ws) ts r ++ begRow (wide ws) r a c ++ (if n = 60 then [(((r * wide ws + c : Nat) : Int), ((r * wide ws + c : Nat) : Int) + 1)] else []) ++ (if n = 94 then [(((r * wide ws + c : Nat) : Int), ((r * wide ws + c : Nat) : Int) + (wide ws : Int))] else []) := by
          rw [begRow_succ, eD]
          unfold begAt
          simp only [List.append_assoc]
        refine ⟨_, rfl, _, rfl, _, _, _, _, rfl, rfl, s2.seq hS, atI_nat atr, _, rfl, _, _, _, rfl, rfl, az, atI_nat en, rfl, _, rfl, ?_⟩
        rw [e94]
        by_cases h94 : n = 94
        · refine iteTd (sg_ne.mpr h94) ?_
          refine ⟨_, rfl, .inl ⟨rfl, _, SqL.of h2⟩, _, rfl, _, rfl, _, rfl, x, C, dx, _, _, rfl, (fa.same s2).ob, T.cl, T.nW, flds_wide _ _ _ _, _, _, rfl, rfl, (by show 2 ≤ sizeLine; decide), fun tp htp => ?_⟩
          have ntl : l ≠ tp := ne_of_none h2 htp
          refine ⟨l, _, _, rfl, rfl, by rw [upd_ne ntl]; exact h2, (by rw [List.length_map]; exact small1000 (by omega)), ?_⟩
          have st : Same H2 (upd H2 tp (.tup [.int (((r : Nat) : Int) * ((wide ws : Nat) : Int) + ((c : Nat) : Int)), .int (((r : Nat) : Int) * ((wide ws : Nat) : Int) + ((c : Nat) : Int) + ((wide ws : Nat) : Int))])) := same_new htp
          refine ⟨_, _, as2 ++ [tp], rfl, same_off (s2.trans st) hl, by rw [upd_same, List.map_append] <;> rfl, ?_⟩
          rw [fin, if_pos h94]
          have tn : TupsAt (upd H2 tp (.tup [.int (((r : Nat) : Int) * ((wide ws : Nat) : Int) + ((c : Nat) : Int)), .int (((r : Nat) : Int) * ((wide ws : Nat) : Int) + ((c : Nat) : Int) + ((wide ws : Nat) : Int))])) (as2 ++ [tp]) (begun (wide ws) ts r ++ begRow (wide ws) r a c ++ (if n = 60 then [(((r * wide ws + c : Nat) : Int), ((r * wide ws + c : Nat) : Int) + 1)] else []) ++ [(((r * wide ws + c : Nat) : Int), ((r * wide ws + c : Nat) : Int) + ((wide ws : Nat) : Int))]) := TupsAt.snoc (t2.same st) (by rw [upd_same, pz])
          refine ⟨tn.1, fun i u q h1 h3 => ?_⟩
          have e := tn.2 i u q h1 h3
          rw [upd_ne (fun z => by rw [z] at e; rw [st _ _ h2] at e; cases e)]
          exact e
        · refine iteNS2 (fun q => h94 (sg_ne.mp q)) ?_
          exact ⟨_, _, as2, rfl, s2, h2, by rw [fin, if_neg h94, List.append_nil]; exact t2⟩
      · rintro σ Hm ⟨v4, v5, as, rfl, sm, hm, tm⟩
        refine ⟨_, _, _, as, rfl, sm, hm, ?_⟩
        rw [begun_succ, eg]
        exact tm
    · rintro σ Hn ⟨v3, v4, v5, as, rfl, sn, hn, ta⟩
      exact ⟨_, rfl, hQ l as Hn sn hl hn ta⟩
end
end Sf
namespace Sf
open PySem PySem.Spec PyProof.Rows L2 Gc
/-! ### a laying is told by its drawing -/
def sigN (ws : List Str) (ov : Ovr) (p : Int) : Nat :=
  if isCell ws p = true then
    match look ov p with
    | none => 111
    | some o => if p / (wide ws : Int) = o / (wide ws : Int) then (if p < o then 60 else 62) else (if p < o then 94 else 118)
  else 35
theorem sigD_N (ws : List Str) (ov : Ovr) (p : Int) : sigD ws ov p = sg1 (sigN ws ov p) := by
  have e1 : ("o" : Str) = sg1 111 := by decide +kernel
  have e2 : ("<" : Str) = sg1 60 := by decide +kernel
  have e3 : (">" : Str) = sg1 62 := by decide +kernel
  have e4 : ("^" : Str) = sg1 94 := by decide +kernel
  have e5 : ("v" : Str) = sg1 118 := by decide +kernel
  have e6 : ("#" : Str) = sg1 35 := by decide +kernel
  unfold sigD sigN
  split
  · cases look ov p with
    | none => exact e1
    | some o =>
      show (if p / (wide ws : Int) = o / (wide ws : Int) then (if p < o then ("<" : Str) else (">" : Str)) else (if p < o then ("^" : Str) else ("v" : Str))) = sg1 (if p / (wide ws : Int) = o / (wide ws : Int) then (if p < o then 60 else 62) else (if p < o then 94 else 118))
      split
      · split
        · exact e2
        · exact e3
      · split
        · exact e4
        · exact e5
  · exact e6
/-- the left half of a slab, and the upper one -/
theorem sig_left {ws : List Str} {ov : Ovr} {p : Int} : sigN ws ov p = 60 ↔ isCell ws p = true ∧ ∃ o, look ov p = some o ∧ p / (wide ws : Int) = o / (wide ws : Int) ∧ p < o := by
  unfold sigN
  by_cases hc : isCell ws p = true
  · rw [if_pos hc]
    cases e : look ov p with
    | none =>
      constructor
      · intro q
        exact absurd (show (111 : Nat) = _ from q) (by decide)
      · rintro ⟨_, o, q, _⟩
        cases q
    | some o =>
      show (if p / (wide ws : Int) = o / (wide ws : Int) then (if p < o then 60 else 62) else (if p < o then 94 else 118)) = 60 ↔ _
      constructor
      · intro q
        split at q
        · split at q
          · exact ⟨hc, o, rfl, by assumption, by assumption⟩
          · exact absurd q (by decide)
        · split at q <;> exact absurd q (by decide)
      · rintro ⟨_, o2, q, h1, h2⟩
        cases q
        rw [if_pos h1, if_pos h2]
  · rw [if_neg hc]
    exact ⟨fun q => absurd q (by decide), fun q => absurd q.1 hc⟩
theorem sig_upper {ws : List Str} {ov : Ovr} {p : Int} : sigN ws ov p = 94 ↔ isCell ws p = true ∧ ∃ o, look ov p = some o ∧ ¬ p / (wide ws : Int) = o / (wide ws : Int) ∧ p < o := by
  unfold sigN
  by_cases hc : isCell ws p = true
  · rw [if_pos hc]
    cases e : look ov p with
    | none =>
      constructor
      · intro q
        exact absurd (show (111 : Nat) = _ from q) (by decide)
      · rintro ⟨_, o, q, _⟩
        cases q
    | some o =>
      show (if p / (wide ws : Int) = o / (wide ws : Int) then (if p < o then 60 else 62) else (if p < o then 94 else 118)) = 94 ↔ _
      constructor
      · intro q
        split at q
        · split at q <;> exact absurd q (by decide)
        · split at q
          · exact ⟨hc, o, rfl, by assumption, by assumption⟩
          · exact absurd q (by decide)
      · rintro ⟨_, o2, q, h1, h2⟩
        cases q
        rw [if_neg h1, if_pos h2]
  · rw [if_neg hc]
    exact ⟨fun q => absurd q (by decide), fun q => absurd q.1 hc⟩
/-- the other half of a slab, by the row -/
theorem may_next {ws : List Str} {p o : Int} (m : mayB ws p o = true) (lt : p < o) : (p / (wide ws : Int) = o / (wide ws : Int) → o = p + 1) ∧ (¬ p / (wide ws : Int) = o / (wide ws : Int) → o = p + (wide ws : Int)) := by
  rw [may_eq] at m
  unfold lmay at m
  by_cases hr : 0 ≤ p ∧ p < ((wide ws * ws.length : Nat) : Int) ∧ 0 ≤ o ∧ o < ((wide ws * ws.length : Nat) : Int)
  case neg =>
    rw [if_neg hr] at m
    cases m
  rw [if_pos hr] at m
  have wp : (0 : Int) < (wide ws : Int) := by
    rcases Nat.eq_zero_or_pos (wide ws) with e | e
    · rw [e, Nat.zero_mul] at hr
      omega
    · omega
  have d1 := Int.mul_ediv_add_emod p (wide ws : Int)
  have d2 := Int.mul_ediv_add_emod o (wide ws : Int)
  have r1 := Int.emod_nonneg p (show (wide ws : Int) ≠ 0 by omega)
  have r2 := Int.emod_lt_of_pos p wp
  have r3 := Int.emod_nonneg o (show (wide ws : Int) ≠ 0 by omega)
  have r4 := Int.emod_lt_of_pos o wp
  by_cases h1 : p / (wide ws : Int) = o / (wide ws : Int) ∧ (p - o).natAbs = 1
  · exact ⟨fun _ => by omega, fun q => absurd h1.1 q⟩
  · rw [if_neg h1] at m
    by_cases h2 : p % (wide ws : Int) = o % (wide ws : Int) ∧ (p / (wide ws : Int) - o / (wide ws : Int)).natAbs = 1
    · obtain ⟨h3, h4⟩ := h2
      have le : p / (wide ws : Int) ≤ o / (wide ws : Int) := Int.ediv_le_ediv wp (by omega)
      have e : o / (wide ws : Int) = p / (wide ws : Int) + 1 := by omega
      refine ⟨fun q => by omega, fun _ => ?_⟩
      rw [e, Int.mul_add, Int.mul_one] at d2
      omega
    · rw [if_neg h2] at m
      cases m
end Sf
namespace Sf
open PySem PySem.Spec PyProof.Rows L2 Gc
/-! ### what a drawing begins are the laying's slabs -/
theorem sg_join5 (ns : List Nat) : Txt.join ("" : Str) (ns.map sg1) = ⟨ns.toArray⟩ := by
  have e : (Txt.join ("" : Str) (ns.map sg1)).cps.toList = ns := by
    rw [join_flat]
    induction ns with
    | nil => rfl
    | cons a r ih =>
      show a :: (r.map sg1).flatMap _ = _
      rw [show (r.map sg1).flatMap (fun a => a.cps.toList) = r from ih]
  generalize Txt.join ("" : Str) (ns.map sg1) = z at e
  obtain ⟨c⟩ := z
  have e2 : c.toList = ns := e
  rw [← e2]
theorem rowZ_is (ws : List Str) (ov : Ovr) (z : Int) : rowZ ws ov z = ⟨((List.range (wide ws)).map fun (c : Nat) => sigN ws ov (z + ((c : Nat) : Int))).toArray⟩ := by
  rw [← sg_join5, List.map_map]
  unfold rowZ lineZ
  congr 1
  exact List.map_congr_left fun c _ => sigD_N ws ov _
theorem rowZ_len (ws : List Str) (ov : Ovr) (z : Int) : (rowZ ws ov z).length = wide ws := by
  rw [rowZ_is]
  show (((List.range (wide ws)).map fun (c : Nat) => sigN ws ov (z + ((c : Nat) : Int))).toArray).size = _
  rw [List.size_toArray, List.length_map, List.length_range]
theorem rowZ_at (ws : List Str) (ov : Ovr) (z : Int) {c : Nat} (h : c < wide ws) : (rowZ ws ov z).cps.getD c 35 = sigN ws ov (z + ((c : Nat) : Int)) := by
  rw [rowZ_is]
  have e : (((List.range (wide ws)).map fun (c : Nat) => sigN ws ov (z + ((c : Nat) : Int))).toArray)[c]? = some (sigN ws ov (z + ((c : Nat) : Int))) := by
    rw [List.getElem?_toArray, List.getElem?_map, List.getElem?_range h]
    rfl
  show (((List.range (wide ws)).map fun (c : Nat) => sigN ws ov (z + ((c : Nat) : Int))).toArray).getD c 35 = _
  rw [Array.getD_eq_getD_getElem?, e]
  rfl
theorem drawnR_len (ws : List Str) (ov : Ovr) : (drawnR ws ov).length = ws.length := by
  unfold drawnR
  rw [List.length_map, List.length_range]
theorem drawnR_at (ws : List Str) (ov : Ovr) {r : Nat} (h : r < ws.length) : (drawnR ws ov).getD r ("" : Str) = rowZ ws ov (((r : Nat) : Int) * ((wide ws : Nat) : Int)) := by
  unfold drawnR
  rw [List.getD_eq_getElem?_getD, List.getElem?_map, List.getElem?_range h]
  rfl
theorem mem_begAt {wd r c n : Nat} {q : Int × Int} : q ∈ begAt wd r c n ↔ q.1 = ((r * wd + c : Nat) : Int) ∧ ((n = 60 ∧ q.2 = q.1 + 1) ∨ (n = 94 ∧ q.2 = q.1 + (wd : Int))) := by
  obtain ⟨q1, q2⟩ := q
  unfold begAt
  rw [List.mem_append]
  constructor
  · rintro (h | h)
    · by_cases e : n = 60
      · rw [if_pos e] at h
        cases List.mem_singleton.mp h
        exact ⟨rfl, .inl ⟨e, rfl⟩⟩
      · rw [if_neg e] at h
        cases h
    · by_cases e : n = 94
      · rw [if_pos e] at h
        cases List.mem_singleton.mp h
        exact ⟨rfl, .inr ⟨e, rfl⟩⟩
      · rw [if_neg e] at h
        cases h
  · rintro ⟨h1, h | h⟩
    · refine .inl ?_
      rw [if_pos h.1]
      have h1' : q1 = _ := h1
      have h2' : q2 = q1 + 1 := h.2
      rw [h2', h1']
      exact List.mem_cons_self
    · refine .inr ?_
      rw [if_pos h.1]
      have h1' : q1 = _ := h1
      have h2' : q2 = q1 + (wd : Int) := h.2
      rw [h2', h1']
      exact List.mem_cons_self
theorem mem_begun {wd : Nat} {ts : List Str} {m : Nat} {q : Int × Int} : q ∈ begun wd ts m ↔ ∃ r c : Nat, r < m ∧ c < (ts.getD r ("" : Str)).length ∧ q ∈ begAt wd r c ((ts.getD r ("" : Str)).cps.getD c 35) := by
  unfold begun begRow
  rw [List.mem_flatMap]
  constructor
  · rintro ⟨r, hr, h⟩
    obtain ⟨c, hc, h⟩ := List.mem_flatMap.mp h
    exact ⟨r, c, List.mem_range.mp hr, List.mem_range.mp hc, h⟩
  · rintro ⟨r, c, hr, hc, h⟩
    exact ⟨r, List.mem_range.mpr hr, List.mem_flatMap.mpr ⟨c, List.mem_range.mpr hc, h⟩⟩
/-- the slabs begun in a laying's drawing are its own, each by its lower cell -/
theorem begun_drawn {ws : List Str} {ov : Ovr} (v : Vl ws ov) {q : Int × Int} : q ∈ begun (wide ws) (drawnR ws ov) (drawnR ws ov).length ↔ look ov q.1 = some q.2 ∧ q.1 < q.2 := by
  rw [mem_begun, drawnR_len]
  constructor
  · rintro ⟨r, c, hr, hc, h⟩
    rw [drawnR_at ws ov hr] at hc h
    rw [rowZ_len] at hc
    rw [rowZ_at ws ov _ hc] at h
    obtain ⟨e1, e2⟩ := mem_begAt.mp h
    rw [show ((r : Nat) : Int) * ((wide ws : Nat) : Int) + ((c : Nat) : Int) = q.1 from by rw [e1, Int.natCast_add, Int.natCast_mul]] at e2
    rcases e2 with ⟨s, e2⟩ | ⟨s, e2⟩
    · obtain ⟨_, o, lk, rw_, lt⟩ := sig_left.mp s
      have := (may_next (v.may _ _ lk) lt).1 rw_
      rw [e2, ← this]
      exact ⟨lk, lt⟩
    · obtain ⟨_, o, lk, rw_, lt⟩ := sig_upper.mp s
      have := (may_next (v.may _ _ lk) lt).2 rw_
      rw [e2, ← this]
      exact ⟨lk, lt⟩
  · rintro ⟨lk, lt⟩
    have m := v.may _ _ lk
    have hc := (may_cell m).1
    obtain ⟨h0, h1, _⟩ := isCell_iff.mp hc
    obtain ⟨r, c, hr, hcw, e, _⟩ := place h0 h1
    refine ⟨r, c, hr, ?_, ?_⟩
    · rw [drawnR_at ws ov hr, rowZ_len]
      exact hcw
    · rw [drawnR_at ws ov hr, rowZ_at ws ov _ hcw]
      have eq1 : ((r : Nat) : Int) * ((wide ws : Nat) : Int) + ((c : Nat) : Int) = q.1 := by rw [e, Int.natCast_add, Int.natCast_mul]
      rw [eq1]
      refine mem_begAt.mpr ⟨e, ?_⟩
      by_cases rw_ : q.1 / (wide ws : Int) = q.2 / (wide ws : Int)
      · exact .inl ⟨sig_left.mpr ⟨hc, q.2, lk, rw_, lt⟩, (may_next m lt).1 rw_⟩
      · exact .inr ⟨sig_upper.mpr ⟨hc, q.2, lk, rw_, lt⟩, (may_next m lt).2 rw_⟩
end Sf
namespace Sf
open PySem PySem.Spec PyProof.Rows L2 Gc
/-! ### what is built out of what a drawing begins -/
theorem drawnR_look {ws : List Str} {ov ov2 : Ovr} (e : ∀ i, look ov i = look ov2 i) : drawnR ws ov = drawnR ws ov2 := by
  have h : sigD ws ov = sigD ws ov2 := funext fun p => by
    unfold sigD
    rw [e]
  unfold drawnR rowZ lineZ
  rw [h]
theorem drawnR_perm {ws : List Str} {ov ov2 : Ovr} (p : ov.Perm ov2) (nd : (keysOf ov).Nodup) : drawnR ws ov = drawnR ws ov2 := drawnR_look fun i => (look_perm p nd i).symm
/-- two layings that are drawn alike have the same slabs -/
theorem drawn_tells {ws : List Str} {ov ov2 : Ovr} (v : Vl ws ov) (v2 : Vl ws ov2) (e : drawnR ws ov = drawnR ws ov2) : ov.Perm ov2 := by
  have low : ∀ k m : Int, k < m → (look ov2 k = some m ↔ look ov k = some m) := fun k m lt => by
    have a := begun_drawn v (q := (k, m))
    have b := begun_drawn v2 (q := (k, m))
    rw [e] at a
    exact ⟨fun q => (a.mp (b.mpr ⟨q, lt⟩)).1, fun q => (b.mp (a.mpr ⟨q, lt⟩)).1⟩
  refine perm_of_look v.nd v2.nd fun k m => ?_
  rcases Int.lt_trichotomy k m with q | q | q
  · exact low k m q
  · subst q
    exact ⟨fun z => absurd rfl (may_ne (v2.may k k z)), fun z => absurd rfl (may_ne (v.may k k z))⟩
  · exact ⟨fun z => v.sym m k ((low m k q).mp (v2.sym k m z)), fun z => v2.sym m k ((low m k q).mpr (v.sym k m z))⟩
theorem Part.cong {ws : List Str} {ov ov2 : Ovr} {ks ks2 : List Int} (p : Part ws ov ov2 ks) (h : ∀ k, k ∈ ks2 ↔ k ∈ ks) : Part ws ov ov2 ks2 := ⟨p.v, fun k m => by rw [p.lk, h, h]⟩
theorem Part.whole {ws : List Str} {ov ov2 : Ovr} {ks : List Int} (p : Part ws ov ov2 ks) (v : Vl ws ov) (h : ∀ k m, look ov k = some m → k < m → k ∈ ks) : ov.Perm ov2 := by
  refine perm_of_look v.nd p.v.nd fun k m => ?_
  rw [p.lk]
  refine ⟨fun q => q.1, fun q => ⟨q, ?_⟩⟩
  rcases Int.lt_or_gt_of_ne (may_ne (v.may k m q)) with z | z
  · exact .inl ⟨z, h k m q z⟩
  · exact .inr ⟨z, h m k (v.sym k m q) z⟩
/-- what has been built, of rows ts: if they draw a laying at all, its slabs by their lower cells ks -/
structure Bld (ws ts : List Str) (ov2 : Ovr) (ks : List Int) : Prop where
  v : Vl ws ov2
  pt : ∀ ov, Vl ws ov → ts = drawnR ws ov → Part ws ov ov2 ks
theorem Bld.nil (ws ts : List Str) : Bld ws ts [] [] := ⟨Vl.nil ws, fun ov _ _ => Part.nil ws ov⟩
theorem beg_look {ws ts : List Str} {ov : Ovr} {q : Int × Int} (v : Vl ws ov) (e : ts = drawnR ws ov) : q ∈ begun (wide ws) ts ts.length ↔ look ov q.1 = some q.2 ∧ q.1 < q.2 := by
  rw [e]
  exact begun_drawn v
theorem Bld.put {ws ts : List Str} {ov2 : Ovr} {ks : List Int} {a b : Int} (p : Bld ws ts ov2 ks) (h : (a, b) ∈ begun (wide ws) ts ts.length) (m : mayB ws a b = true) (la : look ov2 a = none) (lb : look ov2 b = none) : Bld ws ts (ov2 ++ [(a, b)] ++ [(b, a)]) (ks ++ [a]) := by
  refine ⟨p.v.put m la lb, fun ov v e => ?_⟩
  obtain ⟨lo, lt⟩ := (beg_look v e).mp h
  refine (p.pt ov v e).put v lo lt fun q => ?_
  have := ((p.pt ov v e).lk a b).mpr ⟨lo, .inl ⟨lt, q⟩⟩
  rw [la] at this
  cases this
theorem Bld.skip {ws ts : List Str} {ov2 : Ovr} {ks : List Int} {a b : Int} (p : Bld ws ts ov2 ks) (h : (a, b) ∈ begun (wide ws) ts ts.length) (g : ¬ (mayB ws a b = true ∧ look ov2 a = none ∧ look ov2 b = none)) : Bld ws ts ov2 (ks ++ [a]) := by
  refine ⟨p.v, fun ov v e => ?_⟩
  obtain ⟨lo, lt⟩ := (beg_look v e).mp h
  have i : a ∈ ks := by
    by_cases q : a ∈ ks
    · exact q
    · exact absurd ⟨v.may a b lo, (p.pt ov v e).free v lo lt q⟩ g
  refine (p.pt ov v e).cong fun k => ⟨fun q => ?_, fun q => List.mem_append_left _ q⟩
  rcases List.mem_append.mp q with q | q
  · exact q
  · rw [List.mem_singleton.mp q]
    exact i
/-- a slab that is begun and can't be laid: no laying is drawn so -/
theorem Bld.bad {ws ts : List Str} {ov2 : Ovr} {ks : List Int} {a b : Int} (p : Bld ws ts ov2 ks) (h : (a, b) ∈ begun (wide ws) ts ts.length) (n : a ∉ ks) (g : ¬ (mayB ws a b = true ∧ look ov2 a = none ∧ look ov2 b = none)) : ∀ ov, Vl ws ov → ts ≠ drawnR ws ov := fun ov v e => by
  obtain ⟨lo, lt⟩ := (beg_look v e).mp h
  exact g ⟨v.may a b lo, (p.pt ov v e).free v lo lt n⟩
theorem Bld.none {ws ts : List Str} {ov2 : Ovr} {ks : List Int} (p : Bld ws ts ov2 ks) (h : ∀ q ∈ begun (wide ws) ts ts.length, q.1 ∈ ks) (ne : ts ≠ drawnR ws ov2) : ∀ ov, Vl ws ov → ts ≠ drawnR ws ov := fun ov v e => by
  have pm := (p.pt ov v e).whole v fun k m lo lt => h (k, m) ((beg_look v e).mpr ⟨lo, lt⟩)
  exact ne (e.trans (drawnR_perm pm v.nd))
theorem drawn_shape {ws : List Str} {ov : Ovr} : (drawnR ws ov).length = ws.length ∧ ∀ a ∈ drawnR ws ov, a.length = wide ws := by
  refine ⟨drawnR_len ws ov, fun a ha => ?_⟩
  obtain ⟨r, _, rfl⟩ := List.mem_map.mp ha
  exact rowZ_len ws ov _
end Sf
namespace Sf
open PySem PySem.Spec PyProof.Rows L2 Gc
/-! ### lists of texts compared -/
def okTxt (a : Str) : Prop := ∀ c ∈ a.cps.toList, c < 0x110000
theorem sigD_ok (ws : List Str) (ov : Ovr) (p : Int) : okTxt (sigD ws ov p) := by
  have e1 : okTxt ("o" : Str) := by unfold okTxt; decide +kernel
  have e2 : okTxt ("<" : Str) := by unfold okTxt; decide +kernel
  have e3 : okTxt (">" : Str) := by unfold okTxt; decide +kernel
  have e4 : okTxt ("^" : Str) := by unfold okTxt; decide +kernel
  have e5 : okTxt ("v" : Str) := by unfold okTxt; decide +kernel
  have e6 : okTxt ("#" : Str) := by unfold okTxt; decide +kernel
  unfold sigD
  split
  · split
    · exact e1
    · split
      · split
        · exact e2
        · exact e3
      · split
        · exact e4
        · exact e5
  · exact e6
theorem drawnR_ok (ws : List Str) (ov : Ovr) : ∀ a ∈ drawnR ws ov, okTxt a := by
  intro a ha c hc
  obtain ⟨r, _, rfl⟩ := List.mem_map.mp ha
  have hc2 : c ∈ (Txt.join ("" : Str) (lineZ ws ov (((r : Nat) : Int) * ((wide ws : Nat) : Int)))).cps.toList := hc
  rw [join_flat] at hc2
  obtain ⟨b, hb, hcb⟩ := List.mem_flatMap.mp hc2
  obtain ⟨k, _, rfl⟩ := List.mem_map.mp hb
  exact sigD_ok ws ov _ c hcb
theorem rows_ok {ws : List Str} (w : Wf ws) : ∀ a ∈ ws, okTxt a := fun a ha c hc => by
  have q := w.sign a ha c hc
  unfold okSign at q
  omega
theorem shaped_ok {xs : List Str} (h : ∀ a ∈ xs, okTxt a) : SeqAt.shaped (.list (xs.map PyData.str)) = true := shaped_atoms fun d hd => by
  obtain ⟨a, ha, rfl⟩ := List.mem_map.mp hd
  refine ⟨?_, rfl⟩
  show a.cps.all (· < 0x110000) = true
  rw [← Array.all_toList, List.all_eq_true]
  intro c hc
  exact decide_eq_true (h a ha c hc)
theorem str_beq (a b : Str) : (a == b) = decide (a = b) := by
  by_cases h : a = b
  · subst h
    rw [decide_eq_true rfl]
    exact beq_self_eq_true a
  · rw [decide_eq_false h]
    exact beq_eq_false_iff_ne.mpr h
theorem eqv_strs : ∀ xs ys : List Str, PyData.eqvAll (xs.map PyData.str) (ys.map PyData.str) = decide (xs = ys)
  | [], [] => rfl
  | [], _ :: _ => rfl
  | _ :: _, [] => rfl
  | a :: r, b :: t => by
    show (PyData.eqv (.str a) (.str b) && PyData.eqvAll (r.map PyData.str) (t.map PyData.str)) = _
    rw [eqv_strs r t]
    show ((a == b) && _) = _
    rw [str_beq, Bool.eq_iff_iff]
    simp
theorem ne_texts {K : PySem.W.Frag} {H : Hp} {l1 l2 : Addr} {xs ys : List Str} (h : ∀ a ∈ xs, okTxt a) (h' : ∀ a ∈ ys, okTxt a) (h1 : SqL K H l1 (xs.map V.str)) (h2 : SqL K H l2 (ys.map V.str)) {Q : VK} (hQ : Q (.bl (!decide (xs = ys))) H) : rNeD K (.ref l1) (.ref l2) H Q := by
  refine ⟨_, _, .lst h1 (dp_strs xs), .lst h2 (dp_strs ys), shaped_ok h, shaped_ok h', ?_⟩
  show Q (.bl (!PyData.eqvAll (xs.map PyData.str) (ys.map PyData.str))) H
  rw [eqv_strs]
  exact hQ
theorem eq_texts {K : PySem.W.Frag} {H : Hp} {l1 l2 : Addr} {xs ys : List Str} (h : ∀ a ∈ xs, okTxt a) (h' : ∀ a ∈ ys, okTxt a) (h1 : SqL K H l1 (xs.map V.str)) (h2 : SqL K H l2 (ys.map V.str)) {Q : VK} (hQ : Q (.bl (decide (xs = ys))) H) : rEqD K (.ref l1) (.ref l2) H Q := by
  refine ⟨_, _, .lst h1 (dp_strs xs), .lst h2 (dp_strs ys), shaped_ok h, shaped_ok h', ?_⟩
  show Q (.bl (PyData.eqvAll (xs.map PyData.str) (ys.map PyData.str))) H
  rw [eqv_strs]
  exact hQ
end Sf
/-! A method called where what comes out of it hangs on the slots. -/
namespace Gm
open PySem PySem.Spec PyProof.Rows L2 L2H
section
variable {X : Cx} {CX : CXT} {k : Nat} {f C : Addr} {fd : FuncData} {ps : List Str} {sp : Sp} {E : L2.St → XK} {x m : Str} {pos apos : Pos} {e o : Expr} {es : List Expr} {ta : TE} {t : TA}
theorem pe_methS {pl : Sem Bool} (he : PE X o ta) (c : Cls X.K C) (hm : Meth X.K C m f) (F : FnOk X.prog X.w X.K X.mg X.base CX k f fd ps sp) (hr : Room k X.A) (hb : Binds X.K fd ps []) (hx : ∀ σ, PassesAt CX X σ (E σ)) (ha : PA X (e :: es) t)
    (hst : starEach (e :: es) X.env = (false, eval e X.env) :: starEach es X.env := by rfl) (hpl : (backTo pos (starEach es X.env)).any (·.1) = false := by rfl)
    (ht : eval (.Call (.Attribute o m apos) (e :: es) [] pos) X.env = (do
      let ov ← eval o X.env
      standAt apos.atName
      let (f, first) ← holding [ov] (getMethod ov m pl)
      callWith pos f first (backTo pos (starEach (e :: es) X.env)) (backToKw pos (keywordEach [] X.env))) := by rfl) :
    PE X (.Call (.Attribute o m apos) (e :: es) [] pos) (tMethH C m sp E ta t) := by
  refine ⟨fun pins s σ H Q I h => ?_⟩
  refine PySem.W.methodCall_KW (pl := pl) (thn (he.run pins s σ H _ I h) fun u s1 ⟨x, H1, I1, rx, a, dx, fs, ex, ea, l, q⟩ => ?_) ht
  subst ex
  obtain rfl : u = Value.ref a := rx
  refine getmeth_ok I1 ea c hm l ?_
  refine PySem.W.callWith_K (first := [.ref a]) (h₀ := X.base) I.ok.mod.kin hm.kp (thn (ha.run pos pins s1 σ H1 _ I1 q) fun us s2 ⟨vs, H2, I2, r, q2⟩ => ⟨I2.kIn, ?_⟩) hst hpl
  exact run_fnS (us := .ref a :: us) (vs := .ref a :: vs) F hr hb (hx σ) I2 (.cons rfl r) q2
end
end Gm
namespace Sf
open PySem PySem.Spec PyProof.Rows L2 L2H Gc Gm
def spCov (K : PySem.W.Frag) (C CL : Addr) : Sp := fun vs H Q _ => ∃ (y x df d t : Addr) (ws : List Str) (ov : Ovr) (i j : Int), vs = [.ref y, .ref t] ∧ LayD CL H y x d ov ∧ FloorD C H x df ws ∧ H t = some (.tup [.int i, .int j]) ∧ ov.length ≤ 900 ∧ putN ws ov i j = 3 ∧ Q (.bl true) H
/-- put again, the other way about: the dict holds the same pairs -/
def spAgain (C CL : Addr) : Sp := fun vs H Q _ => ∃ (y x df d t : Addr) (ws : List Str) (ov : Ovr) (i j : Int), vs = [.ref y, .ref t] ∧ LayD CL H y x d ov ∧ FloorD C H x df ws ∧ df ≠ d ∧ H t = some (.tup [.int i, .int j]) ∧ Wf ws ∧ Vl ws ov ∧ look ov i = some j ∧
  ∀ (ov2 : Ovr) (H' : Hp), ov.Perm ov2 → Keep d H H' → LayD CL H' y x d ov2 → Q (.bl true) H'
def spTaken (K : PySem.W.Frag) (C CL : Addr) : Sp := fun vs H Q _ => ∃ (l y x df d : Addr) (ws : List Str) (ov : Ovr) (c : Nat), vs = [.ref l, .ref y, .int c] ∧ SqL K H l (ws.map V.str) ∧ LayD CL H y x d ov ∧ FloorD C H x df ws ∧ df ≠ d ∧ Wf ws ∧ Vl ws ov ∧ c ∈ cellsOf ws ∧ look ov (c : Int) = none ∧
  ∀ (ov2 : Ovr) (H' : Hp), ov.Perm ov2 → Keep d H H' → LayD CL H' y x d ov2 → Q (.bl true) H'
section
variable {P : Program} {w : World} {K : PySem.W.Frag} {mg : Str → Option Value} {base : Heap} {C CL cN cB cC cU : Addr}
theorem sc_law_covered : FnScope ["_law_laying", "_law_slab"] ["_law_laying", "_law_slab"] (defScope s_law_covered) := ⟨rfl, rfl, rfl, by decide +kernel, rfl, by decide +kernel, by decide +kernel⟩
theorem ok_covered (D : Df K mg "_law_covered" s_law_covered ["_law_laying", "_law_slab"]) (L : LTxt K mg CL) (gC : mg "Covered" = some (.ref cC)) (xC : PySem.W.exmOne K (.ref cC) (.ref cC) = some true)
    (c_put : Cm P w K mg base (L2.CX P w) 3 CL "put" ["self", "one", "other"] (spPut C CL cN cB cC cU)) :
    Cl P w K mg base CX0 4 "_law_covered" ["_law_laying", "_law_slab"] (spCov K C CL) := D.cl fun f fd F => by
  obtain ⟨fp, fdp, GP, mP, bP⟩ := c_put.ex
  refine F.ok sc_law_covered (fun vs H Q E h => ?_) (fun cdv A outer s H vs Q E hr h => ?_)
  · obtain ⟨y, x, df, d, t, ws, ov, i, j, rfl, _⟩ := h
    rfl
  · obtain ⟨y, x, df, d, t, ws, ov, i, j, rfl, ⟨dy, la⟩, ⟨dx, lr, g, fa⟩, ht, hn, hp, hQ⟩ := h
    refine ⟨_, pss_cons (ps_try_only (tb := fun W => tDrop (tMethH CL "put" (spPut C CL cN cB cC cU) (WE W) (tVar 0) (tCons (tOp (rIxT K) (tVar 1) (tC (.int 0))) (tCons (tOp (rIxT K) (tVar 1) (tC (.int 1))) tNil)))) (ts := fun _ _ _ => tRet (tC (.bl true))) (Wout := fun _ _ _ _ => False) rfl rfl ⟨rfl, by decide, Or.inl gC⟩ takes0
        (fun W pn xe tk _ => pss_one (ps_expr (by exact (pe_methS (pv 0) L.cl mP GP hr bP (fun σ => passAt tk σ) (pa_cons (pe_ix ix_tup (pv 1) pe_int (fun _ _ => rfl)) (pa_cons (pe_ix ix_tup (pv 1) pe_int (fun _ _ => rfl)) pa_nil))))))
        (fun a oe cls d pn hz hf => pss_one (ps_ret pe_bl)))
      (pss_one (ps_ret pe_bl)), ?_⟩
    refine ⟨_, rfl, y, dy, _, rfl, la.ob, lfl_no x d (by decide +kernel) (by decide +kernel), _, rfl, t, _, _, _, rfl, rfl, SqT.of ht, atI_nat (j := 0) rfl, _, rfl, t, _, _, _, rfl, rfl, SqT.of ht, atI_nat (j := 1) rfl, y, dy, x, dx, lr, df, d, g, ws, ov, i, j, rfl, la, fa, hn, fun h0 => ?_, fun _ => ?_⟩
    · rw [hp] at h0
      cases h0
    · rw [hp]
      exact ⟨true, xC, fun _ a ha => hQ, fun q => Bool.noConfusion q⟩
theorem sc_law_put_again : FnScope ["_law_laying", "_law_slab"] ["_law_laying", "_law_slab"] (defScope s_law_put_again) := ⟨rfl, rfl, rfl, by decide +kernel, rfl, by decide +kernel, by decide +kernel⟩
theorem ok_again (D : Df K mg "_law_put_again" s_law_put_again ["_law_laying", "_law_slab"]) (L : LTxt K mg CL)
    (c_law_covered : Cl P w K mg base CX0 4 "_law_covered" ["_law_laying", "_law_slab"] (spCov K C CL))
    (c_Laying_put : Cm P w K mg base CX0 3 CL "put" ["self", "one", "other"] (spPut0 C CL)) (c_Laying_lift : Cm P w K mg base CX0 3 CL "lift" ["self", "cell"] (spLift0 C CL)) :
    Cl P w K mg base CX0 5 "_law_put_again" ["_law_laying", "_law_slab"] (spAgain C CL) := D.cl fun f fd F => by
  refine F.ok sc_law_put_again (fun vs H Q E h => ?_) (fun cdv A outer s H vs Q E hr h => ?_)
  · obtain ⟨y, x, df, d, t, ws, ov, i, j, rfl, _⟩ := h
    rfl
  · obtain ⟨y, x, df, d, t, ws, ov, i, j, rfl, la, fl, ne, ht, hw, v, hij, hQ⟩ := h
    refine ⟨_, (pss_cons (ps_if (pt_not (pt_val (pe_cl c_law_covered (hr.mono (by decide)) rfl (pa_cons (pv 0) (pa_cons (pv 1) pa_nil))))) (pss_one (ps_ret pe_bl)) pss_nil)
      (pss_cons (ps_expr (pe_cm (pv 0) L.cl c_Laying_lift (hr.mono (by decide)) (pa_cons (pe_ix ix_tup (pv 1) pe_int (fun _ _ => rfl)) pa_nil)))
      (pss_cons (ps_expr (pe_cm (pv 0) L.cl c_Laying_put (hr.mono (by decide)) (pa_cons (pe_ix ix_tup (pv 1) pe_int (fun _ _ => rfl)) (pa_cons (pe_ix ix_tup (pv 1) pe_int (fun _ _ => rfl)) pa_nil))))
      (pss_one (ps_ret (pe_cl c_law_covered (hr.mono (by decide)) rfl (pa_cons (pv 0) (pa_cons (pv 1) pa_nil)))))))), ?_⟩
    have len := v.len hw
    have hji := v.sym i j hij
    have my := v.may i j hij
    have nij := may_ne my
    have p3 : ∀ {ov : Ovr} {j2 : Int}, look ov i = some j2 → putN ws ov i j = 3 := fun {ov j2} h => by
      obtain ⟨c1, c2⟩ := may_cell my
      unfold putN has
      rw [c1, c2, my, h]
      rfl
    refine ⟨_, rfl, _, rfl, y, x, df, d, t, ws, ov, i, j, rfl, la, fl, ht, by omega, p3 hij, _, rfl, ?_⟩
    refine iteF ?_
    obtain ⟨dy, la0⟩ := la
    refine ⟨_, rfl, y, dy, _, rfl, la0.ob, lfl_no x d (by decide +kernel) (by decide +kernel), _, rfl, t, _, _, _, rfl, rfl, SqT.of ht, atI_nat (j := 1) rfl, y, x, df, d, ws, ov, j, i, rfl, ⟨dy, la0⟩, fl, v, hji, fun H1 k1 d1 => ?_⟩
    have la1 : LayD CL H1 y x d (lifted ov j i) := LayD.wrote ⟨dy, la0⟩ k1 d1
    have fl1 := fl.keep la0.dc ne k1
    have t1 := k1.at la0.dc ht (fun _ z => by cases z)
    obtain ⟨dy1, lb⟩ := la1
    have v1 := v.lift hji
    have lj : look (lifted ov j i) j = none := by rw [look_lifted, if_neg nij.symm, if_pos rfl]
    have li : look (lifted ov j i) i = none := by rw [look_lifted, if_pos rfl]
    have my2 : mayB ws j i = true := by rw [mayB_symm]; exact my
    refine ⟨_, rfl, y, dy1, _, rfl, lb.ob, lfl_no x d (by decide +kernel) (by decide +kernel), _, rfl, t, _, _, _, rfl, rfl, SqT.of t1, atI_nat (j := 1) rfl, _, rfl, t, _, _, _, rfl, rfl, SqT.of t1, atI_nat (j := 0) rfl, y, x, df, d, ws, lifted ov j i, j, i, rfl, ⟨dy1, lb⟩, fl1, Nat.le_trans (v1.len hw) (by decide), putN0 my2 lj li, fun H2 k2 d2 => ?_⟩
    have la2 : LayD CL H2 y x d (lifted ov j i ++ [(j, i)] ++ [(i, j)]) := LayD.wrote ⟨dy1, lb⟩ k2 d2
    have v2 := v1.put my2 lj li
    refine ⟨_, rfl, _, rfl, y, x, df, d, t, ws, _, i, j, rfl, la2, fl1.keep lb.dc ne k2, k2.at lb.dc t1 (fun _ z => by cases z), Nat.le_trans (v2.len hw) (by decide), p3 (j2 := j) (by rw [look_put nij.symm lj li, if_pos rfl]), ?_⟩
    exact hQ _ H2 (lift_put_perm v.nd hji hij nij.symm) (k1.trans k2) la2
end
end Sf
namespace Sf
open PySem PySem.Spec PyProof.Rows L2 Gc
theorem filter_off {ov : Ovr} {i : Int} (h : look ov i = none) : (ov.filter fun p => decide (p.1 ≠ i)) = ov := List.filter_eq_self.mpr fun p hp => decide_eq_true fun e => look_none.mp h (List.mem_map.mpr ⟨p, hp, e⟩)
theorem lifted_put {ov : Ovr} {i j : Int} (li : look ov i = none) (lj : look ov j = none) : lifted (ov ++ [(i, j)] ++ [(j, i)]) j i = ov := by
  unfold lifted
  rw [List.filter_append, List.filter_append, List.filter_append, List.filter_append, filter_off lj, filter_off li]
  have e1 : ([(j, i)] : Ovr).filter (fun p => decide (p.1 ≠ j)) = [] := by
    rw [List.filter_cons, if_neg (by simp), List.filter_nil]
  rw [e1, List.filter_nil, List.append_nil]
  by_cases e : i = j
  · have e2 : ([(i, j)] : Ovr).filter (fun p => decide (p.1 ≠ j)) = [] := by
      rw [List.filter_cons, if_neg (by simp [e]), List.filter_nil]
    rw [e2, List.filter_nil, List.append_nil]
  · have e2 : ([(i, j)] : Ovr).filter (fun p => decide (p.1 ≠ j)) = [(i, j)] := by
      rw [List.filter_cons, if_pos (by simp [e]), List.filter_nil]
    rw [e2, List.filter_cons, if_neg (by simp), List.filter_nil, List.append_nil]
theorem in_bare {ws : List Str} {ov : Ovr} {c : Int} (h : has ov c = true) : inV (V.int c) ((bareOf ws ov).map V.int) = false := by
  rw [in_ints]
  refine decide_eq_false fun q => ?_
  unfold bareOf at q
  have := (List.mem_filter.mp q).2
  rw [h] at this
  cases this
def offM (ov : Ovr) (o : Int) : List Int → Ovr
  | [] => ov
  | m :: _ => lifted ov m o
def onM (ov : Ovr) (o : Int) : List Int → Ovr
  | [] => ov
  | m :: _ => ov ++ [(m, o)] ++ [(o, m)]
section
variable {P : Program} {w : World} {K : PySem.W.Frag} {mg : Str → Option Value} {base : Heap} {C CL : Addr}
theorem sc_law_bare_taken : FnScope ["_law_rows_here", "_law_laying", "_law_cell", "_law_near", "_law_other", "_law_mates", "_law_mate", "_law_good"] ["_law_rows_here", "_law_laying", "_law_cell"] (defScope s_law_bare_taken) := ⟨rfl, rfl, rfl, by decide +kernel, rfl, by decide +kernel, by decide +kernel⟩
theorem ok_taken (D : Df K mg "_law_bare_taken" s_law_bare_taken ["_law_rows_here", "_law_laying", "_law_cell"]) (B : Bi mg) (L : LTxt K mg CL)
    (c_law_beside : Cl P w K mg base CX0 2 "_law_beside" ["_law_rows_here", "_law_place"] (spLBeside K)) (c_Laying_bare : Cm P w K mg base CX0 2 CL "bare" ["self"] (spBare0 C CL))
    (c_Laying_put : Cm P w K mg base CX0 3 CL "put" ["self", "one", "other"] (spPut0 C CL)) (c_Laying_lift : Cm P w K mg base CX0 3 CL "lift" ["self", "cell"] (spLift0 C CL)) :
    Cl P w K mg base CX0 4 "_law_bare_taken" ["_law_rows_here", "_law_laying", "_law_cell"] (spTaken K C CL) := D.cl fun f fd F => by
  refine F.ok sc_law_bare_taken (fun vs H Q E h => ?_) (fun cdv A outer s H vs Q E hr h => ?_)
  · obtain ⟨l, y, x, df, d, ws, ov, c, rfl, _⟩ := h
    rfl
  · obtain ⟨l, y, x, df, d, ws, ov, c, rfl, hS, la, fl, nd, hw, v, hc, lc, hQ⟩ := h
    have hu := hu_of hr
    refine ⟨_, (pss_cons (ps_set (i := 3) sc_law_bare_taken.nd rfl (Or.inl rfl) (pe_cl c_law_beside (hr.mono (by decide)) rfl (pa_cons (pv 0) (pa_cons (pv 2) pa_nil))))
      (pss_cons (ps_if (pt_cmpR op_eq (pe_callB call_len (by rfl) B.len PySem.boot_len (pa_cons (pv 3) pa_nil)) pe_int (nomark _)) (pss_one (ps_ret pe_bl)) pss_nil)
      (pss_cons (ps_set (i := 4) sc_law_bare_taken.nd rfl (Or.inl rfl) (pe_ix ix_list (pv 3) pe_int (fun _ _ => rfl)))
      (C8.pss_cut (ps_set (i := 5) sc_law_bare_taken.nd rfl (Or.inl rfl) (pe_ifExp (pt_cmp (pc_din hu (pv 4) (pe_fld (pv 1) rfl)) rfl) (pe_lst (pa_cons (pe_dget hu (pe_fld (pv 1) rfl) (pv 4) (fun _ _ => rfl)) pa_nil)) (pe_lst pa_nil)))
      (pss_cons (ps_for PassesOwn.never rfl (pi_list (pv 5)) (pg_name (i := 6) sc_law_bare_taken.nd rfl (Or.inl rfl)) (pss_one (ps_expr (pe_cm (pv 1) L.cl c_Laying_lift (hr.mono (by decide)) (pa_cons (pv 6) pa_nil)))))
      (pss_cons (ps_expr (pe_cm (pv 1) L.cl c_Laying_put (hr.mono (by decide)) (pa_cons (pv 4) (pa_cons (pv 2) pa_nil))))
      (pss_cons (ps_set (i := 7) sc_law_bare_taken.nd rfl (Or.inl rfl) (pe_and (pe_cmp (pc_din hu (pv 2) (pe_fld (pv 1) rfl)) rfl) (pe_and (pe_cmpR op_eq (pe_dget hu (pe_fld (pv 1) rfl) (pv 2) (fun _ _ => rfl)) (pv 4) (nomark _)) (pe_one (pe_cmpR op_notIn_seq (pv 2) (pe_cm0 (pv 1) L.cl c_Laying_bare (hr.mono (by decide))) (by rfl))))))
      (pss_cons (ps_expr (pe_cm (pv 1) L.cl c_Laying_lift (hr.mono (by decide)) (pa_cons (pv 2) pa_nil)))
      (pss_cons (ps_for PassesOwn.never rfl (pi_list (pv 5)) (pg_name (i := 6) sc_law_bare_taken.nd rfl (Or.inl rfl)) (pss_one (ps_expr (pe_cm (pv 1) L.cl c_Laying_put (hr.mono (by decide)) (pa_cons (pv 6) (pa_cons (pv 4) pa_nil))))))
      (pss_one (ps_ret (pv 7)))))))))))), ?_⟩
    have len := v.len hw
    refine ⟨_, rfl, _, rfl, l, ws, c, rfl, hS, hw, hc, fun ln H1 s1 hln h1 => ?_⟩
    refine ⟨_, rfl, _, _, rfl, .inl ⟨_, SqL.of h1, rfl⟩, rfl, _, rfl, ?_⟩
    rw [List.length_map]
    cases hnb : nbsP ws c with
    | nil =>
      refine iteTd rfl ?_
      exact hQ ov H1 (List.Perm.refl _) (Keep.of s1) (la.same s1)
    | cons o r =>
    refine (if_neg (fun q => by
      have e := V.int.inj (of_decide_eq_true q)
      rw [List.length_cons] at e
      omega)).mpr ?_
    rw [hnb] at h1
    have my : mayB ws (c : Int) o = true := may_nbs.mpr ⟨isCell_nat.mpr hc, by rw [Int.toNat_natCast, hnb]; exact List.mem_cons_self⟩
    have my2 : mayB ws o (c : Int) = true := by rw [mayB_symm]; exact my
    have nco := may_ne my
    refine ⟨_, rfl, _, _, _, _, rfl, rfl, SqL.of h1, atI_nat (j := 0) rfl, ?_⟩
    have la1 := la.same s1
    obtain ⟨dy1, lb1⟩ := la1
    let ms : List Int := match look ov o with | some m => [m] | none => []
    refine ⟨fun σ' H' => ∃ lm, σ' = [some (.ref l), some (.ref y), some (.int (c : Int)), some (.ref ln), some (.int o), some (.ref lm), none, none] ∧ Same H1 H' ∧ H' lm = some (.lst (ms.map V.int)), ?_, ?_⟩
    · refine ⟨_, rfl, _, rfl, y, CL, dy1, _, _, rfl, lb1.ob, L.cl, L.nO, lfl_over _ _, d, _, rfl, dget lb1.dc o, _, rfl, ?_⟩
      cases hlo : look ov o with
      | some m =>
        refine iteT ?_
        have dg := dget lb1.dc o
        rw [hlo] at dg
        refine ⟨_, rfl, y, CL, dy1, _, _, rfl, lb1.ob, L.cl, L.nO, lfl_over _ _, _, rfl, d, _, rfl, dg, (by show 1 ≤ sizeLine; decide), fun lm hlm => ⟨lm, rfl, same_new hlm, ?_⟩⟩
        rw [upd_same]
        show _ = some (HO.lst ((match look ov o with | some m => [m] | none => []).map V.int))
        rw [hlo]
        rfl
      | none =>
        refine iteF ?_
        refine ⟨(by show 0 ≤ sizeLine; decide), fun lm hlm => ⟨lm, rfl, same_new hlm, ?_⟩⟩
        rw [upd_same]
        show _ = some (HO.lst ((match look ov o with | some m => [m] | none => []).map V.int))
        rw [hlo]
        rfl
    rintro _ H2 ⟨lm, rfl, s12, hlm⟩
    have s2 := s1.trans s12
    have msl : ∀ m, m ∈ ms → look ov o = some m := fun m hm => by
      have e : ms = match look ov o with | some m => [m] | none => [] := rfl
      rw [e] at hm
      cases q : look ov o with
      | none => rw [q] at hm; cases hm
      | some z => rw [q] at hm; rw [List.mem_singleton.mp hm]
    have msn : ms = [] → look ov o = none := fun e0 => by
      have e : ms = match look ov o with | some m => [m] | none => [] := rfl
      rw [e] at e0
      cases q : look ov o with
      | none => rfl
      | some z => rw [q] at e0; cases e0
    have ms1 : ms.length ≤ 1 := by
      have e : ms = match look ov o with | some m => [m] | none => [] := rfl
      rw [e]
      cases look ov o with
      | none => exact Nat.zero_le _
      | some z => exact Nat.le_refl _
    -- the mates are lifted
    refine ⟨_, rfl, lm, rfl, ⟨_, SqL.of hlm⟩, for_list (K := K) (a := lm) (xs := ms.map V.int) (fun i σ H3 => ∃ (v6 : Option V), σ = [some (.ref l), some (.ref y), some (.int (c : Int)), some (.ref ln), some (.int o), some (.ref lm), v6, none] ∧ Keep d H2 H3 ∧ H3 lm = some (.lst (ms.map V.int)) ∧
      LayD CL H3 y x d (offM ov o (ms.take i)))
      ⟨none, rfl, Keep.refl _ _, hlm, la.same s2⟩ (fun i σ H3 _ ⟨_, _, _, h3, _⟩ => SqL.of h3) ?_ ?_⟩
    · rintro i z σ H3 hi ⟨v6, rfl, k3, lm3, la3⟩
      obtain ⟨m, hm, rfl, tk⟩ := int_el hi
      have i0 : i = 0 := by
        have := (List.getElem?_eq_some_iff.mp hm).1
        omega
      subst i0
      have la3' : LayD CL H3 y x d ov := la3
      have lo := msl m (List.mem_of_getElem? hm)
      have lmo := v.sym o m lo
      have fl3 := (fl.same s2).keep (la.same s2).dc nd k3
      obtain ⟨dy3, lb3⟩ := la3'
      refine ⟨_, rfl, y, dy3, _, rfl, lb3.ob, lfl_no x d (by decide +kernel) (by decide +kernel), _, rfl, y, x, df, d, ws, ov, m, o, rfl, ⟨dy3, lb3⟩, fl3, v, lmo, fun H4 k4 d4 => ?_⟩
      refine ⟨_, rfl, k3.trans k4, k4.at lb3.dc lm3 (fun _ z => by cases z), ?_⟩
      rw [tk]
      exact LayD.wrote ⟨dy3, lb3⟩ k4 d4
    rintro σ H3 ⟨v6, rfl, k3, lm3, la3⟩
    rw [List.length_map, List.take_length] at la3
    have fl3 := (fl.same s2).keep (la.same s2).dc nd k3
    obtain ⟨ovA, eA, vA, lAo, lAc, cs⟩ : ∃ ovA, offM ov o ms = ovA ∧ Vl ws ovA ∧ look ovA o = none ∧ look ovA (c : Int) = none ∧ ((ms = [] ∧ ovA = ov) ∨ ∃ m, ms = [m] ∧ look ov o = some m ∧ ovA = lifted ov m o) := by
      match hms : ms, ms1 with
      | [], _ =>
        exact ⟨ov, rfl, v, msn rfl, lc, .inl ⟨rfl, rfl⟩⟩
      | [m], _ =>
        have lo : look ov o = some m := msl m List.mem_cons_self
        refine ⟨lifted ov m o, rfl, v.lift (v.sym o m lo), by rw [look_lifted, if_pos rfl], ?_, .inr ⟨m, rfl, lo, rfl⟩⟩
        rw [look_lifted, lc]
        split
        · rfl
        · split <;> rfl
    rw [eA] at la3
    obtain ⟨dy3, lb3⟩ := la3
    -- put
    refine ⟨_, rfl, y, dy3, _, rfl, lb3.ob, lfl_no x d (by decide +kernel) (by decide +kernel), _, rfl, _, rfl, y, x, df, d, ws, ovA, o, (c : Int), rfl, ⟨dy3, lb3⟩, fl3, Nat.le_trans (vA.len hw) (by decide), putN0 my2 lAo lAc, fun H4 k4 d4 => ?_⟩
    have la4 : LayD CL H4 y x d (ovA ++ [(o, (c : Int))] ++ [((c : Int), o)]) := LayD.wrote ⟨dy3, lb3⟩ k4 d4
    have fl4 := fl3.keep lb3.dc nd k4
    have lm4 := k4.at lb3.dc lm3 (fun _ z => by cases z)
    have v4 := vA.put my2 lAo lAc
    have lkc : look (ovA ++ [(o, (c : Int))] ++ [((c : Int), o)]) (c : Int) = some o := by rw [look_put nco.symm lAo lAc, if_pos rfl]
    generalize hB : ovA ++ [(o, (c : Int))] ++ [((c : Int), o)] = ovB at la4 v4 lkc
    obtain ⟨dy4, lb4⟩ := la4
    have dg := dget lb4.dc (c : Int)
    rw [lkc] at dg
    -- good
    refine ⟨_, rfl, _, rfl, y, CL, dy4, _, _, rfl, lb4.ob, L.cl, L.nO, lfl_over _ _, d, _, rfl, dg, _, rfl, ?_⟩
    refine iteT ?_
    refine ⟨_, rfl, y, CL, dy4, _, _, rfl, lb4.ob, L.cl, L.nO, lfl_over _ _, _, rfl, d, _, rfl, dg, _, rfl, rfl, _, rfl, ?_⟩
    refine iteTd rfl ?_
    refine ⟨_, rfl, _, rfl, y, dy4, _, rfl, lb4.ob, lfl_no x d (by decide +kernel) (by decide +kernel), y, x, df, d, ws, ovB, rfl, ⟨dy4, lb4⟩, fl4, hw, fun lb H5 s5 hlb h5 => ?_⟩
    refine ⟨_, _, rfl, .inl (SqL.of h5), rfl, flat_ints _, ?_⟩
    rw [in_bare (by unfold has; rw [lkc] <;> rfl)]
    have lb5 := lb4.same s5
    -- lift
    refine ⟨_, rfl, y, dy4, _, rfl, lb5.ob, lfl_no x d (by decide +kernel) (by decide +kernel), _, rfl, y, x, df, d, ws, ovB, (c : Int), o, rfl, ⟨dy4, lb5⟩, fl4.same s5, v4, lkc, fun H6 k6 d6 => ?_⟩
    rw [← hB, lifted_put lAo lAc] at d6
    have la6 : LayD CL H6 y x d ovA := LayD.wrote ⟨dy4, lb5⟩ k6 d6
    have lm6 := k6.at lb5.dc (s5 _ _ lm4) (fun _ z => by cases z)
    have fl6 := (fl4.same s5).keep lb5.dc nd k6
    have kk : Keep d H H6 := (((Keep.of s2).trans k3).trans k4).trans ((Keep.of s5).trans k6)
    -- the mates are put back
    refine ⟨_, rfl, lm, rfl, ⟨_, SqL.of lm6⟩, for_list (K := K) (a := lm) (xs := ms.map V.int) (fun i σ H7 => ∃ (v6 : Option V), σ = [some (.ref l), some (.ref y), some (.int (c : Int)), some (.ref ln), some (.int o), some (.ref lm), v6, some (.bl true)] ∧ Keep d H H7 ∧ FloorD C H7 x df ws ∧ H7 lm = some (.lst (ms.map V.int)) ∧
      LayD CL H7 y x d (onM ovA o (ms.take i)))
      ⟨v6, rfl, kk, fl6, lm6, la6⟩ (fun i σ H3 _ ⟨_, _, _, _, h3, _⟩ => SqL.of h3) ?_ ?_⟩
    · rintro i z σ H7 hi ⟨v6, rfl, k7, fl7, lm7, la7⟩
      obtain ⟨m, hm, rfl, tk⟩ := int_el hi
      have i0 : i = 0 := by
        have := (List.getElem?_eq_some_iff.mp hm).1
        omega
      subst i0
      have la7' : LayD CL H7 y x d ovA := la7
      have lo := msl m (List.mem_of_getElem? hm)
      have lAm : look ovA m = none := by
        rcases cs with ⟨e, _⟩ | ⟨m2, e, lo2, eq⟩
        · rw [e] at hm
          cases hm
        · rw [lo] at lo2
          rw [eq, ← Option.some.inj lo2, look_lifted, if_pos rfl]
          split <;> rfl
      obtain ⟨dy7, lb7⟩ := la7'
      refine ⟨_, rfl, y, dy7, _, rfl, lb7.ob, lfl_no x d (by decide +kernel) (by decide +kernel), _, rfl, _, rfl, y, x, df, d, ws, ovA, m, o, rfl, ⟨dy7, lb7⟩, fl7, Nat.le_trans (vA.len hw) (by decide), putN0 (by rw [mayB_symm]; exact v.may o m lo) lAm lAo, fun H8 k8 d8 => ?_⟩
      refine ⟨_, rfl, k7.trans k8, fl7.keep lb7.dc nd k8, k8.at lb7.dc lm7 (fun _ z => by cases z), ?_⟩
      rw [tk]
      exact LayD.wrote ⟨dy7, lb7⟩ k8 d8
    rintro σ H7 ⟨v6, rfl, k7, fl7, lm7, la7⟩
    rw [List.length_map, List.take_length] at la7
    refine ⟨_, rfl, ?_⟩
    rcases cs with ⟨e, eq⟩ | ⟨m, e, lo, eq⟩
    · rw [e] at la7
      exact hQ ovA H7 (by rw [eq]) k7 la7
    · rw [e] at la7
      have lmo := v.sym o m lo
      refine hQ _ H7 ?_ k7 la7
      show ov.Perm (ovA ++ [(m, o)] ++ [(o, m)])
      rw [eq]
      exact lift_put_perm v.nd lmo lo (may_ne (v.may m o lmo))
end
end Sf
namespace Sf
open PySem PySem.Spec PyProof.Rows L2
section
variable {P : Program} {w : World} {K : PySem.W.Frag} {mg : Str → Option Value} {base : Heap}
def spCopied (CL : Addr) : Sp := fun vs H Q _ => ∃ (y dy x d : Addr) (ov : Ovr), vs = [.ref y] ∧ LayAt CL H y dy x d ov ∧
  ∀ (y2 dy2 d2 : Addr) (H' : Hp), Same H H' → H y2 = none → H d2 = none → LayAt CL H' y2 dy2 x d2 ov → Q (.ref y2) H'
theorem scCopied : FnScope ["self", "other"] ["self"] (defScope sLaying_copied) := ⟨rfl, rfl, rfl, by decide +kernel, rfl, by decide +kernel, by decide +kernel⟩
theorem ok_copied {f fI CL : Addr} {fd fdI : FuncData} (F : Fun K "copied" "Laying.copied" sLaying_copied f fd) (L : LTxt K mg CL) (M : Mk K CL fI) (GI : FnOk P w K mg base CX0 1 fI fdI ["self", "floor"] (spLInit CL)) (bI : Binds K fdI ["self", "floor"] []) (gd : mg "dict" = none) :
    FnOk P w K mg base CX0 3 f fd ["self"] (spCopied CL) := by
  refine F.ok scCopied (fun vs H Q E h => ?_) (fun cdv A outer s H vs Q E hr h => ?_)
  · obtain ⟨y, dy, x, d, ov, rfl, _⟩ := h
    rfl
  · obtain ⟨y, dy, x, d, ov, rfl, la, hQ⟩ := h
    refine ⟨_, pss_cons (ps_set (i := 1) scCopied.nd rfl (Or.inl rfl) (pe_make M GI hr rfl L.mgC bI .nil pass0 (pa_cons (pe_fld (pv 0) rfl) pa_nil)))
      (pss_cons (ps_fld (pv 1) (pe_callTy call_dictD (by rfl) gd rfl (pa_cons (pe_fld (pv 0) rfl) pa_nil)) rfl)
      (pss_one (ps_ret (pv 1)))), ?_⟩
    refine ⟨_, rfl, y, CL, dy, _, _, rfl, la.ob, L.cl, L.nF, lfl_floor _ _, fun y2 dy2 ny ndy ney => ?_⟩
    refine ⟨y2, dy2, x, rfl, upd_same, fun d1 H1 hd1 k1 la1 => ⟨rfl, ?_⟩⟩
    have s1 : Same H H1 := fun b o e => k1 b o (ne_of_none e ny) (by rw [upd_ne (ne_of_none e ny), upd_ne (ne_of_none e ndy)]; exact e)
    have laA := la.same s1
    refine ⟨_, rfl, y, CL, dy, _, _, rfl, laA.ob, L.cl, L.nO, lfl_over _ _, d, dk ov, rfl, .inl laA.dc, fun d2 hd2 => ?_⟩
    have s2 : Same H1 (upd H1 d2 (.dK (dk ov))) := Same.new hd2
    have ny2 : d2 ≠ y2 := fun q => by rw [q, la1.ob] at hd2; cases hd2
    refine ⟨_, rfl, y2, CL, dy2, _, rfl, s2 _ _ la1.ob, L.cl, L.nO, (by show 2 < 1000; decide), ?_⟩
    refine ⟨_, rfl, ?_⟩
    have h0 : H d2 = none := by
      cases q : H d2 with
      | none => rfl
      | some o =>
        have := s1 _ _ q
        rw [hd2] at this
        cases this
    refine hQ y2 dy2 d2 _ (fun b o e => ?_) ny h0 ⟨?_, ?_⟩
    · rw [upd_ne (ne_of_none e ny)]
      exact s2 _ _ (s1 _ _ e)
    · rw [upd_same]
      rfl
    · rw [upd_ne ny2, upd_same]
end
end Sf
namespace Sf
open PySem PySem.Spec PyProof.Rows L2 Gc
def spCopied0 (CL : Addr) : Sp := fun vs H Q _ => ∃ (y x d : Addr) (ov : Ovr), vs = [.ref y] ∧ LayD CL H y x d ov ∧
  ∀ (y2 d2 : Addr) (H' : Hp), Same H H' → H y2 = none → H d2 = none → LayD CL H' y2 x d2 ov → Q (.ref y2) H'
section
variable {P : Program} {w : World} {K : PySem.W.Frag} {mg : Str → Option Value} {base : Heap} {C CL cN cB cC cU : Addr}
theorem copied0 (c : Cm P w K mg base CX0 3 CL "copied" ["self"] (spCopied CL)) : Cm P w K mg base CX0 3 CL "copied" ["self"] (spCopied0 CL) := c.imp fun vs H Q E h => by
  obtain ⟨y, x, d, ov, rfl, ⟨dy, la⟩, hQ⟩ := h
  exact ⟨y, dy, x, d, ov, rfl, la, fun y2 dy2 d2 H' s h1 h2 l => hQ y2 d2 H' s h1 h2 ⟨dy2, l⟩⟩
end
end Sf
/-! The first ones of a list. -/
namespace Gc
open PySem PySem.Spec PyProof.Rows L2
theorem cut_first {α : Type} (f : α → V) (ws : List α) (k : Nat) : cutV (ws.map f) none (some (k : Int)) = (ws.take k).map f := by
  unfold cutV
  rw [HT.sIx_none, HT.sIx_nat, List.drop_zero, Nat.sub_zero, ← List.map_take, List.length_map]
  congr 1
  rcases Nat.le_total k ws.length with h | h
  · rw [Nat.min_eq_left h]
  · rw [Nat.min_eq_right h, List.take_of_length_le (Nat.le_refl _), List.take_of_length_le h]
theorem cut_rest {α : Type} (f : α → V) (ws : List α) (k : Nat) : cutV (ws.map f) (some (k : Int)) none = (ws.drop k).map f := by
  unfold cutV
  rw [HT.sIx_none, HT.sIx_nat, ← List.map_drop, ← List.map_take, List.length_map]
  congr 1
  rcases Nat.le_total k ws.length with h | h
  · rw [Nat.min_eq_left h, List.take_of_length_le]
    rw [List.length_drop]
    exact Nat.le_refl _
  · rw [Nat.min_eq_right h, Nat.sub_self, List.take_zero, List.drop_of_length_le h]
end Gc
namespace Sf
open PySem PySem.Spec PyProof.Rows L2 Gc
theorem sorted_one {a b : List Int} (p : a.Perm b) (ha : a.Pairwise (· ≤ ·)) (hb : b.Pairwise (· ≤ ·)) : a = b :=
  p.eq_of_pairwise (fun _ _ _ _ h1 h2 => Int.le_antisymm h1 h2) ha hb
def pairD (p : Int × Int) : PyData := .tuple [.int p.1, .int p.2]
theorem dp_pairs {K : PySem.W.Frag} {H : Hp} : ∀ (ts : List Addr) (ps : List (Int × Int)), TupsAt H ts ps → DpAll K H (ts.map V.ref) (ps.map pairD)
  | [], [], _ => .nil
  | [], _ :: _, h => by have := h.1; simp at this
  | _ :: _, [], h => by have := h.1; simp at this
  | t :: ts, p :: ps, h => .cons (.tup (SqT.of (h.2 0 t p rfl rfl)) (.cons (.int p.1) (.cons (.int p.2) .nil))) (dp_pairs ts ps ⟨by have := h.1; simpa using this, fun i t' p' h1 h2 => h.2 (i + 1) t' p' h1 h2⟩)
theorem shaped_pairs (ps : List (Int × Int)) : SeqAt.shaped (.list (ps.map pairD)) = true := by
  have h1 : ∀ ps : List (Int × Int), PyData.canLayAll0 (ps.map pairD) = true ∧ PyData.depthAll (ps.map pairD) ≤ 1 := by
    intro ps
    induction ps with
    | nil => exact ⟨rfl, Nat.zero_le _⟩
    | cons p r ih =>
      refine ⟨?_, ?_⟩
      · show (PyData.canLay0 (pairD p) && PyData.canLayAll0 (r.map pairD)) = true
        rw [ih.1] <;> rfl
      · show max (PyData.depth (pairD p)) (PyData.depthAll (r.map pairD)) ≤ 1
        have e : PyData.depth (pairD p) = 1 := rfl
        have := ih.2
        rw [e]
        omega
  obtain ⟨a, b⟩ := h1 ps
  unfold SeqAt.shaped
  have e1 : (PyData.list (ps.map pairD)).canLay0 = true := a
  have e2 : (PyData.list (ps.map pairD)).depth = PyData.depthAll (ps.map pairD) + 1 := rfl
  rw [e1, e2, Bool.true_and, decide_eq_true_eq]
  omega
theorem dk_nodup {ov : Ovr} (h : (keysOf ov).Nodup) : ∀ p ∈ dk ov, valV (dk ov) p.1 = some p.2 := val_nodup (by
  rw [dk_keys]
  exact List.Pairwise.map (Sum.inl : Int → Key) (fun a b h q => h (Sum.inl.inj q)) h)
/-- [(c, over[c]) for c in ks if c < over[c]] -/
theorem lc_slabs {K : PySem.W.Frag} {a : Addr} {ks : List Int} {ov : Ovr} {i : Nat} {tt : TT} {te : TE} {σ : L2.St} {H1 : Hp} {D : Addr} {Qd : Hp → Prop} (hS : SqL K H1 a (ks.map V.int)) (hD : H1 D = none) (hl : ks.length ≤ 900) (hk : ∀ c ∈ ks, c ∈ keysOf ov)
    (ht : ∀ c o H3, look ov c = some o → Same H1 H3 → ∀ R : Bool → Hp → Prop, R (decide (c < o)) H3 → tt ((wipe σ [i]).set i (some (.int c))) H3 R)
    (he : ∀ c o H3, look ov c = some o → Same H1 H3 → ∀ R : V → Hp → Prop, (∀ t, H3 t = none → R (.ref t) (upd H3 t (.tup [.int c, .int o]))) → te ((wipe σ [i]).set i (some (.int c))) H3 R)
    (hd : ∀ H3 ts, Same H1 H3 → H3 D = some (.lst (ts.map V.ref)) → TupsAt H3 ts (pairsOf ks ov) → Qd H3) :
    ∃ W : Nat → Nat → Hp → Prop, (∃ m, W 0 m (upd H1 D (.lst []))) ∧ ∀ i' m H, W i' m H →
      ((Itl K a).stop i' H ∧ Qd H) ∨ ((Itl K a).go i' H ∧ ∃ Nx : Hp → Prop, (∀ H', Nx H' → ∃ m', m' < m ∧ W (i' + 1) m' H') ∧ ∀ x H', (Itl K a).yld i' H x H' → gName i x (wipe σ [i]) H' fun σ2 H2 => wipe σ2 [i] = wipe σ [i] ∧ tt σ2 H2 fun b H3 =>
        if b = true then te σ2 H3 fun y H4 => ∃ acc, H4 D = some (.lst acc) ∧ acc.length < sizeLine ∧ Nx (upd H4 D (.lst (acc ++ [y]))) else Nx H3) := by
  refine lc_list (K := K) (a := a) (xs := ks.map V.int) (fun j H3 => Same H1 H3 ∧ ∃ ts : List Addr, H3 D = some (.lst (ts.map V.ref)) ∧ TupsAt H3 ts (pairsOf (ks.take j) ov)) ⟨same_new hD, [], upd_same, rfl, fun i t p h => by simp at h⟩ (fun i H3 _ ⟨s3, _⟩ => s3.seq hS) ?_ ?_
  · rintro j z H3 hj ⟨s3, ts, h3, t3⟩
    obtain ⟨c, hc, rfl, tk1⟩ := int_el hj
    obtain ⟨o, lo⟩ := look_key (hk c (List.mem_of_getElem? hc))
    refine ⟨wipe1 σ i _, ht c o H3 lo s3 _ ?_⟩
    have po : pairsOf (ks.take (j + 1)) ov = pairsOf (ks.take j) ov ++ (if c < o then [(c, o)] else []) := by
      unfold pairsOf
      rw [tk1, List.filter_append, List.map_append, List.filter_cons, lo]
      show _ ++ List.map _ (if decide (c < o) = true then c :: List.filter _ [] else List.filter _ []) = _
      by_cases q : c < o
      · rw [if_pos (decide_eq_true q), if_pos q, List.filter_nil, List.map_cons, List.map_nil, lo] <;> rfl
      · rw [if_neg (fun z => q (of_decide_eq_true z)), if_neg q, List.filter_nil, List.map_nil]
    by_cases q : c < o
    · rw [decide_eq_true q]
      refine iteT ?_
      rw [if_pos q] at po
      refine he c o H3 lo s3 _ fun t ht' => ?_
      have s4 : Same H3 (upd H3 t (.tup [.int c, .int o])) := same_new ht'
      refine ⟨ts.map V.ref, s4 _ _ h3, ?_, ?_, ts ++ [t], ?_, ?_⟩
      · rw [List.length_map, t3.1]
        unfold pairsOf
        rw [List.length_map]
        have q1 := List.length_filter_le (fun c => decide (c < (look ov c).getD 0)) (ks.take j)
        have q2 : (ks.take j).length ≤ ks.length := by rw [List.length_take]; omega
        exact small1000 (by omega)
      · exact fun b o2 e => by rw [upd_ne (ne_of_none e hD)]; exact s4 _ _ (s3 b o2 e)
      · rw [upd_same, List.map_append] <;> rfl
      · rw [po]
        have base_ : TupsAt (upd H3 t (.tup [.int c, .int o])) (ts ++ [t]) (pairsOf (ks.take j) ov ++ [(c, o)]) := (t3.same s4).snoc upd_same
        refine ⟨base_.1, fun i t' p' g1 g2 => ?_⟩
        have g3 := base_.2 i t' p' g1 g2
        rw [upd_ne (fun z => by rw [z, s4 _ _ h3] at g3; cases g3)]
        exact g3
    · rw [decide_eq_false q]
      refine iteF ?_
      rw [if_neg q, List.append_nil] at po
      refine ⟨s3, ts, h3, ?_⟩
      rw [po]
      exact t3
  · rintro H3 ⟨s3, ts, h3, t3⟩
    rw [List.length_map, List.take_length] at t3
    exact hd H3 ts s3 h3 t3
theorem pairs_perm {ks : List Int} {ov ov2 : Ovr} (p : ov.Perm ov2) (nd : (keysOf ov).Nodup) : pairsOf ks ov2 = pairsOf ks ov := by
  unfold pairsOf
  have e : ∀ c, look ov2 c = look ov c := look_perm p nd
  congr 1
  · funext c
    rw [e]
  · congr 1
    funext c
    rw [e]
theorem bare_perm {ws : List Str} {ov ov2 : Ovr} (p : ov.Perm ov2) (nd : (keysOf ov).Nodup) : bareOf ws ov2 = bareOf ws ov := by
  unfold bareOf
  congr 1
  funext c
  unfold has
  rw [look_perm p nd]
theorem mem_pairs {ks : List Int} {ov : Ovr} {p : Int × Int} (hk : ∀ c ∈ ks, c ∈ keysOf ov) : p ∈ pairsOf ks ov ↔ p.1 ∈ ks ∧ p.1 < p.2 ∧ look ov p.1 = some p.2 := by
  unfold pairsOf
  rw [List.mem_map]
  constructor
  · rintro ⟨c, hc, rfl⟩
    obtain ⟨h1, h2⟩ := List.mem_filter.mp hc
    obtain ⟨o, lo⟩ := look_key (hk c h1)
    rw [lo] at h2
    have e : (look ov c).getD 0 = o := by rw [lo] <;> rfl
    rw [e]
    exact ⟨h1, of_decide_eq_true h2, lo⟩
  · rintro ⟨h1, h2, h3⟩
    refine ⟨p.1, List.mem_filter.mpr ⟨h1, ?_⟩, ?_⟩
    · rw [h3]
      exact decide_eq_true h2
    · rw [h3] <;> rfl
/-- what is left of ov when the slabs whose lower cell is in ds are lifted -/
structure Rest (ws : List Str) (ov ov2 : Ovr) (ds : List Int) : Prop where
  v : Vl ws ov2
  lk : ∀ k m, look ov2 k = some m ↔ (look ov k = some m ∧ ((k < m ∧ k ∉ ds) ∨ (m < k ∧ m ∉ ds)))
theorem Rest.start {ws : List Str} {ov ov2 : Ovr} (v : Vl ws ov) (p : ov.Perm ov2) : Rest ws ov ov2 [] := ⟨v.perm p, fun k m => by
  rw [look_perm p v.nd]
  refine ⟨fun h => ⟨h, ?_⟩, fun h => h.1⟩
  rcases Int.lt_or_gt_of_ne (may_ne (v.may k m h)) with z | z
  · exact .inl ⟨z, by simp⟩
  · exact .inr ⟨z, by simp⟩⟩
theorem Rest.has {ws : List Str} {ov ov2 : Ovr} {ds : List Int} {c o : Int} (r : Rest ws ov ov2 ds) (h : look ov c = some o) (q : c < o) (n : c ∉ ds) : look ov2 c = some o := (r.lk c o).mpr ⟨h, .inl ⟨q, n⟩⟩
theorem Rest.lift {ws : List Str} {ov ov2 : Ovr} {ds : List Int} {c o : Int} (r : Rest ws ov ov2 ds) (v : Vl ws ov) (h : look ov c = some o) (q : c < o) (n : c ∉ ds) : Rest ws ov (lifted ov2 c o) (ds ++ [c]) := by
  have l2 := r.has h q n
  refine ⟨r.v.lift l2, fun k m => ?_⟩
  rw [look_lifted]
  by_cases ko : k = o
  · rw [if_pos ko, ko]
    refine ⟨fun h => (by cases h), fun ⟨a, b⟩ => ?_⟩
    rw [v.sym c o h] at a
    have e := Option.some.inj a
    rcases b with b | b
    · omega
    · rw [← e] at b
      exact absurd (List.mem_append_right _ List.mem_cons_self) b.2
  rw [if_neg ko]
  by_cases kc : k = c
  · rw [if_pos kc, kc]
    refine ⟨fun h => (by cases h), fun ⟨a, b⟩ => ?_⟩
    rw [h] at a
    have e := Option.some.inj a
    rcases b with b | b
    · exact absurd (List.mem_append_right _ List.mem_cons_self) b.2
    · omega
  rw [if_neg kc, r.lk]
  constructor
  · rintro ⟨a, b⟩
    refine ⟨a, ?_⟩
    rcases b with b | b
    · refine .inl ⟨b.1, fun z => ?_⟩
      rcases List.mem_append.mp z with z | z
      · exact b.2 z
      · exact kc (List.mem_singleton.mp z)
    · refine .inr ⟨b.1, fun z => ?_⟩
      rcases List.mem_append.mp z with z | z
      · exact b.2 z
      · have a2 := v.sym k m a
        rw [List.mem_singleton.mp z, h] at a2
        exact ko (Option.some.inj a2).symm
  · rintro ⟨a, b⟩
    refine ⟨a, ?_⟩
    rcases b with b | b
    · exact .inl ⟨b.1, fun z => b.2 (List.mem_append_left _ z)⟩
    · exact .inr ⟨b.1, fun z => b.2 (List.mem_append_left _ z)⟩
theorem look_nil {ov : Ovr} (h : ∀ k, look ov k = none) : ov = [] := by
  cases ov with
  | nil => rfl
  | cons p r =>
    have q := h p.1
    unfold look at q
    rw [List.find?_cons, decide_eq_true rfl] at q
    cases q
theorem Rest.all {ws : List Str} {ov ov2 : Ovr} {ks : List Int} (r : Rest ws ov ov2 ((pairsOf ks ov).map (·.1))) (v : Vl ws ov) (hp : ks.Perm (keysOf ov)) : ov2 = [] := by
  refine look_nil fun k => ?_
  cases e : look ov2 k with
  | none => rfl
  | some m =>
    obtain ⟨a, b⟩ := (r.lk k m).mp e
    have mk : ∀ c o, look ov c = some o → c < o → c ∈ (pairsOf ks ov).map (·.1) := fun c o h q => List.mem_map.mpr ⟨(c, o), (mem_pairs (fun z hz => hp.mem_iff.mp hz)).mpr ⟨hp.mem_iff.mpr (look_some.mpr ⟨o, h⟩), q, h⟩, rfl⟩
    rcases b with b | b
    · exact absurd (mk k m a b.1) b.2
    · exact absurd (mk m k (v.sym k m a) b.1) b.2
theorem pairs_nd {ks : List Int} {ov : Ovr} (h : ks.Nodup) : ((pairsOf ks ov).map (·.1)).Nodup := by
  unfold pairsOf
  rw [List.map_map]
  have e : ((fun x : Int × Int => x.1) ∘ fun c : Int => (c, (look ov c).getD 0)) = id := rfl
  rw [e, List.map_id]
  exact h.sublist List.filter_sublist
theorem take_new {α : Type} {xs : List α} {x : α} {i : Nat} (nd : xs.Nodup) (h : xs[i]? = some x) : x ∉ xs.take i := fun q => by
  have e := nd
  rw [← List.take_append_drop i xs, List.nodup_append] at e
  refine e.2.2 x q x ?_ rfl
  rw [List.mem_iff_getElem?]
  exact ⟨0, by rw [List.getElem?_drop]; exact h⟩
theorem sorted_keys {ov ov2 : Ovr} {ks ks2 : List Int} (p : ov.Perm ov2) (h : ks.Perm (keysOf ov)) (hs : ks.Pairwise (· ≤ ·)) (h2 : ks2.Perm (keysOf ov2)) (hs2 : ks2.Pairwise (· ≤ ·)) : ks2 = ks :=
  sorted_one (h2.trans ((keys_perm p).symm.trans h.symm)) hs2 hs
end Sf
namespace Sf
open PySem PySem.Spec PyProof.Rows L2 Gc
theorem tup_el {H : Hp} {ts : List Addr} {ps : List (Int × Int)} {i : Nat} {z : V} (a : TupsAt H ts ps) (h : (ts.map V.ref)[i]? = some z) : ∃ t p, ts[i]? = some t ∧ ps[i]? = some p ∧ z = V.ref t ∧ H t = some (.tup [.int p.1, .int p.2]) := by
  rw [List.getElem?_map] at h
  cases e : ts[i]? with
  | none => rw [e] at h; cases h
  | some t =>
    rw [e] at h
    have il : i < ps.length := by rw [← a.1]; exact (List.getElem?_eq_some_iff.mp e).1
    exact ⟨t, _, rfl, List.getElem?_eq_getElem il, (Option.some.inj h).symm, a.2 i t _ e (List.getElem?_eq_getElem il)⟩
theorem TupsAt.keep {H H' : Hp} {d : Addr} {kv : List (Key × V)} {ts : List Addr} {ps : List (Int × Int)} (a : TupsAt H ts ps) (hd : H d = some (.dK kv)) (k : Keep d H H') : TupsAt H' ts ps := ⟨a.1, fun i t p h1 h2 => k.at hd (a.2 i t p h1 h2) (fun _ z => by cases z)⟩
theorem take_el {α : Type} {xs : List α} {n i : Nat} {x : α} (h : (xs.take n)[i]? = some x) : xs[i]? = some x := by
  rw [List.getElem?_take] at h
  split at h
  · exact h
  · cases h
theorem eq_pairs {K : PySem.W.Frag} {H : Hp} {l1 l2 : Addr} {t1 t2 : List Addr} {ps : List (Int × Int)} (h1 : H l1 = some (.lst (t1.map V.ref))) (h2 : H l2 = some (.lst (t2.map V.ref))) (a1 : TupsAt H t1 ps) (a2 : TupsAt H t2 ps) {Q : VK} (hQ : Q (.bl true) H) : rEqD K (.ref l1) (.ref l2) H Q := by
  refine ⟨_, _, .lst (SqL.of h1) (dp_pairs _ _ a1), .lst (SqL.of h2) (dp_pairs _ _ a2), shaped_pairs _, shaped_pairs _, ?_⟩
  rw [SeqAt.eqv_refl _ (SeqAt.canLay_of_shaped (shaped_pairs _))]
  exact hQ
theorem ne_pairs {K : PySem.W.Frag} {H : Hp} {l1 l2 : Addr} {t1 t2 : List Addr} {ps : List (Int × Int)} (h1 : H l1 = some (.lst (t1.map V.ref))) (h2 : H l2 = some (.lst (t2.map V.ref))) (a1 : TupsAt H t1 ps) (a2 : TupsAt H t2 ps) {Q : VK} (hQ : Q (.bl false) H) : rNeD K (.ref l1) (.ref l2) H Q := by
  refine ⟨_, _, .lst (SqL.of h1) (dp_pairs _ _ a1), .lst (SqL.of h2) (dp_pairs _ _ a2), shaped_pairs _, shaped_pairs _, ?_⟩
  rw [SeqAt.eqv_refl _ (SeqAt.canLay_of_shaped (shaped_pairs _))]
  exact hQ
theorem eq_ints {K : PySem.W.Frag} {H : Hp} {l1 l2 : Addr} {xs : List Int} (h1 : SqL K H l1 (xs.map V.int)) (h2 : SqL K H l2 (xs.map V.int)) {Q : VK} (hQ : Q (.bl true) H) : rEqD K (.ref l1) (.ref l2) H Q := by
  refine ⟨_, _, .lst h1 (dp_ints xs), .lst h2 (dp_ints xs), shaped_ints _, shaped_ints _, ?_⟩
  rw [SeqAt.eqv_refl _ (SeqAt.canLay_of_shaped (shaped_ints _))]
  exact hQ
theorem ne_ints {K : PySem.W.Frag} {H : Hp} {l1 l2 : Addr} {xs : List Int} (h1 : SqL K H l1 (xs.map V.int)) (h2 : SqL K H l2 (xs.map V.int)) {Q : VK} (hQ : Q (.bl false) H) : rNeD K (.ref l1) (.ref l2) H Q := by
  refine ⟨_, _, .lst h1 (dp_ints xs), .lst h2 (dp_ints xs), shaped_ints _, shaped_ints _, ?_⟩
  rw [SeqAt.eqv_refl _ (SeqAt.canLay_of_shaped (shaped_ints _))]
  exact hQ
theorem eq_perm {ov ov2 : Ovr} (p : ov.Perm ov2) (nd : (keysOf ov).Nodup) : (dk ov).length = (dk ov2).length ∧ ∀ q ∈ dk ov, valV (dk ov2) q.1 = some q.2 ∧ flatB q.2 = true := by
  refine ⟨by unfold dk; rw [List.length_map, List.length_map, p.length_eq], fun q hq => ?_⟩
  obtain ⟨z, hz, rfl⟩ := List.mem_map.mp hq
  refine ⟨?_, rfl⟩
  show valV (dk ov2) (Sum.inl z.1) = _
  rw [dk_val, look_perm p nd, mem_look nd (show (z.1, z.2) ∈ ov from hz)]
  rfl
def spWell (K : PySem.W.Frag) (C CL : Addr) : Sp := fun vs H Q _ => ∃ (l y x df d : Addr) (ws : List Str) (ov : Ovr), vs = [.ref l, .ref y] ∧ SqL K H l (ws.map V.str) ∧ LayD CL H y x d ov ∧ FloorD C H x df ws ∧ df ≠ d ∧ Wf ws ∧ Vl ws ov ∧
  ∀ (ov2 : Ovr) (H' : Hp), ov.Perm ov2 → Keep d H H' → LayD CL H' y x d ov2 → Q (.bl true) H'
section
variable {P : Program} {w : World} {K : PySem.W.Frag} {mg : Str → Option Value} {base : Heap} {C CL : Addr}
theorem sc_law_told_well : FnScope ["_law_rows_here", "_law_laying", "_law_over_here", "_law_cell", "_law_slabs", "_law_bare", "_law_copy", "_law_slab"] ["_law_rows_here", "_law_laying"] (defScope s_law_told_well) := ⟨rfl, rfl, rfl, by decide +kernel, rfl, by decide +kernel, by decide +kernel⟩
theorem ok_well (D : Df K mg "_law_told_well" s_law_told_well ["_law_rows_here", "_law_laying"]) (B : Bi mg) (T : FTxt K mg C) (L : LTxt K mg CL) (SC : Go.SelfC K C)
    (c_law_cells : Cl P w K mg base CX0 1 "_law_cells" ["_law_rows_here"] (spLCells K)) (c_Laying_copied : Cm P w K mg base CX0 3 CL "copied" ["self"] (spCopied0 CL)) (c_Laying_slabs : Cm P w K mg base CX0 1 CL "slabs" ["self"] (spSlabs0 CL)) (c_Laying_bare : Cm P w K mg base CX0 2 CL "bare" ["self"] (spBare0 C CL))
    (c_Laying_lift : Cm P w K mg base CX0 3 CL "lift" ["self", "cell"] (spLift0 C CL)) (c_law_put_again : Cl P w K mg base CX0 5 "_law_put_again" ["_law_laying", "_law_slab"] (spAgain C CL)) (c_law_bare_taken : Cl P w K mg base CX0 4 "_law_bare_taken" ["_law_rows_here", "_law_laying", "_law_cell"] (spTaken K C CL)) :
    Cl P w K mg base CX0 6 "_law_told_well" ["_law_rows_here", "_law_laying"] (spWell K C CL) := D.cl fun f fd F => by
  refine F.ok sc_law_told_well (fun vs H Q E h => ?_) (fun cdv A outer s H vs Q E hr h => ?_)
  · obtain ⟨l, y, x, df, d, ws, ov, rfl, _⟩ := h
    rfl
  · obtain ⟨l, y, x, df, d, ws, ov, rfl, hS, la, fl, nd, hw, v, hQ⟩ := h
    have hu := hu_of hr
    have len := v.len hw
    have nS : ∀ {d}, (lfl x d).lookup ("slabs" : Str) = none := fun {d} => lfl_no x d (by decide +kernel) (by decide +kernel)
    have nB : ∀ {d}, (lfl x d).lookup ("bare" : Str) = none := fun {d} => lfl_no x d (by decide +kernel) (by decide +kernel)
    have nC : ∀ {d}, (lfl x d).lookup ("copied" : Str) = none := fun {d} => lfl_no x d (by decide +kernel) (by decide +kernel)
    have nL : ∀ {d}, (lfl x d).lookup ("lift" : Str) = none := fun {d} => lfl_no x d (by decide +kernel) (by decide +kernel)
    refine ⟨_, (pss_cons (ps_set (i := 2) sc_law_told_well.nd rfl (Or.inr rfl) (pe_fld (pv 1) rfl))
      (pss_cons (ps_setLc (i := 4) (own := [("_law_cell", 3)]) (g := gName 3) rfl sc_law_told_well.nd rfl rfl (sw_true rfl rfl rfl (by decide +kernel)) (pi_list (pe_callB (Gs.call_sortedAny rfl) (by rfl) B.sorted rfl (pa_cons (pv 2) pa_nil))) (blkOk_by (N := ["_law_rows_here", "_law_laying", "_law_over_here", "_law_cell", "_law_slabs", "_law_bare", "_law_copy", "_law_slab"]) (sc := defScope s_law_told_well) (by decide +kernel)) (fun _ _ _ _ _ => pg_name (i := 3) sc_law_told_well.nd rfl (Or.inl rfl)) (fun _ _ _ _ _ => pts_one (pt_cmpR op_lt (pv 3) (pe_dget hu (pv 2) (pv 3) (fun _ _ => rfl)) (nomark _))) (fun _ _ _ _ _ => (pe_tup (pa_cons (pv 3) (pa_cons (pe_dget hu (pv 2) (pv 3) (fun _ _ => rfl)) pa_nil)))))
      (pss_cons (ps_setLc (i := 5) (own := [("_law_cell", 3)]) (g := gName 3) rfl sc_law_told_well.nd rfl rfl (sw_true rfl rfl rfl (by decide +kernel)) (pi_list (pe_cl c_law_cells (hr.mono (by decide)) rfl (pa_cons (pv 0) pa_nil))) (blkOk_by (N := ["_law_rows_here", "_law_laying", "_law_over_here", "_law_cell", "_law_slabs", "_law_bare", "_law_copy", "_law_slab"]) (sc := defScope s_law_told_well) (by decide +kernel)) (fun _ _ _ _ _ => pg_name (i := 3) sc_law_told_well.nd rfl (Or.inl rfl)) (fun _ _ _ _ _ => pts_one (pt_cmp (pc_dnotin hu (pv 3) (pv 2)) rfl)) (fun _ _ _ _ _ => (pv 3)))
      (pss_cons (ps_set (i := 6) sc_law_told_well.nd rfl (Or.inl rfl) (pe_cm0 (pv 1) L.cl c_Laying_copied (hr.mono (by decide))))
      (pss_cons (ps_if (PW.pt (pw_or (pt_cmpR (op_neD hr.units) (pe_cm0 (pv 1) L.cl c_Laying_slabs (hr.mono (by decide))) (pv 4) (nomark _)) (pw_or (pt_cmpR (op_neD hr.units) (pe_cm0 (pv 1) L.cl c_Laying_bare (hr.mono (by decide))) (pv 5) (nomark _)) (pw_or1 (pt_cmpR (op_neD hr.units) (pe_cm0 (pv 6) L.cl c_Laying_slabs (hr.mono (by decide))) (pv 4) (nomark _)))))) (pss_one (ps_ret pe_bl)) pss_nil)
      (pss_cons (ps_for PassesOwn.never rfl (pi_list (pe_slice sl_list (pv 4) po_none (po_some pe_int))) (pg_name (i := 7) sc_law_told_well.nd rfl (Or.inl rfl)) (pss_one (ps_if (pt_not (pt_val (pe_cl c_law_put_again (hr.mono (by decide)) rfl (pa_cons (pv 1) (pa_cons (pv 7) pa_nil))))) (pss_one (ps_ret pe_bl)) pss_nil)))
      (pss_cons (ps_for PassesOwn.never rfl (pi_list (pe_slice sl_list (pv 5) po_none (po_some pe_int))) (pg_name (i := 3) sc_law_told_well.nd rfl (Or.inl rfl)) (pss_one (ps_if (pt_not (pt_val (pe_cl c_law_bare_taken (hr.mono (by decide)) rfl (pa_cons (pv 0) (pa_cons (pv 1) (pa_cons (pv 3) pa_nil)))))) (pss_one (ps_ret pe_bl)) pss_nil)))
      (pss_cons (ps_if (PW.pt (pw_or (pt_cmpR (op_ne_dictA (Nat.lt_of_succ_lt hu)) (pe_fld (pv 6) rfl) (pv 2) (nomark _)) (pw_or (pt_cmpR (Go.op_neSelf hu) (pe_fld (pv 6) rfl) (pe_fld (pv 1) rfl) (nomark _)) (pw_or1 (pt_cmpR (op_neD hr.units) (pe_cm0 (pv 6) L.cl c_Laying_bare (hr.mono (by decide))) (pv 5) (nomark _)))))) (pss_one (ps_ret pe_bl)) pss_nil)
      (pss_cons (ps_for PassesOwn.never rfl (pi_list (pv 4)) (pg_name (i := 7) sc_law_told_well.nd rfl (Or.inl rfl)) (pss_one (ps_expr (pe_cm (pv 6) L.cl c_Laying_lift (hr.mono (by decide)) (pa_cons (pe_ix ix_tup (pv 7) pe_int (fun _ _ => rfl)) pa_nil)))))
      (pss_one (ps_ret (pe_and (pe_cmpR (op_eqD hr.units) (pe_cm0 (pv 1) L.cl c_Laying_slabs (hr.mono (by decide))) (pv 4) (nomark _)) (pe_and (pe_cmpR (op_eqD hr.units) (pe_cm0 (pv 1) L.cl c_Laying_bare (hr.mono (by decide))) (pv 5) (nomark _)) (pe_one (pe_cmpR (op_eqD hr.units) (pe_cm0 (pv 6) L.cl c_Laying_slabs (hr.mono (by decide))) (pe_lst pa_nil) (nomark _)))))))))))))))), ?_⟩
    obtain ⟨dy, la0⟩ := la
    refine ⟨_, rfl, y, CL, dy, _, _, rfl, la0.ob, L.cl, L.nO, lfl_over _ _, ?_⟩
    -- slabs
    refine ⟨_, rfl, d, dk ov, keysOf ov, rfl, .inl la0.dc, dk_keys ov, (by unfold keysOf; rw [List.length_map]; omega), fun ks p hp hsrt hp0 => ?_⟩
    have s1 : Same H (upd H p (.lst (ks.map V.int))) := same_new hp0
    have h1 : (upd H p (.lst (ks.map V.int))) p = some (.lst (ks.map V.int)) := upd_same
    generalize upd H p (.lst (ks.map V.int)) = H1 at s1 h1
    have lks : ks.length ≤ 900 := by
      rw [hp.length_eq]
      unfold keysOf
      rw [List.length_map]
      omega
    have dgs : ∀ {H3 : Hp} {c o : Int}, look ov c = some o → Same H H3 → DGet H3 d (V.int c) (some (V.int o)) := fun {H3 c o} lo s3 => by
      have q := dget (s3 _ _ la0.dc) c
      rw [lo] at q
      exact q
    refine ⟨p, rfl, ⟨_, SqL.of h1⟩, fun lS hlS => ?_⟩
    refine lc_slabs (i := 3) (SqL.of h1) hlS lks (fun c hc => hp.mem_iff.mp hc) ?_ ?_ ?_
    · intro c o H3 lo s3 R hR
      exact ⟨_, rfl, _, rfl, _, rfl, d, _, rfl, dgs lo (s1.trans s3), _, _, rfl, rfl, _, rfl, hR⟩
    · intro c o H3 lo s3 R hR
      exact ⟨_, rfl, _, rfl, _, rfl, d, _, rfl, dgs lo (s1.trans s3), (by show 2 ≤ sizeLine; decide), fun t ht => hR t ht⟩
    intro H2 ts s2 h2 t2
    have q2 := s1.trans s2
    -- bare
    refine ⟨_, rfl, l, ws, rfl, q2.seq hS, hw, fun lc H3 s3 hlc h3 => ?_⟩
    rw [nats_eq] at h3
    have q3 := q2.trans s3
    refine ⟨lc, rfl, ⟨_, SqL.of h3⟩, fun lB hlB => ?_⟩
    refine lc_filt (i := 3) (fun c => !has ov c) (SqL.of h3) hlB ?_ (by show 3 < 8; decide) ?_ ?_
    · unfold natI
      rw [List.length_map]
      exact Nat.le_trans (cells144 hw) (by decide)
    · intro c H4 hcm s4 R hR
      refine ⟨_, rfl, _, rfl, d, _, rfl, dget ((q3.trans s4) _ _ la0.dc) c, _, rfl, ?_⟩
      rw [isSome_has]
      exact hR H4 (Same.refl _)
    intro H4 s4 h4
    have eb : (natI (cellsOf ws)).filter (fun c => !has ov c) = bareOf ws ov := rfl
    rw [eb] at h4
    have q4 := q3.trans s4
    have la4 := la0.same q4
    -- the copy
    refine ⟨_, rfl, y, dy, _, rfl, la4.ob, nC, y, x, d, ov, rfl, ⟨dy, la4⟩, fun y2 d2 H5 s5 hy2 hd2 la5 => ?_⟩
    have q5 := q4.trans s5
    have la5y := la0.same q5
    have h5S := s5 _ _ (s4 _ _ (s3 _ _ h2))
    have h5B := s5 _ _ h4
    have t5 := t2.same (s3.trans (s4.trans s5))
    have n2 : d ≠ d2 := ne_of_none la4.dc hd2
    have n2f : df ≠ d2 := by
      obtain ⟨kv, e⟩ := (fl.same q4).dc
      exact ne_of_none e hd2
    -- the first test
    refine ⟨_, rfl, y, dy, _, rfl, la5y.ob, nS, y, x, d, ov, rfl, ⟨dy, la5y⟩, by omega, fun l6 ts6 ks6 H6 hp6 hs6 s6 _ h6 t6 => ?_⟩
    rw [sorted_keys (List.Perm.refl _) hp hsrt hp6 hs6] at t6
    refine ⟨_, rfl, ne_pairs h6 (s6 _ _ h5S) t6 (t5.same s6) ⟨_, rfl, ?_⟩⟩
    refine iteF ?_
    have la6y := la5y.same s6
    refine ⟨_, rfl, y, dy, _, rfl, la6y.ob, nB, y, x, df, d, ws, ov, rfl, ⟨dy, la6y⟩, fl.same (q5.trans s6), hw, fun l7 H7 s7 _ h7 => ?_⟩
    refine ⟨_, rfl, ne_ints (SqL.of h7) (SqL.of (s7 _ _ (s6 _ _ h5B))) ⟨_, rfl, ?_⟩⟩
    refine iteF ?_
    obtain ⟨dy2, la7c⟩ := (la5.same s6).same s7
    refine ⟨_, rfl, y2, dy2, _, rfl, la7c.ob, nS, y2, x, d2, ov, rfl, ⟨dy2, la7c⟩, by omega, fun l8 ts8 ks8 H8 hp8 hs8 s8 _ h8 t8 => ?_⟩
    rw [sorted_keys (List.Perm.refl _) hp hsrt hp8 hs8] at t8
    have s58 := s6.trans (s7.trans s8)
    refine ⟨_, rfl, ne_pairs h8 (s58 _ _ h5S) t8 (t5.same s58) ⟨_, rfl, ?_⟩⟩
    refine iteF ?_
    have q8 := q5.trans s58
    have h8S := s58 _ _ h5S
    have h8B := s58 _ _ h5B
    have t8S := t5.same s58
    have la8y := la0.same q8
    have la8c : LayD CL H8 y2 x d2 ov := ⟨dy2, la7c.same s8⟩
    have pm : ∀ p, p ∈ pairsOf ks ov → p.1 < p.2 ∧ look ov p.1 = some p.2 := fun p h => ((mem_pairs (fun z hz => hp.mem_iff.mp hz)).mp h).2
    clear h7 h6 t6 h8 t8
    -- the slabs put again
    refine ⟨_, rfl, _, rfl, lS, _, rfl, SqL.of h8S, fun l9 hl9 => ?_⟩
    have e9 : cutV (ts.map V.ref) none (some (3 : Int)) = (ts.take 3).map V.ref := cut_first V.ref ts 3
    rw [e9]
    have s9 : Same H8 (upd H8 l9 (.lst ((ts.take 3).map V.ref))) := same_new hl9
    have h9 : (upd H8 l9 (.lst ((ts.take 3).map V.ref))) l9 = some (.lst ((ts.take 3).map V.ref)) := upd_same
    generalize upd H8 l9 (.lst ((ts.take 3).map V.ref)) = H9 at s9 h9
    refine ⟨l9, rfl, ⟨_, SqL.of h9⟩, for_list (K := K) (a := l9) (xs := (ts.take 3).map V.ref) (fun i σ Hn => ∃ (v7 : Option V) (ovn : Ovr), σ = [some (.ref l), some (.ref y), some (.ref d), none, some (.ref lS), some (.ref lB), some (.ref y2), v7] ∧ Keep d H9 Hn ∧ LayD CL Hn y x d ovn ∧ ov.Perm ovn)
      ⟨none, ov, rfl, Keep.refl _ _, ⟨dy, la8y.same s9⟩, List.Perm.refl _⟩ (fun i σ Hn _ ⟨_, _, _, kn, ln, _⟩ => SqL.of (kn.at (la8y.same s9).dc h9 (fun _ z => by cases z))) ?_ ?_⟩
    · rintro i z σ Hn hi ⟨v7, ovn, rfl, kn, ln, pn⟩
      have d9 := (la8y.same s9).dc
      obtain ⟨t, pr, ht, hpr, rfl, tt⟩ := tup_el ((t8S.same s9).keep d9 kn) (by
        rw [List.getElem?_map] at hi ⊢
        cases e : (ts.take 3)[i]? with
        | none => rw [e] at hi; cases hi
        | some t => rw [e] at hi; rw [take_el e]; exact hi)
      have m := pm pr (List.mem_of_getElem? hpr)
      have lk : look ovn pr.1 = some pr.2 := by rw [look_perm pn v.nd]; exact m.2
      refine ⟨_, rfl, _, rfl, y, x, df, d, t, ws, ovn, pr.1, pr.2, rfl, ln, ((fl.same q8).same s9).keep d9 nd kn, nd, tt, hw, v.perm pn, lk, fun ov3 H' p3 k3 l3 => ?_⟩
      refine ⟨_, rfl, ?_⟩
      refine iteF ?_
      exact ⟨_, ov3, rfl, kn.trans k3, l3, pn.trans p3⟩
    rintro σ H10 ⟨v7, ov10, rfl, k10, l10, p10⟩
    have d9 := (la8y.same s9).dc
    have K10 : Keep d H8 H10 := (Keep.of s9).trans k10
    have h10B := K10.at la8y.dc h8B (fun _ z => by cases z)
    have h10S := K10.at la8y.dc h8S (fun _ z => by cases z)
    have t10S := t8S.keep la8y.dc K10
    have S10 : SqL K H10 l (ws.map V.str) := K10.seq la8y.dc (q8.seq hS)
    have f10 : FloorD C H10 x df ws := (fl.same q8).keep la8y.dc nd K10
    have c10 : LayD CL H10 y2 x d2 ov := la8c.keep la8y.dc n2.symm K10
    clear d9
    -- the bare cells taken
    refine ⟨_, rfl, _, rfl, lB, _, rfl, SqL.of h10B, fun l11 hl11 => ?_⟩
    have e11 : cutV ((bareOf ws ov).map V.int) none (some (4 : Int)) = ((bareOf ws ov).take 4).map V.int := cut_first V.int _ 4
    rw [e11]
    have s11 : Same H10 (upd H10 l11 (.lst (((bareOf ws ov).take 4).map V.int))) := same_new hl11
    have h11 : (upd H10 l11 (.lst (((bareOf ws ov).take 4).map V.int))) l11 = some (.lst (((bareOf ws ov).take 4).map V.int)) := upd_same
    generalize upd H10 l11 (.lst (((bareOf ws ov).take 4).map V.int)) = H11 at s11 h11
    have d11 : H11 d = some (.dK (dk ov10)) := s11 _ _ l10.dc
    refine ⟨l11, rfl, ⟨_, SqL.of h11⟩, for_list (K := K) (a := l11) (xs := ((bareOf ws ov).take 4).map V.int) (fun i σ Hn => ∃ (v3 : Option V) (ovn : Ovr), σ = [some (.ref l), some (.ref y), some (.ref d), v3, some (.ref lS), some (.ref lB), some (.ref y2), v7] ∧ Keep d H11 Hn ∧ LayD CL Hn y x d ovn ∧ ov.Perm ovn)
      ⟨none, ov10, rfl, Keep.refl _ _, l10.same s11, p10⟩ (fun i σ Hn _ ⟨_, _, _, kn, ln, _⟩ => SqL.of (kn.at d11 h11 (fun _ z => by cases z))) ?_ ?_⟩
    · rintro i z σ Hn hi ⟨v3, ovn, rfl, kn, ln, pn⟩
      obtain ⟨c, hc, rfl, _⟩ := int_el hi
      have cb := List.mem_of_getElem? (take_el hc)
      unfold bareOf at cb
      obtain ⟨c1, c2⟩ := List.mem_filter.mp cb
      obtain ⟨p', rfl, hp'⟩ := cell_nat (cell_natI.mpr c1)
      have lc0 : look ovn ((p' : Nat) : Int) = none := by
        rw [look_perm pn v.nd]
        cases e : look ov ((p' : Nat) : Int) with
        | none => rfl
        | some z => unfold has at c2; rw [e] at c2; cases c2
      refine ⟨_, rfl, _, rfl, _, rfl, l, y, x, df, d, ws, ovn, p', rfl, kn.seq d11 (s11.seq S10), ln, (f10.same s11).keep d11 nd kn, nd, hw, v.perm pn, hp', lc0, fun ov3 H' p3 k3 l3 => ?_⟩
      refine ⟨_, rfl, ?_⟩
      refine iteF ?_
      exact ⟨_, ov3, rfl, kn.trans k3, l3, pn.trans p3⟩
    rintro σ H12 ⟨v3, ov12, rfl, k12, l12, p12⟩
    have K12 : Keep d H8 H12 := (K10.trans (Keep.of s11)).trans k12
    have h12B := K12.at la8y.dc h8B (fun _ z => by cases z)
    have h12S := K12.at la8y.dc h8S (fun _ z => by cases z)
    have t12S := t8S.keep la8y.dc K12
    have f12 : FloorD C H12 x df ws := (fl.same q8).keep la8y.dc nd K12
    obtain ⟨dy2', c12⟩ : LayD CL H12 y2 x d2 ov := la8c.keep la8y.dc n2.symm K12
    obtain ⟨dy12, b12⟩ := l12
    -- the copy's dict
    obtain ⟨el, ev⟩ := eq_perm p12 v.nd
    refine ⟨_, rfl, y2, CL, dy2', _, _, rfl, c12.ob, L.cl, L.nO, lfl_over _ _, _, rfl, d2, d, dk ov, dk ov12, rfl, rfl, c12.dc, b12.dc, el, ev, _, rfl, ?_⟩
    refine iteF ?_
    obtain ⟨dxf, lrf, gf, faf⟩ := f12
    refine ⟨_, rfl, y2, CL, dy2', _, _, rfl, c12.ob, L.cl, L.nF, lfl_floor _ _, _, rfl, y, CL, dy12, _, _, rfl, b12.ob, L.cl, L.nF, lfl_floor _ _, x, C, dxf, _, rfl, rfl, faf.ob, SC, _, rfl, ?_⟩
    refine iteF ?_
    have f12 : FloorD C H12 x df ws := ⟨dxf, lrf, gf, faf⟩
    refine ⟨_, rfl, y2, dy2', _, rfl, c12.ob, nB, y2, x, df, d2, ws, ov, rfl, ⟨dy2', c12⟩, f12, hw, fun l13 H13 s13 _ h13 => ?_⟩
    refine ⟨_, rfl, ne_ints (SqL.of h13) (SqL.of (s13 _ _ h12B)) ⟨_, rfl, ?_⟩⟩
    refine iteF ?_
    -- the copy's slabs are lifted
    have h13S := s13 _ _ h12S
    have t13 := t12S.same s13
    have c13 : LayD CL H13 y2 x d2 ov := ⟨dy2', c12.same s13⟩
    have pnd := pairs_nd (ov := ov) (hp.nodup_iff.mpr v.nd)
    refine ⟨_, rfl, lS, rfl, ⟨_, SqL.of h13S⟩, for_list (K := K) (a := lS) (xs := ts.map V.ref) (fun i σ Hn => ∃ (v7 : Option V) (ovn : Ovr), σ = [some (.ref l), some (.ref y), some (.ref d), v3, some (.ref lS), some (.ref lB), some (.ref y2), v7] ∧ Keep d2 H13 Hn ∧ LayD CL Hn y2 x d2 ovn ∧ Rest ws ov ovn (((pairsOf ks ov).map (·.1)).take i))
      ⟨v7, ov, rfl, Keep.refl _ _, c13, Rest.start v (List.Perm.refl _)⟩ (fun i σ Hn _ ⟨_, _, _, kn, ln, _⟩ => SqL.of (kn.at c13.dc h13S (fun _ z => by cases z))) ?_ ?_⟩
    · rintro i z σ Hn hi ⟨v7, ovn, rfl, kn, ln, rn⟩
      obtain ⟨t, pr, ht, hpr, rfl, tt⟩ := tup_el (t13.keep c13.dc kn) hi
      have m := pm pr (List.mem_of_getElem? hpr)
      have hm : ((pairsOf ks ov).map (·.1))[i]? = some pr.1 := by rw [List.getElem?_map, hpr] <;> rfl
      have nw := take_new pnd hm
      have l2 := rn.has m.2 m.1 nw
      obtain ⟨dyn, bn⟩ := ln
      refine ⟨_, rfl, y2, dyn, _, rfl, bn.ob, nL, _, rfl, t, _, _, _, rfl, rfl, SqT.of tt, atI_nat (j := 0) rfl, y2, x, df, d2, ws, ovn, pr.1, pr.2, rfl, ⟨dyn, bn⟩, (f12.same s13).keep c13.dc n2f kn, rn.v, l2, fun H' k' d' => ?_⟩
      refine ⟨_, _, rfl, kn.trans k', LayD.wrote ⟨dyn, bn⟩ k' d', ?_⟩
      rw [List.take_add_one, hm]
      exact rn.lift v m.2 m.1 nw
    rintro σ H14 ⟨v7, ovn, rfl, k14, c14, rn⟩
    have el14 : ((ts.map V.ref).length) = ((pairsOf ks ov).map (·.1)).length := by rw [List.length_map, List.length_map]; exact t13.1
    rw [el14, List.take_length] at rn
    have e14 := rn.all v hp
    subst e14
    -- the end
    have b14 : LayD CL H14 y x d ov12 := LayD.keep ⟨dy12, b12.same s13⟩ c13.dc n2 k14
    have h14S := k14.at c13.dc h13S (fun _ z => by cases z)
    have h14B := k14.at c13.dc (s13 _ _ h12B) (fun _ z => by cases z)
    have t14 := t13.keep c13.dc k14
    have f14 := (f12.same s13).keep c13.dc n2f k14
    have v12 := v.perm p12
    obtain ⟨dy14, a14⟩ := b14
    obtain ⟨dyc, cc⟩ := c14
    refine ⟨_, rfl, y, dy14, _, rfl, a14.ob, nS, y, x, d, ov12, rfl, ⟨dy14, a14⟩, Nat.le_trans (v12.len hw) (by decide), fun l15 ts15 ks15 H15 hp15 hs15 s15 _ h15 t15 => ?_⟩
    rw [sorted_keys p12 hp hsrt hp15 hs15, pairs_perm p12 v.nd] at t15
    refine ⟨_, rfl, eq_pairs h15 (s15 _ _ h14S) t15 (t14.same s15) ⟨_, rfl, ?_⟩⟩
    refine iteT ?_
    have a15 := a14.same s15
    refine ⟨_, rfl, y, dy14, _, rfl, a15.ob, nB, y, x, df, d, ws, ov12, rfl, ⟨dy14, a15⟩, f14.same s15, hw, fun l16 H16 s16 _ h16 => ?_⟩
    rw [bare_perm p12 v.nd] at h16
    refine ⟨_, rfl, eq_ints (SqL.of h16) (SqL.of (s16 _ _ (s15 _ _ h14B))) ⟨_, rfl, ?_⟩⟩
    refine iteT ?_
    have cc16 := (cc.same s15).same s16
    refine ⟨_, rfl, y2, dyc, _, rfl, cc16.ob, nS, y2, x, d2, [], rfl, ⟨dyc, cc16⟩, (by show 0 ≤ 900; decide), fun l17 ts17 ks17 H17 hp17 hs17 s17 _ h17 t17 => ?_⟩
    have ek : ks17 = [] := List.Perm.eq_nil hp17
    rw [ek] at t17
    have et : ts17 = [] := List.eq_nil_of_length_eq_zero t17.1
    rw [et] at h17
    refine ⟨(by show 0 ≤ sizeLine; decide), fun l18 hl18 => ?_⟩
    have s18 : Same H17 (upd H17 l18 (.lst [])) := same_new hl18
    refine eq_ints (xs := []) (SqL.of (s18 _ _ h17)) (SqL.of upd_same) ?_
    have s1418 := s15.trans (s16.trans (s17.trans s18))
    refine hQ ov12 _ p12 ?_ ⟨dy14, a14.same s1418⟩
    intro b o hb e
    refine s1418 _ _ (k14 b o ?_ (s13 _ _ (K12 b o hb (q8 _ _ e))))
    intro eb
    rw [eb] at e
    have := q4 _ _ e
    rw [hd2] at this
    cases this
end
end Sf
namespace Sf
open PySem PySem.Spec PyProof.Rows L2 Gc
/-! ### read -/
def spRead (K : PySem.W.Frag) (C CL CD : Addr) : Sp := fun vs H Q E => ∃ (x df lt : Addr) (ws ts : List Str), vs = [.ref x, .ref lt] ∧ FloorD C H x df ws ∧ Wf ws ∧ SqL K H lt (ts.map V.str) ∧ ts.length ≤ 20 ∧ (∀ a ∈ ts, a.length ≤ 20) ∧ (∀ a ∈ ts, okTxt a) ∧
  (∀ (y d : Addr) (ov : Ovr) (H' : Hp), Same H H' → H y = none → H d = none → LayD CL H' y x d ov → Vl ws ov → ts = drawnR ws ov → Q (.ref y) H') ∧
  ((∀ ov, Vl ws ov → ts ≠ drawnR ws ov) → ∀ H', Same H H' → E (.ref CD) none H')
section
variable {P : Program} {w : World} {K : PySem.W.Frag} {mg : Str → Option Value} {base : Heap} {C CL CD : Addr}
theorem scread : FnScope ["floor", "rows", "laying", "one", "other"] ["floor", "rows"] (defScope sread) := ⟨rfl, rfl, rfl, by decide +kernel, rfl, by decide +kernel, by decide +kernel⟩
theorem ok_read (D : Df K mg "read" sread ["floor", "rows"]) (B : Bi mg) (T : FTxt K mg C) (L : LTxt K mg CL) (RD : Rz K mg "NoDrawing" CD)
    (c_Laying : Cn P w K mg base 1 CL "Laying" ["self", "floor"] (spLInit CL)) (c_slabs_begun : Cl P w K mg base CX0 1 "_slabs_begun" ["floor", "rows"] (spBegun K C)) (c_Floor_may : Cm P w K mg base CX0 2 C "may" ["self", "one", "other"] (spMay C))
    (c_Laying_put : Cm P w K mg base CX0 3 CL "put" ["self", "one", "other"] (spPut0 C CL)) (c_drawn : Cl P w K mg base CX0 3 "drawn" ["laying"] (spDrawn C CL)) :
    Cl P w K mg base (L2.CX P w) 4 "read" ["floor", "rows"] (spRead K C CL CD) := D.cl fun f fd_ F => by
  refine F.okX scread (fun vs H Q E h => ?_) (fun cdv A outer s H vs Q E hr h => ?_)
  · obtain ⟨x, df, lt, ws, ts, rfl, _⟩ := h
    rfl
  · obtain ⟨x, df, lt, ws, ts, rfl, fl, hw, hS, hl, ha, hk, hQ, hE⟩ := h
    have hu := hu_of hr
    refine ⟨_, (pss_cons (ps_set (i := 2) scread.nd rfl (Or.inl rfl) (pe_cn c_Laying (hr.mono (by decide)) rfl (pa_cons (pv 0) pa_nil)))
      (pss_cons (ps_for (passes_of rfl) rfl (pi_list (pe_cl c_slabs_begun (hr.mono (by decide)) rfl (pa_cons (pv 0) (pa_cons (pv 1) pa_nil)))) (pg_tup (by rfl) (pgs_cons (pg_name (i := 3) scread.nd rfl (Or.inl rfl)) (pgs_cons (pg_name (i := 4) scread.nd rfl (Or.inl rfl)) pgs_nil))) (pss_one (ps_if (PW.pt (pw_and (pt_val (pe_cm (pv 0) T.cl c_Floor_may (hr.mono (by decide)) (pa_cons (pv 3) (pa_cons (pv 4) pa_nil)))) (pw_and (pt_cmp (pc_dnotin hu (pv 3) (pe_fld (pv 2) rfl)) rfl) (pw_and1 (pt_cmp (pc_dnotin hu (pv 4) (pe_fld (pv 2) rfl)) rfl))))) (pss_one (ps_expr (pe_cm (pv 2) L.cl c_Laying_put (hr.mono (by decide)) (pa_cons (pv 3) (pa_cons (pv 4) pa_nil))))) pss_nil)))
      (pss_cons (ps_if (pt_cmpR (op_neD hr.units) (pe_cl c_drawn (hr.mono (by decide)) rfl (pa_cons (pv 2) pa_nil)) (pv 1) (nomark _)) (pss_one (ps_raise rfl (takes_of rfl rfl rfl rfl) (pmk_own PySem.F.excBase_ValueError RD.x RD.g RD.k (raises_own RD.s RD.t) rfl))) pss_nil)
      (pss_one (ps_ret (pv 2)))))), ?_⟩
    refine ⟨_, rfl, fun y dy ny ndy ney => ?_⟩
    refine ⟨y, dy, x, rfl, upd_same, fun d H2 hd2 k2 la => ⟨rfl, ?_⟩⟩
    have s2 : Same H H2 := fun b o e => k2 b o (ne_of_none e ny) (by rw [upd_ne (ne_of_none e ny), upd_ne (ne_of_none e ndy)]; exact e)
    have hd : H d = none := by
      cases q : H d with
      | none => rfl
      | some o =>
        have z : (upd (upd H dy (.own y)) y (.ins CL dy [])) d = some o := by rw [upd_ne (ne_of_none q ny), upd_ne (ne_of_none q ndy)]; exact q
        rw [hd2] at z
        cases z
    refine ⟨_, rfl, _, rfl, x, df, lt, ws, ts, rfl, fl.same s2, hw, s2.seq hS, hl, ha, fun l as H3 s3 hl0 h3 ta => ?_⟩
    have s03 := s2.trans s3
    have bl := begun_len (wd := wide ws) ha ts.length (Nat.le_refl _)
    have hl0' := none_back s2 hl0
    have nld : l ≠ d := fun q => by rw [q, la.dc] at hl0; cases hl0
    generalize hbg : begun (wide ws) ts ts.length = bg at ta bl
    refine ⟨l, rfl, ⟨_, SqL.of h3⟩, for_list (K := K) (a := l) (xs := as.map V.ref) (fun j σ H4 => ∃ (v3 v4 : Option V) (ov2 : Ovr), σ = [some (.ref x), some (.ref lt), some (.ref y), v3, v4] ∧ Same H H4 ∧ H4 l = some (.lst (as.map V.ref)) ∧ TupsAt H4 as bg ∧ LayD CL H4 y x d ov2 ∧ Bld ws ts ov2 ((bg.take j).map (·.1)))
      ⟨none, none, [], rfl, s03, h3, ta, ⟨dy, la.same s3⟩, Bld.nil ws ts⟩ (fun j σ H4 _ ⟨_, _, _, _, _, h4, _⟩ => SqL.of h4) ?_ ?_⟩
    · rintro j z σ H4 hj ⟨v3, v4, ov2, rfl, s4, h4, t4, l4, bd⟩
      obtain ⟨t, p, ht, hp, rfl, h4t⟩ := tup_el t4 hj
      obtain ⟨a, b⟩ := p
      have tk : (bg.take (j + 1)).map (·.1) = (bg.take j).map (·.1) ++ [a] := by
        rw [List.take_add_one, hp, List.map_append]
        rfl
      have mb : (a, b) ∈ begun (wide ws) ts ts.length := by rw [hbg]; exact List.mem_of_getElem? hp
      obtain ⟨dy4, la4⟩ := l4
      obtain ⟨dxf, lrf, gf, faf⟩ := fl.same s4
      have nM : (flds lrf ws df (gf (topP ws))).lookup ("may" : Str) = none := flds_no _ _ _ _ (by decide +kernel) (by decide +kernel) (by decide +kernel) (by decide +kernel)
      refine ⟨t, _, rfl, SqT.of h4t, rfl, _, _, rfl, _, _, rfl, rfl, ?_⟩
      refine ⟨_, rfl, x, dxf, _, rfl, faf.ob, nM, _, rfl, _, rfl, x, dxf, lrf, df, gf, ws, a, b, rfl, faf, _, rfl, ?_⟩
      have no : ¬ (mayB ws a b = true ∧ look ov2 a = none ∧ look ov2 b = none) → ∃ (v3 v4 : Option V) (ov3 : Ovr), [some (V.ref x), some (.ref lt), some (.ref y), some (.int a), some (.int b)] = [some (.ref x), some (.ref lt), some (.ref y), v3, v4] ∧ Same H H4 ∧ H4 l = some (.lst (as.map V.ref)) ∧ TupsAt H4 as bg ∧ LayD CL H4 y x d ov3 ∧ Bld ws ts ov3 ((bg.take (j + 1)).map (·.1)) := fun q =>
        ⟨_, _, ov2, rfl, s4, h4, t4, ⟨dy4, la4⟩, by rw [tk]; exact bd.skip mb q⟩
      cases hm : mayB ws a b with
      | false =>
        refine iteF ?_
        exact no (fun q => by rw [hm] at q; cases q.1)
      | true =>
      refine iteT ?_
      refine ⟨_, rfl, _, rfl, y, CL, dy4, _, _, rfl, la4.ob, L.cl, L.nO, lfl_over _ _, d, _, rfl, dget la4.dc a, _, rfl, ?_⟩
      cases h1 : look ov2 a with
      | some z =>
        refine iteF ?_
        exact no (fun q => by rw [h1] at q; cases q.2.1)
      | none =>
      refine iteT ?_
      refine ⟨_, rfl, _, rfl, y, CL, dy4, _, _, rfl, la4.ob, L.cl, L.nO, lfl_over _ _, d, _, rfl, dget la4.dc b, _, rfl, ?_⟩
      cases h2 : look ov2 b with
      | some z =>
        refine iteF ?_
        exact no (fun q => by rw [h2] at q; cases q.2.2)
      | none =>
      refine iteT ?_
      refine ⟨_, rfl, y, dy4, _, rfl, la4.ob, lfl_no x d (by decide +kernel) (by decide +kernel), _, rfl, _, rfl, y, x, df, d, ws, ov2, a, b, rfl, ⟨dy4, la4⟩, fl.same s4, Nat.le_trans (bd.v.len hw) (by decide), putN0 hm h1 h2, fun H5 k5 d5 => ?_⟩
      exact ⟨_, _, _, rfl, Keep.new s4 hd k5, k5.at la4.dc h4 (fun _ z => by cases z), t4.keep la4.dc k5, LayD.wrote ⟨dy4, la4⟩ k5 d5, by rw [tk]; exact bd.put mb hm h1 h2⟩
    · rintro σ H4 ⟨v3, v4, ov2, rfl, s4, h4, t4, l4, bd⟩
      have lb : (as.map V.ref).length = bg.length := by rw [List.length_map]; exact t4.1
      rw [lb, List.take_length] at bd
      refine ⟨_, rfl, y, x, df, d, ws, ov2, rfl, l4, fl.same s4, hw, fun l2 H5 s5 hl2 h5 => ?_⟩
      have s05 := s4.trans s5
      refine ⟨_, rfl, ne_texts (drawnR_ok ws ov2) hk (SqL.of h5) (s05.seq hS) ?_⟩
      by_cases e : drawnR ws ov2 = ts
      · rw [decide_eq_true e]
        refine ⟨_, rfl, ?_⟩
        refine iteF ?_
        exact ⟨_, rfl, hQ y d ov2 H5 s05 ny hd (l4.same s5) bd.v e.symm⟩
      · rw [decide_eq_false e]
        refine ⟨_, rfl, ?_⟩
        refine iteT ?_
        exact hE (bd.none (fun q hq => List.mem_map.mpr ⟨q, by rw [← hbg]; exact hq, rfl⟩) (fun z => e z.symm)) H5 s05
end
end Sf
/-! Defs that are handed the exception which a suite holds: the promise knows its object. -/
namespace Ge
open PySem PySem.Spec PyProof.Rows L2 L2H
/-- a promise told also of the object that is held -/
abbrev SpE := Addr × Obj → Sp
structure FnE (P : Program) (w : World) (K : PySem.W.Frag) (mg : Str → Option Value) (base : Heap) (CX : CXT) (k : Nat) (f : Addr) (fd : FuncData) (ps : List Str) (sp : SpE) : Prop where
  len : ∀ p vs H Q E, sp p vs H Q E → vs.length = ps.length
  run : ∀ (A : Around) (outer : List Env) (s : Shared) (H : Hp) (args : Args) (us : List Value) (vs : List V) (Q : VK) (E : XK) (p : Addr × Obj), RoomH k A → PinOk outer H s p → Env0 P w K mg base A outer s H → BindsTo s fd args (ps.zip us) → Vals vs us → sp p vs H Q E →
    codeAny (model P w) A (.call (.ref f) args) (CR CX outer P w H s Q E) s
theorem fnE_of {CX : CXT} {P : Program} {w : World} {K : PySem.W.Frag} {mg : Str → Option Value} {base : Heap} {k : Nat} {f : Addr} {name qual : Str} {params : Arguments} {body : List Stmt} {scope : Scope} {dV kV doc pm cdv ct oc : Value} {an od : Option Addr}
    {osl : Array (Option Value)} {N ps : List Str} {sp : SpE} (lk : K.lookup f = some ⟨oc, od, .func (PySem.W.fnOf name qual params body scope dV kV doc pm an cdv ct), osl⟩) (hcd : PySem.W.codeIn K cdv qual = true) (S : FnScope N ps scope)
    (len : ∀ p vs H Q E, sp p vs H Q E → vs.length = ps.length)
    (hbody : ∀ (A : Around) (outer : List Env) (s : Shared) (H : Hp) (vs : List V) (Q : VK) (E : XK) (p : Addr × Obj), RoomH k (A.deeper (envOfC qual scope s.heap.objs.size f cdv)) → sp p vs H Q E →
      ∃ t, PSs (cxH CX P w K mg base N qual scope f cdv A outer s H E p) body t ∧ t { nx := fun _ H' => Q .non H', rt := Q } (L2.start N vs) H) :
    FnE P w K mg base CX (k + 1) f (PySem.W.fnOf name qual params body scope dV kV doc pm an cdv ct) ps sp := by
  refine ⟨len, fun A outer s H args us vs Q E p hr hpin e0 hb r hsp => ?_⟩
  have hl := len _ _ _ _ _ hsp
  have KX : K.In s.heap := e0.mod.kin.keeps fun b o e => (e0.bs b o e).1
  have lim : s.heap.NoLimit := e0.mod.nolimit.keeps fun b o e => (e0.bs b o e).1
  refine codeAny_call_function hr.depth (KX _ _ lk) rfl S.co S.gen rfl (PySem.W.codeRec_of KX hcd) (hb _ _ _ _ ?_)
  refine wpAny_newFunctionEnv_cells S.kind (fun y hy => ?_) fun env he s1 x => ?_
  · obtain ⟨n, v⟩ := y
    rcases S.par n (List.of_mem_zip hy).1 with q | q
    · exact .inl q
    · exact .inr ⟨q, PySem.W.cellsFrom_some _ _ _ (.inl q)⟩
  subst he
  refine ⟨lim.keeps x.toInCall.keep, codeAny_func ?_⟩
  obtain ⟨t, ht, hq⟩ := hbody A outer s H vs Q E p (hr.deeper _) hsp
  refine wpAny_mono (ht.run [] s1 (L2.start N vs) H _ (inv_startH S hpin e0 hl r x) hq) (fun fl s' hs => ?_) fun e s' hs => hs
  cases fl with
  | ret u =>
    obtain ⟨v, σ', H', J, rv, q⟩ := hs
    exact ⟨v, H', J.os, J.bare, J.base, J.hok, rv, q⟩
  | next =>
    obtain ⟨σ', H', J, q⟩ := hs
    exact ⟨V.non, H', J.os, J.bare, J.base, J.hok, rfl, q⟩
  | brk =>
    obtain ⟨_, _, _, q⟩ := hs
    exact False.elim q
  | cont =>
    obtain ⟨_, _, _, q⟩ := hs
    exact False.elim q
section
variable {X : Cx} {CX : CXT} {k : Nat} {f C : Addr} {fd : FuncData} {ps : List Str} {sp : SpE} {E : XK} {x m : Str} {q pos apos : Pos} {e o : Expr} {es : List Expr} {ta : TE} {t : TA} {p : Addr × Obj}
theorem run_fnE {pins : List (Addr × Obj)} {σ : L2.St} {H : Hp} {s : Shared} {Q : VK} {us : List Value} {vs : List V} (F : FnE X.prog X.w X.K X.mg X.base CX k f fd ps sp) (hr : RoomH k X.A) (hp : p ∈ X.pn) (hb : Binds X.K fd ps []) (hx : Passes CX X E)
    (I : Inv X pins σ H s) (r : Vals vs us) (h : sp p vs H Q E) : wpAny (model X.prog X.w) X.A (call (.ref f) us) (EP X pins σ Q) X.xe s := by
  have hl : us.length = ps.length := by rw [← r.length]; exact F.len _ _ _ _ _ h
  have b := hb s us I.kIn (by rw [List.append_nil]; exact hl)
  rw [List.append_nil] at b
  have P1 := I.pin p (List.mem_append_left _ hp)
  have hpin : PinOk X.stack H s p := ⟨P1.1, P1.2.1, fun hm => (List.mem_cons.mp (I.stkSub p.1 hm)).elim P1.2.2.1 P1.2.2.2.1, P1.2.2.2.2⟩
  refine wpAny_call (codeAny_mono (F.run X.A X.stack s H ⟨us, []⟩ us vs Q E p hr hpin I.env0 b r h) fun r s' hq => ?_)
  cases r with
  | error e => exact hx pins σ H s e s' I hq
  | ok fl =>
    cases fl with
    | ret u => exact I.after hq
    | next => exact False.elim hq
    | brk => exact False.elim hq
    | cont => exact False.elim hq
theorem pe_callE (F : FnE X.prog X.w X.K X.mg X.base CX k f fd ps sp) (hr : RoomH k X.A) (hp : p ∈ X.pn) (hg : Gl X x) (hm : X.mg x = some (.ref f)) (hk : PySem.W.keepIn X.K (.ref f) = true) (hb : Binds X.K fd ps []) (hx : Passes CX X E)
    (ha : PA X (e :: es) t) (hdb : (x == ("__debug__" : Str)) = false := by decide) (he : starEach (e :: es) X.env = (false, eval e X.env) :: starEach es X.env := by rfl) (hpl : (backTo pos (starEach es X.env)).any (·.1) = false := by rfl) :
    PE X (.Call (.Name x q) (e :: es) [] pos) (tCall (sp p) [] E t) := by
  refine ⟨fun pins s σ H Q I h => ?_⟩
  refine wpAny_Call_Name_kw (ld_glob I hg hm ?_ hdb)
  refine PySem.W.callWith_K (h₀ := X.base) I.ok.mod.kin hk (thn (ha.run pos pins s σ H _ I h) fun us s1 ⟨vs, H1, I1, r, q⟩ => ⟨I1.kIn, ?_⟩) he hpl
  have q2 : sp p (vs ++ []) H1 Q E := q
  rw [List.append_nil] at q2
  exact run_fnE F hr hp hb hx I1 r q2
/-- isinstance(e, c), e the exception that is held -/
theorem call_isP {D : Addr} (hp : p ∈ X.pn) (C : ExcC X.K D) (hz : Zc (.ref D) none p.2) (hf : ∃ vs, p.2.data = .fields vs) : CallR X (.builtin "isinstance") (rIsE X.K D p.1) := by
  intro pins s σ H xs us Q I r h
  obtain ⟨c, cv, b, rfl, hcv, e, q⟩ := h
  cases r with
  | cons rx rr =>
    cases rr with
    | cons rt rr =>
      cases rr
      cases rx
      cases hcv _ rt
      obtain ⟨a, oe⟩ := p
      obtain ⟨hget, _⟩ := I.pin (a, oe) (List.mem_append.mpr (.inl hp))
      obtain ⟨vs, hv⟩ := hf
      have J : PySem.W.InstAt s.heap a oe D none := by
        obtain ⟨oc, od, oda, osl⟩ := oe
        obtain ⟨h1, h2⟩ := hz
        dsimp only at h1 h2 hv
        subst h1 h2 hv
        exact ⟨hget, rfl, rfl, trivial⟩
      exact PySem.W.kia_one (PySem.W.handS_kitx_exc C.hg C.hk C.hs C.hd C.ha C.hn C.ht C.hm) I.kIn J e (fun z => nomatch z) fun tk => ⟨.bl b, H, I.tok tk, rfl, q⟩
end
/-! ### list.count of bools -/
def bq (k : Bool) (v : Value) : Bool := match v with
  | .bool b => b == k
  | _ => false
theorem bq_at {A : Around} {s : Shared} {k : Bool} : ∀ {us : List Value} {bs : List Bool}, Vals (bs.map V.bl) us → ∀ y ∈ us, SeqAt.EqAt A s y (.bool k) (bq k y)
  | _, [], r => fun y hy => by
    cases r
    cases hy
  | _, b :: bs, r => fun y hy => by
    cases r with
    | cons ru rr =>
      rename_i u us
      rcases List.mem_cons.mp hy with e | e
      · obtain rfl : u = Value.bool b := ru
        rw [e]
        exact SeqAt.EqAt.bool_bool b k
      · exact bq_at rr y e
theorem bq_count {k : Bool} : ∀ {us : List Value} {bs : List Bool}, Vals (bs.map V.bl) us → us.countP (bq k) = bs.count k
  | _, [], r => by
    cases r
    rfl
  | _, b :: bs, r => by
    cases r with
    | cons ru rr =>
      rename_i u us
      obtain rfl : u = Value.bool b := ru
      rw [List.countP_cons, bq_count rr, List.count_cons]
      rfl
theorem mt_bcount {X : Cx} : MtR X "list.count" (fun x xs H Q => ∃ (p : Addr) (bs : List Bool) (k : Bool), x = .ref p ∧ xs = [.bl k] ∧ SqL X.K H p (bs.map V.bl) ∧ Q (.int (bs.count k : Nat)) H) := by
  intro pins s σ H x xs v us Q I rx rxs h
  obtain ⟨p, bs, k, rfl, rfl, hs, q⟩ := h
  cases rx
  obtain ⟨u, rfl, ru⟩ := rxs.one
  obtain rfl : u = Value.bool k := ru
  obtain ⟨its, rv, ⟨⟨cls, dd, data, sl⟩, n, ho, hc, hdn, hd⟩, hlen⟩ := I.list hs
  simp only at hc hd
  subst hc hd
  refine call_meets PySem.F.slot_list_count ⟨_, ho, rfl⟩ PySem.F.entry_list_count (PySem.F.args_list_count_2 _ _)
    (SeqAt.list_countAt p its.toArray n dd sl (.bool k) (bq k)) ⟨ho, fun y hy => bq_at rv y (by simpa using hy), ?_⟩
  have ec : its.toArray.toList.countP (bq k) = bs.count k := bq_count rv
  refine ⟨.int (bs.count k : Nat), H, I.tok _, ⟨s.toks, ?_⟩, q⟩
  show Value.int ((its.toArray.toList.countP (bq k) : Nat) : Int) s.toks = Value.int ((bs.count k : Nat) : Int) s.toks
  rw [ec]
end Ge
namespace Sf
open PySem PySem.Spec PyProof.Rows L2 L2H Ge
/-! ### one class that the document names -/
theorem pss_pre {X : Cx} {ss : List Stmt} {t t' : TS} (h : PSs X ss t) (imp : ∀ D σ H, t' D σ H → t D σ H) : PSs X ss t' := ⟨fun pins s σ H D I q => h.run pins s σ H D I (imp _ _ _ q)⟩
/-- the classes: the eight, and the root of them -/
structure ECs where
  cL : Addr
  cR : Addr
  cS : Addr
  cN : Addr
  cB : Addr
  cC : Addr
  cU : Addr
  cD : Addr
  cF : Addr
structure ETxt (K : PySem.W.Frag) (mg : Str → Option Value) (c : ECs) : Prop where
  gL : mg "TooLarge" = some (.ref c.cL)
  gR : mg "Ragged" = some (.ref c.cR)
  gS : mg "StrangeSign" = some (.ref c.cS)
  gN : mg "NoCell" = some (.ref c.cN)
  gB : mg "NotBeside" = some (.ref c.cB)
  gC : mg "Covered" = some (.ref c.cC)
  gU : mg "Uncovered" = some (.ref c.cU)
  gD : mg "NoDrawing" = some (.ref c.cD)
  gF : mg "FloorError" = some (.ref c.cF)
/-- D is one of the eight, a FloorError, a ValueError -/
def OneC (K : PySem.W.Frag) (c : ECs) (D : Addr) : Prop := ExcC K D ∧ ∃ b1 b2 b3 b4 b5 b6 b7 b8 : Bool,
  PySem.W.kitOne K (.ref D) (.ref c.cL) = some b1 ∧ PySem.W.kitOne K (.ref D) (.ref c.cR) = some b2 ∧ PySem.W.kitOne K (.ref D) (.ref c.cS) = some b3 ∧ PySem.W.kitOne K (.ref D) (.ref c.cN) = some b4 ∧
  PySem.W.kitOne K (.ref D) (.ref c.cB) = some b5 ∧ PySem.W.kitOne K (.ref D) (.ref c.cC) = some b6 ∧ PySem.W.kitOne K (.ref D) (.ref c.cU) = some b7 ∧ PySem.W.kitOne K (.ref D) (.ref c.cD) = some b8 ∧
  [b1, b2, b3, b4, b5, b6, b7, b8].count true = 1 ∧ PySem.W.kitOne K (.ref D) (.ref c.cF) = some true ∧ PySem.W.kitOne K (.ref D) (.type "ValueError") = some true
theorem kit_VE {K : PySem.W.Frag} {D : Addr} (h : PySem.W.subIn K (.ref D) (.type "ValueError") = some true) : PySem.W.kitOne K (.ref D) (.type "ValueError") = some true := by
  have e : ((Value.ref D) == (Value.type "ValueError")) = false := rfl
  have m : PySem.W.kitMeta "ValueError" = true := by decide +kernel
  unfold PySem.W.kitOne PySem.W.kitCls
  rw [e, if_neg (by decide)]
  show (if PySem.W.kitMeta "ValueError" = true then _ else none) = _
  rw [if_pos m]
  exact h
def spOne (K : PySem.W.Frag) (c : ECs) : SpE := fun p vs H Q _ => ∃ D, OneC K c D ∧ Zc (.ref D) none p.2 ∧ (∃ us, p.2.data = .fields us) ∧ vs = [.ref p.1] ∧ ∀ H', Same H H' → Q (.bl true) H'
section
variable {P : Program} {w : World} {K : PySem.W.Frag} {mg : Str → Option Value} {base : Heap}
theorem fun_okE {x qual : Str} {st : Stmt} {f : Addr} {fd : FuncData} {N ps : List Str} {k : Nat} {sp : SpE} (F : Fun K x qual st f fd) (S : FnScope N ps (defScope st)) (len : ∀ p vs H Q E, sp p vs H Q E → vs.length = ps.length)
    (hbody : ∀ (cdv : Value) (A : Around) (outer : List Env) (s : Shared) (H : Hp) (vs : List V) (Q : VK) (E : XK) (p : Addr × Obj), RoomH k (A.deeper (envOfC qual (defScope st) s.heap.objs.size f cdv)) → sp p vs H Q E →
      ∃ t, PSs (cxH CX0 P w K mg base N qual (defScope st) f cdv A outer s H E p) (defBody st) t ∧ t { nx := fun _ H' => Q .non H', rt := Q } (L2.start N vs) H) : FnE P w K mg base CX0 (k + 1) f fd ps sp := by
  obtain ⟨oc, od, kV, doc, pm, an, cdv, ct, osl, rfl, lk, hcd⟩ := F.ex
  exact fnE_of lk hcd S len fun A outer s H vs Q E p hr hsp => hbody cdv A outer s H vs Q E p hr hsp
def nOne : List Str := ["_law_e", "_law_told"]
theorem scOne : FnScope nOne ["_law_e"] (defScope s_law_one_class) := ⟨rfl, rfl, rfl, by decide +kernel, rfl, by decide +kernel, by decide +kernel⟩
theorem ok_one {f : Addr} {fd : FuncData} {c : ECs} (F : Fun K "_law_one_class" "_law_one_class" s_law_one_class f fd) (T : ETxt K mg c) (gI : mg "isinstance" = none) (gV : mg "ValueError" = none) : FnE P w K mg base CX0 1 f fd ["_law_e"] (spOne K c) := by
  refine fun_okE F scOne (fun p vs H Q E h => ?_) (fun cdv A outer s H vs Q E p hr h => ?_)
  · obtain ⟨D, _, _, _, rfl, _⟩ := h
    rfl
  · obtain ⟨D, ⟨xD, b1, b2, b3, b4, b5, b6, b7, b8, e1, e2, e3, e4, e5, e6, e7, e8, hc, eF, eV⟩, hz, hf, rfl, hQ⟩ := h
    have hp : p ∈ (cxH CX0 P w K mg base nOne "_law_one_class" (defScope s_law_one_class) f cdv A outer s H E p).pn := List.mem_singleton.mpr rfl
    refine ⟨_, pss_cons (ps_set (i := 1) scOne.nd rfl (Or.inl rfl) (pe_lst (pa_cons (pe_callB (call_isP hp xD hz hf) (by rfl) gI PyProof.Rows.boot_isinstance (pa_cons (pv 0) (pa_cons (pe_glob (v := .ref c.cL) rfl T.gL rfl) pa_nil)))
        (pa_cons (pe_callB (call_isP hp xD hz hf) (by rfl) gI PyProof.Rows.boot_isinstance (pa_cons (pv 0) (pa_cons (pe_glob (v := .ref c.cR) rfl T.gR rfl) pa_nil)))
        (pa_cons (pe_callB (call_isP hp xD hz hf) (by rfl) gI PyProof.Rows.boot_isinstance (pa_cons (pv 0) (pa_cons (pe_glob (v := .ref c.cS) rfl T.gS rfl) pa_nil)))
        (pa_cons (pe_callB (call_isP hp xD hz hf) (by rfl) gI PyProof.Rows.boot_isinstance (pa_cons (pv 0) (pa_cons (pe_glob (v := .ref c.cN) rfl T.gN rfl) pa_nil))) pa_nil))))))
      (pss_cons (ps_set (i := 1) scOne.nd rfl (Or.inl rfl) (pe_op op_cat (pv 1) (pe_lst (pa_cons (pe_callB (call_isP hp xD hz hf) (by rfl) gI PyProof.Rows.boot_isinstance (pa_cons (pv 0) (pa_cons (pe_glob (v := .ref c.cB) rfl T.gB rfl) pa_nil)))
        (pa_cons (pe_callB (call_isP hp xD hz hf) (by rfl) gI PyProof.Rows.boot_isinstance (pa_cons (pv 0) (pa_cons (pe_glob (v := .ref c.cC) rfl T.gC rfl) pa_nil)))
        (pa_cons (pe_callB (call_isP hp xD hz hf) (by rfl) gI PyProof.Rows.boot_isinstance (pa_cons (pv 0) (pa_cons (pe_glob (v := .ref c.cU) rfl T.gU rfl) pa_nil))) pa_nil))))))
      (pss_cons (ps_expr (pe_bm PySem.F.plainAttrs_list PySem.F.slot_list_append PySem.F.type_list_append mt_append (pv 1) (pa_cons (pe_callB (call_isP hp xD hz hf) (by rfl) gI PyProof.Rows.boot_isinstance (pa_cons (pv 0) (pa_cons (pe_glob (v := .ref c.cD) rfl T.gD rfl) pa_nil))) pa_nil)))
      (pss_one (ps_ret (pe_and (pe_cmpR op_eq (pe_bm PySem.F.plainAttrs_list PySem.F.slot_list_count PySem.F.type_list_count mt_bcount (pv 1) (pa_cons pe_bl pa_nil)) pe_int (nomark _))
        (pe_and (pe_callB (call_isP hp xD hz hf) (by rfl) gI PyProof.Rows.boot_isinstance (pa_cons (pv 0) (pa_cons (pe_glob (v := .ref c.cF) rfl T.gF rfl) pa_nil)))
        (pe_one (pe_callB (call_isP hp xD hz hf) (by rfl) gI PyProof.Rows.boot_isinstance (pa_cons (pv 0) (pa_cons (pe_bltn (v := .ty "ValueError") (by rfl) gV (by rfl) rfl) pa_nil)))))))))), ?_⟩
    have rr : ∀ (a : Addr) (u : Value), RelV (V.ref a) u → u = .ref a := fun _ _ h => h
    refine ⟨_, rfl, .ref c.cL, .ref c.cL, b1, rfl, rr _, e1, _, rfl, .ref c.cR, .ref c.cR, b2, rfl, rr _, e2, _, rfl, .ref c.cS, .ref c.cS, b3, rfl, rr _, e3, _, rfl, .ref c.cN, .ref c.cN, b4, rfl, rr _, e4, (by show 4 ≤ sizeLine; decide), fun l1 h1 => ?_⟩
    refine ⟨_, rfl, _, rfl, .ref c.cB, .ref c.cB, b5, rfl, rr _, e5, _, rfl, .ref c.cC, .ref c.cC, b6, rfl, rr _, e6, _, rfl, .ref c.cU, .ref c.cU, b7, rfl, rr _, e7, (by show 3 ≤ sizeLine; decide), fun l2 h2 => ?_⟩
    have n12 : l1 ≠ l2 := fun q => by rw [← q, upd_same] at h2; cases h2
    refine ⟨l1, l2, _, _, rfl, rfl, by rw [upd_ne n12, upd_same], upd_same, (by show 7 ≤ sizeLine; decide), fun l3 h3 => ?_⟩
    have k3 : Same H (upd (upd (upd H l1 (.lst [.bl b1, .bl b2, .bl b3, .bl b4])) l2 (.lst [.bl b5, .bl b6, .bl b7])) l3 (.lst [.bl b1, .bl b2, .bl b3, .bl b4, .bl b5, .bl b6, .bl b7])) := (Same.new h1).trans ((Same.new h2).trans (Same.new h3))
    have h3H : ∀ b o, H b = some o → b ≠ l3 := fun b o e q => by
      have z := (Same.new (o := .lst [.bl b1, .bl b2, .bl b3, .bl b4]) h1).trans (Same.new (o := .lst [.bl b5, .bl b6, .bl b7]) h2) b o e
      rw [q, h3] at z
      cases z
    refine ⟨_, rfl, .inl ⟨rfl, _, SqL.of upd_same⟩, _, rfl, .ref c.cD, .ref c.cD, b8, rfl, rr _, e8, l3, _, _, rfl, rfl, upd_same, (by show 7 < sizeLine; decide), ?_⟩
    refine ⟨_, rfl, .inl ⟨rfl, _, SqL.of upd_same⟩, l3, [b1, b2, b3, b4, b5, b6, b7, b8], true, rfl, rfl, SqL.of upd_same, rfl, _, rfl, ?_⟩
    rw [hc]
    refine iteTd rfl ?_
    refine ⟨_, rfl, .ref c.cF, .ref c.cF, true, rfl, rr _, eF, _, rfl, ?_⟩
    refine iteT ?_
    refine ⟨_, rfl, .ty "ValueError", .type "ValueError", true, rfl, fun _ h => h, eV, ?_⟩
    refine hQ _ fun b o e => ?_
    rw [upd_ne (h3H b o e)]
    exact k3 b o e
end
end Sf
namespace Sf
open PySem PySem.Spec PyProof.Rows L2 L2H Ge Gm Gc
/-! ### the law reads -/
def spLRead (K : PySem.W.Frag) (C : Addr) : Sp := fun vs H Q _ => ∃ (x df lt : Addr) (ws ts : List Str), vs = [.ref x, .ref lt] ∧ FloorD C H x df ws ∧ Wf ws ∧ SqL K H lt (ts.map V.str) ∧ ts.length ≤ 20 ∧ (∀ a ∈ ts, a.length ≤ 20) ∧ (∀ a ∈ ts, okTxt a) ∧
  (∀ (d : Addr) (ov : Ovr) (H' : Hp), Same H H' → H d = none → H' d = some (.dK (dk ov)) → Vl ws ov → ts = drawnR ws ov → Q (.ref d) H') ∧
  ((∀ ov, Vl ws ov → ts ≠ drawnR ws ov) → ∀ H', Same H H' → Q .non H')
def tsRd (CD : Addr) : Addr → Value → Option Addr → TS := fun a cls d D σ H => cls = .ref CD ∧ d = none ∧ tVar 3 σ H fun v H1 => v = .ref a ∧ ∀ H', Same H1 H' → D.rt .non H'
section
variable {P : Program} {w : World} {K : PySem.W.Frag} {mg : Str → Option Value} {base : Heap} {C CL : Addr}
theorem sc_law_read : FnScope ["_law_floor", "_law_told", "_law_laying", "_law_e"] ["_law_floor", "_law_told"] (defScope s_law_read) := ⟨rfl, rfl, rfl, by decide +kernel, rfl, by decide +kernel, by decide +kernel⟩
theorem ok_lread {fO : Addr} {fdO : FuncData} {c : ECs} (D : Df K mg "_law_read" s_law_read ["_law_floor", "_law_told"]) (B : Bi mg) (T : FTxt K mg C) (L : LTxt K mg CL) (SC : Go.SelfC K C) (IL : C8.InsC K CL) (TE : ETxt K mg c) (O : OneC K c c.cD) (xm : PySem.W.exmOne K (.ref c.cD) (.ref c.cF) = some true) (kD : PySem.W.kitOne K (.ref c.cD) (.ref c.cD) = some true)
    (c_read : Cl P w K mg base (L2.CX P w) 4 "read" ["floor", "rows"] (spRead K C CL c.cD)) (c_law_told_well : Cl P w K mg base CX0 6 "_law_told_well" ["_law_rows_here", "_law_laying"] (spWell K C CL))
    (GO : FnE P w K mg base CX0 1 fO fdO ["_law_e"] (spOne K c)) (gO : mg "_law_one_class" = some (.ref fO)) (kO : PySem.W.keepIn K (.ref fO) = true) (bO : Binds K fdO ["_law_e"] []) :
    Cl P w K mg base CX0 7 "_law_read" ["_law_floor", "_law_told"] (spLRead K C) := D.cl fun f fd F => by
  obtain ⟨fB, fdB, GB, gB, kB, bB⟩ := c_read.ex
  refine F.ok sc_law_read (fun vs H Q E h => ?_) (fun cdv A outer s H vs Q E hr h => ?_)
  · obtain ⟨x, df, lt, ws, ts, rfl, _⟩ := h
    rfl
  · obtain ⟨x, df, lt, ws, ts, rfl, fl, hw, hS, hl, ha, hk, hQ, hE⟩ := h
    have hu := hu_of hr
    have hr4 : Room 4 _ := hr.mono (by decide)
    refine ⟨_, pss_cons (ps_try_as (i := 3) (tb := fun W => tAsg (tCallS (spRead K C CL c.cD) (WE W) (tCons (tVar 0) (tCons (tVar 1) tNil))) (gName 2)) (ts := tsRd c.cD) (Wout := fun _ _ _ _ => False) rfl rfl sc_law_read.nd rfl rfl ⟨rfl, by decide, Or.inl TE.gF⟩ takes0
        (fun W pn xe tk _ => pss_one (ps_set (i := 2) sc_law_read.nd rfl (Or.inl rfl) (by exact (pe_callS GB hr4 rfl gB kB bB (fun σ => passAt tk σ) (pa_cons (pv 0) (pa_cons (pv 1) pa_nil))))))
        (fun a oe cls d pn hz hf => ?suite))
      (pss_cons (ps_if (PW.pt (pw_or (pt_not (pt_val (pe_callB (C8.call_isC IL) (by rfl) B.isinstance PyProof.Rows.boot_isinstance (pa_cons (pv 2) (pa_cons (pe_glob (v := .ref CL) rfl L.mgC rfl) pa_nil))))) (pw_or (pt_cmpR (Go.op_neSelf hu) (pe_fld (pv 2) rfl) (pv 0) (nomark _)) (pw_or1 (pt_not (pt_val (pe_cl c_law_told_well (hr.mono (by decide)) rfl (pa_cons (pe_fld (pv 0) rfl) (pa_cons (pv 2) pa_nil))))))))) (pss_one (ps_ret pe_str)) pss_nil)
      (pss_one (ps_ret (pe_fld (pv 2) rfl)))), ?pure⟩
    case suite =>
      by_cases hcls : cls = .ref c.cD ∧ d = none
      · obtain ⟨rfl, rfl⟩ := hcls
        refine pss_pre (t := tRet (tIf (tAnd (tB (tCB (rIsE K c.cD a) (tCons (tVar 3) (tCons (tC (.ref c.cD)) tNil)))) (tB (tCall (spOne K c (a, oe)) [] E0 (tCons (tVar 3) tNil)))) (tC .non) (tC (.str "other")))) (pss_one (ps_ret (by exact (pe_ifExp (PW.pt (pw_and (pt_val (pe_callB (call_isP (p := (a, oe)) List.mem_cons_self O.1 hz hf) (by rfl) B.isinstance PyProof.Rows.boot_isinstance (pa_cons (pv 3) (pa_cons (pe_glob (v := .ref c.cD) rfl TE.gD rfl) pa_nil)))) (pw_and1 (pt_val (pe_callE GO ⟨(hr.mono (by decide) : Room 1 _).dp, (hr.mono (by decide) : Room 1 _).un⟩ List.mem_cons_self rfl gO kO bO pass0 (pa_cons (pv 3) pa_nil)))))) pe_non pe_str)))) ?_
        rintro D σ H1 ⟨_, _, v, hv, rfl, q⟩
        refine ⟨_, hv, .ref c.cD, .ref c.cD, true, rfl, (fun u h => h), kD, true, rfl, ?_⟩
        refine iteT ?_
        refine ⟨_, hv, c.cD, O, hz, hf, rfl, fun H' s' => ⟨true, rfl, ?_⟩⟩
        exact iteT (q H' s')
      · exact ⟨fun pins s σ H D I q => absurd ⟨q.1, q.2.1⟩ hcls⟩
    case pure =>
      refine ⟨_, rfl, _, rfl, x, df, lt, ws, ts, rfl, fl, hw, hS, hl, ha, hk, fun y d ov H1 s1 hy hd la v e => ?_, fun ne H1 s1 => ?_⟩
      case _ =>
        obtain ⟨dy, lb⟩ := la
        have nfd : df ≠ d := by
          obtain ⟨kv, z⟩ := fl.dc
          exact ne_of_none z hd
        have fl1 := fl.same s1
        obtain ⟨dxf, lrf, gf, faf⟩ := fl1
        refine ⟨_, rfl, y, dy, _, rfl, lb.ob, _, rfl, ?_⟩
        refine iteF ?_
        refine ⟨_, rfl, y, CL, dy, _, _, rfl, lb.ob, L.cl, L.nF, lfl_floor _ _, _, rfl, x, C, dxf, _, rfl, rfl, faf.ob, SC, _, rfl, ?_⟩
        refine iteF ?_
        refine ⟨_, rfl, x, C, dxf, _, _, rfl, faf.ob, T.cl, T.nR, flds_rows _ _ _ _, _, rfl, lrf, y, x, df, d, ws, ov, rfl, SqL.of faf.rw, ⟨dy, lb⟩, fl.same s1, nfd, hw, v, fun ov2 H2 p2 k2 la2 => ?_⟩
        refine ⟨_, rfl, ?_⟩
        refine iteF ?_
        obtain ⟨dy2, lb2⟩ := la2
        refine ⟨_, rfl, y, CL, dy2, _, _, rfl, lb2.ob, L.cl, L.nO, lfl_over _ _, ?_⟩
        exact hQ d ov2 H2 (Keep.new s1 hd k2) hd lb2.dc (v.perm p2) (e.trans (drawnR_perm p2 v.nd))
      case _ =>
        exact ⟨true, xm, fun _ e0 he0 => ⟨rfl, rfl, _, rfl, rfl, fun H' s' => hE ne H' (s1.trans s')⟩, fun q => Bool.noConfusion q⟩
end
end Sf
namespace Sf
open PySem PySem.Spec PyProof.Rows L2 Gc
/-! ### what is begun, place by place -/
theorem getD_of {a : Str} {c n : Nat} (h : a.cps.toList[c]? = some n) : a.cps.getD c 35 = n := by
  rw [Array.getD_eq_getD_getElem?, ← Array.getElem?_toList, h]
  rfl
theorem getD_mem {ts : List Str} {r : Nat} (h : r < ts.length) : ts.getD r ("" : Str) ∈ ts := by
  rw [List.getD_eq_getElem?_getD, List.getElem?_eq_getElem h]
  exact List.getElem_mem _
theorem beg_at {wd : Nat} {ts : List Str} (hs : ∀ a ∈ ts, a.length = wd) {j n : Nat} (hj : j < ts.length * wd) (hn : (Gx2.flat ts)[j]? = some n) :
    ∃ r c : Nat, r < ts.length ∧ c < wd ∧ r * wd + c = j ∧ (ts.getD r ("" : Str)).cps.getD c 35 = n := by
  have w0 : 0 < wd := by
    rcases Nat.eq_zero_or_pos wd with e | e
    · rw [e, Nat.mul_zero] at hj
      omega
    · exact e
  have hr : j / wd < ts.length := Nat.div_lt_of_lt_mul (by rw [Nat.mul_comm]; exact hj)
  have hc : j % wd < wd := Nat.mod_lt _ w0
  have e : j / wd * wd + j % wd = j := Nat.div_add_mod' j wd
  refine ⟨j / wd, j % wd, hr, hc, e, getD_of ?_⟩
  rw [← flat_row hs _ _ hr hc, e, hn]
theorem beg_left {wd : Nat} {ts : List Str} (hs : ∀ a ∈ ts, a.length = wd) {j : Nat} (hj : j < ts.length * wd) (hn : (Gx2.flat ts)[j]? = some 60) : (((j : Nat) : Int), ((j : Nat) : Int) + 1) ∈ begun wd ts ts.length := by
  obtain ⟨r, c, hr, hc, e, g⟩ := beg_at hs hj hn
  refine mem_begun.mpr ⟨r, c, hr, ?_, mem_begAt.mpr ⟨by rw [e], .inl ⟨g, rfl⟩⟩⟩
  rw [hs _ (getD_mem hr)]
  exact hc
theorem beg_upper {wd : Nat} {ts : List Str} (hs : ∀ a ∈ ts, a.length = wd) {j : Nat} (hj : j < ts.length * wd) (hn : (Gx2.flat ts)[j]? = some 94) : (((j : Nat) : Int), ((j : Nat) : Int) + ((wd : Nat) : Int)) ∈ begun wd ts ts.length := by
  obtain ⟨r, c, hr, hc, e, g⟩ := beg_at hs hj hn
  refine mem_begun.mpr ⟨r, c, hr, ?_, mem_begAt.mpr ⟨by rw [e], .inr ⟨g, rfl⟩⟩⟩
  rw [hs _ (getD_mem hr)]
  exact hc
theorem beg_sign {wd : Nat} {ts : List Str} (hs : ∀ a ∈ ts, a.length = wd) {j n : Nat} (hj : j < ts.length * wd) (hn : (Gx2.flat ts)[j]? = some n) {q : Int × Int} (hq : q ∈ begun wd ts ts.length) (e1 : q.1 = ((j : Nat) : Int)) : n = 60 ∨ n = 94 := by
  obtain ⟨r, c, hr, hc, e, g⟩ := beg_at hs hj hn
  obtain ⟨r2, c2, hr2, hc2, h2⟩ := mem_begun.mp hq
  obtain ⟨e2, h3⟩ := mem_begAt.mp h2
  rw [hs _ (getD_mem hr2)] at hc2
  have e3 : r * wd + c = r2 * wd + c2 := by omega
  obtain ⟨rfl, rfl⟩ := coord hc hc2 e3
  rw [g] at h3
  rcases h3 with h3 | h3
  · exact .inl h3.1
  · exact .inr h3.1
theorem beg_lt {wd : Nat} {ts : List Str} (hs : ∀ a ∈ ts, a.length = wd) {q : Int × Int} (hq : q ∈ begun wd ts ts.length) : 0 ≤ q.1 ∧ q.1 < ((ts.length * wd : Nat) : Int) := by
  obtain ⟨r, c, hr, hc, h2⟩ := mem_begun.mp hq
  obtain ⟨e2, _⟩ := mem_begAt.mp h2
  rw [hs _ (getD_mem hr)] at hc
  have m : (r + 1) * wd ≤ ts.length * wd := Nat.mul_le_mul_right _ hr
  rw [Nat.add_mul] at m
  omega
theorem sum_most {n : Nat} : ∀ {ts : List Str}, (∀ a ∈ ts, a.length ≤ n) → (ts.map (·.length)).sum ≤ n * ts.length
  | [], _ => Nat.zero_le _
  | a :: r, h => by
    have h1 := h a List.mem_cons_self
    have h2 := sum_most (ts := r) fun b hb => h b (List.mem_cons_of_mem _ hb)
    rw [List.map_cons, List.sum_cons, List.length_cons, Nat.mul_add, Nat.mul_one]
    omega
theorem tk_begin (n : Nat) : tk "<^" n = decide (n = 60 ∨ n = 94) := by
  have e : ("<^" : Str).cps.toList = [60, 94] := by decide +kernel
  unfold tk
  rw [e]
  refine decide_eq_decide.mpr ?_
  simp
end Sf
/-! A comprehension that keeps some values of a list; two ways to compare. -/
namespace Gc
open PySem PySem.Spec PyProof.Rows L2
/-- [x for x in list if t] -/
theorem lc_filtV {K : PySem.W.Frag} {a : Addr} {xs : List V} {i : Nat} {tt : TT} {σ : L2.St} {H1 : Hp} {D : Addr} {Qd : Hp → Prop} (p : V → Bool) (hS : SqL K H1 a xs) (hD : H1 D = none) (hl : xs.length ≤ 900) (hi : i < σ.length)
    (ht : ∀ c H3, c ∈ xs → Same H1 H3 → ∀ R : Bool → Hp → Prop, (∀ H4, Same H3 H4 → R (p c) H4) → tt ((wipe σ [i]).set i (some c)) H3 R)
    (hd : ∀ H3, Same H1 H3 → H3 D = some (.lst (xs.filter p)) → Qd H3) :
    ∃ W : Nat → Nat → Hp → Prop, (∃ m, W 0 m (upd H1 D (.lst []))) ∧ ∀ i' m H, W i' m H →
      ((Itl K a).stop i' H ∧ Qd H) ∨ ((Itl K a).go i' H ∧ ∃ Nx : Hp → Prop, (∀ H', Nx H' → ∃ m', m' < m ∧ W (i' + 1) m' H') ∧ ∀ x H', (Itl K a).yld i' H x H' → gName i x (wipe σ [i]) H' fun σ2 H2 => wipe σ2 [i] = wipe σ [i] ∧ tt σ2 H2 fun b H3 =>
        if b = true then tVar i σ2 H3 fun y H4 => ∃ acc, H4 D = some (.lst acc) ∧ acc.length < sizeLine ∧ Nx (upd H4 D (.lst (acc ++ [y]))) else Nx H3) := by
  refine lc_list (K := K) (a := a) (xs := xs) (fun j H3 => Same H1 H3 ∧ H3 D = some (.lst ((xs.take j).filter p))) ⟨same_new hD, upd_same⟩ (fun i H3 _ ⟨s3, _⟩ => s3.seq hS) ?_ ?_
  · rintro j y H3 hj ⟨s3, h3⟩
    have tk1 : xs.take (j + 1) = xs.take j ++ [y] := by
      rw [List.take_add_one, hj] <;> rfl
    refine ⟨wipe1 σ i _, ht y H3 (List.mem_of_getElem? hj) s3 _ fun H4 s4 => ?_⟩
    have h4 := s4 _ _ h3
    have s34 := s3.trans s4
    cases hp : p y with
    | true =>
      refine iteT ?_
      refine ⟨y, ?_, _, h4, ?_, same_off s34 hD, ?_⟩
      · show ((σ.set i none).set i (some y))[i]? = _
        rw [List.getElem?_set_self (by rw [List.length_set]; exact hi)]
      · have q1 := List.length_filter_le p (xs.take j)
        have q2 : (xs.take j).length ≤ xs.length := by rw [List.length_take]; omega
        exact small1000 (by omega)
      · rw [upd_same, tk1, List.filter_append, List.filter_cons, if_pos hp] <;> rfl
    | false =>
      refine iteF ?_
      refine ⟨s34, ?_⟩
      rw [tk1, List.filter_append, List.filter_cons, if_neg (by rw [hp]; decide), List.filter_nil, List.append_nil]
      exact h4
  · rintro H3 ⟨s3, h3⟩
    rw [List.take_length] at h3
    exact hd H3 s3 h3
theorem op_or {X : Cx} {f : Value → Value → Sem Value} {r1 r2 : R2} (h1 : OpR X f r1) (h2 : OpR X f r2) : OpR X f (fun x y H Q => r1 x y H Q ∨ r2 x y H Q) := fun pins s σ H x y v u Q I rx ry h => h.elim (h1 pins s σ H x y v u Q I rx ry) (h2 pins s σ H x y v u Q I rx ry)
end Gc
namespace Sf
open PySem PySem.Spec PyProof.Rows L2 Gc
/-! ### what the law holds that rows draw -/
def spDue (K : PySem.W.Frag) : Sp := fun vs H Q _ => ∃ (l lt : Addr) (ws ts : List Str), vs = [.ref l, .ref lt] ∧ SqL K H l (ws.map V.str) ∧ Wf ws ∧ SqL K H lt (ts.map V.str) ∧ ts.length ≤ 20 ∧ (∀ a ∈ ts, a.length ≤ 20) ∧ (∀ a ∈ ts, okTxt a) ∧
  (∀ (d : Addr) (ov : Ovr) (H' : Hp), Same H H' → H d = none → H' d = some (.dK (dk ov)) → Vl ws ov → ts = drawnR ws ov → Q (.ref d) H') ∧
  ((∀ ov, Vl ws ov → ts ≠ drawnR ws ov) → ∀ H', Same H H' → Q .non H')
def lenNe (wd : Nat) : V → Bool
  | .str a => !decide (V.int ((a.length : Nat) : Int) = V.int ((wd : Nat) : Int))
  | _ => false
theorem lenNe_filter {wd : Nat} {ts : List Str} : ((ts.map V.str).filter (lenNe wd)).length = 0 ↔ ∀ a ∈ ts, a.length = wd := by
  rw [List.length_eq_zero_iff, List.filter_eq_nil_iff]
  constructor
  · intro h a ha
    have q := h (V.str a) (List.mem_map_of_mem ha)
    have q2 : ¬ (!decide (V.int ((a.length : Nat) : Int) = V.int ((wd : Nat) : Int))) = true := q
    rw [Bool.not_eq_true', decide_eq_false_iff_not, Decidable.not_not] at q2
    have := V.int.inj q2
    omega
  · rintro h v hv q
    obtain ⟨a, ha, rfl⟩ := List.mem_map.mp hv
    have q2 : (!decide (V.int ((a.length : Nat) : Int) = V.int ((wd : Nat) : Int))) = true := q
    rw [h a ha, decide_eq_true rfl] at q2
    cases q2
section
variable {P : Program} {w : World} {K : PySem.W.Frag} {mg : Str → Option Value} {base : Heap}
theorem sc_law_due : FnScope ["_law_rows_here", "_law_told", "_law_wide", "_law_signs", "_law_over_here", "_law_place", "_law_step", "_law_other", "_law_row"] ["_law_rows_here", "_law_told"] (defScope s_law_due) := ⟨rfl, rfl, rfl, by decide +kernel, rfl, by decide +kernel, by decide +kernel⟩
theorem ok_due (D : Df K mg "_law_due" s_law_due ["_law_rows_here", "_law_told"]) (B : Bi mg)
    (c_law_may : Cl P w K mg base CX0 1 "_law_may" ["_law_rows_here", "_law_one", "_law_other"] (spLMay K)) (c_law_drawn : Cl P w K mg base CX0 2 "_law_drawn" ["_law_rows_here", "_law_over_here"] (spLDrawn K)) :
    Cl P w K mg base CX0 3 "_law_due" ["_law_rows_here", "_law_told"] (spDue K) := D.cl fun f fd F => by
  refine F.ok sc_law_due (fun vs H Q E h => ?_) (fun cdv A outer s H vs Q E hr h => ?_)
  · obtain ⟨l, lt, ws, ts, rfl, _⟩ := h
    rfl
  · obtain ⟨l, lt, ws, ts, rfl, hS, hw, hT, hl, ha, hk, hQ, hE⟩ := h
    have hu := hu_of hr
    have hwd := hw.wid
    have hh := hw.high
    refine ⟨_, (C8.pss_cut (ps_set (i := 2) sc_law_due.nd rfl (Or.inr rfl) (pe_ifExp (pt_cmpR op_gt (pe_callB call_len (by rfl) B.len PySem.boot_len (pa_cons (pv 0) pa_nil)) pe_int (nomark _)) (pe_callB call_len_str (by rfl) B.len PySem.boot_len (pa_cons (pe_ix ix_list (pv 0) pe_int (fun _ _ => rfl)) pa_nil)) pe_int))
      (pss_cons (ps_set (i := 3) sc_law_due.nd rfl (Or.inl rfl) (pe_join pe_str (pv 1)))
      (pss_cons (ps_if (PW.pt (pw_or (pt_cmpR op_ne (pe_callB call_len (by rfl) B.len PySem.boot_len (pa_cons (pv 1) pa_nil)) (pe_callB call_len (by rfl) B.len PySem.boot_len (pa_cons (pv 0) pa_nil)) (nomark _)) (pw_or1 (pt_cmpR op_gt (pe_callB call_len (by rfl) B.len PySem.boot_len (pa_cons (pe_lc (own := [("_law_row", 8)]) (g := gName 8) rfl sc_law_due.nd (pi_list (pv 1)) (blkOk_by (N := ["_law_rows_here", "_law_told", "_law_wide", "_law_signs", "_law_over_here", "_law_place", "_law_step", "_law_other", "_law_row"]) (sc := defScope s_law_due) (by decide +kernel)) (fun _ _ _ _ _ => pg_name (i := 8) sc_law_due.nd rfl (Or.inl rfl)) (fun _ _ _ _ _ => pts_one (pt_cmpR op_ne (pe_callB call_len_str (by rfl) B.len PySem.boot_len (pa_cons (pv 8) pa_nil)) (pv 2) (nomark _))) (fun _ _ _ _ _ => (pv 8))) pa_nil)) pe_int (nomark _))))) (pss_one (ps_ret pe_non)) pss_nil)
      (pss_cons (ps_set (i := 4) sc_law_due.nd rfl (Or.inl rfl) pe_dnewK)
      (pss_cons (ps_for PassesOwn.never rfl (pi_range1 rfl B.range (pa_cons (pe_callB call_len_str (by rfl) B.len PySem.boot_len (pa_cons (pv 3) pa_nil)) pa_nil)) (pg_name (i := 5) sc_law_due.nd rfl (Or.inl rfl)) (C8.pss_cut (ps_set (i := 6) sc_law_due.nd rfl (Or.inl rfl) (pe_ifExp (pt_cmpR op_eq (pe_ix ix_str (pv 3) (pv 5) (fun _ _ => rfl)) pe_str (nomark _)) pe_int (pv 2)))
      (pss_one (ps_if (pt_cmpR op_in_sign (pe_ix ix_str (pv 3) (pv 5) (fun _ _ => rfl)) pe_str rfl) (pss_cons (ps_set (i := 7) sc_law_due.nd rfl (Or.inl rfl) (pe_op op_add (pv 5) (pv 6)))
      (pss_cons (ps_if (PW.pt (pw_or (pt_not (pt_val (pe_cl c_law_may (hr.mono (by decide)) rfl (pa_cons (pv 0) (pa_cons (pv 5) (pa_cons (pv 7) pa_nil)))))) (pw_or1 (pt_cmp (pc_din hu (pv 5) (pv 4)) rfl)))) (pss_one (ps_ret pe_non)) pss_nil)
      (pss_cons (ps_if (pt_cmp (pc_din hu (pv 7) (pv 4)) rfl) (pss_one (ps_ret pe_non)) pss_nil)
      (pss_cons (ps_dput hu (pv 4) (pv 5) (pv 7) rfl)
      (pss_one (ps_dput hu (pv 4) (pv 7) (pv 5) rfl)))))) pss_nil))))
      (pss_one (ps_ret (pe_ifExp (pt_cmpR (op_eqD hr.units) (pe_cl c_law_drawn (hr.mono (by decide)) rfl (pa_cons (pv 0) (pa_cons (pv 4) pa_nil))) (pv 1) (nomark _)) (pv 4) pe_non)))))))), ?_⟩
    refine ⟨fun σ' H' => σ' = [some (.ref l), some (.ref lt), some (.int (wide ws)), none, none, none, none, none, none] ∧ H = H', ?_, ?_⟩
    · refine ⟨_, rfl, _, _, rfl, .inl ⟨_, hS, rfl⟩, _, _, rfl, rfl, _, rfl, ?_⟩
      rw [List.length_map]
      cases ws with
      | nil =>
        refine iteF ?_
        have e0 : wide ([] : List Str) = 0 := empty_len
        rw [e0]
        exact ⟨rfl, rfl⟩
      | cons a r =>
        refine iteTd (by rw [List.length_cons]; omega) ?_
        have ea : wide (a :: r) = a.length := rfl
        refine ⟨_, rfl, _, _, _, _, rfl, rfl, hS, atI_nat (j := 0) rfl, a, rfl, Nat.le_trans (by rw [← ea]; exact hwd) (by decide), rfl, rfl⟩
    rintro _ _ ⟨rfl, rfl⟩
    have sm := sum_most ha
    refine ⟨⟨_, rfl⟩, _, rfl, _, lt, ts, rfl, rfl, .inl hT, ?_, ?_⟩
    · rw [empty_len]
      omega
    have jc : (Txt.join ("" : Str) ts).cps.toList = Gx2.flat ts := join_flat ts
    generalize Txt.join ("" : Str) ts = z at jc
    refine ⟨_, rfl, _, _, rfl, .inl ⟨_, hT, rfl⟩, _, rfl, _, _, rfl, .inl ⟨_, hS, rfl⟩, rfl, _, rfl, ?_⟩
    rw [List.length_map, List.length_map]
    by_cases hlen : ts.length = ws.length
    case neg =>
      rw [decide_eq_false (fun q => hlen (by have := V.int.inj q; omega))]
      refine iteT ?_
      refine iteT ?_
      exact hE (fun ov _ e => hlen (by rw [e]; exact drawn_shape.1)) H (Same.refl H)
    rw [decide_eq_true (by rw [hlen])]
    refine iteF ?_
    refine ⟨_, rfl, lt, rfl, ⟨_, hT⟩, fun D1 hD1 => ?_⟩
    refine lc_filtV (i := 8) (lenNe (wide ws)) hT hD1 (by rw [List.length_map]; omega) (by show 8 < 9; decide) ?_ ?_
    · intro v H3 hv s3 R hR
      obtain ⟨a, ham, rfl⟩ := List.mem_map.mp hv
      exact ⟨_, rfl, a, rfl, Nat.le_trans (ha a ham) (by decide), _, rfl, rfl, _, rfl, hR H3 (Same.refl _)⟩
    intro H1 s1 h1
    refine ⟨_, _, rfl, .inl ⟨_, SqL.of h1, rfl⟩, _, _, rfl, rfl, _, rfl, ?_⟩
    by_cases hf : ((ts.map V.str).filter (lenNe (wide ws))).length = 0
    case neg =>
      refine iteTd (by omega) ?_
      exact hE (fun ov _ e => hf (lenNe_filter.mpr (by rw [e]; exact drawn_shape.2))) H1 s1
    have hs := lenNe_filter.mp hf
    refine iteNS2 (by omega) ?_
    have flen : (Gx2.flat ts).length = ts.length * wide ws := flat_len hs
    have jl : z.length = ts.length * wide ws := by
      show z.cps.size = _
      rw [← Array.length_toList, jc, flen]
    have small : ts.length * wide ws ≤ 20 * 12 := Nat.mul_le_mul hl hwd
    have zs : z.length ≤ sizeLine := Nat.le_trans (by rw [jl]; exact small) (by decide)
    intro d hd
    have hd0 := none_back s1 hd
    have s2 : Same H (upd H1 d (.dK (dk []))) := same_off s1 hd0
    have d2 : (upd H1 d (.dK (dk []))) d = some (.dK (dk [])) := upd_same
    refine ⟨_, rfl, z, rfl, zs, _, rfl, by omega, by omega, for_range (n := ((z.length : Nat) : Int).toNat) (fun j σ H3 => ∃ (v5 v6 v7 : Option V) (ov : Ovr) (ks : List Int), σ = [some (.ref l), some (.ref lt), some (.int (wide ws)), some (.str z), some (.ref d), v5, v6, v7, none] ∧ Same H H3 ∧ H3 d = some (.dK (dk ov)) ∧ Bld ws ts ov ks ∧ (∀ k ∈ ks, k < ((j : Nat) : Int)) ∧ (∀ q ∈ begun (wide ws) ts ts.length, q.1 < ((j : Nat) : Int) → q.1 ∈ ks))
      ⟨none, none, none, [], [], rfl, s2, d2, Bld.nil ws ts, fun k hk => (by cases hk), fun q hq lt => (by have := (beg_lt hs hq).1; omega)⟩ ?_ ?_⟩
    · rintro j σ H3 hj ⟨v5, v6, v7, ov, ks, rfl, s3, d3, bd, kb, kall⟩
      have hj2 : j < ts.length * wide ws := by rw [Int.toNat_natCast, jl] at hj; exact hj
      have z2 : (0 : Int) + (j : Int) = (j : Int) := Int.zero_add _
      obtain ⟨n, hn⟩ : ∃ n, (Gx2.flat ts)[j]? = some n := ⟨_, List.getElem?_eq_getElem (by rw [flen]; exact hj2)⟩
      have ga : z.cps.toList[j]? = some n := by rw [jc]; exact hn
      have e60 : ("<" : Str) = sg1 60 := by decide +kernel
      obtain ⟨st, est⟩ : ∃ st : Int, st = if n = 60 then 1 else ((wide ws : Nat) : Int) := ⟨_, rfl⟩
      refine ⟨fun σ' H' => σ' = [some (.ref l), some (.ref lt), some (.int (wide ws)), some (.str z), some (.ref d), some (.int ((j : Nat) : Int)), some (.int st), v7, none] ∧ H3 = H', ?_, ?_⟩
      · refine ⟨_, rfl, _, rfl, z, _, _, rfl, rfl, zs, by rw [z2]; exact atI_nat ga, rfl, _, rfl, ?_⟩
        rw [e60]
        by_cases h60 : n = 60
        · refine iteTd (sg_ne.mpr h60) ?_
          exact ⟨by rw [z2, est, if_pos h60] <;> rfl, rfl⟩
        · refine iteNS2 (fun q => h60 (sg_ne.mp q)) ?_
          exact ⟨_, rfl, by rw [z2, est, if_neg h60] <;> rfl, rfl⟩
      rintro _ _ ⟨rfl, rfl⟩
      refine ⟨_, rfl, _, rfl, z, _, _, rfl, rfl, zs, atI_nat ga, _, _, rfl, rfl, _, rfl, ?_⟩
      have hb := tk_begin n
      by_cases hbg : n = 60 ∨ n = 94
      case neg =>
        refine iteNS2 (fun q => hbg (of_decide_eq_true (hb.symm.trans (decide_eq_true q)))) ?_
        refine ⟨_, _, _, ov, ks, rfl, s3, d3, bd, fun k hk => by have := kb k hk; omega, fun q hq lt => ?_⟩
        by_cases e : q.1 = ((j : Nat) : Int)
        · exact absurd (beg_sign hs hj2 hn hq e) hbg
        · exact kall q hq (by omega)
      refine iteTd (of_decide_eq_true (hb.trans (decide_eq_true hbg))) ?_
      have mb : (((j : Nat) : Int), ((j : Nat) : Int) + st) ∈ begun (wide ws) ts ts.length := by
        by_cases h60 : n = 60
        · rw [if_pos h60] at est
          rw [est]
          rw [h60] at hn
          exact beg_left hs hj2 hn
        · rw [if_neg h60] at est
          rw [est]
          rw [hbg.resolve_left h60] at hn
          exact beg_upper hs hj2 hn
      have njk : ((j : Nat) : Int) ∉ ks := fun h => by
        have := kb _ h
        omega
      refine ⟨_, rfl, _, rfl, _, _, rfl, rfl, ?_⟩
      have bad : ¬ (mayB ws ((j : Nat) : Int) (((j : Nat) : Int) + st) = true ∧ look ov ((j : Nat) : Int) = none ∧ look ov (((j : Nat) : Int) + st) = none) → Q .non H3 := fun g => hE (bd.bad mb njk g) H3 s3
      refine ⟨_, rfl, _, rfl, _, rfl, l, ws, _, _, rfl, s3.seq hS, hw, _, rfl, ?_⟩
      cases hm : lmay ws ((j : Nat) : Int) (((j : Nat) : Int) + st) with
      | false =>
        refine iteT ?_
        exact bad (fun q => by rw [may_eq, hm] at q; cases q.1)
      | true =>
      refine iteF ?_
      have my : mayB ws ((j : Nat) : Int) (((j : Nat) : Int) + st) = true := by rw [may_eq]; exact hm
      refine ⟨_, rfl, _, rfl, d, _, rfl, dget d3 _, _, rfl, ?_⟩
      cases lp : look ov ((j : Nat) : Int) with
      | some m =>
        refine iteT ?_
        exact bad (fun q => by rw [lp] at q; cases q.2.1)
      | none =>
      refine iteF ?_
      refine ⟨_, rfl, _, rfl, d, _, rfl, dget d3 _, _, rfl, ?_⟩
      cases lo : look ov (((j : Nat) : Int) + st) with
      | some m =>
        refine iteT ?_
        exact bad (fun q => by rw [lo] at q; cases q.2.2)
      | none =>
      refine iteF ?_
      have ne := may_ne my
      have len := bd.v.len hw
      have sz : ∀ o : Ovr, o.length ≤ 1000 → (dk o).length < sizeLine := fun o h => by
        unfold dk
        rw [List.length_map]
        exact small1000 h
      refine ⟨_, rfl, _, rfl, _, rfl, d, _, rfl, DPut.k (k := (Sum.inl ((j : Nat) : Int) : Key)) d3 (sz ov (by omega)), ?_⟩
      rw [dk_put lp]
      have l2 : look (ov ++ [(((j : Nat) : Int), (((j : Nat) : Int) + st))]) (((j : Nat) : Int) + st) = none := by rw [look_snoc lp, if_neg (fun q => ne q.symm)]; exact lo
      refine ⟨_, rfl, _, rfl, _, rfl, d, _, rfl, DPut.k (k := (Sum.inl (((j : Nat) : Int) + st) : Key)) upd_same (sz _ (by rw [List.length_append]; show ov.length + 1 ≤ 1000; omega)), ?_⟩
      rw [dk_put l2]
      refine ⟨_, _, _, ov ++ [(((j : Nat) : Int), (((j : Nat) : Int) + st))] ++ [((((j : Nat) : Int) + st), ((j : Nat) : Int))], ks ++ [((j : Nat) : Int)], rfl, same_off (same_off s3 hd0) hd0, upd_same, bd.put mb my lp lo, fun k hk => ?_, fun q hq lt => ?_⟩
      · rcases List.mem_append.mp hk with h | h
        · have := kb k h
          omega
        · rw [List.mem_singleton.mp h]
          omega
      · by_cases e : q.1 = ((j : Nat) : Int)
        · rw [e]
          exact List.mem_append_right _ List.mem_cons_self
        · exact List.mem_append_left _ (kall q hq (by omega))
    · rintro σ H3 ⟨v5, v6, v7, ov, ks, rfl, s3, d3, bd, kb, kall⟩
      have kal2 : ∀ q ∈ begun (wide ws) ts ts.length, q.1 ∈ ks := fun q hq => kall q hq (by
        have := (beg_lt hs hq).2
        rw [Int.toNat_natCast, jl]
        exact this)
      refine ⟨_, rfl, _, rfl, l, d, ws, ov, rfl, s3.seq hS, hw, d3, fun ld H4 s4 hld h4 => ?_⟩
      refine ⟨_, rfl, eq_texts (drawnR_ok ws ov) hk (SqL.of h4) ((s3.trans s4).seq hT) ⟨_, rfl, ?_⟩⟩
      by_cases e : drawnR ws ov = ts
      · refine iteTd e ?_
        exact ⟨_, rfl, hQ d ov H4 (s3.trans s4) hd0 (s4 _ _ d3) bd.v e.symm⟩
      · refine iteNS2 e ?_
        exact hE (bd.none kal2 (fun q => e q.symm)) H4 (s3.trans s4)
end
end Sf
/-! A range with a step, kept in a name. -/
namespace Gc
open PySem PySem.Spec PyProof.Rows L2
/-- a range object of three ints at a -/
def RgO (a : Addr) (i j k : Int) : HO := .ext fun h => ∃ t u v, h.get? a = some { cls := .type "range", data := .fields #[.int i t, .int j u, .int k v] }
theorem cr_range3v {X : Cx} : CallR X (.type "range") (fun vs H Q => ∃ i j k, vs = [V.int i, V.int j, V.int k] ∧ k ≠ 0 ∧ k.natAbs < 1073741824 ∧ ∀ p, H p = none → Q (.ref p) (upd H p (RgO p i j k))) := by
  intro pins s σ H vs us Q I r h
  obtain ⟨i, j, k, rfl, c0, c1, q⟩ := h
  cases r with
  | cons r rr =>
    cases rr with
    | cons r' rr =>
      cases rr with
      | cons r'' rr =>
        cases rr
        obtain ⟨t, rfl⟩ := r
        obtain ⟨t', rfl⟩ := r'
        obtain ⟨t'', rfl⟩ := r''
        refine call_range_3 c0 ?_ (.inl (PyProof.noPylong_small c1))
        refine ⟨.ref s.heap.objs.size, upd H s.heap.objs.size (RgO s.heap.objs.size i j k), I.laid (t' := s.toks) (fun b o e => Heap.get?_push_of_some _ e) (Nat.le_refl _) ?_, rfl, q _ (I.hok.fresh (Nat.le_refl _))⟩
        refine ⟨⟨t, t', t'', Heap.get?_push_size _ rfl⟩, ⟨_, Heap.get?_push_size _ rfl⟩, fun h1 h2 hφ kk => ?_⟩
        obtain ⟨a1, a2, a3, e⟩ := hφ
        exact ⟨a1, a2, a3, kk _ e⟩
/-- over a range that a name keeps -/
def iRgv (te : L2.TE) : TI := fun σ H R => te σ H fun v H1 => ∃ (a : Addr) (i j k : Int) (n : Nat), v = .ref a ∧ H1 a = some (RgO a i j k) ∧ RgC i j k n ∧ R (Itc i k n) H1
theorem pi_rgv {X : Cx} {tg e : Expr} {te : L2.TE} (he : PE X e te) : PI X tg e (iRgv te) := by
  refine ⟨fun pins s σ H R I h => ?_⟩
  refine thn (he.run pins s σ H _ I h) fun u s1 ⟨v, H1, I1, rv, q1⟩ => ?_
  obtain ⟨a, i, j, k, n, rfl, ha, ⟨c0, c1, c2, c3⟩, q⟩ := q1
  obtain rfl : u = Value.ref a := rv
  obtain ⟨⟨t, t', t'', ho⟩, _, _⟩ := I1.hok a _ ha
  have hr : IsRange s1.heap a i j k t t' t'' := ho
  refine wpAny_pyIter_range hr c2 ?_
  refine pi_one (tk := s1.toks) I1 _ (turn_rangeC _ i k n) ?_ q
  have e1 : i + ((0 : Nat) : Int) * k = i := by simp
  have e2 : (n : Int) - ((0 : Nat) : Int) = Builtin.Range.rangeSize i j k := by rw [c3]; simp
  show IsRangeIter _ _ (i + ((0 : Nat) : Int) * k) ((n : Int) - ((0 : Nat) : Int)) k
  rw [e1, e2]
  exact Heap.get?_push_size _ rfl
end Gc
/-! list(reversed(xs)), xs a list. -/
namespace RT
open PySem PySem.Spec PyProof.Rows L2
section
variable {prog : Program} {w : World} {A : Around} {E : Value → Shared → Prop} {s : Shared}
theorem ext_rev {S it l : Addr} {items : Array Value} {res : Value} {R : Result → Shared → Prop} {c₀ : Nat} (hh : A.handled = none) (hS : s.heap.get? S = some { cls := .type "list", data := .seq #[] c₀ })
    (hit : s.heap.IsRevIter it l ((items.size : Int) - 1)) (hl : s.heap.IsList l items) (hne : l ≠ it) (hSi : S ≠ it) (hSl : S ≠ l) (hn : items.size ≤ sizeLine)
    (hR : ∀ (s' : Shared) (acc : Array Value) (c' : Nat), (∀ b o, b ≠ it → b ≠ S → s.heap.get? b = some o → s'.heap.get? b = some o) → s' = { s with heap := s'.heap, toks := s'.toks } → s'.heap.get? S = some { cls := .type "list", dict := none, data := .seq acc c', slots := #[] } → ItemsOf (fun i v => items[items.size - 1 - i]? = some v) acc items.size → R (.ok (.ret res)) s') :
    wpAny (model prog w) A.in1 (Builtin.List.listExtendWith (.ref S) (.ref it) res)
      (fun fin s' => match fin with | .done f => R (.ok f) s' | .again c' => c'.quiet = true ∧ codeAny (model prog w) A c' R s') (fun e s' => R (.error e) s') s := by
  have W := (Walks.listRev (prog := prog) (w := w) (A := A.in1) hh it l hne items).toS
  have hSf : S ∉ [it, l] := by simp only [List.mem_cons, List.not_mem_nil, or_false, not_or]; exact ⟨hSi, hSl⟩
  have hT : s.TypeIs (.ref it) "list_reverseiterator" := hit.typeIs
  have h1 : Builtin.List.listSameRef (.ref S) (.ref it) = false := by simp [Builtin.List.listSameRef, hSi]
  unfold Builtin.List.listExtendWith
  refine wpAny_bind (wpAny_typeOf hT ?_)
  rw [if_neg (by rw [h1]; decide)]
  refine wpAny_bind (wpAny_pyIter_revIter hit ?_)
  refine wpAny_bind (wpAny_holding ?_)
  unfold Builtin.List.listLengthHint
  refine wpAny_bind (wpAny_specialOf hT nolen_lri ?_)
  show wpAny _ A.in1 (specialOf (Value.ref it) (Str.ofString "__length_hint__") >>= _) _ _ _
  refine wpAny_bind (wpAny_specialOf hT hint_lri ?_)
  generalize hid : ("list_reverseiterator.__length_hint__" : String) = id0
  wp_delta
  rw [show splitId id0 = some ("list_reverseiterator", "__length_hint__") from by subst hid; decide +kernel]
  subst hid
  refine wpAny_bind (wpAny_isInstance (b := true) hT (by rw [isSubtype_type]; kernel_rfl) ?_)
  refine wpAny_pure ?_
  rw [if_neg (by decide)]
  have e0 : ((items.size : Nat) : Int) - 1 - ((0 : Nat) : Int) = (items.size : Int) - 1 := by omega
  refine wpAny_pure ⟨plainId_quiet F.plain_extend_loop _, codeAny_extend_loopS W hn _ hSf _ items.size 0 _ _ _ rfl (Nat.zero_le _) ⟨Nat.zero_le _, by rw [e0]; exact hit, hl⟩ hS (ItemsOf.nil _) fun s' acc' c' hm hS' hacc => ?_⟩
  refine hR s' acc' c' (fun b o hb hb2 e => hm.heap b o (fun hmem => ?_) e) (Moved.eq_with hm) hS' hacc
  rcases List.mem_cons.mp hmem with e' | hmem
  · exact hb2 e'
  · exact hb (List.mem_singleton.mp hmem)
theorem init_rev {S it l : Addr} {items : Array Value} {R : Result → Shared → Prop} (hh : A.handled = none) (hS : s.heap.get? S = some { cls := .type "list", data := .seq #[] })
    (hit : s.heap.IsRevIter it l ((items.size : Int) - 1)) (hl : s.heap.IsList l items) (hne : l ≠ it) (hSi : S ≠ it) (hSl : S ≠ l) (hn : items.size ≤ sizeLine)
    (hR : ∀ (s' : Shared) (acc : Array Value) (c' : Nat), (∀ b o, b ≠ it → b ≠ S → s.heap.get? b = some o → s'.heap.get? b = some o) → s' = { s with heap := s'.heap, toks := s'.toks } → s'.heap.get? S = some { cls := .type "list", dict := none, data := .seq acc c', slots := #[] } → ItemsOf (fun i v => items[items.size - 1 - i]? = some v) acc items.size → R (.ok (.ret .none)) s') :
    wpAny (model prog w) A.in1 (Builtin.«list.__init__» ⟨[.ref S, .ref it], []⟩)
      (fun fin s' => match fin with | .done f => R (.ok f) s' | .again c' => c'.quiet = true ∧ codeAny (model prog w) A c' R s') (fun e s' => R (.error e) s') s := by
  show wpAny _ A.in1 (do let old ← Builtin.List.listItems (.ref S); Builtin.List.listUpdate (.ref S) (fun _ => #[]); letGo old.toList.reverse; Builtin.List.listExtendWith (.ref S) (.ref it) .none) _ _ s
  refine wpAny_bind ?_
  unfold Builtin.List.listItems
  refine wpAny_bind (wpAny_seqItems hS rfl (wpAny_pure ?_))
  show wpAny _ A.in1 (updateSeq S (fun _ => #[]) >>= fun _ => letGo (#[] : Array Value).toList.reverse >>= fun _ => Builtin.List.listExtendWith (.ref S) (.ref it) .none) _ _ s
  refine wpAny_bind (wpAny_updateSeq hS rfl ?_)
  have hS₂ := Heap.get?_update_self (Obj.mapSeq (fun _ => (#[] : Array Value))) hS rfl
  have oth : ∀ b o, b ≠ S → s.heap.get? b = some o → (s.heap.update S (Obj.mapSeq (fun _ => (#[] : Array Value)))).get? b = some o :=
    fun b o hb e => (Heap.get?_update_other _ _ (Ne.symm hb)).trans e
  refine wpAny_bind (wpAny_letGo ?_)
  refine ext_rev (s := { s with heap := s.heap.update S (Obj.mapSeq (fun _ => (#[] : Array Value))) }) hh hS₂ (hit.at fun o e => oth _ _ hSi.symm e) (hl.at fun o e => oth _ _ hSl.symm e) hne hSi hSl hn fun s' acc c' h1 h2 h3 h4 => ?_
  exact hR s' acc c' (fun b o hb hb2 e => h1 b o hb hb2 (oth b o hb2 e)) h2 h3 h4
theorem call_list_rev {it l : Addr} {items : Array Value} {Q : Value → Shared → Prop} (hh : A.handled = none) (hit : s.heap.IsRevIter it l ((items.size : Int) - 1)) (hl : s.heap.IsList l items) (hne : l ≠ it) (hn : items.size ≤ sizeLine)
    (hQ : ∀ (h' : Heap) (tk : Nat) (acc : Array Value) (c' : Nat), (∀ b o, b ≠ it → s.heap.get? b = some o → h'.get? b = some o) → h'.get? s.heap.objs.size = some { cls := .type "list", dict := none, data := .seq acc c', slots := #[] } → ItemsOf (fun i v => items[items.size - 1 - i]? = some v) acc items.size →
      Q (.ref s.heap.objs.size) { s with heap := h', toks := tk }) :
    wpAny (model prog w) A (call (.type "list") [.ref it]) Q E s := by
  obtain ⟨oi, hoi, _⟩ := id hit
  obtain ⟨ol, hol, _⟩ := id hl
  have hSi : s.heap.objs.size ≠ it := Nat.ne_of_gt (Heap.lt_size hoi)
  have hSl : s.heap.objs.size ≠ l := Nat.ne_of_gt (Heap.lt_size hol)
  refine callType_codes (Q₁ := fun obj s₁ => obj = .ref s.heap.objs.size ∧ s₁ = { s with heap := s.heap.push { cls := .type "list", data := .seq #[] } }) F.called_list (F.typeCall_list_1 _) F.entry_list_init
    (code_list_new _ ⟨rfl, rfl⟩) fun obj s₁ h₁ => ?_
  obtain ⟨rfl, rfl⟩ := h₁
  have hS : (s.heap.push { cls := .type "list", data := .seq #[] }).get? s.heap.objs.size = some { cls := .type "list", data := .seq #[] } := Heap.get?_push_size _ rfl
  refine ⟨⟨_, hS, rfl⟩, F.args_list_init_2 _ _, init_rev (A := A.in1) hh hS (hit.at fun o e => Heap.get?_push_of_some _ e) (hl.push _) hne hSi hSl hn fun s' acc c' h1 h2 h3 h4 => ?_⟩
  have q := hQ s'.heap s'.toks acc c' (fun b o hb e => h1 b o hb (Nat.ne_of_lt (Heap.lt_size e)) (Heap.get?_push_of_some _ e)) h3 h4
  refine ⟨rfl, ?_⟩
  rw [h2]
  exact q
end
end RT
namespace Gc
open PySem PySem.Spec PyProof.Rows L2 RT
/-- list(reversed(xs)), xs a list: a new list -/
def tLstRv (K : PySem.W.Frag) (te : L2.TE) : L2.TE := fun σ H Q => te σ H fun v H1 => ∃ (a : Addr) (xs : List V), v = .ref a ∧ SqL K H1 a xs ∧ ∀ q, H1 q = none → Q (.ref q) (upd H1 q (.lst xs.reverse))
theorem pe_lstRv {X : Cx} {e : Expr} {te : L2.TE} {p p2 pos pos2 : Pos} (hc : X.calm = true) (hg : Gl X "list") (hm : X.mg "list" = none) (hg2 : Gl X "reversed") (hm2 : X.mg "reversed" = none) (he : PE X e te)
    (hs : starEach [e] X.env = (false, eval e X.env) :: starEach [] X.env := by rfl)
    (hs2 : starEach [.Call (.Name "reversed" p2) [e] [] pos2] X.env = (false, eval (.Call (.Name "reversed" p2) [e] [] pos2) X.env) :: starEach [] X.env := by rfl) :
    PE X (.Call (.Name "list" p) [.Call (.Name "reversed" p2) [e] [] pos2] [] pos) (tLstRv X.K te) := by
  refine ⟨fun pins s σ H Q I h => ?_⟩
  refine Call_ (ld_blt I hg hm boot_list (PyProof.Rows.callWith_type1 (args_cons (Call_ (ld_blt I hg2 hm2 PyProof.Rows.boot_reversed (PyProof.Rows.callWith_type1 (args_cons (thn (he.run pins s σ H _ I h) fun u s1 ⟨v, H1, I1, r1, q1⟩ => args_nil ?_) hs) hs rfl))) hs2) hs2 rfl))
  obtain ⟨a, xs, ev, hq, q⟩ := q1
  subst ev
  obtain rfl : u = Value.ref a := r1
  obtain ⟨its, rv, p', hz⟩ := I1.list hq
  refine call_reversed_list p'.isList (args_nil ?_)
  have k0 : ∀ b o, s1.heap.get? b = some o → (s1.heap.push (revObj a ((its.toArray.size : Int) - 1))).get? b = some o := fun b o e => Heap.get?_push_of_some _ e
  have hl := p'.isList
  obtain ⟨ol, hol, _⟩ := id hl
  have hne : a ≠ s1.heap.objs.size := Nat.ne_of_lt (Heap.lt_size hol)
  have hn : its.toArray.size ≤ sizeLine := by rw [List.size_toArray, ← rv.length]; exact hz
  refine call_list_rev (s := { s1 with heap := s1.heap.push (revObj a ((its.toArray.size : Int) - 1)) }) (I1.ok.hd hc) ⟨_, Heap.get?_push_size _ rfl, rfl, rfl⟩ (hl.push _) hne hn fun h' tk acc c' hk hS hi => ?_
  have sz : s1.heap.objs.size ≤ (s1.heap.push (revObj a ((its.toArray.size : Int) - 1))).objs.size := by
    show _ ≤ (s1.heap.objs.push _).size
    rw [Array.size_push]
    omega
  refine ⟨.ref (s1.heap.push (revObj a ((its.toArray.size : Int) - 1))).objs.size, upd H1 (s1.heap.push (revObj a ((its.toArray.size : Int) - 1))).objs.size (.lst xs.reverse), I1.laid (t' := tk) (fun b o e => hk b o (Nat.ne_of_lt (Heap.lt_size e)) (k0 b o e)) sz
    (show ObjOk X.prog X.w _ _ _ (.lst xs.reverse) from ⟨by rw [List.length_reverse]; exact hz, acc.toList, c', vals_rev rv hi, by rw [Array.toArray_toList]; exact hS⟩), rfl, q _ (I1.hok.fresh sz)⟩
end Gc
/-! list(reversed(z)), z a text. -/
namespace RS
open PySem PySem.Spec PyProof.Rows RT
theorem norev_str : typeLookup (.type "str") "__reversed__" = pure none := by rw [typeLookup_type, builtinLookup_eq_fast]; kernel_rfl
theorem nolen_rt : typeLookup (.type "reversed") "__len__" = pure none := by rw [typeLookup_type, builtinLookup_eq_fast]; kernel_rfl
theorem slot_rt_hint : Slot "reversed" "__length_hint__" "reversed.__length_hint__" :=
  .of (owner := "reversed") (n := "__length_hint__") (by rw [typeLookup_type, builtinLookup_eq_fast]; kernel_rfl) (by decide +kernel) (by decide +kernel) (by decide +kernel)
    (by first | exact .inl (by decide +kernel) | exact .inr (by decide +kernel)) (by rw [isSubtype_type]; kernel_rfl)
theorem entry_rt_hint : entryFor table "reversed.__length_hint__" = some Builtin.«reversed.__length_hint__» := entryFor_of_tree (by kernel_rfl)
theorem args_rt_hint (a : Value) : argsOk "reversed.__length_hint__" ⟨[a], []⟩ := by
  unfold argsOk; rw [signature?_of (id := "reversed.__length_hint__") (n := ['_', '_', 't', 'n', 'i', 'h', '_', 'h', 't', 'g', 'n', 'e', 'l', '_', '_']) (o := ['d', 'e', 's', 'r', 'e', 'v', 'e', 'r']) (by kernel_rfl) owner_rt]; kernel_rfl
def rsObj (x : Str) (u : Tok) (i : Int) : Obj := { cls := .type "reversed", data := .fields #[.str x u, rawInt i] }
def IsRs (h : Heap) (a : Addr) (x : Str) (u : Tok) (i : Int) : Prop := ∃ o, h.get? a = some o ∧ o.cls = .type "reversed" ∧ o.data = .fields #[.str x u, rawInt i]
theorem IsRs.at {h h' : Heap} {a : Addr} {x : Str} {u : Tok} {i : Int} (r : IsRs h a x u i) (e : ∀ o, h.get? a = some o → h'.get? a = some o) : IsRs h' a x u i := let ⟨o, ho, r⟩ := r; ⟨o, e _ ho, r⟩
section
variable {prog : Program} {w : World} {A : Around} {E : Value → Shared → Prop} {s : Shared}
theorem IsRs.typeIs {a : Addr} {x : Str} {u : Tok} {i : Int} (r : IsRs s.heap a x u i) : s.TypeIs (.ref a) "reversed" := let ⟨o, ho, hc, _⟩ := r; ⟨o, ho, hc⟩
theorem code_reversed_str {x : Str} {u : Tok} {Q₁ : Value → Shared → Prop} (hx : x.length ≤ sizeLine)
    (h : Q₁ (.ref s.heap.objs.size) { s with heap := s.heap.push (rsObj x u ((x.length : Int) - 1)), toks := s.toks + 1 + 1 }) :
    codeAny (model prog w) A (.call (.builtin "reversed.__new__") ⟨[.type "reversed", .str x u], []⟩) (wants Q₁ E) s := by
  have hT : s.TypeIs (.str x u) "str" := typeIs_str s x u
  have hfit : ¬ ((x.length : Nat) : Int) ≥ 2 ^ 63 := by
    rw [sizeLine_eq] at hx
    omega
  refine codeAny_of_tree ?_
  show wpAny _ A.in1 (do checkBuiltinCall "reversed.__new__" ⟨[.type "reversed", .str x u], []⟩; again (.builtin "reversed.__new__" ⟨[.type "reversed", .str x u], []⟩)) _ _ s
  refine wpAny_bind (wpAny_of_eq (F.newCall_reversed_1 _) (wpAny_pure ⟨plainId_quiet F.plain_reversed_new _, codeAny_builtin F.entry_reversed_new ?_⟩))
  rw [Around.under_plainId F.plain_reversed_new _]
  unfold Builtin.«reversed.__new__»
  refine wpAny_bind (wpAny_of_eq (newClass_reversed _) ?_)
  try dsimp only
  refine wpAny_bind (wpAny_of_eq (a := ()) (by first | rfl | kernel_rfl) ?_)
  try dsimp only
  refine wpAny_bind (wpAny_of_eq (a := ()) (by first | rfl | kernel_rfl) ?_)
  try dsimp only
  refine wpAny_bind (wpAny_specialOf hT norev_str ?_)
  try dsimp only
  refine wpAny_bind ?_
  wp_delta
  refine wpAny_bind (wpAny_isInstance (T := "str") (U := "dict") (b := false) hT PySem.F.sub_str_dict ?_)
  try dsimp only
  try rw [if_neg Bool.false_ne_true]
  try dsimp only
  refine wpAny_bind (wpAny_specialOf hT F.slot_str_getitem.lookup ?_)
  try dsimp only
  try rw [if_pos (by decide +kernel)]
  refine wpAny_pure ?_
  try dsimp only
  try rw [if_neg (by decide)]
  try dsimp only
  refine wpAny_bind (P.len_str hfit ?_)
  refine wpAny_bind (wpAny_of_eq (a := some ((x.length : Nat) : Int)) rfl ?_)
  try dsimp only
  refine wpAny_bind ?_
  show wpAny _ _ (newObj (.type "reversed") (.fields #[.str x u, rawInt ((x.length : Int) - 1)])) _ _ _
  refine wpAny_newObj_type ?_
  exact wpAny_pure h
theorem call_reversed_str {x : Str} {u : Tok} {Q : Value → Shared → Prop} (hx : x.length ≤ sizeLine)
    (h : Q (.ref s.heap.objs.size) { s with heap := s.heap.push (rsObj x u ((x.length : Int) - 1)), toks := s.toks + 1 + 1 }) : wpAny (model prog w) A (call (.type "reversed") [.str x u]) Q E s := by
  refine callType_codes (Q₁ := fun obj s₁ => s₁.TypeIs obj "reversed" ∧ Q obj s₁) called_rt (F.typeCall_reversed_1 _) F.entry_object_init
    (code_reversed_str (A := A.in1) hx ⟨⟨_, Heap.get?_push_size _ rfl, rfl⟩, h⟩) fun obj s₁ h₁ => ?_
  exact ⟨h₁.1, F.args_object_init_2 obj _, object_init_meets called_rt.init.lookup called_rt.made (by decide) prog w A.in1 _ s₁ ⟨h₁.1, rfl, h₁.2⟩⟩
theorem next_rs_item {it : Addr} {i : Nat} {x : Str} {u : Tok} {c : Nat} {Q : Option Value → Shared → Prop} (hit : IsRs s.heap it x u (i : Int)) (hc : x.cps[i]? = some c) (hx : x.length ≤ sizeLine)
    (hQ : ∀ h' t tk, IsRs h' it x u ((i : Int) - 1) → Heap.SameBut it s.heap h' → Q (some (.str ⟨#[c]⟩ t)) { s with heap := h', toks := tk }) : wpAny (model prog w) A (pyNext (.ref it)) Q E s := by
  obtain ⟨o, ho, hcl, hd⟩ := id hit
  have hi : i < x.cps.size := (Array.getElem?_eq_some_iff.mp hc).1
  have hT : s.TypeIs (.str x u) "str" := typeIs_str s x u
  have hx2 : x.cps.size ≤ sizeLine := hx
  rw [sizeLine_eq] at hx2
  unfold pyNext
  refine wpAny_bind (wpAny_attempt (wpAny_callSpecial?_slot (name := Str.ofString "__next__") hit.typeIs slot_rt_next
    (wpAny_call_entry slot_rt_next hit.typeIs entry_rt_next ?_ (args_rt_next _))))
  unfold Builtin.«reversed.__next__»
  refine wpAny_bind (wpAny_of_eq (a := (Value.ref it, [])) rfl ?_)
  try dsimp only
  refine wpAny_bind (wpAny_field ho hd (x := .str x u) rfl ?_)
  try dsimp only
  refine wpAny_bind (wpAny_field ho hd (x := rawInt (i : Int)) rfl ?_)
  show wpAny _ _ (if (i : Int) < 0 then _ else _) _ _ s
  rw [if_neg (by omega)]
  try dsimp only
  refine wpAny_bind (wpAny_specialOf hT F.slot_str_getitem.lookup ?_)
  try dsimp only
  try rw [if_neg (by decide)]
  try dsimp only
  refine wpAny_bind (wpAny_mkInt ?_)
  refine wpAny_bind (wpAny_attempt ?_)
  have fin : seqIndex? (i : Int) x.length = some i := seqIndex_of (by omega) (by show ((i : Nat) : Int) < ((x.cps.size : Nat) : Int); omega)
  refine P.getItem_str (s := { s with toks := s.toks + 1 }) (c := c) ?_ (by rw [fin]; exact hc) ?_
  · rw [Bool.or_eq_false_iff]
    exact ⟨decide_eq_false (by omega), decide_eq_false (by omega)⟩
  try dsimp only
  refine wpAny_bind (wpAny_field (s := { s with toks := s.toks + 1 + 1 }) ho hd (x := rawInt (i : Int)) rfl ?_)
  try dsimp only
  refine wpAny_bind (wpAny_setField (s := { s with toks := s.toks + 1 + 1 }) ho hd (by simp) ?_)
  first
  | refine wpAny_pure ⟨_, rfl, wpAny_pure (hQ _ _ _ ?_ (Heap.SameBut.update ..))⟩
  | refine wpAny_bind (wpAny_pure (wpAny_pure ⟨_, rfl, wpAny_pure (hQ _ _ _ ?_ (Heap.SameBut.update ..))⟩))
  exact ⟨_, Heap.get?_update_self _ ho (Obj.isFreed_of_fields (Obj.data_mapFields hd _)), (Obj.cls_mapFields ..).trans hcl, by
    rw [Obj.data_mapFields hd]; simp⟩
theorem next_rs_end {it : Addr} {x : Str} {u : Tok} {Q : Option Value → Shared → Prop} (hh : A.handled = none) (hit : IsRs s.heap it x u (-1))
    (hQ : ∀ h', Heap.ExtBut it s.heap h' → Q none { s with heap := h' }) : wpAny (model prog w) A (pyNext (.ref it)) Q E s := by
  obtain ⟨o, ho, hc, hd⟩ := id hit
  unfold pyNext
  refine wpAny_bind (wpAny_attempt (wpAny_callSpecial?_slot (name := Str.ofString "__next__") hit.typeIs slot_rt_next
    (wpAny_call_entry slot_rt_next hit.typeIs entry_rt_next ?_ (args_rt_next _))))
  unfold Builtin.«reversed.__next__»
  refine wpAny_bind (wpAny_of_eq (a := (Value.ref it, [])) rfl ?_)
  try dsimp only
  refine wpAny_bind (wpAny_field ho hd (x := .str x u) rfl ?_)
  try dsimp only
  refine wpAny_bind (wpAny_field ho hd (x := rawInt (-1)) rfl ?_)
  show wpAny _ _ (if (-1 : Int) < 0 then _ else _) _ _ s
  rw [if_pos (by decide)]
  try dsimp only
  refine wpAny_bind (wpAny_rule ?_)
  refine wpAny_bind ?_
  wp_delta
  refine wpAny_bind (wpAny_setField ho hd (by simp) ?_)
  have ho2 := Heap.get?_update_self (Obj.mapFields (·.setIfInBounds 1 (rawInt (-1)))) ho (Obj.isFreed_of_fields (Obj.data_mapFields hd _))
  refine wpAny_setField (s := { s with heap := s.heap.update it (Obj.mapFields (·.setIfInBounds 1 (rawInt (-1)))) }) ho2 (Obj.data_mapFields hd _) (by simp) ?_
  try dsimp only
  first
  | show wpAny _ _ (newExc (.type "StopIteration") [] >>= _) _ _ _
  | (refine wpAny_bind ?_; show wpAny _ _ (newExc (.type "StopIteration") [] >>= _) _ _ _)
  | (refine wpAny_bind ?_; wp_delta; show wpAny _ _ (newExc (.type "StopIteration") [] >>= _) _ _ _)
  refine wpAny_bind ?_
  simp only [newExc, newTuple]
  refine wpAny_bind (wpAny_newObj_type ?_ (by size_fits))
  refine wpAny_bind (m := firstArgMember _ _) (wpAny_of_eq (a := Value.none) (by first | rfl | (simp only [firstArgMember]; rfl)) ?_)
  refine wpAny_newObj_type ?_ (by size_fits)
  simp only [raiseNew]
  refine wpAny_bind (wpAny_handled ?_)
  first | rw [show A.in1.handled = none from hh] | rw [hh]
  refine wpAny_bind (wpAny_pure (wpAny_throw ?_))
  refine wpAny_bind (wpAny_isInstance (T := "StopIteration") (b := true) ⟨_, Heap.get?_push_size _ rfl, rfl⟩ isSubtype_stop ?_)
  refine wpAny_pure (hQ _ ?_)
  refine ((?_ : Heap.ExtBut it s.heap _).push _).push _
  exact fun b ob hb e => (Heap.get?_update_other _ _ (Ne.symm hb)).trans ((Heap.get?_update_other _ _ (Ne.symm hb)).trans e)
theorem iter_rs {it : Addr} {x : Str} {u : Tok} {i : Int} {Q : Value → Shared → Prop} (hit : IsRs s.heap it x u i) (h : Q (.ref it) s) : wpAny (model prog w) A (pyIter (.ref it)) Q E s := by
  refine wpAny_pyIter_slot hit.typeIs slot_rt_iter (wpAny_call_entry slot_rt_iter hit.typeIs entry_rt_iter ?_ (args_rt_iter _))
  show wpAny _ _ (ret (.ref it)) _ _ s
  exact wpAny_pure ⟨_, rfl, "reversed", _, hit.typeIs, slot_rt_next.lookup, h⟩
theorem walks_rs {prog : Program} {w : World} {A : Around} (hh : A.handled = none) (it : Addr) (x : Str) (u : Tok) (hx : x.length ≤ sizeLine) :
    Walks prog w A it [it] [it] x.length (fun i v => ∃ c t, x.cps[x.length - 1 - i]? = some c ∧ v = .str ⟨#[c]⟩ t) (fun i h => i ≤ x.length ∧ IsRs h it x u ((x.length : Int) - 1 - (i : Nat))) where
  sub := fun b hb => hb
  frame := fun i h h' st hk => ⟨st.1, st.2.at fun o e => hk it (by simp) o e⟩
  item := fun i s Q E hi st hQ => by
    obtain ⟨_, hit⟩ := st
    have e1 : (x.length : Int) - 1 - ((i : Nat) : Int) = ((x.length - 1 - i : Nat) : Int) := by omega
    rw [e1] at hit
    have hlt : x.length - 1 - i < x.cps.size := by show x.length - 1 - i < x.length; omega
    refine next_rs_item hit (c := x.cps[x.length - 1 - i]) (Array.getElem?_eq_getElem hlt) hx fun h' t tk st' sb => ?_
    have e2 : ((x.length - 1 - i : Nat) : Int) - 1 = (x.length : Int) - 1 - ((i + 1 : Nat) : Int) := by omega
    rw [e2] at st'
    exact hQ _ h' tk ⟨_, t, Array.getElem?_eq_getElem hlt, rfl⟩ ⟨hi, st'⟩ fun b o hb e => sb.extBut b o (fun h => hb (by simp [h])) e
  done := fun s Q E st hQ => by
    obtain ⟨_, hit⟩ := st
    have e1 : (x.length : Int) - 1 - ((x.length : Nat) : Int) = -1 := by omega
    rw [e1] at hit
    exact next_rs_end hh hit fun h' eb => hQ h' s.toks fun b o hb e => eb b o (fun h => hb (by simp [h])) e
  self := fun i s Q E st hQ => iter_rs st.2 hQ
theorem hint_rs {it : Addr} {x : Str} {u : Tok} (hit : IsRs s.heap it x u ((x.length : Int) - 1)) (hx : x.length ≤ sizeLine) {Q : Bool → Shared → Prop} (hQ : ∀ b tk, Q b { s with toks := tk }) : wpAny (model prog w) A (Builtin.List.listLengthHint (.ref it)) Q E s := by
  obtain ⟨o, ho, hc, hd⟩ := id hit
  have hfit : ¬ ((x.length : Nat) : Int) ≥ 2 ^ 63 := by
    rw [sizeLine_eq] at hx
    omega
  unfold Builtin.List.listLengthHint
  refine wpAny_bind (wpAny_specialOf hit.typeIs nolen_rt ?_)
  show wpAny _ A (specialOf (Value.ref it) (Str.ofString "__length_hint__") >>= _) _ _ _
  refine wpAny_bind (wpAny_specialOf hit.typeIs slot_rt_hint.lookup ?_)
  generalize hid : ("reversed.__length_hint__" : String) = id0
  wp_delta
  rw [show splitId id0 = some ("reversed", "__length_hint__") from by subst hid; decide +kernel]
  subst hid
  refine wpAny_bind (wpAny_isInstance (b := true) hit.typeIs (by rw [isSubtype_type]; kernel_rfl) ?_)
  rw [if_neg (by decide)]
  try dsimp only
  rw [if_neg (by decide +kernel)]
  refine wpAny_bind (wpAny_rule ?_)
  refine wpAny_bind (wpAny_of_eq (slot_rt_hint.bind _) ?_)
  try dsimp only
  refine wpAny_bind (wpAny_attempt (wpAny_call_entry slot_rt_hint hit.typeIs entry_rt_hint ?_ (args_rt_hint _)))
  unfold Builtin.«reversed.__length_hint__»
  refine wpAny_bind (wpAny_of_eq (a := Value.ref it) rfl ?_)
  try dsimp only
  refine wpAny_bind (wpAny_field ho hd (x := .str x u) rfl ?_)
  try dsimp only
  rw [if_neg (show ¬ ((Value.str x u == Value.none) = true) from Bool.false_ne_true)]
  refine wpAny_bind (P.len_str hfit ?_)
  refine wpAny_bind (wpAny_of_eq (a := some ((x.length : Nat) : Int)) rfl ?_)
  try dsimp only
  refine wpAny_bind (wpAny_field (s := { s with toks := s.toks + 1 + 1 }) ho hd (x := rawInt ((x.length : Int) - 1)) rfl ?_)
  show wpAny _ _ (if ((x.length : Nat) : Int) < ((x.length : Nat) : Int) - 1 + 1 then _ else retInt (((x.length : Nat) : Int) - 1 + 1)) _ _ _
  rw [if_neg (by omega)]
  unfold retInt
  refine wpAny_bind (wpAny_mkInt ?_)
  refine wpAny_pure ⟨_, rfl, ?_⟩
  try dsimp only
  have l1 : Builtin.List.listFitsIndex (((x.length : Nat) : Int) - 1 + 1) = true := by
    unfold Builtin.List.listFitsIndex
    rw [Bool.and_eq_true]
    exact ⟨decide_eq_true (by omega), decide_eq_true (by omega)⟩
  have l2 : Builtin.List.listTooLong (((x.length : Nat) : Int) - 1 + 1).toNat = false := by
    unfold Builtin.List.listTooLong
    exact decide_eq_false (by omega)
  refine wpAny_bind (wpAny_of_eq (a := some (((x.length : Nat) : Int) - 1 + 1)) rfl ?_)
  try dsimp only
  rw [l1, l2, if_neg (by decide), if_neg (by omega), if_neg (by decide)]
  exact wpAny_pure (hQ _ _)
def PS (x : Str) : Nat → Value → Prop := fun i v => ∃ c t, x.cps[x.length - 1 - i]? = some c ∧ v = .str ⟨#[c]⟩ t
theorem ext_rs {S it : Addr} {x : Str} {u : Tok} {res : Value} {R : Result → Shared → Prop} {c₀ : Nat} (hh : A.handled = none) (hS : s.heap.get? S = some { cls := .type "list", data := .seq #[] c₀ })
    (hit : IsRs s.heap it x u ((x.length : Int) - 1)) (hSi : S ≠ it) (hx : x.length ≤ sizeLine)
    (hR : ∀ (s' : Shared) (acc : Array Value) (c' : Nat), (∀ b o, b ≠ it → b ≠ S → s.heap.get? b = some o → s'.heap.get? b = some o) → s' = { s with heap := s'.heap, toks := s'.toks } → s'.heap.get? S = some { cls := .type "list", dict := none, data := .seq acc c', slots := #[] } → ItemsOf (PS x) acc x.length → R (.ok (.ret res)) s') :
    wpAny (model prog w) A.in1 (Builtin.List.listExtendWith (.ref S) (.ref it) res)
      (fun fin s' => match fin with | .done f => R (.ok f) s' | .again c' => c'.quiet = true ∧ codeAny (model prog w) A c' R s') (fun e s' => R (.error e) s') s := by
  have W := (walks_rs (prog := prog) (w := w) (A := A.in1) hh it x u hx).toS
  have hSf : S ∉ [it] := by simp only [List.mem_cons, List.not_mem_nil, or_false]; exact hSi
  have hT : s.TypeIs (.ref it) "reversed" := hit.typeIs
  have h1 : Builtin.List.listSameRef (.ref S) (.ref it) = false := by simp [Builtin.List.listSameRef, hSi]
  have go : ∀ (h' : Heap) (tk : Nat) (c₁ : Nat), (∀ b o, b ≠ S → s.heap.get? b = some o → h'.get? b = some o) → h'.get? S = some { cls := .type "list", data := .seq #[] c₁ } →
      codeAny (model prog w) A (.builtin "list.extend.loop" ⟨[.ref S, .ref it, res], []⟩) R { s with heap := h', toks := tk } := fun h' tk c₁ k0 hS' => by
    have e0 : ((x.length : Nat) : Int) - 1 - ((0 : Nat) : Int) = (x.length : Int) - 1 := by omega
    refine codeAny_extend_loopS W hx _ hSf _ x.length 0 _ _ _ rfl (Nat.zero_le _) ⟨Nat.zero_le _, by rw [e0]; exact hit.at fun o e => k0 _ _ hSi.symm e⟩ hS' (ItemsOf.nil _) fun s' acc' c' hm hS'' hacc => ?_
    refine hR s' acc' c' (fun b o hb hb2 e => hm.heap b o (fun hmem => ?_) (k0 b o hb2 e)) ?_ hS'' hacc
    · rcases List.mem_cons.mp hmem with e' | hmem
      · exact hb2 e'
      · exact hb (List.mem_singleton.mp hmem)
    · exact Moved.eq_with (s := { s with heap := h', toks := tk }) hm
  unfold Builtin.List.listExtendWith
  refine wpAny_bind (wpAny_typeOf hT ?_)
  rw [if_neg (by rw [h1]; decide)]
  refine wpAny_bind (iter_rs hit ?_)
  refine wpAny_bind (wpAny_holding ?_)
  refine hint_rs (A := A.in1) hit hx fun b tk => ?_
  cases b with
  | false =>
    rw [if_neg (by decide +kernel)]
    exact wpAny_pure ⟨plainId_quiet F.plain_extend_loop _, go _ tk _ (fun _ _ _ e => e) hS⟩
  | true =>
    rw [if_pos (by decide +kernel)]
    refine wpAny_bind (wpAny_rule ?_)
    refine wpAny_bind ?_
    show wpAny _ A.in1 (updateSeq S (·.push .none) >>= fun _ => updateSeq S (·.pop)) _ _ _
    refine wpAny_bind (wpAny_updateSeq (s := { s with toks := tk }) hS rfl ?_)
    have hS₂ := Heap.get?_update_self (Obj.mapSeq (·.push Value.none)) hS rfl
    refine wpAny_updateSeq (s := { s with heap := s.heap.update S (Obj.mapSeq (·.push Value.none)), toks := tk }) hS₂ rfl ?_
    have hS₃ := Heap.get?_update_self (Obj.mapSeq (·.pop)) hS₂ rfl
    exact wpAny_pure ⟨plainId_quiet F.plain_extend_loop _, go _ tk _ (fun b o hb e => (Heap.get?_update_other _ _ (Ne.symm hb)).trans ((Heap.get?_update_other _ _ (Ne.symm hb)).trans e)) hS₃⟩
theorem init_rs {S it : Addr} {x : Str} {u : Tok} {R : Result → Shared → Prop} (hh : A.handled = none) (hS : s.heap.get? S = some { cls := .type "list", data := .seq #[] })
    (hit : IsRs s.heap it x u ((x.length : Int) - 1)) (hSi : S ≠ it) (hx : x.length ≤ sizeLine)
    (hR : ∀ (s' : Shared) (acc : Array Value) (c' : Nat), (∀ b o, b ≠ it → b ≠ S → s.heap.get? b = some o → s'.heap.get? b = some o) → s' = { s with heap := s'.heap, toks := s'.toks } → s'.heap.get? S = some { cls := .type "list", dict := none, data := .seq acc c', slots := #[] } → ItemsOf (PS x) acc x.length → R (.ok (.ret .none)) s') :
    wpAny (model prog w) A.in1 (Builtin.«list.__init__» ⟨[.ref S, .ref it], []⟩)
      (fun fin s' => match fin with | .done f => R (.ok f) s' | .again c' => c'.quiet = true ∧ codeAny (model prog w) A c' R s') (fun e s' => R (.error e) s') s := by
  show wpAny _ A.in1 (do let old ← Builtin.List.listItems (.ref S); Builtin.List.listUpdate (.ref S) (fun _ => #[]); letGo old.toList.reverse; Builtin.List.listExtendWith (.ref S) (.ref it) .none) _ _ s
  refine wpAny_bind ?_
  unfold Builtin.List.listItems
  refine wpAny_bind (wpAny_seqItems hS rfl (wpAny_pure ?_))
  show wpAny _ A.in1 (updateSeq S (fun _ => #[]) >>= fun _ => letGo (#[] : Array Value).toList.reverse >>= fun _ => Builtin.List.listExtendWith (.ref S) (.ref it) .none) _ _ s
  refine wpAny_bind (wpAny_updateSeq hS rfl ?_)
  have hS₂ := Heap.get?_update_self (Obj.mapSeq (fun _ => (#[] : Array Value))) hS rfl
  have oth : ∀ b o, b ≠ S → s.heap.get? b = some o → (s.heap.update S (Obj.mapSeq (fun _ => (#[] : Array Value)))).get? b = some o :=
    fun b o hb e => (Heap.get?_update_other _ _ (Ne.symm hb)).trans e
  refine wpAny_bind (wpAny_letGo ?_)
  refine ext_rs (s := { s with heap := s.heap.update S (Obj.mapSeq (fun _ => (#[] : Array Value))) }) hh hS₂ (hit.at fun o e => oth _ _ hSi.symm e) hSi hx fun s' acc c' h1 h2 h3 h4 => ?_
  exact hR s' acc c' (fun b o hb hb2 e => h1 b o hb hb2 (oth b o hb2 e)) h2 h3 h4
theorem call_list_rs {it : Addr} {x : Str} {u : Tok} {Q : Value → Shared → Prop} (hh : A.handled = none) (hit : IsRs s.heap it x u ((x.length : Int) - 1)) (hx : x.length ≤ sizeLine)
    (hQ : ∀ (h' : Heap) (tk : Nat) (acc : Array Value) (c' : Nat), (∀ b o, b ≠ it → s.heap.get? b = some o → h'.get? b = some o) → h'.get? s.heap.objs.size = some { cls := .type "list", dict := none, data := .seq acc c', slots := #[] } → ItemsOf (PS x) acc x.length →
      Q (.ref s.heap.objs.size) { s with heap := h', toks := tk }) :
    wpAny (model prog w) A (call (.type "list") [.ref it]) Q E s := by
  obtain ⟨oi, hoi, _⟩ := id hit
  have hSi : s.heap.objs.size ≠ it := Nat.ne_of_gt (Heap.lt_size hoi)
  refine callType_codes (Q₁ := fun obj s₁ => obj = .ref s.heap.objs.size ∧ s₁ = { s with heap := s.heap.push { cls := .type "list", data := .seq #[] } }) F.called_list (F.typeCall_list_1 _) F.entry_list_init
    (code_list_new _ ⟨rfl, rfl⟩) fun obj s₁ h₁ => ?_
  obtain ⟨rfl, rfl⟩ := h₁
  have hS : (s.heap.push { cls := .type "list", data := .seq #[] }).get? s.heap.objs.size = some { cls := .type "list", data := .seq #[] } := Heap.get?_push_size _ rfl
  refine ⟨⟨_, hS, rfl⟩, F.args_list_init_2 _ _, init_rs (A := A.in1) hh hS (hit.at fun o e => Heap.get?_push_of_some _ e) hSi hx fun s' acc c' h1 h2 h3 h4 => ?_⟩
  have q := hQ s'.heap s'.toks acc c' (fun b o hb e => h1 b o hb (Nat.ne_of_lt (Heap.lt_size e)) (Heap.get?_push_of_some _ e)) h3 h4
  refine ⟨rfl, ?_⟩
  rw [h2]
  exact q
end
end RS
namespace Gc
open PySem PySem.Spec PyProof.Rows L2 RT RS
/-- the signs of a text, from its end -/
def signsRev (z : Str) : List V := z.cps.toList.reverse.map fun c => V.str ⟨#[c]⟩
theorem vals_signs : ∀ {cs : List Nat} {us : List Value}, cs.length = us.length → (∀ (j : Nat) (v : Value), us[j]? = some v → ∃ c t, cs[j]? = some c ∧ v = .str ⟨#[c]⟩ t) → Vals (cs.map fun c => V.str ⟨#[c]⟩) us
  | [], [], _, _ => .nil
  | [], _ :: _, h, _ => by cases h
  | _ :: _, [], h, _ => by cases h
  | c :: cs, u :: us, h, k => .cons (by
      obtain ⟨c', t, e, ev⟩ := k 0 u rfl
      cases e
      exact ⟨t, ev⟩) (vals_signs (by simpa using h) fun j v e => k (j + 1) v e)
theorem vals_signsRev {z : Str} {acc : Array Value} (h : ItemsOf (PS z) acc z.length) : Vals (signsRev z) acc.toList := by
  have hl : acc.toList.length = z.cps.size := by rw [Array.length_toList, h.1]; rfl
  refine vals_signs (by rw [List.length_reverse, Array.length_toList, hl]) fun j v e => ?_
  obtain ⟨c, t, e1, ev⟩ := h.2 j v (by rw [← Array.getElem?_toList]; exact e)
  have hj : j < acc.toList.length := (List.getElem?_eq_some_iff.mp e).1
  refine ⟨c, t, ?_, ev⟩
  rw [List.getElem?_reverse (by rw [Array.length_toList]; omega), Array.getElem?_toList, Array.length_toList]
  exact e1
def tLstRs (te : L2.TE) : L2.TE := fun σ H Q => te σ H fun v H1 => ∃ z : Str, v = .str z ∧ z.length ≤ sizeLine ∧ ∀ q, H1 q = none → Q (.ref q) (upd H1 q (.lst (signsRev z)))
theorem pe_lstRs {X : Cx} {e : Expr} {te : L2.TE} {p p2 pos pos2 : Pos} (hc : X.calm = true) (hg : Gl X "list") (hm : X.mg "list" = none) (hg2 : Gl X "reversed") (hm2 : X.mg "reversed" = none) (he : PE X e te)
    (hs : starEach [e] X.env = (false, eval e X.env) :: starEach [] X.env := by rfl)
    (hs2 : starEach [.Call (.Name "reversed" p2) [e] [] pos2] X.env = (false, eval (.Call (.Name "reversed" p2) [e] [] pos2) X.env) :: starEach [] X.env := by rfl) :
    PE X (.Call (.Name "list" p) [.Call (.Name "reversed" p2) [e] [] pos2] [] pos) (tLstRs te) := by
  refine ⟨fun pins s σ H Q I h => ?_⟩
  refine Call_ (ld_blt I hg hm boot_list (PyProof.Rows.callWith_type1 (args_cons (Call_ (ld_blt I hg2 hm2 PyProof.Rows.boot_reversed (PyProof.Rows.callWith_type1 (args_cons (thn (he.run pins s σ H _ I h) fun u s1 ⟨v, H1, I1, r1, q1⟩ => args_nil ?_) hs) hs rfl))) hs2) hs2 rfl))
  obtain ⟨z, ev, hz, q⟩ := q1
  subst ev
  obtain ⟨t, rfl⟩ := r1
  refine call_reversed_str hz (args_nil ?_)
  have k0 : ∀ b o, s1.heap.get? b = some o → (s1.heap.push (rsObj z t ((z.length : Int) - 1))).get? b = some o := fun b o e => Heap.get?_push_of_some _ e
  refine call_list_rs (s := { s1 with heap := s1.heap.push (rsObj z t ((z.length : Int) - 1)), toks := s1.toks + 1 + 1 }) (I1.ok.hd hc) ⟨_, Heap.get?_push_size _ rfl, rfl, rfl⟩ hz fun h' tk acc c' hk hS hi => ?_
  have sz : s1.heap.objs.size ≤ (s1.heap.push (rsObj z t ((z.length : Int) - 1))).objs.size := by
    show _ ≤ (s1.heap.objs.push _).size
    rw [Array.size_push]
    omega
  refine ⟨.ref (s1.heap.push (rsObj z t ((z.length : Int) - 1))).objs.size, upd H1 (s1.heap.push (rsObj z t ((z.length : Int) - 1))).objs.size (.lst (signsRev z)), I1.laid (t' := tk) (fun b o e => hk b o (Nat.ne_of_lt (Heap.lt_size e)) (k0 b o e)) sz
    (show ObjOk X.prog X.w _ _ _ (.lst (signsRev z)) from ⟨by unfold signsRev; rw [List.length_map, List.length_reverse, Array.length_toList]; exact hz, acc.toList, c', vals_signsRev hi, by rw [Array.toArray_toList]; exact hS⟩), rfl, q _ (I1.hok.fresh sz)⟩
end Gc
namespace Sf
open PySem PySem.Spec PyProof.Rows L2 Gc
/-! ### a fault put into a drawing -/
def okS (B : Nat) (z : Str) : Prop := z.length ≤ B ∧ ∀ c ∈ z.cps.toList, c < 0x110000
theorem okS.mono {B C : Nat} {z : Str} (h : okS B z) (l : B ≤ C) : okS C z := ⟨Nat.le_trans h.1 l, h.2⟩
theorem okS.app {a b : Nat} {x y : Str} (h : okS a x) (g : okS b y) : okS (a + b) (x ++ y) := by
  refine ⟨?_, fun c hc => ?_⟩
  · rw [Str.length_append]
    exact Nat.add_le_add h.1 g.1
  · rw [Str.cps_append, Array.toList_append] at hc
    rcases List.mem_append.mp hc with q | q
    · exact h.2 c q
    · exact g.2 c q
theorem okS_lit {z : Str} {B : Nat} (h : (decide (z.length ≤ B) && z.cps.toList.all fun c => decide (c < 0x110000)) = true) : okS B z := by
  rw [Bool.and_eq_true, decide_eq_true_eq, List.all_eq_true] at h
  exact ⟨h.1, fun c hc => of_decide_eq_true (h.2 c hc)⟩
theorem okS_one {c : Nat} (h : c < 0x110000) : okS 1 ⟨#[c]⟩ := ⟨Nat.le_refl 1, fun d hd => by
  have e : d = c := by simpa using hd
  rw [e]
  exact h⟩
/-- the signs ahead of place p -/
theorem okS_pre {B : Nat} {z : Str} (h : okS B z) (p : Nat) : okS (min p z.length) (cutS z none (some (p : Int))) := by
  have e : (cutS z none (some (p : Int))).cps.toList = z.cps.toList.take (min p z.length) := by
    unfold cutS
    rw [HT.sIx_none, HT.sIx_nat, List.toList_toArray, List.drop_zero, Nat.sub_zero]
  refine ⟨?_, fun c hc => ?_⟩
  · have q : (cutS z none (some (p : Int))).length = (z.cps.toList.take (min p z.length)).length := by
      rw [← e]
      exact (Array.length_toList).symm
    rw [q, List.length_take]
    exact Nat.min_le_left _ _
  · rw [e] at hc
    exact h.2 c (List.mem_of_mem_take hc)
/-- the signs from place p on -/
theorem okS_post {B : Nat} {z : Str} (h : okS B z) (p : Nat) : okS (z.length - min p z.length) (cutS z (some (p : Int)) none) := by
  have e : (cutS z (some (p : Int)) none).cps.toList = (z.cps.toList.drop (min p z.length)).take (z.length - min p z.length) := by
    unfold cutS
    rw [HT.sIx_none, HT.sIx_nat, List.toList_toArray]
  refine ⟨?_, fun c hc => ?_⟩
  · have q : (cutS z (some (p : Int)) none).length = ((z.cps.toList.drop (min p z.length)).take (z.length - min p z.length)).length := by
      rw [← e]
      exact (Array.length_toList).symm
    rw [q, List.length_take]
    exact Nat.min_le_left _ _
  · rw [e] at hc
    exact h.2 c (List.mem_of_mem_drop (List.mem_of_mem_take hc))
theorem pick {z : Str} (h0 : 0 < z.length) (i : Int) : ∃ c, atI z.cps.toList (i % ((z.length : Nat) : Int)) = some c ∧ c ∈ z.cps.toList := by
  obtain ⟨m, e, hm⟩ := mod_nat i (k := ((z.length : Nat) : Int)) (by omega)
  have hl : m < z.cps.toList.length := by
    rw [Array.length_toList]
    show m < z.length
    omega
  rw [e]
  exact ⟨_, atI_nat (List.getElem?_eq_getElem hl), List.getElem_mem hl⟩
theorem okS_post1 {B : Nat} {z : Str} (h : okS B z) (p : Nat) : okS (z.length - min (p + 1) z.length) (cutS z (some ((p : Int) + 1)) none) := by
  have q := okS_post h (p + 1)
  rw [Int.natCast_add] at q
  exact q
theorem ixS_pick {z : Str} {i : Int} {H : Hp} {Q : VK} (hb : (decide (0 < z.length) && decide (z.length ≤ 1000) && z.cps.toList.all fun c => decide (c < 0x110000)) = true) (h : ∀ c, c < 0x110000 → Q (.str ⟨#[c]⟩) H) : rIxS (.str z) (.int (i % ((z.length : Nat) : Int))) H Q := by
  rw [Bool.and_eq_true, Bool.and_eq_true, decide_eq_true_eq, decide_eq_true_eq, List.all_eq_true] at hb
  obtain ⟨c, h1, h2⟩ := pick hb.1.1 i
  exact ⟨z, _, c, rfl, rfl, Nat.le_trans hb.1.2 (by decide), h1, h c (of_decide_eq_true (hb.2 c h2))⟩
theorem cut_post1 (ws : List Str) (k : Nat) : cutV (ws.map V.str) (some ((k : Int) + 1)) none = (ws.drop (k + 1)).map V.str := by
  unfold cutV
  have e : (k : Int) + 1 = ((k + 1 : Nat) : Int) := (Int.natCast_add k 1).symm
  rw [e, HT.sIx_none, HT.sIx_nat, ← List.map_drop, ← List.map_take, List.length_map]
  congr 1
  rcases Nat.le_total (k + 1) ws.length with h | h
  · rw [Nat.min_eq_left h, List.take_of_length_le]
    rw [List.length_drop]
    exact Nat.le_refl _
  · rw [Nat.min_eq_right h, Nat.sub_self, List.take_zero, List.drop_of_length_le h]
theorem cut_pre (ws : List Str) (k : Nat) : cutV (ws.map V.str) none (some (k : Int)) = (ws.take k).map V.str := by
  unfold cutV
  rw [HT.sIx_none, HT.sIx_nat, List.drop_zero, Nat.sub_zero, ← List.map_take, List.length_map]
  congr 1
  rcases Nat.le_total k ws.length with h | h
  · rw [Nat.min_eq_left h]
  · rw [Nat.min_eq_right h, List.take_of_length_le (Nat.le_refl _), List.take_of_length_le h]

theorem okS_mid {B : Nat} {z : Str} (h : okS B z) (p : Nat) : okS (min (p + 2) z.length - min p z.length) (cutS z (some (p : Int)) (some ((p : Int) + 2))) := by
  have e : (cutS z (some (p : Int)) (some ((p : Int) + 2))).cps.toList = (z.cps.toList.drop (min p z.length)).take (min (p + 2) z.length - min p z.length) := by
    unfold cutS
    have e2 : (p : Int) + 2 = ((p + 2 : Nat) : Int) := (Int.natCast_add p 2).symm
    rw [e2, HT.sIx_nat, HT.sIx_nat, List.toList_toArray]
  refine ⟨?_, fun c hc => ?_⟩
  · have q : (cutS z (some (p : Int)) (some ((p : Int) + 2))).length = ((z.cps.toList.drop (min p z.length)).take (min (p + 2) z.length - min p z.length)).length := by
      rw [← e]
      exact (Array.length_toList).symm
    rw [q, List.length_take]
    exact Nat.min_le_left _ _
  · rw [e] at hc
    exact h.2 c (List.mem_of_mem_drop (List.mem_of_mem_take hc))
theorem okS_post2 {B : Nat} {z : Str} (h : okS B z) (p : Nat) : okS (z.length - min (p + 2) z.length) (cutS z (some ((p : Int) + 2)) none) := by
  have q := okS_post h (p + 2)
  rw [Int.natCast_add] at q
  exact q
/-- the signs of a text, from its end, as texts -/
def onesRev (z : Str) : List Str := z.cps.toList.reverse.map sg1
theorem ones_rev (z : Str) : signsRev z = (onesRev z).map V.str := by
  unfold signsRev onesRev
  rw [List.map_map]
  rfl
theorem okS_rev {B : Nat} {z : Str} (h : okS B z) : okS B (Txt.join ("" : Str) (onesRev z)) := by
  unfold onesRev
  rw [sg_join5]
  refine ⟨?_, fun c hc => ?_⟩
  · show (z.cps.toList.reverse.toArray).size ≤ B
    rw [List.size_toArray, List.length_reverse, Array.length_toList]
    exact h.1
  · have hc2 : c ∈ z.cps.toList.reverse.toArray.toList := hc
    rw [List.toList_toArray] at hc2
    exact h.2 c (List.mem_reverse.mp hc2)
theorem ones_small {B : Nat} {z : Str} (h : okS B z) (hB : B ≤ 1000) : ((onesRev z).map (·.length)).sum + (onesRev z).length * ("" : Str).length ≤ 16777216 := by
  rw [ones_sum _ (fun a ha => by
    obtain ⟨c, _, rfl⟩ := List.mem_map.mp ha
    rfl), empty_len]
  unfold onesRev
  rw [List.length_map, List.length_reverse, Array.length_toList]
  have : z.cps.size ≤ B := h.1
  omega
theorem ixS_pickN {z : Str} {n : Nat} {i : Int} {H : Hp} {Q : VK} (hn : (decide (z.length = n) && decide (0 < n) && decide (n ≤ 1000) && z.cps.toList.all fun c => decide (c < 0x110000)) = true) (h : ∀ c, c < 0x110000 → Q (.str ⟨#[c]⟩) H) : rIxS (.str z) (.int (i % ((n : Nat) : Int))) H Q := by
  rw [Bool.and_eq_true, Bool.and_eq_true, Bool.and_eq_true, decide_eq_true_eq, decide_eq_true_eq, decide_eq_true_eq, List.all_eq_true] at hn
  obtain ⟨⟨⟨e, h0⟩, h1⟩, h2⟩ := hn
  obtain ⟨c, k1, k2⟩ := pick (by omega : 0 < z.length) i
  rw [e] at k1
  exact ⟨z, _, c, rfl, rfl, Nat.le_trans (by omega : z.length ≤ 1000) (by decide), k1, h c (of_decide_eq_true (h2 c k2))⟩
theorem at_last {α : Type} {xs : List α} (h : 0 < xs.length) : ∃ x, atI xs (-1) = some x ∧ x ∈ xs := by
  have e : ixN xs.length (-1) = some (xs.length - 1) := by
    unfold ixN
    rw [if_neg (by decide), if_pos (by omega)]
    congr 1
    omega
  have hl : xs.length - 1 < xs.length := by omega
  refine ⟨xs[xs.length - 1], ?_, List.getElem_mem hl⟩
  unfold atI
  rw [e]
  exact List.getElem?_eq_getElem hl
def spFaulty : Sp := fun vs H Q _ => ∃ (l : Addr) (ts : List Str) (B : Nat) (kind num : Int), vs = [.ref l, .int kind, .int num] ∧ H l = some (.lst (ts.map V.str)) ∧ ts.length ≤ B ∧ (∀ a ∈ ts, okS B a) ∧ 1 ≤ B ∧ B ≤ 900 ∧
  ∀ (l2 : Addr) (ts2 : List Str) (H' : Hp), Same H H' → H' l2 = some (.lst (ts2.map V.str)) → ts2.length ≤ B + 1 → (∀ a ∈ ts2, okS (B + 1) a) → Q (.ref l2) H'
section
variable {P : Program} {w : World} {K : PySem.W.Frag} {mg : Str → Option Value} {base : Heap}
theorem sc_law_faulty : FnScope ["_law_told", "_law_kind", "_law_number_here", "_law_at", "_law_row", "_law_place", "_law_two", "_law_sign", "_law_some"] ["_law_told", "_law_kind", "_law_number_here"] (defScope s_law_faulty) := ⟨rfl, rfl, rfl, by decide +kernel, rfl, by decide +kernel, by decide +kernel⟩
theorem ok_faulty (D : Df K mg "_law_faulty" s_law_faulty ["_law_told", "_law_kind", "_law_number_here"]) (B : Bi mg) :
    Cl P w K mg base CX0 1 "_law_faulty" ["_law_told", "_law_kind", "_law_number_here"] spFaulty := D.cl fun f fd F => by
  refine F.ok sc_law_faulty (fun vs H Q E h => ?_) (fun cdv A outer s H vs Q E hr h => ?_)
  · obtain ⟨l, ts, BB, kind, num, rfl, _⟩ := h
    rfl
  · obtain ⟨l, ts, BB, kind, num, rfl, hl, htl, hg, hB, hB2, hQ⟩ := h
    have hsz : ∀ z : Str, z.length ≤ 1000 → z.length ≤ sizeLine := fun z h => Nat.le_trans h (by decide)
    refine ⟨_, (pss_cons (ps_if (pt_cmpR op_eq (pv 1) pe_int (nomark _)) (pss_one (ps_ret (pe_op op_cat (pv 0) (pe_lst (pa_cons (pe_ifExp (pt_cmpR op_gt (pe_callB call_len (by rfl) B.len PySem.boot_len (pa_cons (pv 0) pa_nil)) pe_int (nomark _)) (pe_ix ix_list (pv 0) (pe_un un_neg pe_int) (fun _ _ => rfl)) pe_str) pa_nil))))) pss_nil)
      (pss_cons (ps_if (pt_cmpR op_eq (pe_callB call_len (by rfl) B.len PySem.boot_len (pa_cons (pv 0) pa_nil)) pe_int (nomark _)) (pss_one (ps_ret (pv 0))) pss_nil)
      (pss_cons (ps_set (i := 3) sc_law_faulty.nd rfl (Or.inl rfl) (pe_op op_mod (pv 2) (pe_callB call_len (by rfl) B.len PySem.boot_len (pa_cons (pv 0) pa_nil))))
      (pss_cons (ps_set (i := 4) sc_law_faulty.nd rfl (Or.inl rfl) (pe_ix ix_list (pv 0) (pv 3) (fun _ _ => rfl)))
      (C8.pss_cut (ps_set (i := 5) sc_law_faulty.nd rfl (Or.inl rfl) (pe_op op_mod (pe_op op_fdiv (pv 2) pe_int) (pe_op op_add (pe_callB call_len_str (by rfl) B.len PySem.boot_len (pa_cons (pv 4) pa_nil)) pe_int)))
      (pss_cons (ps_if (pt_cmpR op_eq (pv 1) pe_int (nomark _)) (pss_one (ps_ret (pe_op op_cat (pe_slice sl_list (pv 0) po_none (po_some (pv 3))) (pe_slice sl_list (pv 0) (po_some (pe_op op_add (pv 3) pe_int)) po_none)))) pss_nil)
      (C8.pss_cut (ps_if (pt_cmpR op_eq (pv 1) pe_int (nomark _)) (pss_one (ps_set (i := 4) sc_law_faulty.nd rfl (Or.inl rfl) (pe_op op_add_str (pe_slice sl_str (pv 4) po_none (po_some (pv 5))) (pe_slice sl_str (pv 4) (po_some (pe_op op_add (pv 5) pe_int)) po_none)))) pss_nil)
      (C8.pss_cut (ps_if (pt_cmpR op_eq (pv 1) pe_int (nomark _)) (pss_one (ps_set (i := 4) sc_law_faulty.nd rfl (Or.inl rfl) (pe_op op_add_str (pe_op op_add_str (pe_slice sl_str (pv 4) po_none (po_some (pv 5))) pe_str) (pe_slice sl_str (pv 4) (po_some (pv 5)) po_none)))) pss_nil)
      (C8.pss_cut (ps_if (pt_cmpR op_eq (pv 1) pe_int (nomark _)) (pss_cons (ps_set (i := 6) sc_law_faulty.nd rfl (Or.inl rfl) (pe_slice sl_str (pv 4) (po_some (pv 5)) (po_some (pe_op op_add (pv 5) pe_int))))
      (pss_one (ps_set (i := 4) sc_law_faulty.nd rfl (Or.inl rfl) (pe_op op_add_str (pe_op op_add_str (pe_slice sl_str (pv 4) po_none (po_some (pv 5))) (pe_join pe_str (Gc.pe_lstRs rfl (by rfl) B.list (by rfl) B.reversed (pv 6)))) (pe_slice sl_str (pv 4) (po_some (pe_op op_add (pv 5) pe_int)) po_none))))) pss_nil)
      (C8.pss_cut (ps_if (pt_cmpR op_gt (pv 1) pe_int (nomark _)) (pss_cons (ps_set (i := 7) sc_law_faulty.nd rfl (Or.inl rfl) (pe_ix ix_str pe_str (pe_op op_mod (pe_op op_fdiv (pv 2) pe_int) pe_int) (fun _ _ => rfl)))
      (C8.pss_cut (ps_if (pt_cmpR op_eq (pe_op op_mod (pe_op op_fdiv (pv 2) pe_int) pe_int) pe_int (nomark _)) (pss_cons (ps_set (i := 8) sc_law_faulty.nd rfl (Or.inl rfl) pe_str)
      (pss_cons (ps_set (i := 8) sc_law_faulty.nd rfl (Or.inl rfl) (pe_op op_add_str (pv 8) pe_str))
      (pss_one (ps_set (i := 7) sc_law_faulty.nd rfl (Or.inl rfl) (pe_ix ix_str (pv 8) (pe_op op_mod (pe_op op_fdiv (pv 2) pe_int) (pe_callB call_len_str (by rfl) B.len PySem.boot_len (pa_cons (pv 8) pa_nil))) (fun _ _ => rfl)))))) pss_nil)
      (pss_one (ps_set (i := 4) sc_law_faulty.nd rfl (Or.inl rfl) (pe_op op_add_str (pe_op op_add_str (pe_slice sl_str (pv 4) po_none (po_some (pv 5))) (pv 7)) (pe_slice sl_str (pv 4) (po_some (pe_op op_add (pv 5) pe_int)) po_none)))))) pss_nil)
      (pss_one (ps_ret (pe_op op_cat (pe_op op_cat (pe_slice sl_list (pv 0) po_none (po_some (pv 3))) (pe_lst (pa_cons (pv 4) pa_nil))) (pe_slice sl_list (pv 0) (po_some (pe_op op_add (pv 3) pe_int)) po_none)))))))))))))), ?_⟩
    refine ⟨_, rfl, rfl, _, rfl, ?_⟩
    refine ite2 (fun k0 => ?_) (fun k0 => ?_)
    · -- a row more
      refine ⟨_, rfl, _, rfl, _, _, rfl, .inl ⟨_, SqL.of hl, rfl⟩, _, _, rfl, rfl, _, rfl, ?_⟩
      rw [List.length_map]
      have last : ∀ z : Str, okS (BB + 1) z → ∀ (p : Addr), H p = none → rCat (.ref l) (.ref p) (upd H p (.lst [.str z])) Q := fun z hz p hp => by
        have s1 : Same H (upd H p (.lst [.str z])) := Same.new hp
        refine ⟨l, p, _, _, rfl, rfl, s1 _ _ hl, upd_same, ?_, fun p3 hp3 => ?_⟩
        · rw [List.length_map]
          exact Nat.le_trans (by show _ + 1 ≤ 1000; omega) (by decide)
        · refine hQ p3 (ts ++ [z]) _ (s1.trans (Same.new hp3)) ?_ ?_ fun a ha => ?_
          · rw [upd_same, List.map_append] <;> rfl
          · rw [List.length_append]
            show _ + 1 ≤ _
            omega
          · rcases List.mem_append.mp ha with q | q
            · exact (hg a q).mono (Nat.le_succ _)
            · rw [List.mem_singleton.mp q]
              exact hz
      by_cases n0 : 0 < ts.length
      · refine iteTd (by omega) ?_
        obtain ⟨x, hx, mx⟩ := at_last (xs := ts.map V.str) (by rw [List.length_map]; exact n0)
        obtain ⟨z, hz, rfl⟩ := List.mem_map.mp mx
        refine ⟨_, rfl, _, rfl, _, _, _, _, rfl, rfl, SqL.of hl, hx, (by show 1 ≤ sizeLine; decide), fun p hp => ?_⟩
        exact last z ((hg z hz).mono (Nat.le_succ _)) p hp
      · refine iteNS2 (by omega) ?_
        refine ⟨(by show 1 ≤ sizeLine; decide), fun p hp => ?_⟩
        exact last _ ((okS_lit (B := 1) (by decide +kernel)).mono (by omega)) p hp
    refine ⟨_, rfl, _, _, rfl, .inl ⟨_, SqL.of hl, rfl⟩, rfl, _, rfl, ?_⟩
    rw [List.length_map]
    refine ite2 (fun n0 => ?_) (fun n0 => ?_)
    · exact ⟨_, rfl, hQ l ts H (Same.refl H) hl (by omega) fun a ha => (hg a ha).mono (Nat.le_succ _)⟩
    have pos : 0 < ts.length := by
      rcases Nat.eq_zero_or_pos ts.length with q | q
      · exact absurd (decide_eq_true (by rw [q] <;> rfl)) n0
      · exact q
    obtain ⟨at_, hat, hat2⟩ := mod_nat num (k := ((ts.length : Nat) : Int)) (by omega)
    have al : at_ < ts.length := by omega
    refine ⟨_, rfl, _, rfl, _, _, rfl, .inl ⟨_, SqL.of hl, rfl⟩, _, _, rfl, rfl, ?_⟩
    rw [List.length_map]
    refine ⟨by omega, ?_⟩
    obtain ⟨z, hz⟩ : ∃ z, ts[at_]? = some z := ⟨_, List.getElem?_eq_getElem al⟩
    have okz : okS BB z := hg z (List.mem_of_getElem? hz)
    refine ⟨_, rfl, _, rfl, _, _, _, _, rfl, rfl, SqL.of hl, (by rw [hat]; exact atI_nat (v := V.str z) (by rw [List.getElem?_map, hz] <;> rfl)), ?_⟩
    obtain ⟨pl, hpl, hpl2⟩ := mod_nat (num / 13) (k := ((z.length : Nat) : Int) + 1) (by omega)
    let Mid : (Str → Prop) → L2.St → Hp → Prop := fun ok σ' H' => ∃ (v6 v7 v8 : Option V) (zr : Str) (ai pi : Int), σ' = [some (.ref l), some (.int kind), some (.int num), some (.int ai), some (.str zr), some (.int pi), v6, v7, v8] ∧ ai = (at_ : Int) ∧ pi = (pl : Int) ∧ Same H H' ∧ ok zr
    have keq : ∀ n : Int, decide (V.int kind = V.int n) = true → kind = n := fun n h => V.int.inj (of_decide_eq_true h)
    have l1 : ∀ {x : Str}, okS (BB + 1) x → x.length ≤ sizeLine := fun {x} h => hsz x (Nat.le_trans h.1 (by omega))
    have l2 : ∀ {n : Nat}, n ≤ 4000 → n ≤ sizeLine := fun {n} h => Nat.le_trans h (by decide)
    refine ⟨Mid (okS BB), ?_, ?_⟩
    · refine ⟨_, rfl, _, _, rfl, rfl, ⟨by decide, by decide⟩, _, rfl, _, rfl, hsz z (Nat.le_trans okz.1 (by omega)), _, _, rfl, rfl, _, _, rfl, rfl, (by show (0 : Int) < ((z.length : Nat) : Int) + 1; omega), ?_⟩
      exact ⟨_, _, _, z, _, _, rfl, hat, hpl, Same.refl H, okz⟩
    rintro _ H1 ⟨v6, v7, v8, z1, _, _, rfl, rfl, rfl, s1, ok1⟩
    refine ⟨_, rfl, rfl, _, rfl, ?_⟩
    refine ite2 (fun k1 => ?_) (fun k1 => ?_)
    · -- a row less
      refine ⟨_, rfl, _, rfl, _, rfl, l, _, rfl, SqL.of (s1 _ _ hl), fun p1 hp1 => ?_⟩
      rw [cut_pre]
      have s2 : Same H1 (upd H1 p1 (.lst ((ts.take at_).map V.str))) := Same.new hp1
      refine ⟨_, rfl, _, rfl, _, _, rfl, rfl, _, rfl, l, _, rfl, SqL.of (s2 _ _ (s1 _ _ hl)), fun p2 hp2 => ?_⟩
      rw [cut_post1]
      have s3 : Same (upd H1 p1 (.lst ((ts.take at_).map V.str))) (upd (upd H1 p1 (.lst ((ts.take at_).map V.str))) p2 (.lst ((ts.drop (at_ + 1)).map V.str))) := Same.new hp2
      refine ⟨p1, p2, _, _, rfl, rfl, s3 _ _ upd_same, upd_same, ?_, fun p3 hp3 => ?_⟩
      · rw [List.length_map, List.length_map, List.length_take, List.length_drop]
        exact Nat.le_trans (by show _ ≤ 1000; have : min at_ ts.length ≤ ts.length := Nat.min_le_right _ _; omega) (by decide)
      refine hQ p3 (ts.take at_ ++ ts.drop (at_ + 1)) _ (s1.trans (s2.trans (s3.trans (Same.new hp3)))) ?_ ?_ fun a ha => ?_
      · rw [upd_same, List.map_append]
      · rw [List.length_append, List.length_take, List.length_drop]
        omega
      · rcases List.mem_append.mp ha with q | q
        · exact (hg a (List.mem_of_mem_take q)).mono (Nat.le_succ _)
        · exact (hg a (List.mem_of_mem_drop q)).mono (Nat.le_succ _)
    refine ⟨Mid (okS BB), ?_, ?_⟩
    · -- a sign less
      refine ⟨_, rfl, rfl, _, rfl, ?_⟩
      refine ite2 (fun q => ?_) (fun q => ?_)
      · have o1 := okS_pre ok1 pl
        have o2 := okS_post1 ok1 pl
        have oa := okS.app o1 o2
        have := ok1.1
        refine ⟨_, rfl, _, rfl, _, rfl, _, rfl, l1 (ok1.mono (Nat.le_succ _)), _, rfl, _, rfl, _, _, rfl, rfl, _, rfl, _, rfl, l1 (ok1.mono (Nat.le_succ _)), _, _, rfl, rfl, l2 (Nat.le_trans (Nat.add_le_add o1.1 o2.1) (by omega)), ?_⟩
        exact ⟨_, _, _, _, _, _, rfl, rfl, rfl, s1, oa.mono (by omega)⟩
      · exact ⟨_, _, _, _, _, _, rfl, rfl, rfl, s1, ok1⟩
    clear s1 ok1
    rintro _ H2 ⟨v6, v7, v8, z2, _, _, rfl, rfl, rfl, s1, ok2⟩
    refine ⟨Mid (fun x => okS (BB + 1) x ∧ (3 < kind → okS BB x)), ?_, ?_⟩
    · -- a sign more
      refine ⟨_, rfl, rfl, _, rfl, ?_⟩
      refine ite2 (fun q => ?_) (fun q => ?_)
      · have o1 := okS_pre ok2 pl
        have o2 := okS_post ok2 pl
        have od : okS 1 ("o" : Str) := okS_lit (by decide +kernel)
        have o3 := okS.app o1 od
        have oa := okS.app o3 o2
        have := ok2.1
        refine ⟨_, rfl, _, rfl, _, rfl, _, rfl, l1 (ok2.mono (Nat.le_succ _)), _, _, rfl, rfl, l2 (Nat.le_trans (Nat.add_le_add o1.1 od.1) (by omega)), _, rfl, _, rfl, _, rfl, _, rfl, l1 (ok2.mono (Nat.le_succ _)), _, _, rfl, rfl, l2 (Nat.le_trans (Nat.add_le_add o3.1 o2.1) (by omega)), ?_⟩
        refine ⟨_, _, _, _, _, _, rfl, rfl, rfl, s1, oa.mono (by omega), fun h => ?_⟩
        have := keq 3 q
        omega
      · exact ⟨_, _, _, _, _, _, rfl, rfl, rfl, s1, ok2.mono (Nat.le_succ _), fun _ => ok2⟩
    clear s1 ok2
    rintro _ H3 ⟨v6, v7, v8, z3, _, _, rfl, rfl, rfl, s1, ok3, ok3b⟩
    refine ⟨Mid (fun x => okS (BB + 1) x ∧ (4 < kind → okS BB x)), ?_, ?_⟩
    · -- two exchanged
      refine ⟨_, rfl, rfl, _, rfl, ?_⟩
      refine ite2 (fun q => ?_) (fun q => ?_)
      · have k4 := keq 4 q
        have ok := ok3b (by omega)
        have o1 := okS_pre ok pl
        have om := okS_mid ok pl
        have o2 := okS_post2 ok pl
        have ob := okS_rev om
        have o3 := okS.app o1 ob
        have oa := okS.app o3 o2
        have := ok.1
        refine ⟨_, rfl, _, rfl, _, rfl, _, rfl, _, _, rfl, rfl, _, rfl, _, rfl, l1 ok3, ?_⟩
        refine ⟨_, rfl, _, rfl, _, rfl, _, rfl, l1 ok3, ?_⟩
        refine ⟨⟨_, rfl⟩, _, rfl, _, rfl, hsz _ (Nat.le_trans om.1 (by omega)), fun q2 hq2 => ?_⟩
        rw [ones_rev]
        have s2 : Same H3 (upd H3 q2 (.lst ((onesRev (cutS z3 (some ((pl : Nat) : Int)) (some (((pl : Nat) : Int) + 2)))).map V.str))) := Same.new hq2
        refine ⟨_, q2, _, rfl, rfl, .inl (SqL.of upd_same), ones_small om (by omega), ?_⟩
        refine ⟨_, _, rfl, rfl, l2 (Nat.le_trans (Nat.add_le_add o1.1 ob.1) (by omega)), _, rfl, _, rfl, _, _, rfl, rfl, _, rfl, _, rfl, l1 ok3, _, _, rfl, rfl, l2 (Nat.le_trans (Nat.add_le_add o3.1 o2.1) (by omega)), ?_⟩
        exact ⟨_, _, _, _, _, _, rfl, rfl, rfl, s1.trans s2, oa.mono (by omega), fun _ => oa.mono (by omega)⟩
      · exact ⟨_, _, _, _, _, _, rfl, rfl, rfl, s1, ok3, fun h => ok3b (by omega)⟩
    clear s1 ok3 ok3b
    rintro _ H4 ⟨v6, v7, v8, z4, _, _, rfl, rfl, rfl, s1, ok4, ok4b⟩
    refine ⟨Mid (okS (BB + 1)), ?_, ?_⟩
    · -- another sign
      refine ⟨_, rfl, _, _, rfl, rfl, _, rfl, ?_⟩
      refine ite2 (fun q => ?_) (fun q => ?_)
      · have k4 : 4 < kind := of_decide_eq_true q
        have ok := ok4b k4
        refine ⟨_, rfl, _, _, rfl, rfl, ⟨by decide, by decide⟩, _, _, rfl, rfl, (by show (0 : Int) < 6; decide), ?_⟩
        refine ixS_pickN (n := 6) (by decide +kernel) fun c hc => ?_
        refine ⟨fun σ' H' => ∃ (c : Nat) (v6 v8 : Option V), c < 0x110000 ∧ σ' = [some (.ref l), some (.int kind), some (.int num), some (.int ((at_ : Nat) : Int)), some (.str z4), some (.int ((pl : Nat) : Int)), v6, some (.str ⟨#[c]⟩), v8] ∧ H4 = H', ?_, ?_⟩
        · refine ⟨_, rfl, _, _, rfl, rfl, ⟨by decide, by decide⟩, _, _, rfl, rfl, (by show (0 : Int) < 2; decide), rfl, _, rfl, ?_⟩
          refine ite2 (fun q => ?_) (fun q => ?_)
          · refine ⟨_, rfl, _, _, rfl, rfl, Nat.le_trans (by decide +kernel : _ ≤ 1000) (by decide), ?_⟩
            refine ⟨_, rfl, _, rfl, _, _, rfl, rfl, ⟨by decide, by decide⟩, _, rfl, _, rfl, Nat.le_trans (by decide +kernel : _ ≤ 1000) (by decide), _, _, rfl, rfl, ?hp, ixS_pick (by decide +kernel) fun c hc => ?_⟩
            case hp =>
              show (0 : Int) < _
              decide +kernel
            exact ⟨c, _, _, hc, rfl, rfl⟩
          · exact ⟨c, _, _, hc, rfl, rfl⟩
        clear hc c
        rintro _ _ ⟨c, v6, v8, hc, rfl, rfl⟩
        have o1 := okS_pre ok pl
        have o2 := okS_post1 ok pl
        have od : okS 1 ⟨#[c]⟩ := okS_one hc
        have o3 := okS.app o1 od
        have oa := okS.app o3 o2
        have := ok.1
        refine ⟨_, rfl, _, rfl, _, rfl, _, rfl, l1 ok4, _, rfl, _, _, rfl, rfl, l2 (Nat.le_trans (Nat.add_le_add o1.1 od.1) (by omega)), _, rfl, _, rfl, _, _, rfl, rfl, _, rfl, _, rfl, l1 ok4, _, _, rfl, rfl, l2 (Nat.le_trans (Nat.add_le_add o3.1 o2.1) (by omega)), ?_⟩
        exact ⟨_, _, _, _, _, _, rfl, rfl, rfl, s1, oa.mono (by omega)⟩
      · exact ⟨_, _, _, _, _, _, rfl, rfl, rfl, s1, ok4⟩
    clear s1 ok4 ok4b
    rintro _ H5 ⟨v6, v7, v8, z5, _, _, rfl, rfl, rfl, s1, ok5⟩
    have hl1 := s1 _ _ hl
    refine ⟨_, rfl, _, rfl, _, rfl, l, _, rfl, SqL.of hl1, fun p1 hp1 => ?_⟩
    rw [cut_pre]
    have t1 : Same H5 (upd H5 p1 (.lst ((ts.take at_).map V.str))) := Same.new hp1
    refine ⟨_, rfl, (by show 1 ≤ sizeLine; decide), fun p2 hp2 => ?_⟩
    have t2 : Same (upd H5 p1 (.lst ((ts.take at_).map V.str))) (upd (upd H5 p1 (.lst ((ts.take at_).map V.str))) p2 (.lst [.str z5])) := Same.new hp2
    have h1 := t2 _ _ (upd_same (H := H5) (a := p1) (o := .lst ((ts.take at_).map V.str)))
    refine ⟨p1, p2, _, _, rfl, rfl, h1, upd_same, ?_, fun p3 hp3 => ?_⟩
    · rw [List.length_map, List.length_take]
      exact Nat.le_trans (by show _ ≤ 1000; have : min at_ ts.length ≤ ts.length := Nat.min_le_right _ _; show min at_ ts.length + 1 ≤ 1000; omega) (by decide)
    have t3 := s1.trans (t1.trans (t2.trans (Same.new (o := .lst ((ts.take at_).map V.str ++ [.str z5])) hp3)))
    have hl3 := t3 _ _ hl
    refine ⟨_, rfl, _, rfl, _, _, rfl, rfl, _, rfl, l, _, rfl, SqL.of hl3, fun p4 hp4 => ?_⟩
    rw [cut_post1]
    have t4 := Same.new (o := .lst ((ts.drop (at_ + 1)).map V.str)) hp4
    have h3 := t4 _ _ upd_same
    refine ⟨p3, p4, _, _, rfl, rfl, h3, upd_same, ?_, fun p5 hp5 => ?_⟩
    · rw [List.length_append, List.length_map, List.length_map, List.length_take, List.length_drop]
      exact Nat.le_trans (by show _ ≤ 1000; have : min at_ ts.length ≤ ts.length := Nat.min_le_right _ _; show min at_ ts.length + 1 + (ts.length - (at_ + 1)) ≤ 1000; omega) (by decide)
    refine hQ p5 (ts.take at_ ++ [z5] ++ ts.drop (at_ + 1)) _ (t3.trans (t4.trans (Same.new hp5))) ?_ ?_ fun x hx => ?_
    · rw [upd_same, List.map_append, List.map_append] <;> rfl
    · rw [List.length_append, List.length_append, List.length_take, List.length_drop, Nat.min_eq_left (by omega)]
      show at_ + 1 + (ts.length - (at_ + 1)) ≤ _
      omega
    · rcases List.mem_append.mp hx with q | q
      · rcases List.mem_append.mp q with q | q
        · exact (hg x (List.mem_of_mem_take q)).mono (Nat.le_succ _)
        · have e : x = z5 := by simpa using q
          rw [e]
          exact ok5
      · exact (hg x (List.mem_of_mem_drop q)).mono (Nat.le_succ _)
end
end Sf
namespace Sf
open PySem PySem.Spec PyProof.Rows L2 Gc
theorem lifted_perm {ov ov2 : Ovr} (p : ov.Perm ov2) (i j : Int) : (lifted ov i j).Perm (lifted ov2 i j) := by
  unfold lifted
  exact (p.filter _).filter _
def spLess (C CL : Addr) : Sp := fun vs H Q _ => ∃ (y x df d d0 : Addr) (ws : List Str) (ov ov0 : Ovr), vs = [.ref y, .ref d0] ∧ LayD CL H y x d ov ∧ FloorD C H x df ws ∧ df ≠ d ∧ d0 ≠ d ∧ H d0 = some (.dK (dk ov0)) ∧ ov0.Perm ov ∧ Wf ws ∧ Vl ws ov ∧
  ∀ (dl : Addr) (ovl ov2 : Ovr) (H' : Hp), Keep d H H' → H dl = none → H' dl = some (.dK (dk ovl)) → LayD CL H' y x d ov2 → ovl.Perm ov2 → Vl ws ov2 → Q (.ref dl) H'
section
variable {P : Program} {w : World} {K : PySem.W.Frag} {mg : Str → Option Value} {base : Heap} {C CL : Addr}
theorem sc_law_less : FnScope ["_law_laying", "_law_over_here", "_law_less_here", "_law_cell"] ["_law_laying", "_law_over_here"] (defScope s_law_less) := ⟨rfl, rfl, rfl, by decide +kernel, rfl, by decide +kernel, by decide +kernel⟩
theorem ok_less (D : Df K mg "_law_less" s_law_less ["_law_laying", "_law_over_here"]) (B : Bi mg) (L : LTxt K mg CL) (c_Laying_lift : Cm P w K mg base CX0 3 CL "lift" ["self", "cell"] (spLift0 C CL)) :
    Cl P w K mg base CX0 4 "_law_less" ["_law_laying", "_law_over_here"] (spLess C CL) := D.cl fun f fd F => by
  refine F.ok sc_law_less (fun vs H Q E h => ?_) (fun cdv A outer s H vs Q E hr h => ?_)
  · obtain ⟨y, x, df, d, d0, ws, ov, ov0, rfl, _⟩ := h
    rfl
  · obtain ⟨y, x, df, d, d0, ws, ov, ov0, rfl, ⟨dy, la⟩, fl, nfd, n0d, h0, pm, hw, v, hQ⟩ := h
    have hu := hu_of hr
    refine ⟨_, (pss_cons (ps_set (i := 2) sc_law_less.nd rfl (Or.inl rfl) (pe_callTy call_dictD (by rfl) B.dict rfl (pa_cons (pv 1) pa_nil)))
      (C8.pss_cut (ps_if (pt_cmpR op_gt (pe_callB call_lenD (by rfl) B.len PySem.boot_len (pa_cons (pv 2) pa_nil)) pe_int (nomark _)) (pss_cons (ps_set (i := 3) sc_law_less.nd rfl (Or.inl rfl) (pe_ix ix_list (pe_callB (Gs.call_sortedAny rfl) (by rfl) B.sorted rfl (pa_cons (pv 2) pa_nil)) pe_int (fun _ _ => rfl)))
      (pss_cons (ps_expr (pe_cm (pv 0) L.cl c_Laying_lift (hr.mono (by decide)) (pa_cons (pv 3) pa_nil)))
      (pss_one (ps_expr (pe_dpop1 (pv 2) (pe_dpop1 (pv 2) (pv 3) ⟨rfl, rfl, rfl, rfl⟩) ⟨rfl, rfl, rfl, rfl⟩))))) pss_nil)
      (pss_one (ps_ret (pv 2))))), ?_⟩
    refine ⟨_, rfl, d0, _, rfl, .inl h0, fun dl hdl => ?_⟩
    have s1 : Same H (upd H dl (.dK (dk ov0))) := same_new hdl
    have l1 : (upd H dl (.dK (dk ov0))) dl = some (.dK (dk ov0)) := upd_same
    have ndl : dl ≠ d := fun q => by rw [q, la.dc] at hdl; cases hdl
    generalize upd H dl (.dK (dk ov0)) = H1 at s1 l1
    have la1 := la.same s1
    have v0 := v.perm pm.symm
    have len0 := v0.len hw
    refine ⟨fun σ' H' => ∃ (v3 : Option V) (ovl ov2 : Ovr), σ' = [some (.ref y), some (.ref d0), some (.ref dl), v3] ∧ Keep d H H' ∧ H' dl = some (.dK (dk ovl)) ∧ LayD CL H' y x d ov2 ∧ ovl.Perm ov2 ∧ Vl ws ov2, ?_, ?_⟩
    · refine ⟨_, rfl, dl, _, rfl, l1, _, _, rfl, rfl, _, rfl, ?_⟩
      by_cases hc : 0 < ov0.length
      case neg =>
        refine iteNS2 (by unfold dk; rw [List.length_map]; omega) ?_
        exact ⟨_, ov0, ov, rfl, Keep.of s1, l1, ⟨dy, la1⟩, pm, v⟩
      refine iteTd (by unfold dk; rw [List.length_map]; omega) ?_
      refine ⟨_, rfl, dl, dk ov0, keysOf ov0, rfl, .inl l1, dk_keys ov0, (by unfold keysOf; rw [List.length_map]; omega), fun ks p hp hsrt hp0 => ?_⟩
      have s2 : Same H1 (upd H1 p (.lst (ks.map V.int))) := same_new hp0
      have h2 : (upd H1 p (.lst (ks.map V.int))) p = some (.lst (ks.map V.int)) := upd_same
      generalize upd H1 p (.lst (ks.map V.int)) = H2 at s2 h2
      have kl : 0 < ks.length := by
        rw [hp.length_eq]
        unfold keysOf
        rw [List.length_map]
        exact hc
      obtain ⟨c, hc0⟩ : ∃ c, ks[0]? = some c := ⟨_, List.getElem?_eq_getElem kl⟩
      obtain ⟨m, lm⟩ := look_key (hp.mem_iff.mp (List.mem_of_getElem? hc0))
      have lm2 : look ov c = some m := by rw [look_perm pm v0.nd]; exact lm
      have mc := v0.sym c m lm
      have ne := may_ne (v0.may c m lm)
      refine ⟨_, _, _, _, rfl, rfl, SqL.of h2, atI_nat (j := 0) (by rw [List.getElem?_map, hc0] <;> rfl), ?_⟩
      have la2 := la1.same s2
      have s12 := s1.trans s2
      refine ⟨_, rfl, y, dy, _, rfl, la2.ob, lfl_no x d (by decide +kernel) (by decide +kernel), _, rfl, y, x, df, d, ws, ov, c, m, rfl, ⟨dy, la2⟩, fl.same s12, v, lm2, fun H3 k3 d3 => ?_⟩
      have l3 : H3 dl = some (.dK (dk ov0)) := k3 _ _ ndl (s2 _ _ l1)
      refine ⟨_, rfl, dl, rfl, .inl ⟨_, .inl l3⟩, _, rfl, dl, rfl, .inl ⟨_, .inl l3⟩, _, rfl, dk ov0, (Sum.inl c : Key), .int m, l3, rfl, (by rw [dk_val, lm] <;> rfl), ?_⟩
      rw [dk_drop]
      refine ⟨_, (Sum.inl m : Key), .int c, upd_same, rfl, (by rw [dk_val, look_drop, if_neg (fun q => ne q.symm), mc] <;> rfl), ?_⟩
      rw [dk_drop]
      have k03 : Keep d H H3 := (Keep.of s12).trans k3
      have la3 : LayD CL H3 y x d (lifted ov c m) := LayD.wrote ⟨dy, la2⟩ k3 d3
      refine ⟨_, lifted ov0 c m, lifted ov c m, rfl, fun b o hb e => ?_, ?_, ?_, lifted_perm pm c m, v.lift lm2⟩
      · have nb := ne_of_none e hdl
        rw [upd_ne nb, upd_ne nb]
        exact k03 b o hb e
      · rw [upd_same]
        rfl
      · obtain ⟨dy3, lb3⟩ := la3
        have ny : y ≠ dl := fun q => by rw [← q, la.ob] at hdl; cases hdl
        exact ⟨dy3, by rw [upd_ne ny, upd_ne ny]; exact lb3.ob, by rw [upd_ne ndl.symm, upd_ne ndl.symm]; exact lb3.dc⟩
    rintro _ H2 ⟨v3, ovl, ov2, rfl, k2, l2, la2, p2, v2⟩
    exact ⟨_, rfl, hQ dl ovl ov2 H2 k2 hdl l2 la2 p2 v2⟩
end
end Sf
namespace Sf
open PySem PySem.Spec PyProof.Rows L2 L2H Gc
theorem ne_same {K : PySem.W.Frag} {H : Hp} {l1 l2 : Addr} {xs : List Str} (h : ∀ a ∈ xs, okTxt a) (h1 : SqL K H l1 (xs.map V.str)) (h2 : SqL K H l2 (xs.map V.str)) {Q : VK} (hQ : Q (.bl false) H) : rNeD K (.ref l1) (.ref l2) H Q :=
  ne_texts h h h1 h2 (by rw [decide_eq_true rfl]; exact hQ)
theorem eq_same {K : PySem.W.Frag} {H : Hp} {l1 l2 : Addr} {xs : List Str} (h : ∀ a ∈ xs, okTxt a) (h1 : SqL K H l1 (xs.map V.str)) (h2 : SqL K H l2 (xs.map V.str)) {Q : VK} (hQ : Q (.bl true) H) : rEqD K (.ref l1) (.ref l2) H Q :=
  eq_texts h h h1 h2 (by rw [decide_eq_true rfl]; exact hQ)
theorem okS_txt {B : Nat} {a : Str} (h : okS B a) : okTxt a := h.2
section
variable {P : Program} {w : World} {K : PySem.W.Frag} {mg : Str → Option Value} {base : Heap} {C CL Pt : Addr}
theorem sclaw : FnScope ["_law_script", "_law_rows_here", "_law_floor", "_law_over_here", "_law_laying", "_law_found", "_law_told", "_law_k", "_law_kind", "_law_handed"] ["_law_script"] (defScope slaw) := ⟨rfl, rfl, rfl, by decide +kernel, rfl, by decide +kernel, by decide +kernel⟩
theorem ok_law {f : Addr} {fd_ : FuncData} (F : Fun K "law" "law" slaw f fd_) (B : Bi mg) (T : FTxt K mg C) (L : LTxt K mg CL)
    (c_law_rows : Cl P w K mg base CX0 2 "_law_rows" ["_law_script"] (spRows K)) (c_law_cell_at : Cl P w K mg base CX0 1 "_law_cell_at" ["_law_script", "_law_k"] (spCellAt K)) (c_Floor : Cn P w K mg base 4 C "Floor" ["self", "rows"] (spInit K Pt C))
    (c_law_over : Cl P w K mg base CX0 3 "_law_over" ["_law_rows_here", "_law_script", "_law_many"] (spOver K)) (c_law_made : Cl P w K mg base CX0 4 "_law_made" ["_law_floor", "_law_over_here"] (spMade C CL))
    (c_drawn : Cl P w K mg base CX0 3 "drawn" ["laying"] (spDrawn C CL)) (c_law_drawn : Cl P w K mg base CX0 2 "_law_drawn" ["_law_rows_here", "_law_over_here"] (spLDrawn K)) (c_law_less : Cl P w K mg base CX0 4 "_law_less" ["_law_laying", "_law_over_here"] (spLess C CL))
    (c_law_read : Cl P w K mg base CX0 7 "_law_read" ["_law_floor", "_law_told"] (spLRead K C)) (c_law_due : Cl P w K mg base CX0 3 "_law_due" ["_law_rows_here", "_law_told"] (spDue K)) (c_law_faulty : Cl P w K mg base CX0 1 "_law_faulty" ["_law_told", "_law_kind", "_law_number_here"] spFaulty) :
    FnOk P w K mg base CX0 8 f fd_ ["_law_script"] (spLaw K Pt) := by
  refine F.ok sclaw (fun vs H Q E h => ?_) (fun cdv A outer s H vs Q E hr h => ?_)
  · obtain ⟨a, ns, rfl, _⟩ := h
    rfl
  · obtain ⟨a, ns, rfl, hS, hl, hT, hQ⟩ := h
    have hu := hu_of hr
    refine ⟨_, (pss_cons (ps_set (i := 1) sclaw.nd rfl (Or.inl rfl) (pe_cl c_law_rows (hr.mono (by decide)) rfl (pa_cons (pv 0) pa_nil)))
      (pss_cons (ps_set (i := 2) sclaw.nd rfl (Or.inl rfl) (pe_cn c_Floor (hr.mono (by decide)) rfl (pa_cons (pe_callTy call_list_of (by rfl) B.list (by decide +kernel) (pa_cons (pv 1) pa_nil)) pa_nil)))
      (pss_cons (ps_set (i := 3) sclaw.nd rfl (Or.inl rfl) (pe_cl c_law_over (hr.mono (by decide)) rfl (pa_cons (pv 1) (pa_cons (pv 0) (pa_cons (pe_op op_mod (pe_cl c_law_cell_at (hr.mono (by decide)) rfl (pa_cons (pv 0) (pa_cons pe_int pa_nil))) pe_int) pa_nil)))))
      (pss_cons (ps_set (i := 4) sclaw.nd rfl (Or.inl rfl) (pe_cl c_law_made (hr.mono (by decide)) rfl (pa_cons (pv 2) (pa_cons (pv 3) pa_nil))))
      (pss_cons (ps_expr (pe_bm0 PySem.F.plainAttrs_list PySem.F.slot_list_clear PySem.F.type_list_clear mt_clear (pe_cl c_drawn (hr.mono (by decide)) rfl (pa_cons (pv 4) pa_nil))))
      (pss_cons (ps_set (i := 5) sclaw.nd rfl (Or.inl rfl) (pe_cl c_drawn (hr.mono (by decide)) rfl (pa_cons (pv 4) pa_nil)))
      (pss_cons (ps_set (i := 6) sclaw.nd rfl (Or.inl rfl) (pe_cl c_law_drawn (hr.mono (by decide)) rfl (pa_cons (pv 1) (pa_cons (pv 3) pa_nil))))
      (pss_cons (ps_if (PW.pt (pw_or (pt_not (pt_val (pe_callB call_isi (by rfl) B.isinstance PyProof.Rows.boot_isinstance (pa_cons (pv 5) (pa_cons (pe_bltn (v := .ty "list") (by rfl) B.list PySem.Pv.boot_list rfl) pa_nil))))) (pw_or (pt_cmpR (op_neD hr.units) (pv 5) (pv 6) (nomark _)) (pw_or1 (pt_cmpR (op_ne_dictA (Nat.lt_of_succ_lt hu)) (pe_fld (pv 4) rfl) (pv 3) (nomark _)))))) (pss_one (ps_ret pe_bl)) pss_nil)
      (pss_cons (ps_if (pt_cmpR (op_ne_dictA (Nat.lt_of_succ_lt hu)) (pe_cl c_law_read (hr.mono (by decide)) rfl (pa_cons (pv 2) (pa_cons (pe_callTy call_list_of (by rfl) B.list (by decide +kernel) (pa_cons (pv 6) pa_nil)) pa_nil))) (pv 3) (nomark _)) (pss_one (ps_ret pe_bl)) pss_nil)
      (pss_cons (ps_if (PW.pt (pw_or (pt_cmpR (op_neD hr.units) (pe_cl c_drawn (hr.mono (by decide)) rfl (pa_cons (pv 4) pa_nil)) (pv 6) (nomark _)) (pw_or1 (pt_cmpR (op_neD hr.units) (pe_cl c_law_drawn (hr.mono (by decide)) rfl (pa_cons (pv 1) (pa_cons (pe_cl c_law_less (hr.mono (by decide)) rfl (pa_cons (pv 4) (pa_cons (pv 3) pa_nil))) pa_nil))) (pe_cl c_drawn (hr.mono (by decide)) rfl (pa_cons (pv 4) pa_nil)) (nomark _))))) (pss_one (ps_ret pe_bl)) pss_nil)
      (pss_cons (ps_for PassesOwn.never rfl (pi_range1 rfl B.range (pa_cons (pe_op op_mod (pe_cl c_law_cell_at (hr.mono (by decide)) rfl (pa_cons (pv 0) (pa_cons pe_int pa_nil))) pe_int) pa_nil)) (pg_name (i := 7) sclaw.nd rfl (Or.inl rfl)) (pss_cons (ps_set (i := 8) sclaw.nd rfl (Or.inl rfl) (pe_op op_mod (pe_cl c_law_cell_at (hr.mono (by decide)) rfl (pa_cons (pv 0) (pa_cons (pe_op op_add pe_int (pe_op op_mul pe_int (pv 7))) pa_nil))) pe_int))
      (pss_one (ps_set (i := 6) sclaw.nd rfl (Or.inl rfl) (pe_cl c_law_faulty (hr.mono (by decide)) rfl (pa_cons (pv 6) (pa_cons (pv 8) (pa_cons (pe_cl c_law_cell_at (hr.mono (by decide)) rfl (pa_cons (pv 0) (pa_cons (pe_op op_add pe_int (pe_op op_mul pe_int (pv 7))) pa_nil))) pa_nil))))))))
      (pss_cons (ps_set (i := 9) sclaw.nd rfl (Or.inl rfl) (pe_callTy call_list_of (by rfl) B.list (by decide +kernel) (pa_cons (pv 6) pa_nil)))
      (pss_cons (ps_if (PW.pt (pw_or (pt_cmpR (op_neD hr.units) (pv 9) (pv 6) (nomark _)) (pw_or1 (pt_cmpR (op_neD hr.units) (pe_fld (pv 2) rfl) (pv 1) (nomark _))))) (pss_one (ps_ret pe_bl)) pss_nil)
      (pss_one (ps_ret (pe_and (pe_cmpR (Gc.op_or op_eq (op_eq_dictA (Nat.lt_of_succ_lt hu))) (pe_cl c_law_read (hr.mono (by decide)) rfl (pa_cons (pv 2) (pa_cons (pv 9) pa_nil))) (pe_cl c_law_due (hr.mono (by decide)) rfl (pa_cons (pv 1) (pa_cons (pv 6) pa_nil))) (nomark _)) (pe_one (pe_cmpR (op_eqD hr.units) (pv 9) (pv 6) (nomark _))))))))))))))))))), ?_⟩
    refine ⟨_, rfl, a, ns, rfl, hS, hl, fun l ws H1 hw s1 hl0 hl1 => ?_⟩
    have hwd := hw.wid
    have hh := hw.high
    have m0 := Int.emod_nonneg (cellN ns 2) (show (90 : Int) ≠ 0 by decide)
    have m1 := Int.emod_lt_of_pos (cellN ns 2) (show (0 : Int) < 90 by decide)
    have hT2 : GxR.TabG H1 Pt := (Sm.of s1 (P := Pt)).t hT
    -- the floor
    refine ⟨_, rfl, l, _, rfl, .inl (SqL.of hl1), fun lh hlh => ?_⟩
    have s3 : Same H1 (upd H1 lh (.lst (ws.map V.str))) := same_new hlh
    have hT3 := (Sm.of s3 (P := Pt)).t hT2
    intro x dx hx ndx nex
    refine mk_floor (SqL.of upd_same) hw hT3 hx ndx nex fun df H4 m4 hT4 hdf fl => ?_
    refine ⟨rfl, ?_⟩
    have l4 : H4 l = some (.lst (ws.map V.str)) := m4.at hT3 (s3 _ _ hl1) (fun _ z => by cases z)
    have S4 : SqL K H4 a (ns.map V.int) := m4.seq hT3 ((s1.trans s3).seq hS)
    clear m4 hT3 hlh hT2 hx hdf ndx nex
    -- the laying
    refine ⟨_, rfl, _, rfl, _, rfl, a, ns, 2, rfl, S4, _, _, rfl, rfl, (by show (0 : Int) < 90; decide), l, a, ws, ns, _, rfl, SqL.of l4, hw, S4, hl, m0, by omega, fun d0 ov0 H5 s5 hd0 o5 v0 => ?_⟩
    refine ⟨_, rfl, _, rfl, x, d0, df, ws, ov0, rfl, fl.same s5, hw, o5, v0, fun y d ov H6 s6 hy hd la pm => ?_⟩
    have s46 := s5.trans s6
    have v := v0.perm pm
    have eD : drawnR ws ov0 = drawnR ws ov := drawnR_perm pm v0.nd
    have fl6 := fl.same s46
    have nfd : df ≠ d := by
      obtain ⟨kv, e⟩ := (fl.same s5).dc
      exact ne_of_none e hd
    have n0d : d0 ≠ d := ne_of_none o5 hd
    have l6 := s46 _ _ l4
    have o6 := s6 _ _ o5
    have S6 := s46.seq S4
    have okD := drawnR_ok ws ov
    -- drawn, cleared
    refine ⟨_, rfl, y, x, df, d, ws, ov, rfl, la, fl6, hw, fun lb0 H7 s7 hlb0 h7 => ?_⟩
    refine ⟨.inl ⟨rfl, _, SqL.of h7⟩, lb0, _, rfl, rfl, h7, ?_⟩
    have s8 : Same H6 (upd H7 lb0 (.lst [])) := same_off s7 hlb0
    generalize upd H7 lb0 (.lst []) = H8 at s8
    -- drawn
    refine ⟨_, rfl, y, x, df, d, ws, ov, rfl, la.same s8, fl6.same s8, hw, fun lf H9 s9 hlf h9 => ?_⟩
    have s69 := s8.trans s9
    refine ⟨_, rfl, _, rfl, l, d0, ws, ov0, rfl, SqL.of (s69 _ _ l6), hw, s69 _ _ o6, fun lt H10 s10 hlt h10 => ?_⟩
    rw [eD] at h10
    have s6x := s69.trans s10
    have h9x := s10 _ _ h9
    refine ⟨_, rfl, .ref lf, .ty "list", .type "list", .type "list", true, rfl, .ty _, .base (.lst h9x), kit_ty (by decide +kernel), _, rfl, ?_⟩
    refine iteF ?_
    refine ⟨_, rfl, _, rfl, ne_same okD (SqL.of h9x) (SqL.of h10) ⟨_, rfl, ?_⟩⟩
    refine iteF ?_
    obtain ⟨dy, ll⟩ := la.same s6x
    obtain ⟨el, ev⟩ := eq_perm pm.symm v.nd
    refine ⟨_, rfl, y, CL, dy, _, _, rfl, ll.ob, L.cl, L.nO, lfl_over _ _, _, rfl, d, d0, _, dk ov0, rfl, rfl, ll.dc, s6x _ _ o6, el, ev, _, rfl, ?_⟩
    refine iteF ?_
    -- read again
    have dsh : (drawnR ws ov).length ≤ 12 ∧ ∀ b ∈ drawnR ws ov, b.length ≤ 12 := by
      obtain ⟨z1, z2⟩ := drawn_shape (ws := ws) (ov := ov)
      exact ⟨by omega, fun b hb => by rw [z2 b hb]; exact hwd⟩
    refine ⟨_, rfl, _, rfl, lt, _, rfl, .inl (SqL.of h10), fun lh2 hlh2 => ?_⟩
    have s11 : Same H10 (upd H10 lh2 (.lst ((drawnR ws ov).map V.str))) := same_new hlh2
    have h11 : (upd H10 lh2 (.lst ((drawnR ws ov).map V.str))) lh2 = some (.lst ((drawnR ws ov).map V.str)) := upd_same
    generalize upd H10 lh2 (.lst ((drawnR ws ov).map V.str)) = H11 at s11 h11
    have s6y := s6x.trans s11
    refine ⟨x, df, lh2, ws, drawnR ws ov, rfl, fl6.same s6y, hw, SqL.of h11, by omega, fun b hb => Nat.le_trans (dsh.2 b hb) (by decide), okD, fun d2 ov2 H12 s12 hd2 h12 v2 e2 => ?_, fun ne => absurd rfl (ne ov v)⟩
    have p2 : ov2.Perm ov0 := drawn_tells v2 v0 (by rw [← e2, eD])
    obtain ⟨el2, ev2⟩ := eq_perm p2 v2.nd
    have s6z := s6y.trans s12
    refine ⟨_, rfl, d2, d0, _, dk ov0, rfl, rfl, h12, s6z _ _ o6, el2, ev2, _, rfl, ?_⟩
    refine iteF ?_
    -- drawn as before
    have lt12 := s12 _ _ (s11 _ _ h10)
    refine ⟨_, rfl, y, x, df, d, ws, ov, rfl, la.same s6z, fl6.same s6z, hw, fun lg H13 s13 hlg h13 => ?_⟩
    have s613 := s6z.trans s13
    have lt13 := s13 _ _ lt12
    refine ⟨_, rfl, ne_same okD (SqL.of h13) (SqL.of lt13) ⟨_, rfl, ?_⟩⟩
    refine iteF ?_
    -- a slab lifted
    refine ⟨_, rfl, _, rfl, _, rfl, y, x, df, d, d0, ws, ov, ov0, rfl, la.same s613, fl6.same s613, nfd, n0d, s613 _ _ o6, pm, hw, v, fun dl ovl ovm H14 k14 hdl l14 la14 pm14 vm => ?_⟩
    have dc13 := (la.same s613).dc
    have fl14 : FloorD C H14 x df ws := (fl6.same s613).keep dc13 nfd k14
    have ll14 : H14 l = some (.lst (ws.map V.str)) := k14.at dc13 (s613 _ _ l6) (fun _ z => by cases z)
    have lt14 : H14 lt = some (.lst ((drawnR ws ov).map V.str)) := k14.at dc13 lt13 (fun _ z => by cases z)
    have S14 : SqL K H14 a (ns.map V.int) := k14.seq dc13 (s613.seq S6)
    refine ⟨l, dl, ws, ovl, rfl, SqL.of ll14, hw, l14, fun lm H15 s15 hlm h15 => ?_⟩
    refine ⟨_, rfl, y, x, df, d, ws, ovm, rfl, la14.same s15, fl14.same s15, hw, fun ln H16 s16 hln h16 => ?_⟩
    rw [drawnR_perm pm14 (vm.perm pm14.symm).nd] at h15
    refine ne_same (drawnR_ok ws ovm) (SqL.of (s16 _ _ h15)) (SqL.of h16) ⟨_, rfl, ?_⟩
    refine iteF ?_
    have s46' := s15.trans s16
    have fl16 := fl14.same s46'
    have ll16 := s46' _ _ ll14
    have lt16 := s46' _ _ lt14
    have S16 := s46'.seq S14
    have t0 := Int.emod_nonneg (cellN ns 3) (show (3 : Int) ≠ 0 by decide)
    have t1 := Int.emod_lt_of_pos (cellN ns 3) (show (0 : Int) < 3 by decide)
    obtain ⟨nf, enf⟩ : ∃ n : Nat, (cellN ns 3 % 3).toNat = n := ⟨_, rfl⟩
    have n2 : nf ≤ 2 := by omega
    -- the faults
    refine ⟨_, rfl, a, ns, 3, rfl, S16, _, _, rfl, rfl, (by show (0 : Int) < 3; decide), _, rfl, (by omega), (by omega), for_range (n := (cellN ns 3 % 3).toNat) (fun i σ Hn => ∃ (v7 v8 : Option V) (lw : Addr) (ts : List Str), σ = [some (.ref a), some (.ref l), some (.ref x), some (.ref d0), some (.ref y), some (.ref lf), some (.ref lw), v7, v8, none] ∧ Same H16 Hn ∧ Hn lw = some (.lst (ts.map V.str)) ∧ ts.length ≤ 12 + i ∧ ∀ b ∈ ts, okS (12 + i) b)
      ⟨none, none, lt, drawnR ws ov, rfl, Same.refl _, lt16, dsh.1, fun b hb => ⟨dsh.2 b hb, okD b hb⟩⟩ ?_ ?_⟩
    · rintro i σ Hn hi ⟨v7, v8, lw, ts, rfl, sn, hlw, tl, tk⟩
      have Sn := sn.seq S16
      refine ⟨_, rfl, _, rfl, _, _, rfl, rfl, .inl ⟨by decide, by decide⟩, _, _, rfl, rfl, a, ns, 4 + 2 * i, ?_, Sn, _, _, rfl, rfl, (by show (0 : Int) < 9; decide), ?_⟩
      · show [V.ref a, V.int (4 + 2 * (0 + (i : Int)))] = _
        congr 2
        congr 1
        omega
      refine ⟨_, rfl, _, rfl, _, rfl, _, rfl, _, _, rfl, rfl, .inl ⟨by decide, by decide⟩, _, _, rfl, rfl, a, ns, 5 + 2 * i, ?_, Sn, lw, ts, 12 + i, _, _, rfl, hlw, tl, tk, by omega, by omega, fun l2 ts2 H' s' h2 tl2 tk2 => ?_⟩
      · show [V.ref a, V.int (5 + 2 * (0 + (i : Int)))] = _
        congr 2
        congr 1
        omega
      exact ⟨_, _, l2, ts2, rfl, sn.trans s', h2, tl2, tk2⟩
    rintro σ Hn ⟨v7, v8, lw, ts, rfl, sn, hlw, tl, tk⟩
    rw [enf] at tl tk
    have okT : ∀ b ∈ ts, okTxt b := fun b hb => (tk b hb).2
    have lenT : ∀ b ∈ ts, b.length ≤ 20 := fun b hb => Nat.le_trans (tk b hb).1 (by omega)
    -- handed in
    refine ⟨_, rfl, lw, _, rfl, .inl (SqL.of hlw), fun lk hlk => ?_⟩
    have s17 : Same Hn (upd Hn lk (.lst (ts.map V.str))) := same_new hlk
    have h17 : (upd Hn lk (.lst (ts.map V.str))) lk = some (.lst (ts.map V.str)) := upd_same
    generalize upd Hn lk (.lst (ts.map V.str)) = H17 at s17 h17
    have s67 := sn.trans s17
    have lw17 := s17 _ _ hlw
    have ll17 := s67 _ _ ll16
    have fl17 := fl16.same s67
    refine ⟨_, rfl, _, rfl, ne_same okT (SqL.of h17) (SqL.of lw17) ⟨_, rfl, ?_⟩⟩
    refine iteF ?_
    obtain ⟨dxf, lrf, gf, faf⟩ := fl17
    refine ⟨_, rfl, x, C, dxf, _, _, rfl, faf.ob, T.cl, T.nR, flds_rows _ _ _ _, _, rfl, ne_same (rows_ok hw) (SqL.of faf.rw) (SqL.of ll17) ⟨_, rfl, ?_⟩⟩
    refine iteF ?_
    -- read and due
    have fin : ∀ H', Same H17 H' → (∃ c, V.bl true = V.bl c ∧ if c = true then tOp (rEqD K) (tVar 9) (tVar 6) [some (.ref a), some (.ref l), some (.ref x), some (.ref d0), some (.ref y), some (.ref lf), some (.ref lw), v7, v8, some (.ref lk)] H' Q else Q (.bl false) H') := fun H' s' => by
      refine ⟨true, rfl, ?_⟩
      refine iteT ?_
      exact ⟨_, rfl, _, rfl, eq_same okT (SqL.of (s' _ _ h17)) (SqL.of (s' _ _ lw17)) (hQ _)⟩
    refine ⟨_, rfl, _, rfl, x, df, lk, ws, ts, rfl, ⟨dxf, lrf, gf, faf⟩, hw, SqL.of h17, by omega, lenT, okT, fun d3 ov3 H18 s18 hd3 h18 v3 e3 => ?_, fun ne H18 s18 => ?_⟩
    · refine ⟨_, rfl, _, rfl, l, lw, ws, ts, rfl, SqL.of (s18 _ _ ll17), hw, SqL.of (s18 _ _ lw17), by omega, lenT, okT, fun d4 ov4 H19 s19 hd4 h19 v4 e4 => ?_, fun ne => absurd e3 (ne ov3 v3)⟩
      obtain ⟨el4, ev4⟩ := eq_perm (drawn_tells v3 v4 (by rw [← e3, e4])) v3.nd
      exact .inr ⟨d3, d4, _, _, rfl, rfl, s19 _ _ h18, h19, el4, ev4, fin _ (s18.trans s19)⟩
    · refine ⟨_, rfl, _, rfl, l, lw, ws, ts, rfl, SqL.of (s18 _ _ ll17), hw, SqL.of (s18 _ _ lw17), by omega, lenT, okT, fun d4 ov4 H19 s19 hd4 h19 v4 e4 => absurd e4 (ne ov4 v4), fun _ H19 s19 => ?_⟩
      exact .inl ⟨rfl, fin _ (s18.trans s19)⟩
end
end Sf
namespace Sf
open PySem L2
theorem tri0 : TriplesOk (#[] : Array Value).toList := by
  show TriplesOk []
  simp [TriplesOk]
theorem walk {l : PySem.W.OpenLaw} {k : Nat} {q : Program} {loose : List Str} {XP : (Str → Option Value) → Heap → Prop} {YP : World → Heap → Prop} {d : DefRec} {K : Params → PySem.W.Frag}
    (hn : l.most = some 63) (hdf : d.params.defaults = []) (hr : Room k callerA) (hrec : ((PyProof.Rows.recsOf q).any fun e => e.name == ("_refuse_wrong" : Str)) = true) (hY : ∀ (w : World) (h : Heap), YP w h → (K w.params).In h)
    (F : ∀ (w : World) (mg : Str → Option Value) (fa : Addr) (h : Heap), (K w.params).In h → h.Ns mainGlobals mg → mg d.name = some (.ref fa) →
      (∀ (fr c P : Addr) (o : Obj) (fd : FuncData) (e : Value) (dd : Option Addr) (vs : Array Value) (sl : Array (Option Value)), mg "_refuse_wrong" = some (.ref fr) → (K w.params).lookup fr = some o → o.data = .func fd → fd.code = .ref c → (K w.params).lookup c = some ⟨e, dd, .fields vs, sl⟩ → vs[11]? = some (.ref P) → h.get? P = some { cls := .none, data := .fields #[] }) →
      LamX.LawAtS l w (K w.params) CX0 k 63 "_law_script" mg fa h) :
    PySem.W.WalkO q loose XP YP l.row.toRowW d [] (fun f vs => PySem.call f vs) := by
  refine Att.attach_callB hn hdf fun w s₀ s₁ mg mb fa o pm cd doc a vs ns G Y ho hd hcd hmg hobj hints hlen hbits hg => ?_
  have KX := hY w _ Y
  have own : ∀ (fr c P : Addr) (o : Obj) (fd : FuncData) (e : Value) (dd : Option Addr) (vs : Array Value) (sl : Array (Option Value)), mg "_refuse_wrong" = some (.ref fr) → (K w.params).lookup fr = some o → o.data = .func fd → fd.code = .ref c → (K w.params).lookup c = some ⟨e, dd, .fields vs, sl⟩ → vs[11]? = some (.ref P) → s₁.heap.get? P = some { cls := .none, data := .fields #[] } := fun fr c P o1 fd1 e dd vs1 sl k0 k1 k2 k3 k4 k5 => by
    obtain ⟨dL, hm, hn1⟩ := List.any_eq_true.mp hrec
    have hn2 : dL.name = ("_refuse_wrong" : Str) := beq_iff_eq.mp hn1
    obtain ⟨a', o', fd', c', P', h1, h2, h3, h4, h5, h6⟩ := G.T.tab dL hm
    rw [hn2, k0] at h1
    cases h1
    have g1 := KX _ _ k1
    rw [g1] at h2
    cases h2
    rw [k2] at h3
    cases h3
    rw [k3] at h4
    cases h4
    obtain ⟨⟨oc, vc, e1, _, e3, e4⟩, hP⟩ := h6
    have g2 := KX _ _ k4
    rw [g2] at e1
    cases e1
    cases e3
    rw [k5] at e4
    cases e4
    exact hP
  obtain ⟨fd, cs, sp, hT, nT, C, hb, hsp, hF⟩ := F w mg fa _ KX G.T.g hmg own
  exact LamX.law_callTs KX G.T.g G.T.b G.T.builtins G.T.nolimit hg hT nT C G.T.bmain hobj hints (Nat.le_trans hlen (by decide)) hr hF hb (fun H hH hS => hsp H a ns hlen hbits hH hS) fun H e s' z => z.elim
theorem all_mk {l : PySem.W.OpenLaw} {w : World} {K : PySem.W.Frag} {h : Heap} {mg : Str → Option Value} {fa C_Floor C_Laying f0 f1 f2 f3 f4 f5 f6 f7 f8 f9 f10 f11 f12 f13 f14 f15 f16 f17 f18 f19 f20 f21 f22 f23 f24 f25 f26 f27 f28 f100 f101 f102 f103 f104 f105 f106 f107 f108 f109 f110 f111 f112 t0 t1 t2 t3 t4 c_refuse Pt x_L x_R x_S x_N x_B x_C x_U x_D x_F  : Addr} (X : K.In h) (G : h.Ns mainGlobals mg) (hfa : mg "law" = some (.ref fa))
    (tabs : ∀ (fr c P : Addr) (o : Obj) (fd : FuncData) (e : Value) (dd : Option Addr) (vs : Array Value) (sl : Array (Option Value)), mg "_refuse_wrong" = some (.ref fr) → K.lookup fr = some o → o.data = .func fd → fd.code = .ref c → K.lookup c = some ⟨e, dd, .fields vs, sl⟩ → vs[11]? = some (.ref P) → h.get? P = some { cls := .none, data := .fields #[] })
    {od0 an0 od1 an1 od2 an2 od3 an3 od4 an4 od5 an5 od6 an6 od7 an7 od8 an8 od9 an9 od10 an10 od11 an11 od12 an12 od13 an13 od14 an14 od15 an15 od16 an16 od17 an17 od18 an18 od19 an19 od20 an20 od21 an21 od22 an22 od23 an23 od24 an24 od25 an25 od26 an26 od27 an27 od28 an28 od100 an100 od101 an101 od102 an102 od103 an103 od104 an104 od105 an105 od106 an106 od107 an107 od108 an108 od109 an109 od110 an110 od111 an111 od112 an112 ot0 ot1 ot2 ot3 ot4 dcr : Option Addr} {sl0 sl1 sl2 sl3 sl4 sl5 sl6 sl7 sl8 sl9 sl10 sl11 sl12 sl13 sl14 sl15 sl16 sl17 sl18 sl19 sl20 sl21 sl22 sl23 sl24 sl25 sl26 sl27 sl28 sl100 sl101 sl102 sl103 sl104 sl105 sl106 sl107 sl108 sl109 sl110 sl111 sl112 st0 st1 st2 st3 st4 scr : Array (Option Value)} {oc0 kV0 dc0 pm0 ct0 oc1 kV1 dc1 pm1 ct1 cd1 oc2 kV2 dc2 pm2 ct2 cd2 oc3 kV3 dc3 pm3 ct3 cd3 oc4 kV4 dc4 pm4 ct4 cd4 oc5 kV5 dc5 pm5 ct5 cd5 oc6 kV6 dc6 pm6 ct6 cd6 oc7 kV7 dc7 pm7 ct7 cd7 oc8 kV8 dc8 pm8 ct8 cd8 oc9 kV9 dc9 pm9 ct9 cd9 oc10 kV10 dc10 pm10 ct10 cd10 oc11 kV11 dc11 pm11 ct11 cd11 oc12 kV12 dc12 pm12 ct12 cd12 oc13 kV13 dc13 pm13 ct13 cd13 oc14 kV14 dc14 pm14 ct14 cd14 oc15 kV15 dc15 pm15 ct15 cd15 oc16 kV16 dc16 pm16 ct16 cd16 oc17 kV17 dc17 pm17 ct17 cd17 oc18 kV18 dc18 pm18 ct18 cd18 oc19 kV19 dc19 pm19 ct19 cd19 oc20 kV20 dc20 pm20 ct20 cd20 oc21 kV21 dc21 pm21 ct21 cd21 oc22 kV22 dc22 pm22 ct22 cd22 oc23 kV23 dc23 pm23 ct23 cd23 oc24 kV24 dc24 pm24 ct24 cd24 oc25 kV25 dc25 pm25 ct25 cd25 oc26 kV26 dc26 pm26 ct26 cd26 oc27 kV27 dc27 pm27 ct27 cd27 oc28 kV28 dc28 pm28 ct28 cd28 oc100 kV100 dc100 pm100 ct100 cd100 oc101 kV101 dc101 pm101 ct101 cd101 oc102 kV102 dc102 pm102 ct102 cd102 oc103 kV103 dc103 pm103 ct103 cd103 oc104 kV104 dc104 pm104 ct104 cd104 oc105 kV105 dc105 pm105 ct105 cd105 oc106 kV106 dc106 pm106 ct106 cd106 oc107 kV107 dc107 pm107 ct107 cd107 oc108 kV108 dc108 pm108 ct108 cd108 oc109 kV109 dc109 pm109 ct109 cd109 oc110 kV110 dc110 pm110 ct110 cd110 oc111 kV111 dc111 pm111 ct111 cd111 oc112 kV112 dc112 pm112 ct112 cd112 ecr : Value} {vcr : Array Value} {nt0 nt1 nt2 nt3 nt4 : Nat} {ua1 ub1 uc1 ua2 ub2 uc2 ua3 ub3 uc3 ua4 ub4 uc4 u_MOST u_PILLAR u_SIGNS u_BARE u_LEFT u_RIGHT u_UPPER u_LOWER : Tok} {f_nm f_q : Str} {f_N : Addr} {f_bs f_sub : List Value} {f_hd f_ab : Bool} {f_sn : List Str} {f_col : Option Bool} {f_dd : Option Addr} {f_m0 f_m1 f_m2 f_m3 f_m5 : Option Value} {f_nw : String} {l_nm l_q : Str} {l_N : Addr} {l_bs l_sub : List Value} {l_hd l_ab : Bool} {l_sn : List Str} {l_col : Option Bool} {l_dd : Option Addr} {l_m0 l_m1 l_m2 l_m3 l_m5 : Option Value} {l_nw : String} 
    (aC_Floor : PySem.W.nsIn K mainGlobals "Floor" = some (some (.ref C_Floor)))
    (aC_Laying : PySem.W.nsIn K mainGlobals "Laying" = some (some (.ref C_Laying)))
    (a0 : PySem.W.nsIn K mainGlobals "_refuse_wrong" = some (some (.ref f0)))
    (l0 : K.lookup f0 = some ⟨oc0, od0, .func (PySem.W.fnOf "_refuse_wrong" "_refuse_wrong" (defArgs s_refuse_wrong) (defBody s_refuse_wrong) (defScope s_refuse_wrong) .none kV0 dc0 pm0 an0 (.ref c_refuse) ct0), sl0⟩)
    (c0 : PySem.W.codeIn K (.ref c_refuse) "_refuse_wrong" = true)
    (k0 : PySem.W.keepIn K (.ref f0) = true)
    (a1 : PySem.W.nsIn K mainGlobals "_sign_at" = some (some (.ref f1)))
    (l1 : K.lookup f1 = some ⟨oc1, od1, .func (PySem.W.fnOf "_sign_at" "_sign_at" (defArgs s_sign_at) (defBody s_sign_at) (defScope s_sign_at) .none kV1 dc1 pm1 an1 cd1 ct1), sl1⟩)
    (c1 : PySem.W.codeIn K cd1 "_sign_at" = true)
    (k1 : PySem.W.keepIn K (.ref f1) = true)
    (a2 : PySem.W.nsIn K mainGlobals "_neighbours" = some (some (.ref f2)))
    (l2 : K.lookup f2 = some ⟨oc2, od2, .func (PySem.W.fnOf "_neighbours" "_neighbours" (defArgs s_neighbours) (defBody s_neighbours) (defScope s_neighbours) .none kV2 dc2 pm2 an2 cd2 ct2), sl2⟩)
    (c2 : PySem.W.codeIn K cd2 "_neighbours" = true)
    (k2 : PySem.W.keepIn K (.ref f2) = true)
    (a3 : PySem.W.nsIn K mainGlobals "_neighbours_of_cells" = some (some (.ref f3)))
    (l3 : K.lookup f3 = some ⟨oc3, od3, .func (PySem.W.fnOf "_neighbours_of_cells" "_neighbours_of_cells" (defArgs s_neighbours_of_cells) (defBody s_neighbours_of_cells) (defScope s_neighbours_of_cells) .none kV3 dc3 pm3 an3 cd3 ct3), sl3⟩)
    (c3 : PySem.W.codeIn K cd3 "_neighbours_of_cells" = true)
    (k3 : PySem.W.keepIn K (.ref f3) = true)
    (a4 : PySem.W.nsIn K mainGlobals "refuse_no_cell" = some (some (.ref f4)))
    (l4 : K.lookup f4 = some ⟨oc4, od4, .func (PySem.W.fnOf "refuse_no_cell" "refuse_no_cell" (defArgs srefuse_no_cell) (defBody srefuse_no_cell) (defScope srefuse_no_cell) .none kV4 dc4 pm4 an4 cd4 ct4), sl4⟩)
    (c4 : PySem.W.codeIn K cd4 "refuse_no_cell" = true)
    (k4 : PySem.W.keepIn K (.ref f4) = true)
    (a5 : PySem.W.nsIn K mainGlobals "_sign_drawn" = some (some (.ref f5)))
    (l5 : K.lookup f5 = some ⟨oc5, od5, .func (PySem.W.fnOf "_sign_drawn" "_sign_drawn" (defArgs s_sign_drawn) (defBody s_sign_drawn) (defScope s_sign_drawn) .none kV5 dc5 pm5 an5 cd5 ct5), sl5⟩)
    (c5 : PySem.W.codeIn K cd5 "_sign_drawn" = true)
    (k5 : PySem.W.keepIn K (.ref f5) = true)
    (a6 : PySem.W.nsIn K mainGlobals "drawn" = some (some (.ref f6)))
    (l6 : K.lookup f6 = some ⟨oc6, od6, .func (PySem.W.fnOf "drawn" "drawn" (defArgs sdrawn) (defBody sdrawn) (defScope sdrawn) .none kV6 dc6 pm6 an6 cd6 ct6), sl6⟩)
    (c6 : PySem.W.codeIn K cd6 "drawn" = true)
    (k6 : PySem.W.keepIn K (.ref f6) = true)
    (a7 : PySem.W.nsIn K mainGlobals "_slabs_begun" = some (some (.ref f7)))
    (l7 : K.lookup f7 = some ⟨oc7, od7, .func (PySem.W.fnOf "_slabs_begun" "_slabs_begun" (defArgs s_slabs_begun) (defBody s_slabs_begun) (defScope s_slabs_begun) .none kV7 dc7 pm7 an7 cd7 ct7), sl7⟩)
    (c7 : PySem.W.codeIn K cd7 "_slabs_begun" = true)
    (k7 : PySem.W.keepIn K (.ref f7) = true)
    (a8 : PySem.W.nsIn K mainGlobals "read" = some (some (.ref f8)))
    (l8 : K.lookup f8 = some ⟨oc8, od8, .func (PySem.W.fnOf "read" "read" (defArgs sread) (defBody sread) (defScope sread) .none kV8 dc8 pm8 an8 cd8 ct8), sl8⟩)
    (c8 : PySem.W.codeIn K cd8 "read" = true)
    (k8 : PySem.W.keepIn K (.ref f8) = true)
    (a9 : PySem.W.nsIn K mainGlobals "_law_cell_at" = some (some (.ref f9)))
    (l9 : K.lookup f9 = some ⟨oc9, od9, .func (PySem.W.fnOf "_law_cell_at" "_law_cell_at" (defArgs s_law_cell_at) (defBody s_law_cell_at) (defScope s_law_cell_at) .none kV9 dc9 pm9 an9 cd9 ct9), sl9⟩)
    (c9 : PySem.W.codeIn K cd9 "_law_cell_at" = true)
    (k9 : PySem.W.keepIn K (.ref f9) = true)
    (a10 : PySem.W.nsIn K mainGlobals "_law_number" = some (some (.ref f10)))
    (l10 : K.lookup f10 = some ⟨oc10, od10, .func (PySem.W.fnOf "_law_number" "_law_number" (defArgs s_law_number) (defBody s_law_number) (defScope s_law_number) .none kV10 dc10 pm10 an10 cd10 ct10), sl10⟩)
    (c10 : PySem.W.codeIn K cd10 "_law_number" = true)
    (k10 : PySem.W.keepIn K (.ref f10) = true)
    (a11 : PySem.W.nsIn K mainGlobals "_law_rows" = some (some (.ref f11)))
    (l11 : K.lookup f11 = some ⟨oc11, od11, .func (PySem.W.fnOf "_law_rows" "_law_rows" (defArgs s_law_rows) (defBody s_law_rows) (defScope s_law_rows) .none kV11 dc11 pm11 an11 cd11 ct11), sl11⟩)
    (c11 : PySem.W.codeIn K cd11 "_law_rows" = true)
    (k11 : PySem.W.keepIn K (.ref f11) = true)
    (a12 : PySem.W.nsIn K mainGlobals "_law_may" = some (some (.ref f12)))
    (l12 : K.lookup f12 = some ⟨oc12, od12, .func (PySem.W.fnOf "_law_may" "_law_may" (defArgs s_law_may) (defBody s_law_may) (defScope s_law_may) .none kV12 dc12 pm12 an12 cd12 ct12), sl12⟩)
    (c12 : PySem.W.codeIn K cd12 "_law_may" = true)
    (k12 : PySem.W.keepIn K (.ref f12) = true)
    (a13 : PySem.W.nsIn K mainGlobals "_law_cells" = some (some (.ref f13)))
    (l13 : K.lookup f13 = some ⟨oc13, od13, .func (PySem.W.fnOf "_law_cells" "_law_cells" (defArgs s_law_cells) (defBody s_law_cells) (defScope s_law_cells) .none kV13 dc13 pm13 an13 cd13 ct13), sl13⟩)
    (c13 : PySem.W.codeIn K cd13 "_law_cells" = true)
    (k13 : PySem.W.keepIn K (.ref f13) = true)
    (a14 : PySem.W.nsIn K mainGlobals "_law_beside" = some (some (.ref f14)))
    (l14 : K.lookup f14 = some ⟨oc14, od14, .func (PySem.W.fnOf "_law_beside" "_law_beside" (defArgs s_law_beside) (defBody s_law_beside) (defScope s_law_beside) .none kV14 dc14 pm14 an14 cd14 ct14), sl14⟩)
    (c14 : PySem.W.codeIn K cd14 "_law_beside" = true)
    (k14 : PySem.W.keepIn K (.ref f14) = true)
    (a15 : PySem.W.nsIn K mainGlobals "_law_over" = some (some (.ref f15)))
    (l15 : K.lookup f15 = some ⟨oc15, od15, .func (PySem.W.fnOf "_law_over" "_law_over" (defArgs s_law_over) (defBody s_law_over) (defScope s_law_over) .none kV15 dc15 pm15 an15 cd15 ct15), sl15⟩)
    (c15 : PySem.W.codeIn K cd15 "_law_over" = true)
    (k15 : PySem.W.keepIn K (.ref f15) = true)
    (a16 : PySem.W.nsIn K mainGlobals "_law_made" = some (some (.ref f16)))
    (l16 : K.lookup f16 = some ⟨oc16, od16, .func (PySem.W.fnOf "_law_made" "_law_made" (defArgs s_law_made) (defBody s_law_made) (defScope s_law_made) .none kV16 dc16 pm16 an16 cd16 ct16), sl16⟩)
    (c16 : PySem.W.codeIn K cd16 "_law_made" = true)
    (k16 : PySem.W.keepIn K (.ref f16) = true)
    (a17 : PySem.W.nsIn K mainGlobals "_law_half" = some (some (.ref f17)))
    (l17 : K.lookup f17 = some ⟨oc17, od17, .func (PySem.W.fnOf "_law_half" "_law_half" (defArgs s_law_half) (defBody s_law_half) (defScope s_law_half) .none kV17 dc17 pm17 an17 cd17 ct17), sl17⟩)
    (c17 : PySem.W.codeIn K cd17 "_law_half" = true)
    (k17 : PySem.W.keepIn K (.ref f17) = true)
    (a18 : PySem.W.nsIn K mainGlobals "_law_drawn" = some (some (.ref f18)))
    (l18 : K.lookup f18 = some ⟨oc18, od18, .func (PySem.W.fnOf "_law_drawn" "_law_drawn" (defArgs s_law_drawn) (defBody s_law_drawn) (defScope s_law_drawn) .none kV18 dc18 pm18 an18 cd18 ct18), sl18⟩)
    (c18 : PySem.W.codeIn K cd18 "_law_drawn" = true)
    (k18 : PySem.W.keepIn K (.ref f18) = true)
    (a19 : PySem.W.nsIn K mainGlobals "_law_faulty" = some (some (.ref f19)))
    (l19 : K.lookup f19 = some ⟨oc19, od19, .func (PySem.W.fnOf "_law_faulty" "_law_faulty" (defArgs s_law_faulty) (defBody s_law_faulty) (defScope s_law_faulty) .none kV19 dc19 pm19 an19 cd19 ct19), sl19⟩)
    (c19 : PySem.W.codeIn K cd19 "_law_faulty" = true)
    (k19 : PySem.W.keepIn K (.ref f19) = true)
    (a20 : PySem.W.nsIn K mainGlobals "_law_due" = some (some (.ref f20)))
    (l20 : K.lookup f20 = some ⟨oc20, od20, .func (PySem.W.fnOf "_law_due" "_law_due" (defArgs s_law_due) (defBody s_law_due) (defScope s_law_due) .none kV20 dc20 pm20 an20 cd20 ct20), sl20⟩)
    (c20 : PySem.W.codeIn K cd20 "_law_due" = true)
    (k20 : PySem.W.keepIn K (.ref f20) = true)
    (a21 : PySem.W.nsIn K mainGlobals "_law_one_class" = some (some (.ref f21)))
    (l21 : K.lookup f21 = some ⟨oc21, od21, .func (PySem.W.fnOf "_law_one_class" "_law_one_class" (defArgs s_law_one_class) (defBody s_law_one_class) (defScope s_law_one_class) .none kV21 dc21 pm21 an21 cd21 ct21), sl21⟩)
    (c21 : PySem.W.codeIn K cd21 "_law_one_class" = true)
    (k21 : PySem.W.keepIn K (.ref f21) = true)
    (a22 : PySem.W.nsIn K mainGlobals "_law_covered" = some (some (.ref f22)))
    (l22 : K.lookup f22 = some ⟨oc22, od22, .func (PySem.W.fnOf "_law_covered" "_law_covered" (defArgs s_law_covered) (defBody s_law_covered) (defScope s_law_covered) .none kV22 dc22 pm22 an22 cd22 ct22), sl22⟩)
    (c22 : PySem.W.codeIn K cd22 "_law_covered" = true)
    (k22 : PySem.W.keepIn K (.ref f22) = true)
    (a23 : PySem.W.nsIn K mainGlobals "_law_put_again" = some (some (.ref f23)))
    (l23 : K.lookup f23 = some ⟨oc23, od23, .func (PySem.W.fnOf "_law_put_again" "_law_put_again" (defArgs s_law_put_again) (defBody s_law_put_again) (defScope s_law_put_again) .none kV23 dc23 pm23 an23 cd23 ct23), sl23⟩)
    (c23 : PySem.W.codeIn K cd23 "_law_put_again" = true)
    (k23 : PySem.W.keepIn K (.ref f23) = true)
    (a24 : PySem.W.nsIn K mainGlobals "_law_bare_taken" = some (some (.ref f24)))
    (l24 : K.lookup f24 = some ⟨oc24, od24, .func (PySem.W.fnOf "_law_bare_taken" "_law_bare_taken" (defArgs s_law_bare_taken) (defBody s_law_bare_taken) (defScope s_law_bare_taken) .none kV24 dc24 pm24 an24 cd24 ct24), sl24⟩)
    (c24 : PySem.W.codeIn K cd24 "_law_bare_taken" = true)
    (k24 : PySem.W.keepIn K (.ref f24) = true)
    (a25 : PySem.W.nsIn K mainGlobals "_law_told_well" = some (some (.ref f25)))
    (l25 : K.lookup f25 = some ⟨oc25, od25, .func (PySem.W.fnOf "_law_told_well" "_law_told_well" (defArgs s_law_told_well) (defBody s_law_told_well) (defScope s_law_told_well) .none kV25 dc25 pm25 an25 cd25 ct25), sl25⟩)
    (c25 : PySem.W.codeIn K cd25 "_law_told_well" = true)
    (k25 : PySem.W.keepIn K (.ref f25) = true)
    (a26 : PySem.W.nsIn K mainGlobals "_law_read" = some (some (.ref f26)))
    (l26 : K.lookup f26 = some ⟨oc26, od26, .func (PySem.W.fnOf "_law_read" "_law_read" (defArgs s_law_read) (defBody s_law_read) (defScope s_law_read) .none kV26 dc26 pm26 an26 cd26 ct26), sl26⟩)
    (c26 : PySem.W.codeIn K cd26 "_law_read" = true)
    (k26 : PySem.W.keepIn K (.ref f26) = true)
    (a27 : PySem.W.nsIn K mainGlobals "_law_less" = some (some (.ref f27)))
    (l27 : K.lookup f27 = some ⟨oc27, od27, .func (PySem.W.fnOf "_law_less" "_law_less" (defArgs s_law_less) (defBody s_law_less) (defScope s_law_less) .none kV27 dc27 pm27 an27 cd27 ct27), sl27⟩)
    (c27 : PySem.W.codeIn K cd27 "_law_less" = true)
    (k27 : PySem.W.keepIn K (.ref f27) = true)
    (a28 : PySem.W.nsIn K mainGlobals "law" = some (some (.ref f28)))
    (l28 : K.lookup f28 = some ⟨oc28, od28, .func (PySem.W.fnOf "law" "law" (defArgs slaw) (defBody slaw) (defScope slaw) .none kV28 dc28 pm28 an28 cd28 ct28), sl28⟩)
    (c28 : PySem.W.codeIn K cd28 "law" = true)
    (k28 : PySem.W.keepIn K (.ref f28) = true)
    (a100 : PySem.W.findIn K (.ref C_Floor) "__init__" = some (some (.ref f100)))
    (i100 : PySem.W.isFn K (.ref f100) = true)
    (l100 : K.lookup f100 = some ⟨oc100, od100, .func (PySem.W.fnOf "__init__" "Floor.__init__" (defArgs sFloor___init__) (defBody sFloor___init__) (defScope sFloor___init__) .none kV100 dc100 pm100 an100 cd100 ct100), sl100⟩)
    (c100 : PySem.W.codeIn K cd100 "Floor.__init__" = true)
    (k100 : PySem.W.keepIn K (.ref f100) = true)
    (a101 : PySem.W.findIn K (.ref C_Floor) "cells" = some (some (.ref f101)))
    (i101 : PySem.W.isFn K (.ref f101) = true)
    (l101 : K.lookup f101 = some ⟨oc101, od101, .func (PySem.W.fnOf "cells" "Floor.cells" (defArgs sFloor_cells) (defBody sFloor_cells) (defScope sFloor_cells) .none kV101 dc101 pm101 an101 cd101 ct101), sl101⟩)
    (c101 : PySem.W.codeIn K cd101 "Floor.cells" = true)
    (k101 : PySem.W.keepIn K (.ref f101) = true)
    (a102 : PySem.W.findIn K (.ref C_Floor) "has" = some (some (.ref f102)))
    (i102 : PySem.W.isFn K (.ref f102) = true)
    (l102 : K.lookup f102 = some ⟨oc102, od102, .func (PySem.W.fnOf "has" "Floor.has" (defArgs sFloor_has) (defBody sFloor_has) (defScope sFloor_has) .none kV102 dc102 pm102 an102 cd102 ct102), sl102⟩)
    (c102 : PySem.W.codeIn K cd102 "Floor.has" = true)
    (k102 : PySem.W.keepIn K (.ref f102) = true)
    (a103 : PySem.W.findIn K (.ref C_Floor) "row_and_column" = some (some (.ref f103)))
    (i103 : PySem.W.isFn K (.ref f103) = true)
    (l103 : K.lookup f103 = some ⟨oc103, od103, .func (PySem.W.fnOf "row_and_column" "Floor.row_and_column" (defArgs sFloor_row_and_column) (defBody sFloor_row_and_column) (defScope sFloor_row_and_column) .none kV103 dc103 pm103 an103 cd103 ct103), sl103⟩)
    (c103 : PySem.W.codeIn K cd103 "Floor.row_and_column" = true)
    (k103 : PySem.W.keepIn K (.ref f103) = true)
    (a104 : PySem.W.findIn K (.ref C_Floor) "sign" = some (some (.ref f104)))
    (i104 : PySem.W.isFn K (.ref f104) = true)
    (l104 : K.lookup f104 = some ⟨oc104, od104, .func (PySem.W.fnOf "sign" "Floor.sign" (defArgs sFloor_sign) (defBody sFloor_sign) (defScope sFloor_sign) .none kV104 dc104 pm104 an104 cd104 ct104), sl104⟩)
    (c104 : PySem.W.codeIn K cd104 "Floor.sign" = true)
    (k104 : PySem.W.keepIn K (.ref f104) = true)
    (a105 : PySem.W.findIn K (.ref C_Floor) "may" = some (some (.ref f105)))
    (i105 : PySem.W.isFn K (.ref f105) = true)
    (l105 : K.lookup f105 = some ⟨oc105, od105, .func (PySem.W.fnOf "may" "Floor.may" (defArgs sFloor_may) (defBody sFloor_may) (defScope sFloor_may) .none kV105 dc105 pm105 an105 cd105 ct105), sl105⟩)
    (c105 : PySem.W.codeIn K cd105 "Floor.may" = true)
    (k105 : PySem.W.keepIn K (.ref f105) = true)
    (a106 : PySem.W.findIn K (.ref C_Floor) "beside" = some (some (.ref f106)))
    (i106 : PySem.W.isFn K (.ref f106) = true)
    (l106 : K.lookup f106 = some ⟨oc106, od106, .func (PySem.W.fnOf "beside" "Floor.beside" (defArgs sFloor_beside) (defBody sFloor_beside) (defScope sFloor_beside) .none kV106 dc106 pm106 an106 cd106 ct106), sl106⟩)
    (c106 : PySem.W.codeIn K cd106 "Floor.beside" = true)
    (k106 : PySem.W.keepIn K (.ref f106) = true)
    (a107 : PySem.W.findIn K (.ref C_Laying) "__init__" = some (some (.ref f107)))
    (i107 : PySem.W.isFn K (.ref f107) = true)
    (l107 : K.lookup f107 = some ⟨oc107, od107, .func (PySem.W.fnOf "__init__" "Laying.__init__" (defArgs sLaying___init__) (defBody sLaying___init__) (defScope sLaying___init__) .none kV107 dc107 pm107 an107 cd107 ct107), sl107⟩)
    (c107 : PySem.W.codeIn K cd107 "Laying.__init__" = true)
    (k107 : PySem.W.keepIn K (.ref f107) = true)
    (a108 : PySem.W.findIn K (.ref C_Laying) "put" = some (some (.ref f108)))
    (i108 : PySem.W.isFn K (.ref f108) = true)
    (l108 : K.lookup f108 = some ⟨oc108, od108, .func (PySem.W.fnOf "put" "Laying.put" (defArgs sLaying_put) (defBody sLaying_put) (defScope sLaying_put) .none kV108 dc108 pm108 an108 cd108 ct108), sl108⟩)
    (c108 : PySem.W.codeIn K cd108 "Laying.put" = true)
    (k108 : PySem.W.keepIn K (.ref f108) = true)
    (a109 : PySem.W.findIn K (.ref C_Laying) "lift" = some (some (.ref f109)))
    (i109 : PySem.W.isFn K (.ref f109) = true)
    (l109 : K.lookup f109 = some ⟨oc109, od109, .func (PySem.W.fnOf "lift" "Laying.lift" (defArgs sLaying_lift) (defBody sLaying_lift) (defScope sLaying_lift) .none kV109 dc109 pm109 an109 cd109 ct109), sl109⟩)
    (c109 : PySem.W.codeIn K cd109 "Laying.lift" = true)
    (k109 : PySem.W.keepIn K (.ref f109) = true)
    (a110 : PySem.W.findIn K (.ref C_Laying) "bare" = some (some (.ref f110)))
    (i110 : PySem.W.isFn K (.ref f110) = true)
    (l110 : K.lookup f110 = some ⟨oc110, od110, .func (PySem.W.fnOf "bare" "Laying.bare" (defArgs sLaying_bare) (defBody sLaying_bare) (defScope sLaying_bare) .none kV110 dc110 pm110 an110 cd110 ct110), sl110⟩)
    (c110 : PySem.W.codeIn K cd110 "Laying.bare" = true)
    (k110 : PySem.W.keepIn K (.ref f110) = true)
    (a111 : PySem.W.findIn K (.ref C_Laying) "slabs" = some (some (.ref f111)))
    (i111 : PySem.W.isFn K (.ref f111) = true)
    (l111 : K.lookup f111 = some ⟨oc111, od111, .func (PySem.W.fnOf "slabs" "Laying.slabs" (defArgs sLaying_slabs) (defBody sLaying_slabs) (defScope sLaying_slabs) .none kV111 dc111 pm111 an111 cd111 ct111), sl111⟩)
    (c111 : PySem.W.codeIn K cd111 "Laying.slabs" = true)
    (k111 : PySem.W.keepIn K (.ref f111) = true)
    (a112 : PySem.W.findIn K (.ref C_Laying) "copied" = some (some (.ref f112)))
    (i112 : PySem.W.isFn K (.ref f112) = true)
    (l112 : K.lookup f112 = some ⟨oc112, od112, .func (PySem.W.fnOf "copied" "Laying.copied" (defArgs sLaying_copied) (defBody sLaying_copied) (defScope sLaying_copied) .none kV112 dc112 pm112 an112 cd112 ct112), sl112⟩)
    (c112 : PySem.W.codeIn K cd112 "Laying.copied" = true)
    (k112 : PySem.W.keepIn K (.ref f112) = true)
    (pg_Floor : PySem.W.plainGet K C_Floor Str.empty = true)
    (hd_Floor : PySem.W.hasDictIn K C_Floor = true)
    (po_Floor : PySem.W.plainOver K C_Floor = true)
    (sa_Floor : PySem.W.findIn K (.ref C_Floor) "__setattr__" = some (some (.builtin "object.__setattr__")))
    (mk_Floor : PySem.W.makesIn K C_Floor = true)
    (kc_Floor : PySem.W.keepIn K (.ref C_Floor) = true)
    (pg_Laying : PySem.W.plainGet K C_Laying Str.empty = true)
    (hd_Laying : PySem.W.hasDictIn K C_Laying = true)
    (po_Laying : PySem.W.plainOver K C_Laying = true)
    (sa_Laying : PySem.W.findIn K (.ref C_Laying) "__setattr__" = some (some (.builtin "object.__setattr__")))
    (mk_Laying : PySem.W.makesIn K C_Laying = true)
    (kc_Laying : PySem.W.keepIn K (.ref C_Laying) = true)
    (n_Floor_rows : PySem.W.findIn K (.ref C_Floor) "rows" = some none)
    (n_Floor_high : PySem.W.findIn K (.ref C_Floor) "high" = some none)
    (n_Floor_wide : PySem.W.findIn K (.ref C_Floor) "wide" = some none)
    (n_Floor_neighbours : PySem.W.findIn K (.ref C_Floor) "_neighbours" = some none)
    (n_Floor_signs : PySem.W.findIn K (.ref C_Floor) "_signs" = some none)
    (n_Laying_floor : PySem.W.findIn K (.ref C_Laying) "floor" = some none)
    (n_Laying_over : PySem.W.findIn K (.ref C_Laying) "over" = some none)
    (z_len : PySem.W.nsIn K mainGlobals "len" = some none)
    (z_any : PySem.W.nsIn K mainGlobals "any" = some none)
    (z_range : PySem.W.nsIn K mainGlobals "range" = some none)
    (z_list : PySem.W.nsIn K mainGlobals "list" = some none)
    (z_tuple : PySem.W.nsIn K mainGlobals "tuple" = some none)
    (z_dict : PySem.W.nsIn K mainGlobals "dict" = some none)
    (z_set : PySem.W.nsIn K mainGlobals "set" = some none)
    (z_abs : PySem.W.nsIn K mainGlobals "abs" = some none)
    (z_isinstance : PySem.W.nsIn K mainGlobals "isinstance" = some none)
    (z_int : PySem.W.nsIn K mainGlobals "int" = some none)
    (z_bool : PySem.W.nsIn K mainGlobals "bool" = some none)
    (z_min : PySem.W.nsIn K mainGlobals "min" = some none)
    (z_max : PySem.W.nsIn K mainGlobals "max" = some none)
    (z_divmod : PySem.W.nsIn K mainGlobals "divmod" = some none)
    (z_sorted : PySem.W.nsIn K mainGlobals "sorted" = some none)
    (z_reversed : PySem.W.nsIn K mainGlobals "reversed" = some none)
    (z_ValueError : PySem.W.nsIn K mainGlobals "ValueError" = some none)
    (q_MOST : PySem.W.nsIn K mainGlobals "MOST" = some (some (.int 12 u_MOST)))
    (q_PILLAR : PySem.W.nsIn K mainGlobals "PILLAR" = some (some (.str "#" u_PILLAR)))
    (q_SIGNS : PySem.W.nsIn K mainGlobals "SIGNS" = some (some (.str ".-|#" u_SIGNS)))
    (q_BARE : PySem.W.nsIn K mainGlobals "BARE" = some (some (.str "o" u_BARE)))
    (q_LEFT : PySem.W.nsIn K mainGlobals "LEFT" = some (some (.str "<" u_LEFT)))
    (q_RIGHT : PySem.W.nsIn K mainGlobals "RIGHT" = some (some (.str ">" u_RIGHT)))
    (q_UPPER : PySem.W.nsIn K mainGlobals "UPPER" = some (some (.str "^" u_UPPER)))
    (q_LOWER : PySem.W.nsIn K mainGlobals "LOWER" = some (some (.str "v" u_LOWER)))
    (q_STEPS : PySem.W.nsIn K mainGlobals "STEPS" = some (some (.ref t0)))
    (lt0 : K.lookup t0 = some ⟨.type "tuple", ot0, .seq #[.ref t1, .ref t2, .ref t3, .ref t4] nt0, st0⟩)
    (lt1 : K.lookup t1 = some ⟨.type "tuple", ot1, .seq #[.int (-1) ua1, .int (0) ub1, .str ".|" uc1] nt1, st1⟩)
    (lt2 : K.lookup t2 = some ⟨.type "tuple", ot2, .seq #[.int (0) ua2, .int (-1) ub2, .str ".-" uc2] nt2, st2⟩)
    (lt3 : K.lookup t3 = some ⟨.type "tuple", ot3, .seq #[.int (0) ua3, .int (1) ub3, .str ".-" uc3] nt3, st3⟩)
    (lt4 : K.lookup t4 = some ⟨.type "tuple", ot4, .seq #[.int (1) ua4, .int (0) ub4, .str ".|" uc4] nt4, st4⟩)
    (lcr : K.lookup c_refuse = some ⟨ecr, dcr, .fields vcr, scr⟩)
    (v11 : vcr[11]? = some (.ref Pt))
    (nPt : K.lookup Pt = none)
    (hdc : PySem.W.codeHdIn K c_refuse Pt = true)
    (ax_L : PySem.W.nsIn K mainGlobals "TooLarge" = some (some (.ref x_L)))
    (ax_R : PySem.W.nsIn K mainGlobals "Ragged" = some (some (.ref x_R)))
    (ax_S : PySem.W.nsIn K mainGlobals "StrangeSign" = some (some (.ref x_S)))
    (ax_N : PySem.W.nsIn K mainGlobals "NoCell" = some (some (.ref x_N)))
    (ax_B : PySem.W.nsIn K mainGlobals "NotBeside" = some (some (.ref x_B)))
    (ax_C : PySem.W.nsIn K mainGlobals "Covered" = some (some (.ref x_C)))
    (ax_U : PySem.W.nsIn K mainGlobals "Uncovered" = some (some (.ref x_U)))
    (ax_D : PySem.W.nsIn K mainGlobals "NoDrawing" = some (some (.ref x_D)))
    (ax_F : PySem.W.nsIn K mainGlobals "FloorError" = some (some (.ref x_F)))
    (xi_N : PySem.W.excIn K x_N [.type "ValueError", .type "Exception", .type "BaseException", .type "object"] "ValueError.__new__" = true)
    (xk_N : PySem.W.keepIn K (.ref x_N) = true)
    (xs_N : PySem.W.subIn K (.ref x_N) (.type "BaseException") = some true)
    (xt_N : PySem.W.typeIn K (.ref x_N) = some (.type "type"))
    (xq_N : PySem.W.subIn K (.ref x_N) (.ref x_N) = some true)
    (xh_N : PySem.W.hasDictIn K x_N = true)
    (xg_N : PySem.W.findIn K (.ref x_N) "__getattribute__" = some (some (.builtin "BaseException.__getattribute__")))
    (xa_N : PySem.W.findIn K (.ref x_N) "__getattr__" = some none)
    (xc_N : PySem.W.findIn K (.ref x_N) "__class__" = some (some (.builtin "object.__class__")))
    (xm_N : PySem.W.mroIn K x_N (.type "object") = some true)
    (k_N_L : PySem.W.kitOne K (.ref x_N) (.ref x_L) = some false)
    (k_N_R : PySem.W.kitOne K (.ref x_N) (.ref x_R) = some false)
    (k_N_S : PySem.W.kitOne K (.ref x_N) (.ref x_S) = some false)
    (k_N_N : PySem.W.kitOne K (.ref x_N) (.ref x_N) = some true)
    (k_N_B : PySem.W.kitOne K (.ref x_N) (.ref x_B) = some false)
    (k_N_C : PySem.W.kitOne K (.ref x_N) (.ref x_C) = some false)
    (k_N_U : PySem.W.kitOne K (.ref x_N) (.ref x_U) = some false)
    (k_N_D : PySem.W.kitOne K (.ref x_N) (.ref x_D) = some false)
    (k_N_F : PySem.W.kitOne K (.ref x_N) (.ref x_F) = some true)
    (k_N_V : PySem.W.subIn K (.ref x_N) (.type "ValueError") = some true)
    (xi_B : PySem.W.excIn K x_B [.type "ValueError", .type "Exception", .type "BaseException", .type "object"] "ValueError.__new__" = true)
    (xk_B : PySem.W.keepIn K (.ref x_B) = true)
    (xs_B : PySem.W.subIn K (.ref x_B) (.type "BaseException") = some true)
    (xt_B : PySem.W.typeIn K (.ref x_B) = some (.type "type"))
    (xq_B : PySem.W.subIn K (.ref x_B) (.ref x_B) = some true)
    (xh_B : PySem.W.hasDictIn K x_B = true)
    (xg_B : PySem.W.findIn K (.ref x_B) "__getattribute__" = some (some (.builtin "BaseException.__getattribute__")))
    (xa_B : PySem.W.findIn K (.ref x_B) "__getattr__" = some none)
    (xc_B : PySem.W.findIn K (.ref x_B) "__class__" = some (some (.builtin "object.__class__")))
    (xm_B : PySem.W.mroIn K x_B (.type "object") = some true)
    (k_B_L : PySem.W.kitOne K (.ref x_B) (.ref x_L) = some false)
    (k_B_R : PySem.W.kitOne K (.ref x_B) (.ref x_R) = some false)
    (k_B_S : PySem.W.kitOne K (.ref x_B) (.ref x_S) = some false)
    (k_B_N : PySem.W.kitOne K (.ref x_B) (.ref x_N) = some false)
    (k_B_B : PySem.W.kitOne K (.ref x_B) (.ref x_B) = some true)
    (k_B_C : PySem.W.kitOne K (.ref x_B) (.ref x_C) = some false)
    (k_B_U : PySem.W.kitOne K (.ref x_B) (.ref x_U) = some false)
    (k_B_D : PySem.W.kitOne K (.ref x_B) (.ref x_D) = some false)
    (k_B_F : PySem.W.kitOne K (.ref x_B) (.ref x_F) = some true)
    (k_B_V : PySem.W.subIn K (.ref x_B) (.type "ValueError") = some true)
    (xi_C : PySem.W.excIn K x_C [.type "ValueError", .type "Exception", .type "BaseException", .type "object"] "ValueError.__new__" = true)
    (xk_C : PySem.W.keepIn K (.ref x_C) = true)
    (xs_C : PySem.W.subIn K (.ref x_C) (.type "BaseException") = some true)
    (xt_C : PySem.W.typeIn K (.ref x_C) = some (.type "type"))
    (xq_C : PySem.W.subIn K (.ref x_C) (.ref x_C) = some true)
    (xh_C : PySem.W.hasDictIn K x_C = true)
    (xg_C : PySem.W.findIn K (.ref x_C) "__getattribute__" = some (some (.builtin "BaseException.__getattribute__")))
    (xa_C : PySem.W.findIn K (.ref x_C) "__getattr__" = some none)
    (xc_C : PySem.W.findIn K (.ref x_C) "__class__" = some (some (.builtin "object.__class__")))
    (xm_C : PySem.W.mroIn K x_C (.type "object") = some true)
    (k_C_L : PySem.W.kitOne K (.ref x_C) (.ref x_L) = some false)
    (k_C_R : PySem.W.kitOne K (.ref x_C) (.ref x_R) = some false)
    (k_C_S : PySem.W.kitOne K (.ref x_C) (.ref x_S) = some false)
    (k_C_N : PySem.W.kitOne K (.ref x_C) (.ref x_N) = some false)
    (k_C_B : PySem.W.kitOne K (.ref x_C) (.ref x_B) = some false)
    (k_C_C : PySem.W.kitOne K (.ref x_C) (.ref x_C) = some true)
    (k_C_U : PySem.W.kitOne K (.ref x_C) (.ref x_U) = some false)
    (k_C_D : PySem.W.kitOne K (.ref x_C) (.ref x_D) = some false)
    (k_C_F : PySem.W.kitOne K (.ref x_C) (.ref x_F) = some true)
    (k_C_V : PySem.W.subIn K (.ref x_C) (.type "ValueError") = some true)
    (xi_U : PySem.W.excIn K x_U [.type "ValueError", .type "Exception", .type "BaseException", .type "object"] "ValueError.__new__" = true)
    (xk_U : PySem.W.keepIn K (.ref x_U) = true)
    (xs_U : PySem.W.subIn K (.ref x_U) (.type "BaseException") = some true)
    (xt_U : PySem.W.typeIn K (.ref x_U) = some (.type "type"))
    (xq_U : PySem.W.subIn K (.ref x_U) (.ref x_U) = some true)
    (xh_U : PySem.W.hasDictIn K x_U = true)
    (xg_U : PySem.W.findIn K (.ref x_U) "__getattribute__" = some (some (.builtin "BaseException.__getattribute__")))
    (xa_U : PySem.W.findIn K (.ref x_U) "__getattr__" = some none)
    (xc_U : PySem.W.findIn K (.ref x_U) "__class__" = some (some (.builtin "object.__class__")))
    (xm_U : PySem.W.mroIn K x_U (.type "object") = some true)
    (k_U_L : PySem.W.kitOne K (.ref x_U) (.ref x_L) = some false)
    (k_U_R : PySem.W.kitOne K (.ref x_U) (.ref x_R) = some false)
    (k_U_S : PySem.W.kitOne K (.ref x_U) (.ref x_S) = some false)
    (k_U_N : PySem.W.kitOne K (.ref x_U) (.ref x_N) = some false)
    (k_U_B : PySem.W.kitOne K (.ref x_U) (.ref x_B) = some false)
    (k_U_C : PySem.W.kitOne K (.ref x_U) (.ref x_C) = some false)
    (k_U_U : PySem.W.kitOne K (.ref x_U) (.ref x_U) = some true)
    (k_U_D : PySem.W.kitOne K (.ref x_U) (.ref x_D) = some false)
    (k_U_F : PySem.W.kitOne K (.ref x_U) (.ref x_F) = some true)
    (k_U_V : PySem.W.subIn K (.ref x_U) (.type "ValueError") = some true)
    (xi_D : PySem.W.excIn K x_D [.type "ValueError", .type "Exception", .type "BaseException", .type "object"] "ValueError.__new__" = true)
    (xk_D : PySem.W.keepIn K (.ref x_D) = true)
    (xs_D : PySem.W.subIn K (.ref x_D) (.type "BaseException") = some true)
    (xt_D : PySem.W.typeIn K (.ref x_D) = some (.type "type"))
    (xq_D : PySem.W.subIn K (.ref x_D) (.ref x_D) = some true)
    (xh_D : PySem.W.hasDictIn K x_D = true)
    (xg_D : PySem.W.findIn K (.ref x_D) "__getattribute__" = some (some (.builtin "BaseException.__getattribute__")))
    (xa_D : PySem.W.findIn K (.ref x_D) "__getattr__" = some none)
    (xc_D : PySem.W.findIn K (.ref x_D) "__class__" = some (some (.builtin "object.__class__")))
    (xm_D : PySem.W.mroIn K x_D (.type "object") = some true)
    (k_D_L : PySem.W.kitOne K (.ref x_D) (.ref x_L) = some false)
    (k_D_R : PySem.W.kitOne K (.ref x_D) (.ref x_R) = some false)
    (k_D_S : PySem.W.kitOne K (.ref x_D) (.ref x_S) = some false)
    (k_D_N : PySem.W.kitOne K (.ref x_D) (.ref x_N) = some false)
    (k_D_B : PySem.W.kitOne K (.ref x_D) (.ref x_B) = some false)
    (k_D_C : PySem.W.kitOne K (.ref x_D) (.ref x_C) = some false)
    (k_D_U : PySem.W.kitOne K (.ref x_D) (.ref x_U) = some false)
    (k_D_D : PySem.W.kitOne K (.ref x_D) (.ref x_D) = some true)
    (k_D_F : PySem.W.kitOne K (.ref x_D) (.ref x_F) = some true)
    (k_D_V : PySem.W.subIn K (.ref x_D) (.type "ValueError") = some true)
    (xn : PySem.W.specialIn K (.builtin "object.__class__") "__get__" = some (some (.builtin "getset_descriptor.__get__")))
    (xo : PySem.W.takesIn K (.builtin "object.__class__") = some true)
    (sf1 : K.lookup C_Floor = some (excClassObj f_nm f_q C_Floor f_N f_bs [.type "object"] f_hd f_sn f_sub f_ab f_col f_dd f_m0 f_m1 f_m2 f_m3 f_m5 f_nw))
    (sf2 : PySem.W.nsOkIn K f_N = true)
    (sf3 : PySem.W.nsIn K f_N "__eq__" = some none)
    (sf4 : PySem.W.nsIn K f_N "__ne__" = some none)
    (ic_f : PySem.W.findIn K (.ref C_Floor) "__class__" = some (some (.builtin "object.__class__")))
    (im_f : PySem.W.mroIn K C_Floor (.type "object") = some true)
    (ik_f : PySem.W.kitOne K (.ref C_Floor) (.ref C_Floor) = some true)
    (sl1 : K.lookup C_Laying = some (excClassObj l_nm l_q C_Laying l_N l_bs [.type "object"] l_hd l_sn l_sub l_ab l_col l_dd l_m0 l_m1 l_m2 l_m3 l_m5 l_nw))
    (sl2 : PySem.W.nsOkIn K l_N = true)
    (sl3 : PySem.W.nsIn K l_N "__eq__" = some none)
    (sl4 : PySem.W.nsIn K l_N "__ne__" = some none)
    (ic_l : PySem.W.findIn K (.ref C_Laying) "__class__" = some (some (.builtin "object.__class__")))
    (im_l : PySem.W.mroIn K C_Laying (.type "object") = some true)
    (ik_l : PySem.W.kitOne K (.ref C_Laying) (.ref C_Laying) = some true)
    (u_NF : PySem.W.subIn K (.ref x_N) (.ref x_F) = some true)
    (u_DF : PySem.W.subIn K (.ref x_D) (.ref x_F) = some true)
    (xs_F : PySem.W.subIn K (.ref x_F) (.type "BaseException") = some true)
    (xt_F : PySem.W.typeIn K (.ref x_F) = some (.type "type"))
    (xh_F : PySem.W.hasDictIn K x_F = true) :
    LamX.LawAtS l w K CX0 8 63 "_law_script" mg fa h := by
  have e := hfa.symm.trans (PySem.W.mg_of X G a28)
  cases e
  have F0 : FunC K "_refuse_wrong" "_refuse_wrong" s_refuse_wrong f0 _ c_refuse := ⟨⟨_, _, _, _, _, _, _, _, rfl, l0, c0⟩, k0⟩
  have b0 := (fun_mk (st := s_refuse_wrong) l0 c0 k0).binds (ps := ["rows"]) fun _ _ _ _ _ _ us hl => match us, hl with | [_], _ => rfl
  have g0 : mg "_refuse_wrong" = some (.ref f0) := PySem.W.mg_of X G a0
  have F1 := fun_mk (st := s_sign_at) l1 c1 k1
  have b1 := F1.binds (ps := ["rows", "row", "column"]) fun _ _ _ _ _ _ us hl => match us, hl with | [_, _, _], _ => rfl
  have g1 : mg "_sign_at" = some (.ref f1) := PySem.W.mg_of X G a1
  have F2 := fun_mk (st := s_neighbours) l2 c2 k2
  have b2 := F2.binds (ps := ["rows", "row", "column"]) fun _ _ _ _ _ _ us hl => match us, hl with | [_, _, _], _ => rfl
  have g2 : mg "_neighbours" = some (.ref f2) := PySem.W.mg_of X G a2
  have F3 := fun_mk (st := s_neighbours_of_cells) l3 c3 k3
  have b3 := F3.binds (ps := ["rows", "wide"]) fun _ _ _ _ _ _ us hl => match us, hl with | [_, _], _ => rfl
  have g3 : mg "_neighbours_of_cells" = some (.ref f3) := PySem.W.mg_of X G a3
  have F4 := fun_mk (st := srefuse_no_cell) l4 c4 k4
  have b4 := F4.binds (ps := ["floor", "number"]) fun _ _ _ _ _ _ us hl => match us, hl with | [_, _], _ => rfl
  have g4 : mg "refuse_no_cell" = some (.ref f4) := PySem.W.mg_of X G a4
  have F5 := fun_mk (st := s_sign_drawn) l5 c5 k5
  have b5 := F5.binds (ps := ["laying", "place"]) fun _ _ _ _ _ _ us hl => match us, hl with | [_, _], _ => rfl
  have g5 : mg "_sign_drawn" = some (.ref f5) := PySem.W.mg_of X G a5
  have F6 := fun_mk (st := sdrawn) l6 c6 k6
  have b6 := F6.binds (ps := ["laying"]) fun _ _ _ _ _ _ us hl => match us, hl with | [_], _ => rfl
  have g6 : mg "drawn" = some (.ref f6) := PySem.W.mg_of X G a6
  have F7 := fun_mk (st := s_slabs_begun) l7 c7 k7
  have b7 := F7.binds (ps := ["floor", "rows"]) fun _ _ _ _ _ _ us hl => match us, hl with | [_, _], _ => rfl
  have g7 : mg "_slabs_begun" = some (.ref f7) := PySem.W.mg_of X G a7
  have F8 := fun_mk (st := sread) l8 c8 k8
  have b8 := F8.binds (ps := ["floor", "rows"]) fun _ _ _ _ _ _ us hl => match us, hl with | [_, _], _ => rfl
  have g8 : mg "read" = some (.ref f8) := PySem.W.mg_of X G a8
  have F9 := fun_mk (st := s_law_cell_at) l9 c9 k9
  have b9 := F9.binds (ps := ["_law_script", "_law_k"]) fun _ _ _ _ _ _ us hl => match us, hl with | [_, _], _ => rfl
  have g9 : mg "_law_cell_at" = some (.ref f9) := PySem.W.mg_of X G a9
  have F10 := fun_mk (st := s_law_number) l10 c10 k10
  have b10 := F10.binds (ps := ["_law_script", "_law_k"]) fun _ _ _ _ _ _ us hl => match us, hl with | [_, _], _ => rfl
  have g10 : mg "_law_number" = some (.ref f10) := PySem.W.mg_of X G a10
  have F11 := fun_mk (st := s_law_rows) l11 c11 k11
  have b11 := F11.binds (ps := ["_law_script"]) fun _ _ _ _ _ _ us hl => match us, hl with | [_], _ => rfl
  have g11 : mg "_law_rows" = some (.ref f11) := PySem.W.mg_of X G a11
  have F12 := fun_mk (st := s_law_may) l12 c12 k12
  have b12 := F12.binds (ps := ["_law_rows_here", "_law_one", "_law_other"]) fun _ _ _ _ _ _ us hl => match us, hl with | [_, _, _], _ => rfl
  have g12 : mg "_law_may" = some (.ref f12) := PySem.W.mg_of X G a12
  have F13 := fun_mk (st := s_law_cells) l13 c13 k13
  have b13 := F13.binds (ps := ["_law_rows_here"]) fun _ _ _ _ _ _ us hl => match us, hl with | [_], _ => rfl
  have g13 : mg "_law_cells" = some (.ref f13) := PySem.W.mg_of X G a13
  have F14 := fun_mk (st := s_law_beside) l14 c14 k14
  have b14 := F14.binds (ps := ["_law_rows_here", "_law_place"]) fun _ _ _ _ _ _ us hl => match us, hl with | [_, _], _ => rfl
  have g14 : mg "_law_beside" = some (.ref f14) := PySem.W.mg_of X G a14
  have F15 := fun_mk (st := s_law_over) l15 c15 k15
  have b15 := F15.binds (ps := ["_law_rows_here", "_law_script", "_law_many"]) fun _ _ _ _ _ _ us hl => match us, hl with | [_, _, _], _ => rfl
  have g15 : mg "_law_over" = some (.ref f15) := PySem.W.mg_of X G a15
  have F16 := fun_mk (st := s_law_made) l16 c16 k16
  have b16 := F16.binds (ps := ["_law_floor", "_law_over_here"]) fun _ _ _ _ _ _ us hl => match us, hl with | [_, _], _ => rfl
  have g16 : mg "_law_made" = some (.ref f16) := PySem.W.mg_of X G a16
  have F17 := fun_mk (st := s_law_half) l17 c17 k17
  have b17 := F17.binds (ps := ["_law_rows_here", "_law_over_here", "_law_place"]) fun _ _ _ _ _ _ us hl => match us, hl with | [_, _, _], _ => rfl
  have g17 : mg "_law_half" = some (.ref f17) := PySem.W.mg_of X G a17
  have F18 := fun_mk (st := s_law_drawn) l18 c18 k18
  have b18 := F18.binds (ps := ["_law_rows_here", "_law_over_here"]) fun _ _ _ _ _ _ us hl => match us, hl with | [_, _], _ => rfl
  have g18 : mg "_law_drawn" = some (.ref f18) := PySem.W.mg_of X G a18
  have F19 := fun_mk (st := s_law_faulty) l19 c19 k19
  have b19 := F19.binds (ps := ["_law_told", "_law_kind", "_law_number_here"]) fun _ _ _ _ _ _ us hl => match us, hl with | [_, _, _], _ => rfl
  have g19 : mg "_law_faulty" = some (.ref f19) := PySem.W.mg_of X G a19
  have F20 := fun_mk (st := s_law_due) l20 c20 k20
  have b20 := F20.binds (ps := ["_law_rows_here", "_law_told"]) fun _ _ _ _ _ _ us hl => match us, hl with | [_, _], _ => rfl
  have g20 : mg "_law_due" = some (.ref f20) := PySem.W.mg_of X G a20
  have F21 := fun_mk (st := s_law_one_class) l21 c21 k21
  have b21 := F21.binds (ps := ["_law_e"]) fun _ _ _ _ _ _ us hl => match us, hl with | [_], _ => rfl
  have g21 : mg "_law_one_class" = some (.ref f21) := PySem.W.mg_of X G a21
  have F22 := fun_mk (st := s_law_covered) l22 c22 k22
  have b22 := F22.binds (ps := ["_law_laying", "_law_slab"]) fun _ _ _ _ _ _ us hl => match us, hl with | [_, _], _ => rfl
  have g22 : mg "_law_covered" = some (.ref f22) := PySem.W.mg_of X G a22
  have F23 := fun_mk (st := s_law_put_again) l23 c23 k23
  have b23 := F23.binds (ps := ["_law_laying", "_law_slab"]) fun _ _ _ _ _ _ us hl => match us, hl with | [_, _], _ => rfl
  have g23 : mg "_law_put_again" = some (.ref f23) := PySem.W.mg_of X G a23
  have F24 := fun_mk (st := s_law_bare_taken) l24 c24 k24
  have b24 := F24.binds (ps := ["_law_rows_here", "_law_laying", "_law_cell"]) fun _ _ _ _ _ _ us hl => match us, hl with | [_, _, _], _ => rfl
  have g24 : mg "_law_bare_taken" = some (.ref f24) := PySem.W.mg_of X G a24
  have F25 := fun_mk (st := s_law_told_well) l25 c25 k25
  have b25 := F25.binds (ps := ["_law_rows_here", "_law_laying"]) fun _ _ _ _ _ _ us hl => match us, hl with | [_, _], _ => rfl
  have g25 : mg "_law_told_well" = some (.ref f25) := PySem.W.mg_of X G a25
  have F26 := fun_mk (st := s_law_read) l26 c26 k26
  have b26 := F26.binds (ps := ["_law_floor", "_law_told"]) fun _ _ _ _ _ _ us hl => match us, hl with | [_, _], _ => rfl
  have g26 : mg "_law_read" = some (.ref f26) := PySem.W.mg_of X G a26
  have F27 := fun_mk (st := s_law_less) l27 c27 k27
  have b27 := F27.binds (ps := ["_law_laying", "_law_over_here"]) fun _ _ _ _ _ _ us hl => match us, hl with | [_, _], _ => rfl
  have g27 : mg "_law_less" = some (.ref f27) := PySem.W.mg_of X G a27
  have F28 := fun_mk (st := slaw) l28 c28 k28
  have F100 := fun_mk (st := sFloor___init__) l100 c100 k100
  have b100 := F100.binds (ps := ["self", "rows"]) fun _ _ _ _ _ _ us hl => match us, hl with | [_, _], _ => rfl
  have M100 : Meth K C_Floor "__init__" f100 := ⟨a100, i100, k100⟩
  have F101 := fun_mk (st := sFloor_cells) l101 c101 k101
  have b101 := F101.binds (ps := ["self"]) fun _ _ _ _ _ _ us hl => match us, hl with | [_], _ => rfl
  have M101 : Meth K C_Floor "cells" f101 := ⟨a101, i101, k101⟩
  have F102 := fun_mk (st := sFloor_has) l102 c102 k102
  have b102 := F102.binds (ps := ["self", "place"]) fun _ _ _ _ _ _ us hl => match us, hl with | [_, _], _ => rfl
  have M102 : Meth K C_Floor "has" f102 := ⟨a102, i102, k102⟩
  have F103 := fun_mk (st := sFloor_row_and_column) l103 c103 k103
  have b103 := F103.binds (ps := ["self", "place"]) fun _ _ _ _ _ _ us hl => match us, hl with | [_, _], _ => rfl
  have M103 : Meth K C_Floor "row_and_column" f103 := ⟨a103, i103, k103⟩
  have F104 := fun_mk (st := sFloor_sign) l104 c104 k104
  have b104 := F104.binds (ps := ["self", "row", "column"]) fun _ _ _ _ _ _ us hl => match us, hl with | [_, _, _], _ => rfl
  have M104 : Meth K C_Floor "sign" f104 := ⟨a104, i104, k104⟩
  have F105 := fun_mk (st := sFloor_may) l105 c105 k105
  have b105 := F105.binds (ps := ["self", "one", "other"]) fun _ _ _ _ _ _ us hl => match us, hl with | [_, _, _], _ => rfl
  have M105 : Meth K C_Floor "may" f105 := ⟨a105, i105, k105⟩
  have F106 := fun_mk (st := sFloor_beside) l106 c106 k106
  have b106 := F106.binds (ps := ["self", "cell"]) fun _ _ _ _ _ _ us hl => match us, hl with | [_, _], _ => rfl
  have M106 : Meth K C_Floor "beside" f106 := ⟨a106, i106, k106⟩
  have F107 := fun_mk (st := sLaying___init__) l107 c107 k107
  have b107 := F107.binds (ps := ["self", "floor"]) fun _ _ _ _ _ _ us hl => match us, hl with | [_, _], _ => rfl
  have M107 : Meth K C_Laying "__init__" f107 := ⟨a107, i107, k107⟩
  have F108 := fun_mk (st := sLaying_put) l108 c108 k108
  have b108 := F108.binds (ps := ["self", "one", "other"]) fun _ _ _ _ _ _ us hl => match us, hl with | [_, _, _], _ => rfl
  have M108 : Meth K C_Laying "put" f108 := ⟨a108, i108, k108⟩
  have F109 := fun_mk (st := sLaying_lift) l109 c109 k109
  have b109 := F109.binds (ps := ["self", "cell"]) fun _ _ _ _ _ _ us hl => match us, hl with | [_, _], _ => rfl
  have M109 : Meth K C_Laying "lift" f109 := ⟨a109, i109, k109⟩
  have F110 := fun_mk (st := sLaying_bare) l110 c110 k110
  have b110 := F110.binds (ps := ["self"]) fun _ _ _ _ _ _ us hl => match us, hl with | [_], _ => rfl
  have M110 : Meth K C_Laying "bare" f110 := ⟨a110, i110, k110⟩
  have F111 := fun_mk (st := sLaying_slabs) l111 c111 k111
  have b111 := F111.binds (ps := ["self"]) fun _ _ _ _ _ _ us hl => match us, hl with | [_], _ => rfl
  have M111 : Meth K C_Laying "slabs" f111 := ⟨a111, i111, k111⟩
  have F112 := fun_mk (st := sLaying_copied) l112 c112 k112
  have b112 := F112.binds (ps := ["self"]) fun _ _ _ _ _ _ us hl => match us, hl with | [_], _ => rfl
  have M112 : Meth K C_Laying "copied" f112 := ⟨a112, i112, k112⟩
  have zlen : mg "len" = none := PySem.W.mg_none_of X G z_len
  have zany : mg "any" = none := PySem.W.mg_none_of X G z_any
  have zrange : mg "range" = none := PySem.W.mg_none_of X G z_range
  have zlist : mg "list" = none := PySem.W.mg_none_of X G z_list
  have ztuple : mg "tuple" = none := PySem.W.mg_none_of X G z_tuple
  have zdict : mg "dict" = none := PySem.W.mg_none_of X G z_dict
  have zset : mg "set" = none := PySem.W.mg_none_of X G z_set
  have zabs : mg "abs" = none := PySem.W.mg_none_of X G z_abs
  have zisinstance : mg "isinstance" = none := PySem.W.mg_none_of X G z_isinstance
  have zint : mg "int" = none := PySem.W.mg_none_of X G z_int
  have zbool : mg "bool" = none := PySem.W.mg_none_of X G z_bool
  have zmin : mg "min" = none := PySem.W.mg_none_of X G z_min
  have zmax : mg "max" = none := PySem.W.mg_none_of X G z_max
  have zdivmod : mg "divmod" = none := PySem.W.mg_none_of X G z_divmod
  have zsorted : mg "sorted" = none := PySem.W.mg_none_of X G z_sorted
  have zreversed : mg "reversed" = none := PySem.W.mg_none_of X G z_reversed
  have zValueError : mg "ValueError" = none := PySem.W.mg_none_of X G z_ValueError
  have mMOST : mg "MOST" = some (.int 12 u_MOST) := PySem.W.mg_of X G q_MOST
  have mPILLAR : mg "PILLAR" = some (.str "#" u_PILLAR) := PySem.W.mg_of X G q_PILLAR
  have mSIGNS : mg "SIGNS" = some (.str ".-|#" u_SIGNS) := PySem.W.mg_of X G q_SIGNS
  have mBARE : mg "BARE" = some (.str "o" u_BARE) := PySem.W.mg_of X G q_BARE
  have mLEFT : mg "LEFT" = some (.str "<" u_LEFT) := PySem.W.mg_of X G q_LEFT
  have mRIGHT : mg "RIGHT" = some (.str ">" u_RIGHT) := PySem.W.mg_of X G q_RIGHT
  have mUPPER : mg "UPPER" = some (.str "^" u_UPPER) := PySem.W.mg_of X G q_UPPER
  have mLOWER : mg "LOWER" = some (.str "v" u_LOWER) := PySem.W.mg_of X G q_LOWER
  have mSTEPS : mg "STEPS" = some (.ref t0) := PySem.W.mg_of X G q_STEPS
  have hsz : ∀ n : Nat, n ≤ 4 → n ≤ sizeLine := fun n h => Nat.le_trans h (by decide)
  have TS : StepsAt K t0 := by
    refine ⟨[t1, t2, t3, t4], rfl, fun H => .inr ⟨_, _, _, lt0, rfl, rfl, hsz 4 (by decide), .cons rfl (.cons rfl (.cons rfl (.cons rfl .nil)))⟩, fun i t p ht hp H => ?_⟩
    match i, ht, hp with
    | 0, ht, hp =>
      cases ht
      cases hp
      exact .inr ⟨_, _, _, lt1, rfl, rfl, hsz 3 (by decide), .cons ⟨_, rfl⟩ (.cons ⟨_, rfl⟩ (.cons ⟨_, rfl⟩ .nil))⟩
    | 1, ht, hp =>
      cases ht
      cases hp
      exact .inr ⟨_, _, _, lt2, rfl, rfl, hsz 3 (by decide), .cons ⟨_, rfl⟩ (.cons ⟨_, rfl⟩ (.cons ⟨_, rfl⟩ .nil))⟩
    | 2, ht, hp =>
      cases ht
      cases hp
      exact .inr ⟨_, _, _, lt3, rfl, rfl, hsz 3 (by decide), .cons ⟨_, rfl⟩ (.cons ⟨_, rfl⟩ (.cons ⟨_, rfl⟩ .nil))⟩
    | 3, ht, hp =>
      cases ht
      cases hp
      exact .inr ⟨_, _, _, lt4, rfl, rfl, hsz 3 (by decide), .cons ⟨_, rfl⟩ (.cons ⟨_, rfl⟩ (.cons ⟨_, rfl⟩ .nil))⟩
    | i + 4, ht, hp => simp at ht
  refine ⟨PySem.W.fnOf "law" "law" (defArgs slaw) (defBody slaw) (defScope slaw) .none kV28 dc28 pm28 an28 cd28 ct28, [(c_refuse, Pt)], spLaw K Pt, fun p hp => ?_, fun p hp => ?_, fun p hp => ?_, fun s v => .of_eq rfl, fun H a ns hl _ hT hS => ⟨a, ns, rfl, hS, hl, ⟨#[], hT _ List.mem_cons_self, tri0⟩, fun _ => rfl⟩, fun base _ _ TBs => ?_⟩
  · rw [List.mem_singleton.mp hp]
    exact tabs f0 c_refuse Pt _ _ _ _ _ _ g0 l0 rfl rfl lcr v11
  · rw [List.mem_singleton.mp hp]
    exact nPt
  · rw [List.mem_singleton.mp hp]
    exact PySem.W.codeHd_of_K X hdc
  · have TB : GxR.TabB base mg c_refuse Pt := by
      have q := TBs (c_refuse, Pt) List.mem_cons_self
      exact ⟨q.code, q.bm, q.gP⟩
    have T : FTxt K mg C_Floor := ⟨⟨pg_Floor, hd_Floor, po_Floor, sa_Floor⟩, n_Floor_rows, n_Floor_high, n_Floor_wide, n_Floor_neighbours, n_Floor_signs, PySem.W.mg_of X G aC_Floor⟩
    have LT : LTxt K mg C_Laying := ⟨⟨pg_Laying, hd_Laying, po_Laying, sa_Laying⟩, n_Laying_floor, n_Laying_over, PySem.W.mg_of X G aC_Laying⟩
    have MkF : Mk K C_Floor f100 := ⟨mk_Floor, a100, i100, kc_Floor⟩
    have MkL : Mk K C_Laying f107 := ⟨mk_Laying, a107, i107, kc_Laying⟩
    have SC : Go.SelfC K C_Floor := ⟨_, _, _, _, _, _, _, _, _, _, _, _, _, _, _, _, sf1, sf2, sf3, sf4⟩
    have SL : Go.SelfC K C_Laying := ⟨_, _, _, _, _, _, _, _, _, _, _, _, _, _, _, _, sl1, sl2, sl3, sl4⟩
    have IL : C8.InsC K C_Laying := ⟨LT.cl, ic_l, xn, xo, im_l, ik_l⟩
    have IF : C8.InsC K C_Floor := ⟨T.cl, ic_f, xn, xo, im_f, ik_f⟩
    have Bu : Gc.Bi mg := ⟨zlen, zany, zrange, zlist, ztuple, zdict, zset, zabs, zisinstance, zint, zbool, zmin, zmax, zdivmod, zsorted, zreversed, zValueError⟩
    have RN : Rz K mg "NoCell" x_N := ⟨PySem.W.mg_of X G ax_N, xi_N, xk_N, xs_N, xt_N⟩
    have xm_is_N : PySem.W.exmOne K (.ref x_N) (.ref x_N) = some true := PySem.W.exm_ref xs_N xh_N xt_N xq_N
    have RB : Rz K mg "NotBeside" x_B := ⟨PySem.W.mg_of X G ax_B, xi_B, xk_B, xs_B, xt_B⟩
    have xm_is_B : PySem.W.exmOne K (.ref x_B) (.ref x_B) = some true := PySem.W.exm_ref xs_B xh_B xt_B xq_B
    have RC : Rz K mg "Covered" x_C := ⟨PySem.W.mg_of X G ax_C, xi_C, xk_C, xs_C, xt_C⟩
    have xm_is_C : PySem.W.exmOne K (.ref x_C) (.ref x_C) = some true := PySem.W.exm_ref xs_C xh_C xt_C xq_C
    have RU : Rz K mg "Uncovered" x_U := ⟨PySem.W.mg_of X G ax_U, xi_U, xk_U, xs_U, xt_U⟩
    have xm_is_U : PySem.W.exmOne K (.ref x_U) (.ref x_U) = some true := PySem.W.exm_ref xs_U xh_U xt_U xq_U
    have RD : Rz K mg "NoDrawing" x_D := ⟨PySem.W.mg_of X G ax_D, xi_D, xk_D, xs_D, xt_D⟩
    have xm_is_D : PySem.W.exmOne K (.ref x_D) (.ref x_D) = some true := PySem.W.exm_ref xs_D xh_D xt_D xq_D
    have TE : ETxt K mg ⟨x_L, x_R, x_S, x_N, x_B, x_C, x_U, x_D, x_F⟩ := ⟨PySem.W.mg_of X G ax_L, PySem.W.mg_of X G ax_R, PySem.W.mg_of X G ax_S, PySem.W.mg_of X G ax_N, PySem.W.mg_of X G ax_B, PySem.W.mg_of X G ax_C, PySem.W.mg_of X G ax_U, PySem.W.mg_of X G ax_D, PySem.W.mg_of X G ax_F⟩
    have O_D : OneC K ⟨x_L, x_R, x_S, x_N, x_B, x_C, x_U, x_D, x_F⟩ x_D := ⟨⟨xg_D, xa_D, xs_D, xh_D, xc_D, xn, xo, xm_D⟩, false, false, false, false, false, false, false, true, k_D_L, k_D_R, k_D_S, k_D_N, k_D_B, k_D_C, k_D_U, k_D_D, rfl, k_D_F, kit_VE k_D_V⟩
    have xm2_is_D : PySem.W.exmOne K (.ref x_D) (.ref x_D) = some true := PySem.W.exm_ref xs_D xh_D xt_D xq_D
    have G_ref := ok_refuse (P := l.prog) (w := w) F0 TB zlen zany mMOST mSIGNS
    have G_sig := ok_signAt (P := l.prog) (w := w) (base := base) F1 zlen mPILLAR
    have G_nbs := ok_nbs F2 G_sig g1 k1 b1 zlen mSTEPS TS
    have G_tab := ok_table F3 G_nbs g2 k2 b2 zlen zrange mPILLAR
    have G_ini := ok_init F100 T G_ref g0 k0 b0 G_tab g3 k3 b3 zlen zlist ztuple
    have G_cel := ok_cells (P := l.prog) (w := w) (base := base) F101 T zlist
    have G_has := ok_has (P := l.prog) (w := w) (base := base) F102 T
    have G_may := ok_may F105 T G_has M102 b102
    have G_rnc := ok_ref F4 T G_has M102 b102 RN
    have G_li := ok_linit (P := l.prog) (w := w) (base := base) F107 LT
    have G_put := ok_put (cU := x_U) F108 T LT G_rnc g4 k4 b4 G_may M105 b105 RB RC
    have G_lif := ok_lift (cB := x_B) (cC := x_C) F109 LT G_rnc g4 k4 b4 RU
    have G_bar := ok_bare F110 T LT G_cel M101 b101
    have G_sla := ok_slabs (P := l.prog) (w := w) (base := base) F111 LT zsorted
    have G_cop := ok_copied F112 LT MkL G_li b107 zdict
    have c_put : Gc.Cm l.prog w K mg base (L2.CX l.prog w) 3 C_Laying "put" _ _ := ⟨_, _, G_put, M108, b108⟩
    have c_lift : Gc.Cm l.prog w K mg base (L2.CX l.prog w) 3 C_Laying "lift" _ _ := ⟨_, _, G_lif, M109, b109⟩
    have c_Laying_put := put0 c_put
    have c_Laying_lift := lift0 c_lift
    have c_bar : Gc.Cm l.prog w K mg base CX0 2 C_Laying "bare" _ _ := ⟨_, _, G_bar, M110, b110⟩
    have c_Laying_bare := bare0 c_bar
    have c_sla : Gc.Cm l.prog w K mg base CX0 1 C_Laying "slabs" _ _ := ⟨_, _, G_sla, M111, b111⟩
    have c_Laying_slabs := slabs0 c_sla
    have c_cop : Gc.Cm l.prog w K mg base CX0 3 C_Laying "copied" _ _ := ⟨_, _, G_cop, M112, b112⟩
    have c_Laying_copied := copied0 c_cop
    have c_Laying : Gc.Cn l.prog w K mg base 1 C_Laying "Laying" _ _ := ⟨_, _, G_li, MkL, LT.mgC, b107⟩
    have c_Floor : Gc.Cn l.prog w K mg base 4 C_Floor "Floor" _ _ := ⟨_, _, G_ini, MkF, T.mgC, b100⟩
    have G_cat := ok_cell (P := l.prog) (w := w) (base := base) F9 zlen
    have c_law_cell_at : Gc.Cl l.prog w K mg base CX0 1 "_law_cell_at" _ _ := ⟨_, _, G_cat, g9, k9, b9⟩
    have G_num := ok_number (P := l.prog) (w := w) (base := base) F10 zlen
    have c_law_number : Gc.Cl l.prog w K mg base CX0 1 "_law_number" _ _ := ⟨_, _, G_num, g10, k10, b10⟩
    have G_row := ok_rows F11 G_cat g9 k9 b9 G_num g10 k10 b10 zlen zrange
    have c_law_rows : Gc.Cl l.prog w K mg base CX0 2 "_law_rows" _ _ := ⟨_, _, G_row, g11, k11, b11⟩
    have G_lma := ok_lmay (P := l.prog) (w := w) (base := base) F12 zlen zabs
    have c_law_may : Gc.Cl l.prog w K mg base CX0 1 "_law_may" _ _ := ⟨_, _, G_lma, g12, k12, b12⟩
    have G_lce := ok_lcells (P := l.prog) (w := w) (base := base) F13 zlen zrange
    have c_law_cells : Gc.Cl l.prog w K mg base CX0 1 "_law_cells" _ _ := ⟨_, _, G_lce, g13, k13, b13⟩
    have G_lbe := ok_lbeside F14 G_lma g12 k12 b12 zlen
    have c_law_beside : Gc.Cl l.prog w K mg base CX0 2 "_law_beside" _ _ := ⟨_, _, G_lbe, g14, k14, b14⟩
    have G_rc := ok_rc (P := l.prog) (w := w) (base := base) F103 T zdivmod zmax
    have c_rc : Gc.Cm l.prog w K mg base CX0 1 C_Floor "row_and_column" _ _ := ⟨_, _, G_rc, M103, b103⟩
    have c_Floor_has : Gc.Cm l.prog w K mg base CX0 1 C_Floor "has" _ _ := ⟨_, _, G_has, M102, b102⟩
    have c_Floor_row_and_column := c_rc
    have xm_NF := PySem.W.exm_ref xs_F xh_F xt_F u_NF
    have xm_DF := PySem.W.exm_ref xs_F xh_F xt_F u_DF
    have G_one := ok_one (P := l.prog) (w := w) (base := base) F21 TE zisinstance zValueError
    have c_Floor_may : Gc.Cm l.prog w K mg base CX0 2 C_Floor "may" _ _ := ⟨_, _, G_may, M105, b105⟩
    have c_law_over := ok_over (w := w) (P := l.prog) (base := base) (⟨_, _, F15, g15, k15, b15⟩ : Gc.Df K mg "_law_over" _ _) Bu c_law_cells c_law_number c_law_beside
    have c_law_made := ok_made (⟨_, _, F16, g16, k16, b16⟩ : Gc.Df K mg "_law_made" _ _) Bu LT c_Laying c_Laying_put
    have c_law_covered := ok_covered (⟨_, _, F22, g22, k22, b22⟩ : Gc.Df K mg "_law_covered" _ _) LT (PySem.W.mg_of X G ax_C) xm_is_C c_put
    have c_law_put_again := ok_again (⟨_, _, F23, g23, k23, b23⟩ : Gc.Df K mg "_law_put_again" _ _) LT c_law_covered c_Laying_put c_Laying_lift
    have c_law_bare_taken := ok_taken (⟨_, _, F24, g24, k24, b24⟩ : Gc.Df K mg "_law_bare_taken" _ _) Bu LT c_law_beside c_Laying_bare c_Laying_put c_Laying_lift
    have c_law_told_well := ok_well (⟨_, _, F25, g25, k25, b25⟩ : Gc.Df K mg "_law_told_well" _ _) Bu T LT SC c_law_cells c_Laying_copied c_Laying_slabs c_Laying_bare c_Laying_lift c_law_put_again c_law_bare_taken
    have c_law_less := ok_less (⟨_, _, F27, g27, k27, b27⟩ : Gc.Df K mg "_law_less" _ _) Bu LT c_Laying_lift
    have c_sign_drawn := ok_signD (⟨_, _, F5, g5, k5, b5⟩ : Gc.Df K mg "_sign_drawn" _ _) T LT mPILLAR mBARE mLEFT mRIGHT mUPPER mLOWER c_Floor_has c_Floor_row_and_column
    have c_drawn := ok_drawn (⟨_, _, F6, g6, k6, b6⟩ : Gc.Df K mg "drawn" _ _) Bu T LT c_sign_drawn
    have c_law_half := ok_half (w := w) (P := l.prog) (base := base) (⟨_, _, F17, g17, k17, b17⟩ : Gc.Df K mg "_law_half" _ _) Bu
    have c_law_drawn := ok_ldrawn (⟨_, _, F18, g18, k18, b18⟩ : Gc.Df K mg "_law_drawn" _ _) Bu c_law_half
    have c_slabs_begun := ok_begun (w := w) (P := l.prog) (base := base) (⟨_, _, F7, g7, k7, b7⟩ : Gc.Df K mg "_slabs_begun" _ _) Bu T mLEFT mUPPER
    have c_read := ok_read (⟨_, _, F8, g8, k8, b8⟩ : Gc.Df K mg "read" _ _) Bu T LT RD c_Laying c_slabs_begun c_Floor_may c_Laying_put c_drawn
    have c_law_read := ok_lread (⟨_, _, F26, g26, k26, b26⟩ : Gc.Df K mg "_law_read" _ _) Bu T LT SC IL TE O_D xm_DF k_D_D c_read c_law_told_well G_one g21 k21 b21
    have c_law_due := ok_due (⟨_, _, F20, g20, k20, b20⟩ : Gc.Df K mg "_law_due" _ _) Bu c_law_may c_law_drawn
    have c_law_faulty := ok_faulty (w := w) (P := l.prog) (base := base) (⟨_, _, F19, g19, k19, b19⟩ : Gc.Df K mg "_law_faulty" _ _) Bu
    exact ok_law F28 Bu T LT c_law_rows c_law_cell_at c_Floor c_law_over c_law_made c_drawn c_law_drawn c_law_less c_law_read c_law_due c_law_faulty
end Sf
open PySem PySem.W PyProof.Rows
set_option maxRecDepth 100000 in
set_option maxHeartbeats 0 in
theorem PySem.Challenge.cw_slabfloor_k05_drawn_and_read_holds : PySem.Challenge.rw_slabfloor_k05_drawn_and_read.Holds := by
  w_on; o_law; k_head; (case hw => w_witness2)
  k_fill
  refine Sf.walk (l := PySem.Challenge.rw_slabfloor_k05_drawn_and_read) (k := 8) rfl rfl ⟨rfl, by decide, by decide⟩ ?R (fun w h Y => PySem.W.kIn_of Y) ?F
  case R => kernel_rfl
  case F =>
    intro w mg fa h KX G hmg tabs
    refine' Sf.all_mk KX G hmg tabs ?aC_Floor ?aC_Laying ?a0 ?l0 ?c0 ?k0 ?a1 ?l1 ?c1 ?k1 ?a2 ?l2 ?c2 ?k2 ?a3 ?l3 ?c3 ?k3 ?a4 ?l4 ?c4 ?k4 ?a5 ?l5 ?c5 ?k5 ?a6 ?l6 ?c6 ?k6 ?a7 ?l7 ?c7 ?k7 ?a8 ?l8 ?c8 ?k8 ?a9 ?l9 ?c9 ?k9 ?a10 ?l10 ?c10 ?k10 ?a11 ?l11 ?c11 ?k11 ?a12 ?l12 ?c12 ?k12 ?a13 ?l13 ?c13 ?k13 ?a14 ?l14 ?c14 ?k14 ?a15 ?l15 ?c15 ?k15 ?a16 ?l16 ?c16 ?k16 ?a17 ?l17 ?c17 ?k17 ?a18 ?l18 ?c18 ?k18 ?a19 ?l19 ?c19 ?k19 ?a20 ?l20 ?c20 ?k20 ?a21 ?l21 ?c21 ?k21 ?a22 ?l22 ?c22 ?k22 ?a23 ?l23 ?c23 ?k23 ?a24 ?l24 ?c24 ?k24 ?a25 ?l25 ?c25 ?k25 ?a26 ?l26 ?c26 ?k26 ?a27 ?l27 ?c27 ?k27 ?a28 ?l28 ?c28 ?k28 ?a100 ?i100 ?l100 ?c100 ?k100 ?a101 ?i101 ?l101 ?c101 ?k101 ?a102 ?i102 ?l102 ?c102 ?k102 ?a103 ?i103 ?l103 ?c103 ?k103 ?a104 ?i104 ?l104 ?c104 ?k104 ?a105 ?i105 ?l105 ?c105 ?k105 ?a106 ?i106 ?l106 ?c106 ?k106 ?a107 ?i107 ?l107 ?c107 ?k107 ?a108 ?i108 ?l108 ?c108 ?k108 ?a109 ?i109 ?l109 ?c109 ?k109 ?a110 ?i110 ?l110 ?c110 ?k110 ?a111 ?i111 ?l111 ?c111 ?k111 ?a112 ?i112 ?l112 ?c112 ?k112 ?pg_Floor ?hd_Floor ?po_Floor ?sa_Floor ?mk_Floor ?kc_Floor ?pg_Laying ?hd_Laying ?po_Laying ?sa_Laying ?mk_Laying ?kc_Laying ?n_Floor_rows ?n_Floor_high ?n_Floor_wide ?n_Floor_neighbours ?n_Floor_signs ?n_Laying_floor ?n_Laying_over ?z_len ?z_any ?z_range ?z_list ?z_tuple ?z_dict ?z_set ?z_abs ?z_isinstance ?z_int ?z_bool ?z_min ?z_max ?z_divmod ?z_sorted ?z_reversed ?z_ValueError ?q_MOST ?q_PILLAR ?q_SIGNS ?q_BARE ?q_LEFT ?q_RIGHT ?q_UPPER ?q_LOWER ?q_STEPS ?lt0 ?lt1 ?lt2 ?lt3 ?lt4 ?lcr ?v11 ?nPt ?hdc ?ax_L ?ax_R ?ax_S ?ax_N ?ax_B ?ax_C ?ax_U ?ax_D ?ax_F ?xi_N ?xk_N ?xs_N ?xt_N ?xq_N ?xh_N ?xg_N ?xa_N ?xc_N ?xm_N ?k_N_L ?k_N_R ?k_N_S ?k_N_N ?k_N_B ?k_N_C ?k_N_U ?k_N_D ?k_N_F ?k_N_V ?xi_B ?xk_B ?xs_B ?xt_B ?xq_B ?xh_B ?xg_B ?xa_B ?xc_B ?xm_B ?k_B_L ?k_B_R ?k_B_S ?k_B_N ?k_B_B ?k_B_C ?k_B_U ?k_B_D ?k_B_F ?k_B_V ?xi_C ?xk_C ?xs_C ?xt_C ?xq_C ?xh_C ?xg_C ?xa_C ?xc_C ?xm_C ?k_C_L ?k_C_R ?k_C_S ?k_C_N ?k_C_B ?k_C_C ?k_C_U ?k_C_D ?k_C_F ?k_C_V ?xi_U ?xk_U ?xs_U ?xt_U ?xq_U ?xh_U ?xg_U ?xa_U ?xc_U ?xm_U ?k_U_L ?k_U_R ?k_U_S ?k_U_N ?k_U_B ?k_U_C ?k_U_U ?k_U_D ?k_U_F ?k_U_V ?xi_D ?xk_D ?xs_D ?xt_D ?xq_D ?xh_D ?xg_D ?xa_D ?xc_D ?xm_D ?k_D_L ?k_D_R ?k_D_S ?k_D_N ?k_D_B ?k_D_C ?k_D_U ?k_D_D ?k_D_F ?k_D_V ?xn ?xo ?sf1 ?sf2 ?sf3 ?sf4 ?ic_f ?im_f ?ik_f ?sl1 ?sl2 ?sl3 ?sl4 ?ic_l ?im_l ?ik_l ?u_NF ?u_DF ?xs_F ?xt_F ?xh_F
    (case aC_Floor => k_is)
    (case aC_Laying => k_is)
    (case a0 => k_is)
    (case l0 => k_is)
    (case c0 => k_is)
    (case k0 => k_is)
    (case a1 => k_is)
    (case l1 => k_is)
    (case c1 => k_is)
    (case k1 => k_is)
    (case a2 => k_is)
    (case l2 => k_is)
    (case c2 => k_is)
    (case k2 => k_is)
    (case a3 => k_is)
    (case l3 => k_is)
    (case c3 => k_is)
    (case k3 => k_is)
    (case a4 => k_is)
    (case l4 => k_is)
    (case c4 => k_is)
    (case k4 => k_is)
    (case a5 => k_is)
    (case l5 => k_is)
    (case c5 => k_is)
    (case k5 => k_is)
    (case a6 => k_is)
    (case l6 => k_is)
    (case c6 => k_is)
    (case k6 => k_is)
    (case a7 => k_is)
    (case l7 => k_is)
    (case c7 => k_is)
    (case k7 => k_is)
    (case a8 => k_is)
    (case l8 => k_is)
    (case c8 => k_is)
    (case k8 => k_is)
    (case a9 => k_is)
    (case l9 => k_is)
    (case c9 => k_is)
    (case k9 => k_is)
    (case a10 => k_is)
    (case l10 => k_is)
    (case c10 => k_is)
    (case k10 => k_is)
    (case a11 => k_is)
    (case l11 => k_is)
    (case c11 => k_is)
    (case k11 => k_is)
    (case a12 => k_is)
    (case l12 => k_is)
    (case c12 => k_is)
    (case k12 => k_is)
    (case a13 => k_is)
    (case l13 => k_is)
    (case c13 => k_is)
    (case k13 => k_is)
    (case a14 => k_is)
    (case l14 => k_is)
    (case c14 => k_is)
    (case k14 => k_is)
    (case a15 => k_is)
    (case l15 => k_is)
    (case c15 => k_is)
    (case k15 => k_is)
    (case a16 => k_is)
    (case l16 => k_is)
    (case c16 => k_is)
    (case k16 => k_is)
    (case a17 => k_is)
    (case l17 => k_is)
    (case c17 => k_is)
    (case k17 => k_is)
    (case a18 => k_is)
    (case l18 => k_is)
    (case c18 => k_is)
    (case k18 => k_is)
    (case a19 => k_is)
    (case l19 => k_is)
    (case c19 => k_is)
    (case k19 => k_is)
    (case a20 => k_is)
    (case l20 => k_is)
    (case c20 => k_is)
    (case k20 => k_is)
    (case a21 => k_is)
    (case l21 => k_is)
    (case c21 => k_is)
    (case k21 => k_is)
    (case a22 => k_is)
    (case l22 => k_is)
    (case c22 => k_is)
    (case k22 => k_is)
    (case a23 => k_is)
    (case l23 => k_is)
    (case c23 => k_is)
    (case k23 => k_is)
    (case a24 => k_is)
    (case l24 => k_is)
    (case c24 => k_is)
    (case k24 => k_is)
    (case a25 => k_is)
    (case l25 => k_is)
    (case c25 => k_is)
    (case k25 => k_is)
    (case a26 => k_is)
    (case l26 => k_is)
    (case c26 => k_is)
    (case k26 => k_is)
    (case a27 => k_is)
    (case l27 => k_is)
    (case c27 => k_is)
    (case k27 => k_is)
    (case a28 => k_is)
    (case l28 => k_is)
    (case c28 => k_is)
    (case k28 => k_is)
    (case a100 => k_is)
    (case i100 => k_is)
    (case l100 => k_is)
    (case c100 => k_is)
    (case k100 => k_is)
    (case a101 => k_is)
    (case i101 => k_is)
    (case l101 => k_is)
    (case c101 => k_is)
    (case k101 => k_is)
    (case a102 => k_is)
    (case i102 => k_is)
    (case l102 => k_is)
    (case c102 => k_is)
    (case k102 => k_is)
    (case a103 => k_is)
    (case i103 => k_is)
    (case l103 => k_is)
    (case c103 => k_is)
    (case k103 => k_is)
    (case a104 => k_is)
    (case i104 => k_is)
    (case l104 => k_is)
    (case c104 => k_is)
    (case k104 => k_is)
    (case a105 => k_is)
    (case i105 => k_is)
    (case l105 => k_is)
    (case c105 => k_is)
    (case k105 => k_is)
    (case a106 => k_is)
    (case i106 => k_is)
    (case l106 => k_is)
    (case c106 => k_is)
    (case k106 => k_is)
    (case a107 => k_is)
    (case i107 => k_is)
    (case l107 => k_is)
    (case c107 => k_is)
    (case k107 => k_is)
    (case a108 => k_is)
    (case i108 => k_is)
    (case l108 => k_is)
    (case c108 => k_is)
    (case k108 => k_is)
    (case a109 => k_is)
    (case i109 => k_is)
    (case l109 => k_is)
    (case c109 => k_is)
    (case k109 => k_is)
    (case a110 => k_is)
    (case i110 => k_is)
    (case l110 => k_is)
    (case c110 => k_is)
    (case k110 => k_is)
    (case a111 => k_is)
    (case i111 => k_is)
    (case l111 => k_is)
    (case c111 => k_is)
    (case k111 => k_is)
    (case a112 => k_is)
    (case i112 => k_is)
    (case l112 => k_is)
    (case c112 => k_is)
    (case k112 => k_is)
    (case pg_Floor => k_is)
    (case hd_Floor => k_is)
    (case po_Floor => k_is)
    (case sa_Floor => k_is)
    (case mk_Floor => k_is)
    (case kc_Floor => k_is)
    (case pg_Laying => k_is)
    (case hd_Laying => k_is)
    (case po_Laying => k_is)
    (case sa_Laying => k_is)
    (case mk_Laying => k_is)
    (case kc_Laying => k_is)
    (case n_Floor_rows => k_is)
    (case n_Floor_high => k_is)
    (case n_Floor_wide => k_is)
    (case n_Floor_neighbours => k_is)
    (case n_Floor_signs => k_is)
    (case n_Laying_floor => k_is)
    (case n_Laying_over => k_is)
    (case z_len => k_is)
    (case z_any => k_is)
    (case z_range => k_is)
    (case z_list => k_is)
    (case z_tuple => k_is)
    (case z_dict => k_is)
    (case z_set => k_is)
    (case z_abs => k_is)
    (case z_isinstance => k_is)
    (case z_int => k_is)
    (case z_bool => k_is)
    (case z_min => k_is)
    (case z_max => k_is)
    (case z_divmod => k_is)
    (case z_sorted => k_is)
    (case z_reversed => k_is)
    (case z_ValueError => k_is)
    (case q_MOST => k_is)
    (case q_PILLAR => k_is)
    (case q_SIGNS => k_is)
    (case q_BARE => k_is)
    (case q_LEFT => k_is)
    (case q_RIGHT => k_is)
    (case q_UPPER => k_is)
    (case q_LOWER => k_is)
    (case q_STEPS => k_is)
    (case lt0 => k_is)
    (case lt1 => k_is)
    (case lt2 => k_is)
    (case lt3 => k_is)
    (case lt4 => k_is)
    (case lcr => k_is)
    (case v11 => rfl)
    (case nPt => first | kernel_rfl | with_unfolding_all rfl)
    (case hdc => first | kernel_rfl | with_unfolding_all rfl)
    (case ax_L => k_is)
    (case ax_R => k_is)
    (case ax_S => k_is)
    (case ax_N => k_is)
    (case ax_B => k_is)
    (case ax_C => k_is)
    (case ax_U => k_is)
    (case ax_D => k_is)
    (case ax_F => k_is)
    (case xi_N => k_exc)
    (case xk_N => k_is)
    (case xs_N => k_is)
    (case xt_N => k_is)
    (case xq_N => first | rfl | k_is)
    (case xh_N => k_is)
    (case xg_N => k_is)
    (case xa_N => k_is)
    (case xc_N => k_is)
    (case xm_N => k_is)
    (case k_N_L => first | k_is | rfl)
    (case k_N_R => first | k_is | rfl)
    (case k_N_S => first | k_is | rfl)
    (case k_N_N => first | k_is | rfl)
    (case k_N_B => first | k_is | rfl)
    (case k_N_C => first | k_is | rfl)
    (case k_N_U => first | k_is | rfl)
    (case k_N_D => first | k_is | rfl)
    (case k_N_F => first | k_is | rfl)
    (case k_N_V => k_is)
    (case xi_B => k_exc)
    (case xk_B => k_is)
    (case xs_B => k_is)
    (case xt_B => k_is)
    (case xq_B => first | rfl | k_is)
    (case xh_B => k_is)
    (case xg_B => k_is)
    (case xa_B => k_is)
    (case xc_B => k_is)
    (case xm_B => k_is)
    (case k_B_L => first | k_is | rfl)
    (case k_B_R => first | k_is | rfl)
    (case k_B_S => first | k_is | rfl)
    (case k_B_N => first | k_is | rfl)
    (case k_B_B => first | k_is | rfl)
    (case k_B_C => first | k_is | rfl)
    (case k_B_U => first | k_is | rfl)
    (case k_B_D => first | k_is | rfl)
    (case k_B_F => first | k_is | rfl)
    (case k_B_V => k_is)
    (case xi_C => k_exc)
    (case xk_C => k_is)
    (case xs_C => k_is)
    (case xt_C => k_is)
    (case xq_C => first | rfl | k_is)
    (case xh_C => k_is)
    (case xg_C => k_is)
    (case xa_C => k_is)
    (case xc_C => k_is)
    (case xm_C => k_is)
    (case k_C_L => first | k_is | rfl)
    (case k_C_R => first | k_is | rfl)
    (case k_C_S => first | k_is | rfl)
    (case k_C_N => first | k_is | rfl)
    (case k_C_B => first | k_is | rfl)
    (case k_C_C => first | k_is | rfl)
    (case k_C_U => first | k_is | rfl)
    (case k_C_D => first | k_is | rfl)
    (case k_C_F => first | k_is | rfl)
    (case k_C_V => k_is)
    (case xi_U => k_exc)
    (case xk_U => k_is)
    (case xs_U => k_is)
    (case xt_U => k_is)
    (case xq_U => first | rfl | k_is)
    (case xh_U => k_is)
    (case xg_U => k_is)
    (case xa_U => k_is)
    (case xc_U => k_is)
    (case xm_U => k_is)
    (case k_U_L => first | k_is | rfl)
    (case k_U_R => first | k_is | rfl)
    (case k_U_S => first | k_is | rfl)
    (case k_U_N => first | k_is | rfl)
    (case k_U_B => first | k_is | rfl)
    (case k_U_C => first | k_is | rfl)
    (case k_U_U => first | k_is | rfl)
    (case k_U_D => first | k_is | rfl)
    (case k_U_F => first | k_is | rfl)
    (case k_U_V => k_is)
    (case xi_D => k_exc)
    (case xk_D => k_is)
    (case xs_D => k_is)
    (case xt_D => k_is)
    (case xq_D => first | rfl | k_is)
    (case xh_D => k_is)
    (case xg_D => k_is)
    (case xa_D => k_is)
    (case xc_D => k_is)
    (case xm_D => k_is)
    (case k_D_L => first | k_is | rfl)
    (case k_D_R => first | k_is | rfl)
    (case k_D_S => first | k_is | rfl)
    (case k_D_N => first | k_is | rfl)
    (case k_D_B => first | k_is | rfl)
    (case k_D_C => first | k_is | rfl)
    (case k_D_U => first | k_is | rfl)
    (case k_D_D => first | k_is | rfl)
    (case k_D_F => first | k_is | rfl)
    (case k_D_V => k_is)
    (case xn => k_is)
    (case xo => k_is)
    (case sf1 => k_is)
    (case sf2 => first | k_is | kernel_rfl | with_unfolding_all rfl)
    (case sf3 => k_is)
    (case sf4 => k_is)
    (case ic_f => k_is)
    (case im_f => k_is)
    (case ik_f => first | k_is | rfl)
    (case sl1 => k_is)
    (case sl2 => first | k_is | kernel_rfl | with_unfolding_all rfl)
    (case sl3 => k_is)
    (case sl4 => k_is)
    (case ic_l => k_is)
    (case im_l => k_is)
    (case ik_l => first | k_is | rfl)
    (case u_NF => first | k_is | rfl)
    (case u_DF => first | k_is | rfl)
    (case xs_F => k_is)
    (case xt_F => k_is)
    (case xh_F => k_is)
#print axioms PySem.Challenge.cw_slabfloor_k05_drawn_and_read_holds
