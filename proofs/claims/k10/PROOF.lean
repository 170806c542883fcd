import PyProof.Rows.All
import Wide.All
import OpenK.AllK
import Wide.FinOn
import PySem.Challenge.RW_bidclear_k10_written_and_read
import HandS.ForMost
import HandS.AnyAll
import HandS.IsInst
import HandS.EndTab
import KE.KNest
import KE.KNestM
import PyProof.TypeEq
import PyProof.InstEq
import HandS.ForExc
import HandS.ExcIs
import HandS.HotCalls
import HandS.RaiseMore
import HandS.FStr
import HandS.More
import KE.IntBitsLaws
import HandS.WideBits
import HandS.Walk
import HandS.SortRule
import KE.IntTextLaws
set_option Elab.async false
set_option linter.all false
set_option maxRecDepth 100000
set_option maxHeartbeats 2000000
/-! a generator expression with any target over a list, inside sum -/
namespace G3
open PySem PySem.Spec PyProof.Rows L2
open Sem (wp)
section
variable {prog : Program} {w : World} {A : Around}
/-- what a target, the tests and the element do, item by item; Lc i m: the names as they stand behind the i-th store -/
structure Body (prog : Program) (w : World) (cenv : Env) (tg : Expr) (ifs : List Expr) (elt : Expr) (fp wr : List Addr) (P : Nat → Value → Prop) (pz : Nat → Bool) (F : Nat → Value → Prop) (Lc : Nat → (Str → Option Value) → Prop) (h0 : Heap) : Prop where
  put : ∀ (A' : Around) E' i v (s : Shared) m (Q : Unit → Shared → Prop), A'.handled = none → P i v → s.heap.Ns cenv.locals m → (∀ b ∈ fp, b ∉ wr → ∀ o, h0.get? b = some o → s.heap.get? b = some o) →
    (∀ h' m' tk, h'.Ns cenv.locals m' → Lc i m' → (∀ b o, b ≠ cenv.locals → s.heap.get? b = some o → h'.get? b = some o) → Q () { s with heap := h', toks := tk }) → wpAny (model prog w) A' (assign tg cenv v) Q E' s
  test : ∀ (A' : Around) E' i (s : Shared) m, A'.handled = none → s.heap.Ns cenv.locals m → Lc i m → (∀ b ∈ fp, b ∉ wr → ∀ o, h0.get? b = some o → s.heap.get? b = some o) →
    wpAny (model prog w) A' (forIn ifs true fun c r => if r = true then do let ok ← isTrue c cenv (eval c cenv); pure (ForInStep.yield ok) else pure (ForInStep.yield r)) (fun ok s' => ok = pz i ∧ Keeps s s') E' s
  val : ∀ (A' : Around) E' i (s : Shared) m, A'.handled = none → pz i = true → s.heap.Ns cenv.locals m → Lc i m → (∀ b ∈ fp, b ∉ wr → ∀ o, h0.get? b = some o → s.heap.get? b = some o) →
    wpAny (model prog w) A' (eval elt cenv) (fun y s' => F i y ∧ Keeps s s') E' s

/-- the iterator's own step ahead of the store does nothing -/
def Still (prog : Program) (w : World) (tg : Expr) (I : Addr) (St : Nat → Heap → Prop) : Prop :=
  ∀ (A : Around) (i : Nat) (v : Value) (s : Shared) (Q : Unit → Shared → Prop) (E : Value → Shared → Prop), St i s.heap → Q () s → wpAny (model prog w) A (letOwnedTupleGo tg (.ref I) v) Q E s

theorem turns {elt iter tg : Expr} {ifs : List Expr} {scope : Scope} {pos : Pos} {I : Addr} {fp wr : List Addr} {n : Nat} {P : Nat → Value → Prop} {St : Nat → Heap → Prop} {cenv : Env} {pz : Nat → Bool} {F : Nat → Value → Prop} {Lc : Nat → (Str → Option Value) → Prop} {h0 : Heap}
    (hh : A.handled = none) (W : ∀ A' : Around, A'.handled = none → Walks prog w A' I fp wr n P St) (hgo : Still prog w tg I St)
    (hco : cenv.scope.isCoroutine = false) (hC : cenv.locals ∉ fp) (B : Body prog w cenv tg ifs elt fp wr P pz F Lc h0) :
    ∀ (k i : Nat) (s0 s : Shared) (m : Str → Option Value), n - i = k → i ≤ n → St i s.heap → s.heap.Ns cenv.locals m → GenSince cenv.locals wr s0 s →
      (∀ b ∈ fp, b ∉ wr → ∀ o, h0.get? b = some o → s.heap.get? b = some o) →
      Seg (model prog w) A (fun n s₀ r s₁ => r = .ok .next ∧ (n = 0 ∧ GenSince cenv.locals wr s₀ s₁)) (genProto cenv.locals fp wr pz n F) (passing pz n i).length s0
        (.compLoop (.GeneratorExp elt [⟨tg, iter, ifs, 0⟩] scope pos) 0 (.ref I) .none cenv)
        ((model prog w).den (.compLoop (.GeneratorExp elt [⟨tg, iter, ifs, 0⟩] scope pos) 0 (.ref I) .none cenv)) [] s := by
  have hh2 : (A.over (.compLoop (.GeneratorExp elt [⟨tg, iter, ifs, 0⟩] scope pos) 0 (.ref I) .none cenv) []).handled = none := hh
  have hCw : cenv.locals ∉ wr := fun q => hC ((W A hh).sub _ q)
  have neC : ∀ {b : Addr}, b ∈ fp → b ≠ cenv.locals := fun hb e => hC (e ▸ hb)
  intro k
  induction k with
  | zero =>
    intro i s0 s m hk hi hst hn hsn hkp
    obtain rfl : i = n := by omega
    show Seg _ A _ _ _ s0 _ ((compTurn (.GeneratorExp elt [⟨tg, iter, ifs, 0⟩] scope pos) 0 (.ref I) .none cenv).onRaise (leaving cenv)) [] s
    rw [compTurn_gen, Sem.onRaise_eq_wrap]
    refine seg_bind_wrap (wpAny_standAt (seg_bind_wrap ((W _ hh2).done s _ _ hst fun h' tk kp => ?_)))
    exact seg_end (.ok .next) ⟨rfl, by rw [passing_end] <;> rfl, hsn.step fun b o _ hw e => kp b o hw e⟩
  | succ k ih =>
    intro i s0 s m hk hi hst hn hsn hkp
    have hlt : i < n := by omega
    show Seg _ A _ _ _ s0 _ ((compTurn (.GeneratorExp elt [⟨tg, iter, ifs, 0⟩] scope pos) 0 (.ref I) .none cenv).onRaise (leaving cenv)) [] s
    rw [compTurn_gen, Sem.onRaise_eq_wrap]
    refine seg_bind_wrap (wpAny_standAt (seg_bind_wrap ((W _ hh2).item i s _ _ hlt hst fun v h1 tk1 hP st1 k1 => ?_)))
    refine seg_bind_wrap (hgo _ _ _ _ _ _ st1 ?_)
    have kp1 : ∀ b ∈ fp, b ∉ wr → ∀ o, h0.get? b = some o → h1.get? b = some o := fun b hb hw o e => k1 b o hw (hkp b hb hw o e)
    refine seg_bind_wrap (B.put _ _ i v _ m _ hh2 hP (hn.at' fun o e => k1 _ o hCw e) kp1 fun h2 m2 tk2 hn2 lc2 k2 => ?_)
    have kp2 : ∀ b ∈ fp, b ∉ wr → ∀ o, h0.get? b = some o → h2.get? b = some o := fun b hb hw o e => k2 b o (neC hb) (kp1 b hb hw o e)
    have st2 : St (i + 1) h2 := (W A hh).frame _ _ _ st1 fun b hb o e => k2 b o (neC hb) e
    refine seg_bind_wrap (wpAny_mono (B.test _ _ i _ m2 hh2 hn2 lc2 kp2) (fun ok s3 q3 => ?_) fun _ _ e => e)
    obtain ⟨rfl, h3, tk3, rfl, k3⟩ := q3
    have st3 : St (i + 1) h3 := (W A hh).frame _ _ _ st2 fun b _ o e => k3 b o e
    have hn3 := hn2.keeps k3
    have kp3 : ∀ b ∈ fp, b ∉ wr → ∀ o, h0.get? b = some o → h3.get? b = some o := fun b hb hw o e => k3 b o (kp2 b hb hw o e)
    have hsn3 : GenSince cenv.locals wr s0 { s with heap := h3, toks := tk3 } := hsn.step fun b o hbC hw e => k3 b o (k2 b o hbC (k1 b o hw e))
    cases hz : pz i with
    | false =>
      rw [passing_false hlt hz]
      simp only [Bool.false_eq_true, if_false]
      exact seg_again rfl (ih (i + 1) s0 _ m2 (by omega) hlt st3 hn3 hsn3 kp3)
    | true =>
      rw [passing_true hlt hz, List.length_cons]
      simp only [if_true]
      have hy : ∀ u, yieldOut cenv u = yieldValue u := fun u => by simp only [yieldOut, hco, Bool.false_eq_true, if_false]
      simp only [hy]
      rw [Sem.bind_eq_wrap', Sem.bind_eq_wrap', Sem.wrap_wrap, Sem.wrap_wrap]
      refine seg_wrap (wpAny_mono (B.val _ _ i _ m2 hh2 hz hn3 lc2 kp3) (fun y s4 q4 => ?_) fun _ _ e => e)
      obtain ⟨hF, h4, tk4, rfl, k4⟩ := q4
      refine seg_at (seg_yield rfl rfl rfl ⟨⟨i, passing_here hlt hz, hF⟩, hsn3.step fun b o _ _ e => k4 b o e, fun s5 al => ?_⟩)
      refine seg_again rfl (ih (i + 1) s5 s5 m2 (by omega) hlt ?_ ?_ (GenSince.refl _ _ _) ?_)
      · exact (W A hh).frame _ _ _ st3 fun b hb o e => al b (List.mem_cons_of_mem _ hb) o (k4 b o e)
      · exact (hn3.keeps k4).at' fun o e => al _ List.mem_cons_self o e
      · exact fun b hb hw o e => al b (List.mem_cons_of_mem _ hb) o (k4 b o (kp3 b hb hw o e))

theorem begins {elt iter tg : Expr} {ifs : List Expr} {scope : Scope} {pos : Pos} {I : Addr} {fp wr : List Addr} {n : Nat} {P : Nat → Value → Prop} {St : Nat → Heap → Prop} {cenv : Env} {pz : Nat → Bool} {F : Nat → Value → Prop} {Lc : Nat → (Str → Option Value) → Prop} {h0 : Heap}
    (hh : A.handled = none) (W : ∀ A' : Around, A'.handled = none → Walks prog w A' I fp wr n P St) (hgo : Still prog w tg I St)
    (hco : cenv.scope.isCoroutine = false) (hC : cenv.locals ∉ fp) (B : Body prog w cenv tg ifs elt fp wr P pz F Lc h0)
    (s0 s : Shared) (m : Str → Option Value) (hst : St 0 s.heap) (hn : s.heap.Ns cenv.locals m) (hsn : GenSince cenv.locals wr s0 s)
    (hkp : ∀ b ∈ fp, b ∉ wr → ∀ o, h0.get? b = some o → s.heap.get? b = some o) :
    Seg (model prog w) A (fun n s₀ r s₁ => r = .ok .next ∧ (n = 0 ∧ GenSince cenv.locals wr s₀ s₁)) (genProto cenv.locals fp wr pz n F) (passing pz n 0).length s0
      (.compStart (.GeneratorExp elt [⟨tg, iter, ifs, 0⟩] scope pos) 0 (.ref I) .none cenv)
      ((model prog w).den (.compStart (.GeneratorExp elt [⟨tg, iter, ifs, 0⟩] scope pos) 0 (.ref I) .none cenv)) [] s := by
  have hh2 : (A.over (.compStart (.GeneratorExp elt [⟨tg, iter, ifs, 0⟩] scope pos) 0 (.ref I) .none cenv) []).handled = none := hh
  have loop := turns (iter := iter) (scope := scope) (pos := pos) hh W hgo hco hC B n 0 s0 s m (Nat.sub_zero _) (Nat.zero_le _) hst hn hsn hkp
  show Seg _ A _ _ _ s0 _ ((compStart (.GeneratorExp elt [⟨tg, iter, ifs, 0⟩] scope pos) 0 (.ref I) .none cenv).onRaise (leaving cenv)) [] s
  unfold compStart
  rw [Sem.onRaise_eq_wrap]
  show Seg _ A _ _ _ s0 _ ((ask >>= _).wrap _ _ _ _) [] s
  refine seg_bind_wrap (wpAny_askSetting ?_)
  split
  · exact seg_again rfl loop
  · first
      | exact seg_bind_wrap (wpAny_rule (seg_bind_wrap (wpAny_standAt (seg_bind_wrap ((W _ hh2).self 0 s _ _ hst (seg_again rfl loop))))))
      | (refine seg_bind_wrap (wpAny_rule ?_)
         show Seg _ A _ _ _ s0 _ ((standAt iter.pos >>= _).wrap _ _ _ _) [] s
         exact seg_bind_wrap (wpAny_standAt (seg_bind_wrap ((W _ hh2).self 0 s _ _ hst (seg_again rfl loop)))))

theorem fresh_at {elt iter tg : Expr} {ifs : List Expr} {scope : Scope} {pos : Pos} {I a : Addr} {g : Nat} {fp wr : List Addr} {n : Nat} {P : Nat → Value → Prop} {St : Nat → Heap → Prop} {cenv : Env} {pz : Nat → Bool} {F : Nat → Value → Prop} {Lc : Nat → (Str → Option Value) → Prop}
    (hh : A.handled = none) (W : ∀ A' : Around, A'.handled = none → Walks prog w A' I fp wr n P St) (hgo : Still prog w tg I St)
    (hco : cenv.scope.isCoroutine = false) (hC : cenv.locals ∉ fp) {s : Shared} {m : Str → Option Value} (B : Body prog w cenv tg ifs elt fp wr P pz F Lc s.heap)
    (hg : s.heap.IsGen a g) (hgs : s.gens[g]? = some (.fresh (.compStart (.GeneratorExp elt [⟨tg, iter, ifs, 0⟩] scope pos) 0 (.ref I) .none cenv)))
    (hst : St 0 s.heap) (hn : s.heap.Ns cenv.locals m) (hl : s.heap.NoLimit) : GenAt prog w A a g cenv.locals fp wr pz n F 0 s := by
  refine ⟨hg, hl, _, hgs, fun s2 al => ⟨rfl, begins (A := A.in1) hh W hgo hco hC B s2 s2 m ?_ ?_ (GenSince.refl _ _ _) ?_⟩⟩
  · exact (W A hh).frame _ _ _ hst fun b hb o e => al b (List.mem_cons_of_mem _ hb) o e
  · exact hn.at' fun o e => al _ List.mem_cons_self o e
  · exact fun b hb _ o e => al b (List.mem_cons_of_mem _ hb) o e
end

section
variable {prog : Program} {w : World} {A : Around} {E : Value → Shared → Prop} {s : Shared}
theorem made {env : Env} {elt iter tg : Expr} {ifs : List Expr} {scope : Scope} {cl : List (Str × Addr)} {pos : Pos} {Q : Value → Shared → Prop}
    (hh : A.handled = none) (hco : scope.isCoroutine = false) (hclos : closureFor scope env = pure cl) (hcell : ∀ y ∈ scope.names, y.2 ≠ .cell) (h0 : scope.names.lookup (".0" : Str) = some NameKind.local)
    (hkind : scope.kind = .function) (hroom : A.depth < recursionLimit)
    (h : wpAny (model prog w) A (eval iter env) (fun xv s1 => wpAny (model prog w) A (pyIter xv) (fun it s2 => s2.heap.NoLimit ∧
      wpAny (model prog w) A (genexprCode env pos (env.qual ++ "<genexpr>") scope) (fun code s3 => wpAny (model prog w) A (builtinsFor env.globals env.builtins) (fun bi s4 =>
        ∃ I fp wr n P St pz F Lc, it = .ref I ∧ (∀ A' : Around, A'.handled = none → Walks prog w A' I fp wr n P St) ∧ Still prog w tg I St ∧ St 0 s4.heap ∧ (∀ b ∈ fp, b < s4.heap.objs.size) ∧ s4.heap.NoLimit ∧ cStatics ∉ wr ∧
          (∀ hr : Heap, (∀ b o, s4.heap.get? b = some o → hr.get? b = some o) →
            Body prog w (genEnv scope cl s4.heap.objs.size code bi env) tg ifs elt (List.range s4.heap.objs.size) wr P pz F Lc hr) ∧
          (∀ a h5 tk gs, gs.bare = true → s4.heap.objs.size < a → h5.objs.size = a + 1 → (∀ b o, s4.heap.get? b = some o → h5.get? b = some o) →
            WalksS prog w A.in4 a (a :: s4.heap.objs.size :: List.range s4.heap.objs.size) (s4.heap.objs.size :: wr) (GenOnlyQ s4.gens.size) (passing pz n 0).length
              (fun j y => ∃ i, (passing pz n 0)[j]? = some i ∧ F i y) (GenAt prog w A.in4 a s4.gens.size s4.heap.objs.size (List.range s4.heap.objs.size) wr pz n F) →
            GenAt prog w A.in4 a s4.gens.size s4.heap.objs.size (List.range s4.heap.objs.size) wr pz n F 0 { s4 with gens := s4.gens.push gs, toks := tk, heap := h5 } →
            Q (.ref a) { s4 with gens := s4.gens.push gs, toks := tk, heap := h5 })) E s3) E s2) E s1) E s)
    (hs : ∀ x, genFold iter env x = pure x) :
    wpAny (model prog w) A (eval (.GeneratorExp elt [⟨tg, iter, ifs, 0⟩] scope pos) env) Q E s := by
  refine wpAny_GeneratorExp_make hco hclos hcell h0 hkind hroom (wpAny_mono h (fun xv s1 q1 => wpAny_mono q1 (fun it s2 q2 => ⟨q2.1, wpAny_mono q2.2 (fun code s3 q3 => wpAny_mono q3 (fun bi s4 q4 => ?_)
    fun _ _ e => e) fun _ _ e => e⟩) fun _ _ e => e) fun _ _ e => e) hs
  obtain ⟨I, fp, wr, n, P, St, pz, F, Lc, rfl, W, hgo, hst, hfp, hl4, hcw, hq, hQ⟩ := q4
  have hclt : cStatics < s4.heap.objs.size := let ⟨_, z, _⟩ := hl4; z.lt
  intro h2 hn2 hs2
  have hsz : h2.objs.size = s4.heap.objs.size + 1 := by rw [hs2.1, Heap.size_push]
  have keep2 : ∀ b o, s4.heap.get? b = some o → h2.get? b = some o := fun b o e => hs2.extBut b o (Nat.ne_of_lt (Heap.lt_size e)) (Heap.get?_push_of_some _ e)
  have hsub : ∀ b ∈ wr, b ∈ List.range s4.heap.objs.size := fun b hb => List.mem_range.mpr (hfp b ((W A hh).sub b hb))
  have haC : h2.objs.size ≠ s4.heap.objs.size := by rw [hsz]; exact Nat.succ_ne_self _
  have haf : h2.objs.size ∉ List.range s4.heap.objs.size := fun z => by have := List.mem_range.mp z; omega
  refine hQ _ _ _ _ rfl (by omega) (by rw [Heap.size_push]) (fun b o e => Heap.get?_push_of_some _ (keep2 b o e)) (WalksS.genexpQ (A := A.in4) hh _ _ _ _ wr pz n F haC haf hsub hroom (List.mem_range.mpr hclt) (Nat.ne_of_lt hclt) hcw) ?_
  refine fresh_at (A := A.in4) (cenv := genEnv scope cl s4.heap.objs.size code bi env) (m := fun y => if y = ".0" then some (.ref I) else none) hh (fun A2 hA => (W A2 hA).mono_fp fun b hb => List.mem_range.mpr (hfp b hb)) hgo hco (fun z => Nat.lt_irrefl _ (List.mem_range.mp z))
    (hq _ fun b o e => Heap.get?_push_of_some _ (keep2 b o e)) ⟨_, _, _, Heap.get?_push_size _ rfl, rfl, rfl, rfl⟩ (Array.getElem?_push_size ..) ((W A hh).frame _ _ _ hst fun b _ o e => Heap.get?_push_of_some _ (keep2 b o e)) (hn2.push _) (hl4.keeps fun b o e => Heap.get?_push_of_some _ (keep2 b o e))
end
end G3

set_option Elab.async false
set_option linter.all false
set_option maxRecDepth 100000
set_option maxHeartbeats 2000000
namespace G3
open PySem PySem.Spec PyProof.Rows L2
open GxR (TabB TabG Tabbed)
/-! ### plain expressions over the names lo (locals) and ce (captured) -/
abbrev Nm := List (Str × V)
def LoOk (m : Str → Option Value) (lo : Nm) : Prop := ∀ p ∈ lo, ∃ u, RelV p.2 u ∧ m p.1 = some u
def CeOk (cells : List (Str × Addr)) (h : Heap) (ce : Nm) : Prop := ∀ p ∈ ce, ∃ c u, cells.lookup p.1 = some c ∧ h.IsCell c (some u) ∧ RelV p.2 u
theorem CeOk.tok {cells : List (Str × Addr)} {h : Heap} {ce : Nm} (x : CeOk cells h ce) : CeOk cells h ce := x
/-- e gives v -/
def GV (prog : Program) (w : World) (scope : Scope) (lo ce : Nm) (e : Expr) (v : V) : Prop :=
  ∀ (cenv : Env) (A : Around) (E : Value → Shared → Prop) (s : Shared) (m : Str → Option Value) (Q : Value → Shared → Prop), cenv.scope = scope → s.heap.Ns cenv.locals m → LoOk m lo → CeOk cenv.cells s.heap ce →
    (∀ u k, RelV v u → Q u { s with toks := k }) → wpAny (model prog w) A (eval e cenv) Q E s
/-- the test e gives b -/
def GT (prog : Program) (w : World) (scope : Scope) (lo ce : Nm) (e : Expr) (b : Bool) : Prop :=
  ∀ (whole : Sem Value) (cenv : Env) (A : Around) (E : Value → Shared → Prop) (s : Shared) (m : Str → Option Value) (Q : Bool → Shared → Prop), cenv.scope = scope → s.heap.Ns cenv.locals m → LoOk m lo → CeOk cenv.cells s.heap ce →
    (∀ k, Q b { s with toks := k }) → wpAny (model prog w) A (isTrue e cenv whole) Q E s
/-- the same where e's own value is what is tested -/
def GT0 (prog : Program) (w : World) (scope : Scope) (lo ce : Nm) (e : Expr) (b : Bool) : Prop :=
  ∀ (cenv : Env) (A : Around) (E : Value → Shared → Prop) (s : Shared) (m : Str → Option Value) (Q : Bool → Shared → Prop), cenv.scope = scope → s.heap.Ns cenv.locals m → LoOk m lo → CeOk cenv.cells s.heap ce →
    (∀ k, Q b { s with toks := k }) → wpAny (model prog w) A (isTrue e cenv (eval e cenv)) Q E s
section
variable {prog : Program} {w : World} {scope : Scope} {lo ce : Nm} {a b : Expr} {pos : Pos}
theorem GT.plain {e : Expr} {c : Bool} (h : GT prog w scope lo ce e c) : GT0 prog w scope lo ce e c := fun cenv => h _ cenv
theorem gv_loc {x : Str} {v : V} (hk : scope.kind = .function) (hl : scope.names.lookup x = some .local) (hm : (x, v) ∈ lo) (hd : (x == ("__debug__" : Str)) = false := by decide) : GV prog w scope lo ce (.Name x pos) v := by
  intro cenv A E s m Q hs hn h1 h2 hQ
  obtain ⟨u, r, e⟩ := h1 _ hm
  have q : Q u s := hQ u s.toks r
  exact wpAny_Name (wpAny_loadName_local (by rw [hs]; exact hk) (show cenv.scope.names.lookup x = some .local by rw [hs]; exact hl) hn e q) hd
theorem gv_free {x : Str} {v : V} (hk : scope.kind = .function) (hl : scope.names.lookup x = some .free) (hm : (x, v) ∈ ce) (hd : (x == ("__debug__" : Str)) = false := by decide) (hcd : (x == ("__classdict__" : Str)) = false := by decide) :
    GV prog w scope lo ce (.Name x pos) v := by
  intro cenv A E s m Q hs hn h1 h2 hQ
  obtain ⟨c, u, e1, e2, r⟩ := h2 _ hm
  have q : Q u s := hQ u s.toks r
  exact wpAny_Name (wpAny_loadName_free (by rw [hs]; exact hk) (show cenv.scope.names.lookup x = some .free by rw [hs]; exact hl) e1 e2 q hcd) hd
theorem gv_str {x : Str} {j : Nat} : GV prog w scope lo ce (.Constant (.str x) j pos) (.str x) := fun cenv A E s m Q hs hn h1 h2 hQ => Calls.Constant_str (hQ _ _ ⟨_, rfl⟩)
theorem gv_int {x : Int} {j : Nat} : GV prog w scope lo ce (.Constant (.int x) j pos) (.int x) := fun cenv A E s m Q hs hn h1 h2 hQ => wpAny_Constant_int (hQ _ _ ⟨_, rfl⟩)
theorem gt_cmp {op : CmpOp} {x y : V} {c : Bool} (ha : GV prog w scope lo ce a x) (hb : GV prog w scope lo ce b y) (h1 : behindInMarks op b = false)
    (rule : ∀ (A : Around) (E : Value → Shared → Prop) (u v : Value) (s : Shared) (Q : Value → Shared → Prop), RelV x u → RelV y v → Q (.bool c) s → wpAny (model prog w) A (compareOp op u v) Q E s) : GT prog w scope lo ce (.Compare a [op] [b] pos) c := by
  intro whole cenv A E s m Q hs hn l1 l2 hQ
  refine wpAny_isTrue_Compare1 (ha cenv A E s m _ hs hn l1 l2 fun u k ru => hb cenv A E _ m _ hs hn l1 l2 fun v k2 rv => ?_) h1
  exact rule A E u v _ _ ru rv (wpAny_truthy_bool (hQ k2))
theorem gt_eqS {x y : Str} (ha : GV prog w scope lo ce a (.str x)) (hb : GV prog w scope lo ce b (.str y)) : GT prog w scope lo ce (.Compare a [.Eq] [b] pos) (decide (x = y)) :=
  gt_cmp ha hb (nobehind _ (by decide) (by decide)) fun A E u v s Q ru rv q => by
    obtain ⟨t, rfl⟩ := ru
    obtain ⟨t2, rfl⟩ := rv
    refine PySem.P.eq_str ?_
    have e : (x.cps.toList == y.cps.toList) = decide (x = y) := by
      by_cases h : x = y
      · subst h
        simp
      · rw [decide_eq_false h, beq_eq_false_iff_ne]
        exact fun z => h (by cases x; cases y; simp only [Str.mk.injEq]; exact Array.toList_inj.mp z)
    rw [e]
    exact q
theorem gt_ge {x y : Int} (ha : GV prog w scope lo ce a (.int x)) (hb : GV prog w scope lo ce b (.int y)) : GT prog w scope lo ce (.Compare a [.GtE] [b] pos) (decide (y ≤ x)) :=
  gt_cmp ha hb (nobehind _ (by decide) (by decide)) fun A E u v s Q ru rv q => by
    obtain ⟨t, rfl⟩ := ru
    obtain ⟨t2, rfl⟩ := rv
    exact PyProof.Rows.ge_int q
theorem gt_le {x y : Int} (ha : GV prog w scope lo ce a (.int x)) (hb : GV prog w scope lo ce b (.int y)) : GT prog w scope lo ce (.Compare a [.LtE] [b] pos) (decide (x ≤ y)) :=
  gt_cmp ha hb (nobehind _ (by decide) (by decide)) fun A E u v s Q ru rv q => by
    obtain ⟨t, rfl⟩ := ru
    obtain ⟨t2, rfl⟩ := rv
    exact PyProof.Rows.le_int q
theorem gt_and2 {c d : Bool} (ha : GT prog w scope lo ce a c) (hb : GT prog w scope lo ce b d) : GT prog w scope lo ce (.BoolOp .And [a, b] pos) (c && d) := by
  intro whole cenv A E s m Q hs hn l1 l2 hQ
  refine isTrue_and (ha.plain cenv A E s m _ hs hn l1 l2 fun k => ?_)
  cases c with
  | false => exact hQ k
  | true =>
    refine isTrue_and (hb.plain cenv A E _ m _ hs hn l1 l2 fun k2 => ?_)
    cases d with
    | false => exact hQ k2
    | true => exact isTrue_and_nil (hQ k2)
end
/-! ### the rows that are walked -/
/-- xs: the addresses of tuples that hold the rows -/
def Rows (K : PySem.W.Frag) (H : Hp) (xs : List V) (rows : List (List V)) : Prop := Paired (fun x r => ∃ t, x = .ref t ∧ SqT K H t r) xs rows
theorem Rows.get {K : PySem.W.Frag} {H : Hp} : ∀ {xs : List V} {rows : List (List V)} {i : Nat} {x : V}, Rows K H xs rows → xs[i]? = some x → ∃ t r, x = .ref t ∧ rows[i]? = some r ∧ SqT K H t r
  | _, _, _, _, .nil, e => by simp at e
  | _, _, 0, _, .cons r _, e => by
    have e2 := Option.some.inj e
    subst e2
    obtain ⟨t, h1, h2⟩ := r
    exact ⟨t, _, h1, rfl, h2⟩
  | _, _, i + 1, x, .cons _ t, e => by
    obtain ⟨t2, r, h1, h2, h3⟩ := Rows.get (i := i) (x := x) t (by simpa using e)
    exact ⟨t2, r, h1, by simpa using h2, h3⟩
theorem Rows.length {K : PySem.W.Frag} {H : Hp} {xs : List V} {rows : List (List V)} (h : Rows K H xs rows) : xs.length = rows.length := Paired.length h
/-! ### sums -/
theorem preSum_of {α : Type} (l : List α) (g : α → Int) (f : Nat → Int) (hf : ∀ j a, l[j]? = some a → f j = g a) : ∀ k, k ≤ l.length → preSum f k = ((l.take k).map g).sum
  | 0, _ => by simp [preSum]
  | k + 1, h => by
    have hk : k < l.length := h
    rw [preSum, preSum_of l g f hf k (Nat.le_of_lt hk), hf k _ (List.getElem?_eq_getElem hk), List.take_add_one, List.getElem?_eq_getElem hk, Option.toList_some, List.map_append, List.sum_append]
    simp
theorem preSum_all {α : Type} (l : List α) (g : α → Int) (f : Nat → Int) (hf : ∀ j a, l[j]? = some a → f j = g a) : preSum f l.length = (l.map g).sum := by
  rw [preSum_of l g f hf _ (Nat.le_refl _), List.take_length]
theorem range_rows {α : Type} (l : List α) (d : α) : l = (List.range l.length).map fun i => l.getD i d := by
  refine List.ext_getElem? fun i => ?_
  rw [List.getElem?_map]
  by_cases h : i < l.length
  · rw [List.getElem?_range h, List.getElem?_eq_getElem h]
    simp [List.getD, h]
  · rw [List.getElem?_eq_none (by omega), List.getElem?_eq_none (by simp; omega)]
    rfl
theorem passing_rows {α : Type} (l : List α) (d : α) (p : α → Bool) : (passing (fun i => p (l.getD i d)) l.length 0).map (fun i => l.getD i d) = l.filter p := by
  unfold passing
  rw [List.drop_zero]
  conv => rhs; rw [range_rows l d, List.filter_map]
  rfl
end G3

set_option Elab.async false
set_option linter.all false
set_option maxRecDepth 100000
set_option maxHeartbeats 400000
namespace G3
open PySem PySem.Spec PyProof.Rows L2
open GxR (TabB TabG Tabbed)
/-- the generator expression's own scope -/
structure GS (env : Env) (scope : Scope) : Prop where
  kind : scope.kind = .function
  co : scope.isCoroutine = false
  cell : ∀ y ∈ scope.names, y.2 ≠ .cell
  dot : scope.names.lookup (".0" : Str) = some NameKind.local
  free : (scope.names.all fun y => (y.2 != .free) || (env.kindOf y.1 == some .cell)) = true
/-- the captured names with their slots, as they stand -/
def Caught (X : Cx) (scope : Scope) (ces : List (Str × Nat)) : Prop :=
  ∀ p ∈ ces, X.N[p.2]? = some p.1 ∧ X.env.kindOf p.1 = some .cell ∧ (cloFrom X.env.cells scope.names []).lookup p.1 = some ((X.env.cells.lookup p.1).getD 0)
def slots (σ : L2.St) (ces : List (Str × Nat)) (cvs : List V) : Prop := ces.map (fun p => σ[p.2]?) = cvs.map fun v => some (some v)
def nmOf (ces : List (Str × Nat)) (cvs : List V) : Nm := (ces.map (·.1)).zip cvs
section
variable {X : Cx} {pins : List (Addr × Obj)} {σ : L2.St} {H : Hp} {s : Shared}
theorem caught_ok {scope : Scope} : ∀ {ces : List (Str × Nat)} {cvs : List V}, Caught X scope ces → slots σ ces cvs → Inv X pins σ H s → CeOk (cloFrom X.env.cells scope.names []) s.heap (nmOf ces cvs)
  | [], _, _, _, _ => fun p hp => by simp [nmOf] at hp
  | c :: ces, [], _, hs, _ => by simp [slots] at hs
  | c :: ces, v :: cvs, hc, hs, I => fun p hp => by
    simp only [slots, List.map_cons, List.cons.injEq] at hs
    rcases List.mem_cons.mp (show p ∈ (c.1, v) :: nmOf ces cvs from hp) with e | e
    · subst e
      obtain ⟨h1, h2, h3⟩ := hc c List.mem_cons_self
      obtain ⟨m, _, hl⟩ := I.loc
      obtain ⟨u, r, l⟩ := hl c.2 c.1 v h1 hs.1 (.inr (.inl h2))
      rcases l with ⟨k, _⟩ | ⟨_, a, e1, e2⟩
      · rw [h2] at k
        cases k
      · exact ⟨a, u, by rw [h3, e1] <;> rfl, e2, r⟩
    · exact caught_ok (fun q hq => hc q (List.mem_cons_of_mem _ hq)) hs.2 I p e

/-- the generator g over the rows, ready to be walked -/
def Ready (X : Cx) (pins : List (Addr × Obj)) (σ : L2.St) (H1 : Hp) (P : Addr) (vals : List V) (g : Addr) (s5 : Shared) : Prop :=
  ∃ (fp wr : List Addr) (G : Array GenState → Array GenState → Prop) (F : Nat → Value → Prop) (St : Nat → Shared → Prop),
    WalksS X.prog X.w X.A.in1 g fp wr G vals.length F St ∧ St 0 s5 ∧ (∀ b ∈ fp, b < s5.heap.objs.size) ∧
    (∀ j u, F j u → ∃ v, vals[j]? = some v ∧ RelV v u) ∧
    ∀ s', Moved wr G s5 s' → ∃ H2, Tabbed P H1 H2 ∧ Inv X pins σ H2 s'

theorem put3 {prog : Program} {w : World} {A : Around} {E : Value → Shared → Prop} {s : Shared} {cenv : Env} {xa xb xc : Str} {pa pb pc pt : Pos} {kt : Nat} {T : Addr} {va vb vc : Value} {m : Str → Option Value} {Q : Unit → Shared → Prop}
    (hh : A.handled = none) (hT : s.heap.IsTuple T #[va, vb, vc]) (ha : cenv.kindOf xa = some .local) (hb : cenv.kindOf xb = some .local) (hc : cenv.kindOf xc = some .local) (hab : xa ≠ xb) (hac : xa ≠ xc) (hbc : xb ≠ xc)
    (hp : (cenv.scope.kind == .class || (cenv.scope.kind == .module && cenv.locals != cenv.globals)) = false) (hn : s.heap.Ns cenv.locals m)
    (h : ∀ h' m' tk, h'.Ns cenv.locals m' → (m' xa = some va ∧ m' xb = some vb ∧ m' xc = some vc) → (∀ b o, b ≠ cenv.locals → s.heap.get? b = some o → h'.get? b = some o) → Q () { s with heap := h', toks := tk }) :
    wpAny (model prog w) A (assign (.Tuple [.Name xa pa, .Name xb pb, .Name xc pc] kt pt) cenv (.ref T)) Q E s := by
  refine wpAny_assign_Tuple hh hT rfl rfl fun h1 hx => ?_
  have old : ∀ b o, s.heap.get? b = some o → h1.get? b = some o := fun b o e => hx b o (Nat.ne_of_lt (Heap.lt_size e)) e
  show wpAny _ _ (do holding [vb, vc] (assign (.Name xa pa) cenv va); do holding [vc] (assign (.Name xb pb) cenv vb); do holding [] (assign (.Name xc pc) cenv vc); pure ()) _ _ _
  refine wpAny_bind (wpAny_holding (wpAny_assign_Name (wpAny_storeName_local ha (hn.keeps old) (fun h2 n2 b2 => ?_) hp)))
  refine wpAny_bind (wpAny_holding (wpAny_assign_Name (wpAny_storeName_local hb n2 (fun h3 n3 b3 => ?_) hp)))
  refine wpAny_bind (wpAny_holding (wpAny_assign_Name (wpAny_storeName_local hc n3 (fun h4 n4 b4 => ?_) hp)))
  refine wpAny_pure (h h4 _ _ n4 ⟨by simp [hab, hac], by simp [hbc], by simp⟩ fun b o hb e => ?_)
  exact b4.extBut b o hb (b3.extBut b o hb (b2.extBut b o hb (old b o e)))

theorem vals3 {r : List V} {vs : List Value} (h : Vals r vs) (h3 : r.length = 3) : ∃ ra rb rc va vb vc, r = [ra, rb, rc] ∧ vs = [va, vb, vc] ∧ RelV ra va ∧ RelV rb vb ∧ RelV rc vc := by
  cases h with
  | nil => cases h3
  | cons r1 h =>
    cases h with
    | nil => cases h3
    | cons r2 h =>
      cases h with
      | nil => cases h3
      | cons r3 h =>
        cases h with
        | nil => exact ⟨_, _, _, _, _, _, rfl, rfl, r1, r2, r3⟩
        | cons r4 h => simp at h3
theorem loOk3 {m : Str → Option Value} {xa xb xc : Str} {ra rb rc : V} {va vb vc : Value} (r1 : RelV ra va) (r2 : RelV rb vb) (r3 : RelV rc vc) (l1 : m xa = some va) (l2 : m xb = some vb) (l3 : m xc = some vc) : LoOk m ([xa, xb, xc].zip [ra, rb, rc]) := by
  show LoOk m [(xa, ra), (xb, rb), (xc, rc)]
  intro p hp
  rcases List.mem_cons.mp hp with z | hp
  · rw [z]
    exact ⟨va, r1, l1⟩
  rcases List.mem_cons.mp hp with z | hp
  · rw [z]
    exact ⟨vb, r2, l2⟩
  rcases List.mem_cons.mp hp with z | hp
  · rw [z]
    exact ⟨vc, r3, l3⟩
  · cases hp
theorem tup3 {h : Heap} {t : Addr} {r : List V} {vs : List Value} (hT : h.IsTuple t vs.toArray) (hv : Vals r vs) (h3 : r.length = 3) :
    ∃ va vb vc, h.IsTuple t #[va, vb, vc] ∧ ∀ (m : Str → Option Value) (xa xb xc : Str), m xa = some va → m xb = some vb → m xc = some vc → LoOk m ([xa, xb, xc].zip r) := by
  obtain ⟨ra, rb, rc, va, vb, vc, e1, e2, r1, r2, r3⟩ := vals3 hv h3
  rw [e2] at hT
  refine ⟨va, vb, vc, hT, fun m xa xb xc l1 l2 l3 => ?_⟩
  rw [e1]
  exact loOk3 r1 r2 r3 l1 l2 l3
theorem gen3 {c P : Addr} {elt iter : Expr} {xa xb xc : Str} {pa pb pc pt : Pos} {kt : Nat} {ifs : List Expr} {gpos : Pos} {scope : Scope} {ces : List (Str × Nat)} {Good : List V → List V → Prop} {pz : List V → List V → Bool} {val : List V → List V → V} {te : TE} {k : Nat}
    {Q' : Value → Shared → Prop} {R : List V → List (List V) → Hp → Prop}
    (hr : Room k X.A) (TB : TabB X.base X.mg c P) (hcode : X.env.code = .ref c) (S : GS X.env scope) (hi : PE X iter te) (hce : Caught X scope ces)
    (ha : scope.names.lookup xa = some .local) (hb : scope.names.lookup xb = some .local) (hc : scope.names.lookup xc = some .local) (hab : xa ≠ xb) (hac : xa ≠ xc) (hbc : xb ≠ xc)
    (h3 : ∀ cvs r, Good cvs r → r.length = 3)
    (ht : ∀ cvs r (cenv : Env) (A : Around) (E : Value → Shared → Prop) (s : Shared) (m : Str → Option Value) (Q : Bool → Shared → Prop), Good cvs r → cenv.scope = scope → s.heap.Ns cenv.locals m → LoOk m ([xa, xb, xc].zip r) → CeOk cenv.cells s.heap (nmOf ces cvs) →
      (∀ k, Q (pz cvs r) { s with toks := k }) → wpAny (model X.prog X.w) A (forIn ifs true fun c r => if r = true then do let ok ← isTrue c cenv (eval c cenv); pure (ForInStep.yield ok) else pure (ForInStep.yield r)) Q E s)
    (hv : ∀ cvs r, Good cvs r → pz cvs r = true → GV X.prog X.w scope ([xa, xb, xc].zip r) (nmOf ces cvs) elt (val cvs r))
    (hs : ∀ v, genFold iter X.env v = pure v) (I : Inv X pins σ H s)
    (h : te σ H fun v H1 => ∃ (yl : Addr) (xs : List V) (rows : List (List V)) (cvs : List V), v = .ref yl ∧ SqL X.K H1 yl xs ∧ Rows X.K H1 xs rows ∧ slots σ ces cvs ∧ (∀ r ∈ rows, Good cvs r) ∧ TabG H1 P ∧ R cvs rows H1)
    (hQ : ∀ cvs rows H1 g s5, R cvs rows H1 → Ready X pins σ H1 P ((rows.filter (pz cvs)).map (val cvs)) g s5 → Q' (.ref g) s5) :
    wpAny (model X.prog X.w) X.A (eval (.GeneratorExp elt [⟨.Tuple [.Name xa pa, .Name xb pb, .Name xc pc] kt pt, iter, ifs, 0⟩] scope gpos) X.env) Q' X.xe s := by
  have hfree : ∀ y ∈ scope.names, y.2 = .free → ∃ c, X.env.cells.lookup y.1 = some c := fun y hy e => by
    have h1 := List.all_eq_true.mp S.free y hy
    rw [e] at h1
    exact I.ok.has _ (.inl (by simpa using h1))
  refine made hr.hd S.co (closure_ok hfree) S.cell S.dot S.kind (by have := hr.dp; omega) ?_ hs
  refine thn (hi.run pins s σ H _ I h) fun xv s1 q => ?_
  obtain ⟨v, H1, I1, r1, yl, xs, rows, cvs, rfl, hyl, hrw, hsl, hgood, ⟨ps, hP, htr⟩, q1⟩ := q
  obtain rfl : xv = Value.ref yl := r1
  obtain ⟨its, rv, hl, hz⟩ := I1.list hyl
  have hIL := hl.isList
  have hlen : its.length = rows.length := by rw [← rv.length, hrw.length]
  have hlen2 : its.toArray.size = rows.length := by rw [List.size_toArray, hlen]
  have ce1 := caught_ok hce hsl I1
  have hat : ∀ (i : Nat) (v : Value), its.toArray[i]? = some v → ∃ t r, v = .ref t ∧ rows[i]? = some r ∧ SqT X.K H1 t r := fun i v hv => by
    have hv2 : its[i]? = some v := by simpa using hv
    have hi2 : i < its.length := (List.getElem?_eq_some_iff.mp hv2).1
    have hi3 : i < xs.length := by rw [rv.length]; exact hi2
    obtain ⟨u, hu, ru⟩ := rv.get (List.getElem?_eq_getElem hi3)
    obtain ⟨t, r, e1, e2, e3⟩ := hrw.get (List.getElem?_eq_getElem hi3)
    rw [hv2] at hu
    cases hu
    rw [e1] at ru
    exact ⟨t, r, ru, e2, e3⟩
  refine wpAny_pyIter_list hIL ?_
  generalize ho : ({ cls := .type "list_iterator", data := .fields #[.ref yl, .int 0 0] } : Obj) = o
  have hitr : (s1.heap.push o).IsListIter s1.heap.objs.size yl 0 := by
    subst ho
    exact ⟨_, Heap.get?_push_size _ rfl, rfl, rfl⟩
  have hylt : yl < s1.heap.objs.size := let ⟨_, e, _⟩ := _root_.id hIL; Heap.lt_size e
  have hPs : s1.heap.get? P = some { cls := .none, data := .fields ps } := I1.hok P _ hP
  have hPlt : P < s1.heap.objs.size := Heap.lt_size hPs
  have hP2 : (s1.heap.push o).get? P = some { cls := .none, data := .fields ps } := Heap.get?_push_of_some _ hPs
  have cd : PySem.W.CodeHd (s1.heap.push o) c P := TB.code.keeps fun b u e => Heap.get?_push_of_some _ (I1.bk b u e)
  have lim2 : (s1.heap.push o).NoLimit := I1.nolimit.push o
  have sz2 : (s1.heap.push o).objs.size = s1.heap.objs.size + 1 := Heap.size_push ..
  refine ⟨lim2, ?_⟩
  have hcP : cStatics ≠ P := fun e => by
    obtain ⟨_, hns, _⟩ := I1.nolimit
    obtain ⟨o', es, ep, ho, hd, _⟩ := hns
    rw [e, hPs] at ho
    cases ho
    cases hd
  have hcl : cStatics < s1.heap.objs.size := let ⟨_, hns, _⟩ := I1.nolimit; hns.lt
  have hylP : yl ≠ P := fun z => by
    obtain ⟨_, e, hc1, _, hd1⟩ := _root_.id hIL
    rw [z, hPs] at e
    cases e
    cases hd1
  -- what the code's coming leaves: h3, the table's entries ps'
  suffices cont : ∀ (code : Value) (h3 : Heap) (tk : Nat) (ps' : Array Value), Heap.ExtBut P (s1.heap.push o) h3 → (s1.heap.push o).objs.size ≤ h3.objs.size → h3.get? P = some { cls := .none, data := .fields ps' } → (∃ more, ps' = ps ++ more) → TriplesOk ps'.toList →
      wpAny (model X.prog X.w) X.A (builtinsFor X.env.globals X.env.builtins) (fun bi s4 => ∃ Ia fp wr n Pq St pq F Lc, Value.ref s1.heap.objs.size = .ref Ia ∧ (∀ A' : Around, A'.handled = none → Walks X.prog X.w A' Ia fp wr n Pq St) ∧ Still X.prog X.w (.Tuple [.Name xa pa, .Name xb pb, .Name xc pc] kt pt) Ia St ∧ St 0 s4.heap ∧ (∀ b ∈ fp, b < s4.heap.objs.size) ∧ s4.heap.NoLimit ∧ cStatics ∉ wr ∧
          (∀ href : Heap, (∀ b o, s4.heap.get? b = some o → href.get? b = some o) →
            Body X.prog X.w (genEnv scope (cloFrom X.env.cells scope.names []) s4.heap.objs.size code bi X.env) (.Tuple [.Name xa pa, .Name xb pb, .Name xc pc] kt pt) ifs elt (List.range s4.heap.objs.size) wr Pq pq F Lc href) ∧
          (∀ a h5 tk gs, gs.bare = true → s4.heap.objs.size < a → h5.objs.size = a + 1 → (∀ b o, s4.heap.get? b = some o → h5.get? b = some o) →
            WalksS X.prog X.w X.A.in4 a (a :: s4.heap.objs.size :: List.range s4.heap.objs.size) (s4.heap.objs.size :: wr) (GenOnlyQ s4.gens.size) (passing pq n 0).length
              (fun j y => ∃ i, (passing pq n 0)[j]? = some i ∧ F i y) (GenAt X.prog X.w X.A.in4 a s4.gens.size s4.heap.objs.size (List.range s4.heap.objs.size) wr pq n F) →
            GenAt X.prog X.w X.A.in4 a s4.gens.size s4.heap.objs.size (List.range s4.heap.objs.size) wr pq n F 0 { s4 with gens := s4.gens.push gs, toks := tk, heap := h5 } →
            Q' (.ref a) { s4 with gens := s4.gens.push gs, toks := tk, heap := h5 })) X.xe { s1 with heap := h3, toks := tk } by
    cases hf : codeAmong gpos ps.toList with
    | none =>
      refine wpAny_genexprCodeX hcode (cd.code hP2 htr) (cd.tab hP2) hf fun c' h' tk hx hge hlt hco' _ htab' _ => ?_
      obtain ⟨o1, vs, f1, tf, fl, tg, inF, tx, tt, op, _, _, _, _, _, _, _, _, _, htr2, _⟩ := hco'
      exact cont _ h' tk _ hx (Nat.le_trans hge (Nat.le_of_lt hlt)) htab'.2 ⟨_, rfl⟩ htr2
    | some cv =>
      refine wpAny_genexprCode_hit hcode (cd.code hP2 htr) hf ?_
      exact cont cv (s1.heap.push o) s1.toks ps (Heap.ExtBut.refl _ _) (Nat.le_refl _) hP2 ⟨#[], by simp⟩ htr
  intro code h3' tk ps' hx hsz hP3 hmore ht3
  obtain ⟨bm, ob, e1, e2, e3, e4, e5, e6, e7, e8⟩ := TB.bm
  have keep3 : ∀ b u, b ≠ P → s1.heap.get? b = some u → h3'.get? b = some u := fun b u hb e => hx b u hb (Heap.get?_push_of_some _ e)
  refine wpAny_builtinsFor (m := X.mg) (by rw [I1.ok.glob]; exact ((I1.mod.glob.keeps I1.bk).push o).extBut hx TB.gP) e1 e2 (keep3 _ _ e4 (I1.bk _ _ e5)) e6 e7 e8 ?_
  have hIL3 : h3'.IsList yl its.toArray := by
    obtain ⟨ob, e, r⟩ := _root_.id hIL
    exact ⟨ob, keep3 _ _ hylP e, r⟩
  have hItr3 : h3'.IsListIter s1.heap.objs.size yl 0 := hitr.at fun u e => hx _ u (Nat.ne_of_gt hPlt) e
  have tupP : ∀ {t : Addr} {r : List V}, SqT X.K H1 t r → ∃ vs : List Value, Vals r vs ∧ t < s1.heap.objs.size ∧ h3'.IsTuple t vs.toArray := fun {t r} q => by
    obtain ⟨vs, rvs, ht1, _⟩ := I1.tuple q
    obtain ⟨ob, g1, g2, g3⟩ := _root_.id ht1
    refine ⟨vs, rvs, Heap.lt_size g1, ob, keep3 _ _ (fun z => ?_) g1, g2, g3⟩
    rw [z, hPs] at g1
    cases g1
    cases g2
  have cellP : CeOk (cloFrom X.env.cells scope.names []) h3' (nmOf ces cvs) := fun p hp => by
    obtain ⟨a, u, f1, ⟨ob, f2, f3⟩, f4⟩ := ce1 p hp
    refine ⟨a, u, f1, ⟨ob, keep3 _ _ (fun z => ?_) f2, f3⟩, f4⟩
    rw [z, hPs] at f2
    cases f2
    cases f3
  refine ⟨s1.heap.objs.size, [s1.heap.objs.size, yl], [s1.heap.objs.size], its.toArray.size, (fun i v => its.toArray[i]? = some v), (fun i h => h.IsListIter s1.heap.objs.size yl i ∧ h.IsList yl its.toArray), (fun i => pz cvs (rows.getD i [])),
    (fun i y => ∃ r, rows[i]? = some r ∧ RelV (val cvs r) y), (fun i m => ∃ r, rows[i]? = some r ∧ LoOk m ([xa, xb, xc].zip r)), rfl, (fun A' hA => Walks.list hA _ _ (Nat.ne_of_lt hylt) _), ?_, ⟨hItr3, hIL3⟩, ?_, lim2.extBut hx hcP, ?_, ?_, ?_⟩
  · intro A' i v s Q E st hQ
    obtain ⟨⟨oi, g1, g2, g3⟩, _⟩ := st
    exact go_of g1 g2 g3 (by decide) hQ
  · intro b hb
    have e9 : s1.heap.objs.size + 1 ≤ h3'.objs.size := by rw [← sz2]; exact hsz
    have hb2 : b ≤ s1.heap.objs.size := by
      rcases List.mem_cons.mp hb with z | z
      · exact Nat.le_of_eq z
      · rcases List.mem_cons.mp z with z | z
        · rw [z]
          exact Nat.le_of_lt hylt
        · cases z
    exact Nat.lt_of_lt_of_le (Nat.lt_succ_of_le hb2) e9
  · intro z
    rcases List.mem_cons.mp z with z | z
    · exact Nat.ne_of_lt hcl z
    · cases z
  · intro href hhref
    have keepR : ∀ {s₂ : Shared} {b : Addr} {u : Obj}, (∀ b ∈ List.range h3'.objs.size, b ∉ [s1.heap.objs.size] → ∀ o, href.get? b = some o → s₂.heap.get? b = some o) → b < s1.heap.objs.size → h3'.get? b = some u → s₂.heap.get? b = some u := fun {s₂ b u} hk hb e =>
      hk b (List.mem_range.mpr (Heap.lt_size e)) (fun z => by rw [List.mem_singleton.mp z] at hb; exact Nat.lt_irrefl _ hb) u (hhref b u e)
    have gk : (genEnv scope (cloFrom X.env.cells scope.names []) h3'.objs.size code builtinsNs X.env).scope = scope := rfl
    have ceK : ∀ {s₂ : Shared}, (∀ b ∈ List.range h3'.objs.size, b ∉ [s1.heap.objs.size] → ∀ o, href.get? b = some o → s₂.heap.get? b = some o) → CeOk (cloFrom X.env.cells scope.names []) s₂.heap (nmOf ces cvs) := fun {s₂} hk p hp => by
      obtain ⟨a, u, f1, ⟨ob, f2, f3⟩, f4⟩ := ce1 p hp
      obtain ⟨a', u', f1', ⟨ob', f2', f3'⟩, f4'⟩ := cellP p hp
      rw [f1] at f1'
      cases f1'
      exact ⟨a, u', f1, ⟨ob', keepR hk (Heap.lt_size f2) f2', f3'⟩, f4'⟩
    refine ⟨fun A' E' i v s₂ m₂ Q hA hPv hn hk hQ => ?_, fun A' E' i s₂ m₂ hA hn hL hk => ?_, fun A' E' i s₂ m₂ hA hp hn hL hk => ?_⟩
    · obtain ⟨t, r, rfl, hri, hT⟩ := hat i v hPv
      obtain ⟨vs, rvs, htl, hTu⟩ := tupP hT
      have hl3 : r.length = 3 := h3 cvs r (hgood r (List.mem_of_getElem? hri))
      obtain ⟨va, vb, vc, ⟨ob, g1, g2⟩, hlo⟩ := tup3 hTu rvs hl3
      exact put3 hA ⟨ob, keepR hk htl g1, g2⟩ ha hb hc hab hac hbc (by rw [gk, S.kind] <;> rfl) hn fun h' m' tk n' lm kk => hQ h' m' tk n' ⟨r, hri, hlo m' _ _ _ lm.1 lm.2.1 lm.2.2⟩ kk
    · obtain ⟨r, hri, lo⟩ := hL
      have er : rows.getD i [] = r := by rw [List.getD_eq_getElem?_getD, hri] <;> rfl
      refine ht cvs r _ A' E' s₂ m₂ _ (hgood r (List.mem_of_getElem? hri)) gk hn lo (ceK hk) fun k' => ⟨by rw [er], GxR.keeps_tok _ _⟩
    · obtain ⟨r, hri, lo⟩ := hL
      have er : rows.getD i [] = r := by rw [List.getD_eq_getElem?_getD, hri] <;> rfl
      have hp2 : pz cvs r = true := by
        have hp' : pz cvs (rows.getD i []) = true := hp
        rw [er] at hp'
        exact hp'
      exact hv cvs r (hgood r (List.mem_of_getElem? hri)) hp2 _ A' E' s₂ m₂ _ gk hn lo (ceK hk) fun u k' ru => ⟨⟨r, hri, ru⟩, GxR.keeps_tok _ _⟩
  · intro g h5 tk5 gs hgb hag hsz5 hk5 W5 hgat
    have hn5 : its.toArray.size = rows.length := hlen2
    rw [hn5] at W5 hgat
    have hpl : (passing (fun i => pz cvs (rows.getD i [])) rows.length 0).map (fun i => rows.getD i []) = rows.filter (pz cvs) := passing_rows rows [] (pz cvs)
    have hpn : (passing (fun i => pz cvs (rows.getD i [])) rows.length 0).length = ((rows.filter (pz cvs)).map (val cvs)).length := by rw [List.length_map, ← hpl, List.length_map]
    rw [hpn] at W5
    refine hQ cvs rows H1 g _ q1 ⟨_, _, _, _, _, W5.in4_1, hgat, ?_, ?_, fun s' hm => ?_⟩
    · intro b hb
      show b < h5.objs.size
      have e5 : h5.objs.size = g + 1 := hsz5
      have h8 : h3'.objs.size < g := hag
      rw [e5]
      rcases List.mem_cons.mp hb with z | z
      · rw [z]
        exact Nat.lt_succ_self g
      · rcases List.mem_cons.mp z with z | z
        · rw [z]
          exact Nat.lt_succ_of_lt h8
        · exact Nat.lt_succ_of_lt (Nat.lt_trans (List.mem_range.mp z) h8)
    · intro j u hu
      obtain ⟨i, hij, r, hri, ru⟩ := hu
      refine ⟨val cvs r, ?_, ru⟩
      have e : ((passing (fun i => pz cvs (rows.getD i [])) rows.length 0).map (fun i => rows.getD i []))[j]? = some r := by
        rw [List.getElem?_map, hij]
        show some (rows.getD i []) = some r
        rw [List.getD_eq_getElem?_getD, hri] <;> rfl
      rw [hpl] at e
      rw [List.getElem?_map, e] <;> rfl
    · obtain ⟨more, em⟩ := hmore
      have nwr : ∀ b u, s1.heap.get? b = some u → b ∉ h3'.objs.size :: [s1.heap.objs.size] := fun b u e hb => by
        have hl := Heap.lt_size e
        rcases List.mem_cons.mp hb with z | z
        · rw [z] at hl
          have h9 : (h3'.objs.size : Nat) < s1.heap.objs.size := hl
          omega
        · rcases List.mem_cons.mp z with z | z
          · rw [z] at hl
            exact Nat.lt_irrefl _ hl
          · cases z
      have J := GxR.inv_tab (more := more) (h' := s'.heap) (g' := s'.gens) (d' := s'.drawn) (t' := s'.toks) I1 hP (fun b u hb e => hm.heap b u (nwr b u e) (hk5 b u (keep3 b u hb e)))
        (by rw [← em]; exact hm.heap P _ (nwr P _ hPs) (hk5 P _ hP3)) (AllBare.movedS (I1.bare.push hgb) hm)
      rw [GxR.sh_eta s1 s' hm.os] at J
      exact ⟨upd H1 P (.tbl (ps ++ more)), ⟨⟨ps ++ more, upd_same, by rw [← em]; exact ht3⟩, fun b hb => upd_ne hb⟩, J⟩
/-- sum(elt for xa, xb, xc in te if ..) -/
def tSumG (K : PySem.W.Frag) (P : Addr) (ces : List (Str × Nat)) (Good : List V → List V → Prop) (pz : List V → List V → Bool) (val : List V → List V → Int) (te : TE) : TE := fun σ H Q => te σ H fun v H1 =>
  ∃ (yl : Addr) (xs : List V) (rows : List (List V)) (cvs : List V), v = .ref yl ∧ SqL K H1 yl xs ∧ Rows K H1 xs rows ∧ slots σ ces cvs ∧ (∀ r ∈ rows, Good cvs r) ∧ TabG H1 P ∧
    ∀ H2, Tabbed P H1 H2 → Q (.int ((rows.filter (pz cvs)).map (val cvs)).sum) H2
theorem pe_sumG {c P : Addr} {elt iter : Expr} {xa xb xc : Str} {pa pb pc pt : Pos} {kt : Nat} {ifs : List Expr} {p pos gpos : Pos} {scope : Scope} {ces : List (Str × Nat)} {Good : List V → List V → Prop} {pz : List V → List V → Bool} {val : List V → List V → Int} {te : TE} {k : Nat}
    (hr : Room k X.A) (hg : Gl X "sum") (hm : X.mg "sum" = none) (TB : TabB X.base X.mg c P) (hcode : X.env.code = .ref c) (S : GS X.env scope) (hi : PE X iter te) (hce : Caught X scope ces)
    (ha : scope.names.lookup xa = some .local) (hb : scope.names.lookup xb = some .local) (hc : scope.names.lookup xc = some .local) (hab : xa ≠ xb) (hac : xa ≠ xc) (hbc : xb ≠ xc)
    (h3 : ∀ cvs r, Good cvs r → r.length = 3)
    (ht : ∀ cvs r (cenv : Env) (A : Around) (E : Value → Shared → Prop) (s : Shared) (m : Str → Option Value) (Q : Bool → Shared → Prop), Good cvs r → cenv.scope = scope → s.heap.Ns cenv.locals m → LoOk m ([xa, xb, xc].zip r) → CeOk cenv.cells s.heap (nmOf ces cvs) →
      (∀ k, Q (pz cvs r) { s with toks := k }) → wpAny (model X.prog X.w) A (forIn ifs true fun c r => if r = true then do let ok ← isTrue c cenv (eval c cenv); pure (ForInStep.yield ok) else pure (ForInStep.yield r)) Q E s)
    (hv : ∀ cvs r, Good cvs r → pz cvs r = true → GV X.prog X.w scope ([xa, xb, xc].zip r) (nmOf ces cvs) elt (.int (val cvs r)))
    (hs : ∀ v, genFold iter X.env v = pure v)
    (he : starEach [.GeneratorExp elt [⟨.Tuple [.Name xa pa, .Name xb pb, .Name xc pc] kt pt, iter, ifs, 0⟩] scope gpos] X.env = (false, eval (.GeneratorExp elt [⟨.Tuple [.Name xa pa, .Name xb pb, .Name xc pc] kt pt, iter, ifs, 0⟩] scope gpos) X.env) :: starEach [] X.env := by rfl) :
    PE X (.Call (.Name "sum" p) [.GeneratorExp elt [⟨.Tuple [.Name xa pa, .Name xb pb, .Name xc pc] kt pt, iter, ifs, 0⟩] scope gpos] [] pos) (tSumG X.K P ces Good pz val te) := by
  refine ⟨fun pins s σ H Q I h => ?_⟩
  refine wpAny_Call_Name_kw (ld_blt I hg hm boot_sum ?_)
  refine PyProof.Rows.callWith_builtin1 ?_ he (by rfl)
  rw [he]
  show wpAny _ _ (spliced ((false, eval (.GeneratorExp elt [⟨.Tuple [.Name xa pa, .Name xb pb, .Name xc pc] kt pt, iter, ifs, 0⟩] scope gpos) X.env) :: backTo pos (starEach [] X.env))) _ _ s
  refine Calls.spliced_cons (gen3 (val := fun cvs r => .int (val cvs r)) (R := fun cvs rows H1 => ∀ H2, Tabbed P H1 H2 → Q (.int ((rows.filter (pz cvs)).map (val cvs)).sum) H2) hr TB hcode S hi hce ha hb hc hab hac hbc h3 ht hv hs I h fun cvs rows H1 g s5 hR hG => ?_)
  obtain ⟨fp, wr, G, F, St, W, hst, hfp, hF, hI⟩ := hG
  refine Calls.spliced_nil ?_
  refine call_sum_walkAnyS (W.self 0 _ _ _ hst ⟨g, fp, wr, G, _, F, St, (fun j => ((rows.filter (pz cvs)).map (val cvs)).getD j 0), rfl, W, hst, hfp, fun j u hu => ?_, fun s' t' hmv => ?_⟩)
  · obtain ⟨v, e, r⟩ := hF j u hu
    rw [List.getElem?_map] at e
    obtain ⟨row, e1, e2⟩ := Option.map_eq_some_iff.mp e
    subst e2
    obtain ⟨t, rfl⟩ := r
    refine ⟨t, ?_⟩
    show Value.int _ _ = Value.int (((rows.filter (pz cvs)).map (val cvs)).getD j 0) t
    rw [List.getD_eq_getElem?_getD, List.getElem?_map, e1] <;> rfl
  · obtain ⟨H2, hT, J⟩ := hI s' hmv
    have es : preSum (fun j => ((rows.filter (pz cvs)).map (val cvs)).getD j 0) ((rows.filter (pz cvs)).map fun r => V.int (val cvs r)).length = ((rows.filter (pz cvs)).map (val cvs)).sum := by
      have e := preSum_all ((rows.filter (pz cvs)).map (val cvs)) (fun z => z) (fun j => ((rows.filter (pz cvs)).map (val cvs)).getD j 0) fun j a h => by
        show List.getD _ j 0 = a
        rw [List.getD_eq_getElem?_getD, h] <;> rfl
      rw [List.length_map] at e
      rw [List.length_map, e, List.map_id']
    rw [es]
    exact ⟨.int _, H2, J, ⟨t', rfl⟩, hR H2 hT⟩
end
end G3

set_option Elab.async false
set_option linter.all false
set_option maxRecDepth 100000
set_option maxHeartbeats 400000
namespace My
open PySem PySem.Spec PyProof.Rows L2
open GxR (TabB TabG Tabbed)
/-! ### heaps: all that is tracked stays, but tables may grow -/
def Sm (H H' : Hp) : Prop := ∀ b o, H b = some o → H' b = some o ∨ ∃ ps ps' : Array Value, o = .tbl ps ∧ H' b = some (.tbl ps') ∧ TriplesOk ps'.toList
theorem Sm.refl (H : Hp) : Sm H H := fun _ _ h => .inl h
theorem Sm.trans {H H1 H2 : Hp} (a : Sm H H1) (b : Sm H1 H2) : Sm H H2 := fun c o h => by
  rcases a c o h with e | ⟨ps, ps', e1, e2, e3⟩
  · exact b c o e
  · rcases b c _ e2 with e | ⟨qs, qs', f1, f2, f3⟩
    · exact .inr ⟨ps, ps', e1, e, e3⟩
    · exact .inr ⟨ps, qs', e1, f2, f3⟩
theorem Sm.new {H : Hp} {p : Addr} {o : HO} (h : H p = none) : Sm H (upd H p o) := fun b u e => .inl (by rw [upd_ne (ne_of_none e h)]; exact e)
theorem Sm.mut {H H' : Hp} {p : Addr} {o : HO} (S : Sm H H') (h : H p = none) : Sm H (upd H' p o) := fun b u e => by
  rw [upd_ne (ne_of_none e h)]
  exact S b u e
theorem Sm.tab {H H' : Hp} {P : Addr} (t : TabG H P) (h : Tabbed P H H') : Sm H H' := fun b o e => by
  by_cases hb : b = P
  · subst hb
    obtain ⟨ps, e1, _⟩ := t
    obtain ⟨⟨ps', e2, e3⟩, _⟩ := h
    rw [e1] at e
    exact .inr ⟨ps, ps', (Option.some.inj e).symm, e2, e3⟩
  · exact .inl (by rw [h.2 b hb]; exact e)
theorem Sm.at {H H' : Hp} (S : Sm H H') {b : Addr} {o : HO} (e : H b = some o) (n : ∀ ps, o ≠ .tbl ps) : H' b = some o := by
  rcases S b o e with h | ⟨ps, _, h, _⟩
  · exact h
  · exact (n ps h).elim
theorem Sm.lst {H H' : Hp} (S : Sm H H') {b : Addr} {xs : List V} (e : H b = some (.lst xs)) : H' b = some (.lst xs) := S.at e fun _ z => by cases z
theorem Sm.tup {H H' : Hp} (S : Sm H H') {b : Addr} {xs : List V} (e : H b = some (.tup xs)) : H' b = some (.tup xs) := S.at e fun _ z => by cases z
theorem Sm.free {H H' : Hp} (S : Sm H H') {p : Addr} (h : H' p = none) : H p = none := by
  cases e : H p with
  | none => rfl
  | some o =>
    rcases S p o e with z | ⟨ps, ps', _, z, _⟩ <;> (rw [h] at z; cases z)
theorem Sm.tabG {H H' : Hp} (S : Sm H H') {P : Addr} (t : TabG H P) : TabG H' P := by
  obtain ⟨ps, e, k⟩ := t
  rcases S P _ e with z | ⟨qs, qs', _, z, z2⟩
  · exact ⟨ps, z, k⟩
  · exact ⟨qs', z, z2⟩
theorem Sm.sql {K : PySem.W.Frag} {H H' : Hp} {a : Addr} {xs : List V} (S : Sm H H') (h : SqL K H a xs) : SqL K H' a xs := by
  rcases h with (h | ⟨o, h⟩) | h
  · exact .inl (.inl (S.lst h))
  · exact .inl (.inr ⟨o, S.at h fun _ z => by cases z⟩)
  · exact .inr h
theorem Sm.sqt {K : PySem.W.Frag} {H H' : Hp} {a : Addr} {xs : List V} (S : Sm H H') (h : SqT K H a xs) : SqT K H' a xs := by
  rcases h with (h | ⟨o, h⟩) | h
  · exact .inl (.inl (S.tup h))
  · exact .inl (.inr ⟨o, S.at h fun _ z => by cases z⟩)
  · exact .inr h
/-! ### what a reading evaluates to -/
section
variable {σ : L2.St} {H : Hp} {v x y : V} {ta tb te : TE}
/-- the value v, whatever else has come -/
def Ev (te : TE) (σ : L2.St) (H : Hp) (v : V) : Prop := ∀ H1, Sm H H1 → ∀ Q : VK, (∀ H2, Sm H1 H2 → Q v H2) → te σ H1 Q
/-- a value of which P holds -/
def EvP (te : TE) (σ : L2.St) (H : Hp) (P : V → Hp → Prop) : Prop := ∀ H1, Sm H H1 → ∀ Q : VK, (∀ v H2, Sm H1 H2 → P v H2 → Q v H2) → te σ H1 Q
def EvT (tt : TT) (σ : L2.St) (H : Hp) (b : Bool) : Prop := ∀ H1, Sm H H1 → ∀ Q : Bool → Hp → Prop, (∀ H2, Sm H1 H2 → Q b H2) → tt σ H1 Q
def EvA (ta : TA) (σ : L2.St) (H : Hp) (P : List V → Hp → Prop) : Prop := ∀ H1, Sm H H1 → ∀ Q : List V → Hp → Prop, (∀ vs H2, Sm H1 H2 → P vs H2 → Q vs H2) → ta σ H1 Q
def Stab (P : V → Hp → Prop) : Prop := ∀ v H H', Sm H H' → P v H → P v H'
theorem Ev.mono {H' : Hp} (h : Ev te σ H v) (S : Sm H H') : Ev te σ H' v := fun H1 S1 => h H1 (S.trans S1)
theorem EvP.mono {H' : Hp} {P : V → Hp → Prop} (h : EvP te σ H P) (S : Sm H H') : EvP te σ H' P := fun H1 S1 => h H1 (S.trans S1)
theorem EvT.mono {H' : Hp} {tt : TT} {b : Bool} (h : EvT tt σ H b) (S : Sm H H') : EvT tt σ H' b := fun H1 S1 => h H1 (S.trans S1)
theorem EvA.mono {H' : Hp} {ta : TA} {P : List V → Hp → Prop} (h : EvA ta σ H P) (S : Sm H H') : EvA ta σ H' P := fun H1 S1 => h H1 (S.trans S1)
theorem Ev.p (h : Ev te σ H v) : EvP te σ H fun u _ => u = v := fun H1 S Q q => h H1 S Q fun H2 S2 => q v H2 S2 rfl
theorem Ev.to {v' : V} (h : Ev te σ H v) (e : v = v') : Ev te σ H v' := e ▸ h
theorem EvT.to {tt : TT} {b b' : Bool} (h : EvT tt σ H b) (e : b = b') : EvT tt σ H b' := e ▸ h
theorem ev_var {i : Nat} (h : σ[i]? = some (some v)) : Ev (tVar i) σ H v := fun H1 S Q q => ⟨v, h, q H1 (Sm.refl _)⟩
theorem ev_c : Ev (tC v) σ H v := fun H1 S Q q => q H1 (Sm.refl _)
theorem ev_opI0 {g : Int → Int → V} {i j : Int} (ha : Ev ta σ H (.int i)) (hb : Ev tb σ H (.int j)) : Ev (tOp (rI0 g) ta tb) σ H (g i j) := fun H1 S Q q =>
  ha H1 S _ fun H2 S2 => hb H2 (S.trans S2) _ fun H3 S3 => ⟨i, j, rfl, rfl, q H3 (S2.trans S3)⟩
theorem ev_opI {C : Int → Int → Prop} {g : Int → Int → V} {i j : Int} (ha : Ev ta σ H (.int i)) (hb : Ev tb σ H (.int j)) (hc : C i j) : Ev (tOp (rI C g) ta tb) σ H (g i j) := fun H1 S Q q =>
  ha H1 S _ fun H2 S2 => hb H2 (S.trans S2) _ fun H3 S3 => ⟨i, j, rfl, rfl, hc, q H3 (S2.trans S3)⟩
theorem ev_un {g : Int → V} {i : Int} (ha : Ev ta σ H (.int i)) : Ev (tUn (rU g) ta) σ H (g i) := fun H1 S Q q => ha H1 S _ fun H2 S2 => ⟨i, rfl, q H2 S2⟩
theorem ev_eq (ha : Ev ta σ H x) (hb : Ev tb σ H y) (hs : scal x y = true) : Ev (tOp rEq ta tb) σ H (.bl (decide (x = y))) := fun H1 S Q q =>
  ha H1 S _ fun H2 S2 => hb H2 (S.trans S2) _ fun H3 S3 => ⟨hs, q H3 (S2.trans S3)⟩
theorem ev_ne (ha : Ev ta σ H x) (hb : Ev tb σ H y) (hs : scal x y = true) : Ev (tOp rNe ta tb) σ H (.bl (!decide (x = y))) := fun H1 S Q q =>
  ha H1 S _ fun H2 S2 => hb H2 (S.trans S2) _ fun H3 S3 => ⟨hs, q H3 (S2.trans S3)⟩
theorem ev_eqI {i j : Int} (ha : Ev ta σ H (.int i)) (hb : Ev tb σ H (.int j)) : Ev (tOp rEq ta tb) σ H (.bl (decide (i = j))) :=
  (ev_eq ha hb rfl).to (by rw [show decide (V.int i = V.int j) = decide (i = j) from decide_eq_decide.mpr ⟨fun z => V.int.inj z, fun z => by rw [z]⟩])
theorem ev_neI {i j : Int} (ha : Ev ta σ H (.int i)) (hb : Ev tb σ H (.int j)) : Ev (tOp rNe ta tb) σ H (.bl (!decide (i = j))) :=
  (ev_ne ha hb rfl).to (by rw [show decide (V.int i = V.int j) = decide (i = j) from decide_eq_decide.mpr ⟨fun z => V.int.inj z, fun z => by rw [z]⟩])
theorem ev_eqS {i j : Str} (ha : Ev ta σ H (.str i)) (hb : Ev tb σ H (.str j)) : Ev (tOp rEq ta tb) σ H (.bl (decide (i = j))) :=
  (ev_eq ha hb rfl).to (by rw [show decide (V.str i = V.str j) = decide (i = j) from decide_eq_decide.mpr ⟨fun z => V.str.inj z, fun z => by rw [z]⟩])
theorem ev_ixL {K : PySem.W.Frag} {a : Addr} {xs : List V} {i : Int} (ha : Ev ta σ H (.ref a)) (hb : Ev tb σ H (.int i)) (hx : SqL K H a xs) (hi : atI xs i = some v) : Ev (tOp (rIxL K) ta tb) σ H v := fun H1 S Q q =>
  ha H1 S _ fun H2 S2 => hb H2 (S.trans S2) _ fun H3 S3 => ⟨a, xs, i, v, rfl, rfl, (S.trans (S2.trans S3)).sql hx, hi, q H3 (S2.trans S3)⟩
theorem ev_ixT {K : PySem.W.Frag} {a : Addr} {xs : List V} {i : Int} (ha : Ev ta σ H (.ref a)) (hb : Ev tb σ H (.int i)) (hx : SqT K H a xs) (hi : atI xs i = some v) : Ev (tOp (rIxT K) ta tb) σ H v := fun H1 S Q q =>
  ha H1 S _ fun H2 S2 => hb H2 (S.trans S2) _ fun H3 S3 => ⟨a, xs, i, v, rfl, rfl, (S.trans (S2.trans S3)).sqt hx, hi, q H3 (S2.trans S3)⟩
/-- an item of what ta has just made -/
theorem ev_ixLP {K : PySem.W.Frag} {xs : List V} {i : Int} (ha : EvP ta σ H fun u H' => ∃ a, u = .ref a ∧ SqL K H' a xs) (hb : Ev tb σ H (.int i)) (hi : atI xs i = some v) : Ev (tOp (rIxL K) ta tb) σ H v := fun H1 S Q q =>
  ha H1 S _ fun u H2 S2 ⟨a, e, hx⟩ => hb H2 (S.trans S2) _ fun H3 S3 => ⟨a, xs, i, v, e, rfl, S3.sql hx, hi, q H3 (S2.trans S3)⟩
theorem ev_ixTP {K : PySem.W.Frag} {xs : List V} {i : Int} (ha : EvP ta σ H fun u H' => ∃ a, u = .ref a ∧ SqT K H' a xs) (hb : Ev tb σ H (.int i)) (hi : atI xs i = some v) : Ev (tOp (rIxT K) ta tb) σ H v := fun H1 S Q q =>
  ha H1 S _ fun u H2 S2 ⟨a, e, hx⟩ => hb H2 (S.trans S2) _ fun H3 S3 => ⟨a, xs, i, v, e, rfl, S3.sqt hx, hi, q H3 (S2.trans S3)⟩
/-- .. of which P holds -/
theorem evp_ixL {K : PySem.W.Frag} {a : Addr} {xs : List V} {i : Int} {P : V → Hp → Prop} (ha : Ev ta σ H (.ref a)) (hb : Ev tb σ H (.int i)) (hx : SqL K H a xs) (hi : atI xs i = some v) (hP : ∀ H', Sm H H' → P v H') : EvP (tOp (rIxL K) ta tb) σ H P := fun H1 S Q q =>
  ha H1 S _ fun H2 S2 => hb H2 (S.trans S2) _ fun H3 S3 => ⟨a, xs, i, v, rfl, rfl, (S.trans (S2.trans S3)).sql hx, hi, q v H3 (S2.trans S3) (hP _ (S.trans (S2.trans S3)))⟩
/-! arguments, displays -/
theorem eva_nil : EvA tNil σ H fun vs _ => vs = [] := fun H1 S Q q => q [] H1 (Sm.refl _) rfl
theorem eva_cons {tr : TA} {P : List V → Hp → Prop} (ha : Ev ta σ H v) (hr : EvA tr σ H P) : EvA (tCons ta tr) σ H fun vs H' => ∃ r, vs = v :: r ∧ P r H' := fun H1 S Q q =>
  ha H1 S _ fun H2 S2 => hr H2 (S.trans S2) _ fun r H3 S3 p => q (v :: r) H3 (S2.trans S3) ⟨r, rfl, p⟩
theorem eva_consP {tr : TA} {P : V → Hp → Prop} {R : List V → Hp → Prop} (ha : EvP ta σ H P) (st : Stab P) (hr : EvA tr σ H R) : EvA (tCons ta tr) σ H fun vs H' => ∃ v r, vs = v :: r ∧ P v H' ∧ R r H' := fun H1 S Q q =>
  ha H1 S _ fun v H2 S2 pv => hr H2 (S.trans S2) _ fun r H3 S3 p => q (v :: r) H3 (S2.trans S3) ⟨v, r, rfl, st _ _ _ S3 pv, p⟩
theorem evp_lst {t : TA} {P : List V → Hp → Prop} (K : PySem.W.Frag) (ha : EvA t σ H P) (hz : ∀ vs H', P vs H' → vs.length ≤ sizeLine) (st : ∀ vs H H', Sm H H' → P vs H → P vs H') : EvP (tLst t) σ H fun u H' => ∃ a vs, u = .ref a ∧ H' a = some (.lst vs) ∧ P vs H' := fun H1 S Q q =>
  ha H1 S _ fun vs H2 S2 p => ⟨hz _ _ p, fun l nl => q (.ref l) _ (S2.trans (Sm.new nl)) ⟨l, vs, rfl, upd_same, st _ _ _ (Sm.new nl) p⟩⟩
theorem evp_tup {t : TA} {P : List V → Hp → Prop} (K : PySem.W.Frag) (ha : EvA t σ H P) (hz : ∀ vs H', P vs H' → vs.length ≤ sizeLine) (st : ∀ vs H H', Sm H H' → P vs H → P vs H') : EvP (tTup t) σ H fun u H' => ∃ a vs, u = .ref a ∧ H' a = some (.tup vs) ∧ P vs H' := fun H1 S Q q =>
  ha H1 S _ fun vs H2 S2 p => ⟨hz _ _ p, fun l nl => q (.ref l) _ (S2.trans (Sm.new nl)) ⟨l, vs, rfl, upd_same, st _ _ _ (Sm.new nl) p⟩⟩
/-- a list of known values that are no objects, or of known ones -/
def EvL (t : TA) (σ : L2.St) (H : Hp) (vs : List V) : Prop := EvA t σ H fun us _ => us = vs
theorem evl_nil : EvL tNil σ H [] := eva_nil
theorem evl_cons {tr : TA} {vs : List V} (ha : Ev ta σ H v) (hr : EvL tr σ H vs) : EvL (tCons ta tr) σ H (v :: vs) := fun H1 S Q q =>
  ha H1 S _ fun H2 S2 => hr H2 (S.trans S2) _ fun r H3 S3 p => q (v :: r) H3 (S2.trans S3) (by rw [p])
theorem evp_lstV {t : TA} {vs : List V} {K : PySem.W.Frag} (ha : EvL t σ H vs) (hz : vs.length ≤ sizeLine) : EvP (tLst t) σ H fun u H' => ∃ a, u = .ref a ∧ SqL K H' a vs := fun H1 S Q q =>
  ha H1 S _ fun us H2 S2 p => ⟨by rw [p]; exact hz, fun l nl => q (.ref l) _ (S2.trans (Sm.new nl)) ⟨l, rfl, .inl (.inl (by rw [p, upd_same]))⟩⟩
theorem evp_tupV {t : TA} {vs : List V} {K : PySem.W.Frag} (ha : EvL t σ H vs) (hz : vs.length ≤ sizeLine) : EvP (tTup t) σ H fun u H' => ∃ a, u = .ref a ∧ SqT K H' a vs := fun H1 S Q q =>
  ha H1 S _ fun us H2 S2 p => ⟨by rw [p]; exact hz, fun l nl => q (.ref l) _ (S2.trans (Sm.new nl)) ⟨l, rfl, .inl (.inl (by rw [p, upd_same]))⟩⟩
/-! calls -/
theorem ev_cb {r : List V → Hp → VK → Prop} {t : TA} {vs : List V} (ha : EvL t σ H vs) (hr : ∀ H1, Sm H H1 → ∀ Q : VK, (∀ H2, Sm H1 H2 → Q v H2) → r vs H1 Q) : Ev (tCB r t) σ H v := fun H1 S Q q =>
  ha H1 S _ fun us H2 S2 p => by rw [p]; exact hr H2 (S.trans S2) Q fun H3 S3 => q H3 (S2.trans S3)
theorem evp_cb {r : List V → Hp → VK → Prop} {t : TA} {vs : List V} {P : V → Hp → Prop} (ha : EvL t σ H vs) (hr : ∀ H1, Sm H H1 → ∀ Q : VK, (∀ u H2, Sm H1 H2 → P u H2 → Q u H2) → r vs H1 Q) : EvP (tCB r t) σ H P := fun H1 S Q q =>
  ha H1 S _ fun us H2 S2 p => by rw [p]; exact hr H2 (S.trans S2) Q fun u H3 S3 => q u H3 (S2.trans S3)
theorem ev_call {sp : Sp} {E : XK} {t : TA} {vs : List V} (ha : EvL t σ H vs) (hr : ∀ H1, Sm H H1 → ∀ Q : VK, (∀ H2, Sm H1 H2 → Q v H2) → sp vs H1 Q E) : Ev (tCall sp [] E t) σ H v := fun H1 S Q q =>
  ha H1 S _ fun us H2 S2 p => by rw [p, List.append_nil]; exact hr H2 (S.trans S2) Q fun H3 S3 => q H3 (S2.trans S3)
theorem evp_call {sp : Sp} {E : XK} {t : TA} {vs : List V} {P : V → Hp → Prop} (ha : EvL t σ H vs) (hr : ∀ H1, Sm H H1 → ∀ Q : VK, (∀ u H2, Sm H1 H2 → P u H2 → Q u H2) → sp vs H1 Q E) : EvP (tCall sp [] E t) σ H P := fun H1 S Q q =>
  ha H1 S _ fun us H2 S2 p => by rw [p, List.append_nil]; exact hr H2 (S.trans S2) Q fun u H3 S3 => q u H3 (S2.trans S3)
theorem evp_callA {sp : Sp} {E : XK} {t : TA} {R : List V → Hp → Prop} {P : V → Hp → Prop} (ha : EvA t σ H R) (hr : ∀ vs H1, Sm H H1 → R vs H1 → ∀ Q : VK, (∀ u H2, Sm H1 H2 → P u H2 → Q u H2) → sp vs H1 Q E) : EvP (tCall sp [] E t) σ H P := fun H1 S Q q =>
  ha H1 S _ fun us H2 S2 p => by rw [List.append_nil]; exact hr us H2 (S.trans S2) p Q fun u H3 S3 => q u H3 (S2.trans S3)
theorem ev_len {K : PySem.W.Frag} {a : Addr} {xs : List V} (ha : Ev ta σ H (.ref a)) (hx : SqL K H a xs) : Ev (tCB (fun xs H Q => ∃ p ys, xs = [.ref p] ∧ (SqL K H p ys ∨ SqT K H p ys) ∧ Q (.int ys.length) H) (tCons ta tNil)) σ H (.int xs.length) :=
  ev_cb (evl_cons ha evl_nil) fun H1 S Q q => ⟨a, xs, rfl, .inl (S.sql hx), q H1 (Sm.refl _)⟩
theorem ev_lenT {K : PySem.W.Frag} {a : Addr} {xs : List V} (ha : Ev ta σ H (.ref a)) (hx : SqT K H a xs) : Ev (tCB (fun xs H Q => ∃ p ys, xs = [.ref p] ∧ (SqL K H p ys ∨ SqT K H p ys) ∧ Q (.int ys.length) H) (tCons ta tNil)) σ H (.int xs.length) :=
  ev_cb (evl_cons ha evl_nil) fun H1 S Q q => ⟨a, xs, rfl, .inr (S.sqt hx), q H1 (Sm.refl _)⟩
theorem evp_listOf {K : PySem.W.Frag} {a : Addr} {xs : List V} (ha : Ev ta σ H (.ref a)) (hx : SqL K H a xs) :
    EvP (tCB (fun xs H Q => ∃ p ys, xs = [.ref p] ∧ (SqL K H p ys ∨ SqT K H p ys) ∧ ∀ l, H l = none → Q (.ref l) (upd H l (.lst ys))) (tCons ta tNil)) σ H fun u H' => ∃ l, u = .ref l ∧ H' l = some (.lst xs) :=
  evp_cb (evl_cons ha evl_nil) fun H1 S Q q => ⟨a, xs, rfl, .inl (S.sql hx), fun l nl => q _ _ (Sm.new nl) ⟨l, rfl, upd_same⟩⟩
theorem ev_isi {K : PySem.W.Frag} {t u : Value} {b : Bool} (ha : Ev ta σ H x) (hb : Ev tb σ H y) (hc : ClsV y u) (ht : ∀ H', Sm H H' → TyX K H' x t) (hk : PySem.W.kitOne K t u = some b) : Ev (tCB (rIsi K) (tCons ta (tCons tb tNil))) σ H (.bl b) :=
  ev_cb (evl_cons ha (evl_cons hb evl_nil)) fun H1 S Q q => ⟨x, y, t, u, b, rfl, hc, ht _ S, hk, q H1 (Sm.refl _)⟩
/-! bools -/
theorem ev_and {b c : Bool} (ha : Ev ta σ H (.bl b)) (hb : b = true → Ev tb σ H (.bl c)) : Ev (tAndV ta tb) σ H (.bl (b && c)) := fun H1 S Q q =>
  ha H1 S _ fun H2 S2 => ⟨b, rfl, by
    cases b with
    | true => rw [if_pos rfl]; exact hb rfl H2 (S.trans S2) Q fun H3 S3 => q H3 (S2.trans S3)
    | false => rw [if_neg Bool.false_ne_true]; exact q H2 S2⟩
theorem ev_or {b c : Bool} (ha : Ev ta σ H (.bl b)) (hb : b = false → Ev tb σ H (.bl c)) : Ev (tOrV ta tb) σ H (.bl (b || c)) := fun H1 S Q q =>
  ha H1 S _ fun H2 S2 => ⟨b, rfl, by
    cases b with
    | true => rw [if_pos rfl]; exact q H2 S2
    | false => rw [if_neg Bool.false_ne_true]; exact hb rfl H2 (S.trans S2) Q fun H3 S3 => q H3 (S2.trans S3)⟩
theorem ev_not {b : Bool} (ha : Ev ta σ H (.bl b)) : Ev (tNotV ta) σ H (.bl !b) := fun H1 S Q q => ha H1 S _ fun H2 S2 => ⟨b, rfl, q H2 S2⟩
theorem ev_chain {g g' : Int → Int → Bool} {i j k : Int} {tc : TE} (ha : Ev ta σ H (.int i)) (hb : Ev tb σ H (.int j)) (hc : Ev tc σ H (.int k)) :
    Ev (tChain (rI0 fun i j => .bl (g i j)) (rI0 fun i j => .bl (g' i j)) ta tb tc) σ H (.bl (g i j && g' j k)) := fun H1 S Q q =>
  ha H1 S _ fun H2 S2 => hb H2 (S.trans S2) _ fun H3 S3 => ⟨i, j, rfl, rfl, g i j, rfl, by
    cases h : g i j with
    | true => rw [if_pos rfl]; exact hc H3 (S.trans (S2.trans S3)) _ fun H4 S4 => ⟨j, k, rfl, rfl, by rw [h] at q; exact q H4 (S2.trans (S3.trans S4))⟩
    | false => rw [if_neg Bool.false_ne_true]; rw [h] at q; exact q H3 (S2.trans S3)⟩
/-! tests -/
theorem evt_test {b : Bool} (h : Ev te σ H (.bl b)) : EvT (tTest te) σ H b := fun H1 S Q q => h H1 S _ fun H2 S2 => ⟨b, rfl, q H2 S2⟩
theorem evt_b {b : Bool} (h : Ev te σ H (.bl b)) : EvT (tB te) σ H b := fun H1 S Q q => h H1 S _ fun H2 S2 => ⟨b, rfl, q H2 S2⟩
variable {t u : TT}
theorem evt_and {b c : Bool} (ha : EvT t σ H b) (hb : b = true → EvT u σ H c) : EvT (tAnd t u) σ H (b && c) := fun H1 S Q q =>
  ha H1 S _ fun H2 S2 => by
    cases b with
    | true => rw [if_pos rfl]; exact hb rfl H2 (S.trans S2) Q fun H3 S3 => q H3 (S2.trans S3)
    | false => rw [if_neg Bool.false_ne_true]; exact q H2 S2
theorem evt_or {b c : Bool} (ha : EvT t σ H b) (hb : b = false → EvT u σ H c) : EvT (tOr t u) σ H (b || c) := fun H1 S Q q =>
  ha H1 S _ fun H2 S2 => by
    cases b with
    | true => rw [if_pos rfl]; exact q H2 S2
    | false => rw [if_neg Bool.false_ne_true]; exact hb rfl H2 (S.trans S2) Q fun H3 S3 => q H3 (S2.trans S3)
theorem evt_not {b : Bool} (ha : EvT t σ H b) : EvT (tNot t) σ H (!b) := fun H1 S Q q => ha H1 S _ q
end
/-! ### statements -/
section
variable {σ : L2.St} {H : Hp} {v : V} {te : TE} {t u : TS} {D : Ends} {i : Nat} {c : TT} {b : Bool}
theorem q_next (h : D.nx σ H) : tNext D σ H := h
theorem q_seq (h : t { D with nx := u D } σ H) : tSeq t u D σ H := h
theorem q_set (h : Ev te σ H v) (k : ∀ H', Sm H H' → D.nx (σ.set i (some v)) H') : tAsg te (gName i) D σ H := h H (Sm.refl _) _ fun H2 S2 => k H2 S2
theorem q_setP {P : V → Hp → Prop} (h : EvP te σ H P) (k : ∀ v H', Sm H H' → P v H' → D.nx (σ.set i (some v)) H') : tAsg te (gName i) D σ H := h H (Sm.refl _) _ fun v H2 S2 p => k v H2 S2 p
theorem q_ret (h : Ev te σ H v) (k : ∀ H', Sm H H' → D.rt v H') : tRet te D σ H := h H (Sm.refl _) _ k
theorem q_retP {P : V → Hp → Prop} (h : EvP te σ H P) (k : ∀ v H', Sm H H' → P v H' → D.rt v H') : tRet te D σ H := h H (Sm.refl _) _ k
theorem q_if (h : EvT c σ H b) (h1 : b = true → ∀ H', Sm H H' → t D σ H') (h2 : b = false → ∀ H', Sm H H' → u D σ H') : tIfS c t u D σ H := h H (Sm.refl _) _ fun H2 S2 => by
  cases b with
  | true => rw [if_pos rfl]; exact h1 rfl H2 S2
  | false => rw [if_neg Bool.false_ne_true]; exact h2 rfl H2 S2
/-- an if that stores one name anew, or nothing: one way -/
theorem q_ifset {old : V} (h : EvT c σ H b) (ho : σ[i]? = some (some old)) (hv : b = true → Ev te σ H v) (k : ∀ H', Sm H H' → D.nx (σ.set i (some (if b = true then v else old))) H') : tIfS c (tAsg te (gName i)) tNext D σ H :=
  q_if h (fun e H' S => (hv e).mono S H' (Sm.refl _) _ fun H2 S2 => by
      have q := k H2 (S.trans S2)
      rw [if_pos e] at q
      exact q) fun e H' S => by
    have q := k H' S
    rw [if_neg (by rw [e]; exact Bool.false_ne_true)] at q
    have es : σ.set i (some old) = σ := by
      refine List.ext_getElem? fun j => ?_
      by_cases hj : j = i
      · subst hj
        rw [List.getElem?_set_self (List.getElem?_eq_some_iff.mp ho).1, ho]
      · rw [List.getElem?_set_ne (Ne.symm hj)]
    rw [es] at q
    exact q
theorem q_drop (h : Ev te σ H v) (k : ∀ H', Sm H H' → D.nx σ H') : tDrop te D σ H := h H (Sm.refl _) _ k
end
/-! ints: by letters -/
section
variable {σ : L2.St} {H : Hp} {v : V} {ta tb te : TE} {t u : TS} {D : Ends} {i : Nat} {c : TT} {b : Bool}
def EvI (t : TA) (σ : L2.St) (H : Hp) (ns : List Int) : Prop := EvL t σ H (ns.map V.int)
theorem evi_nil : EvI tNil σ H [] := evl_nil
theorem evi_cons {n : Int} {ns : List Int} {tr : TA} (ha : Ev ta σ H (.int n)) (hr : EvI tr σ H ns) : EvI (tCons ta tr) σ H (n :: ns) := evl_cons ha hr
theorem ev_menu {K : PySem.W.Frag} {ns : List Int} {k : Int} {tl : TA} (ha : EvI tl σ H ns) (hb : Ev tb σ H (.int k)) (h0 : 0 ≤ k) (h1 : k < (ns.length : Int)) (hz : (ns.map V.int).length ≤ sizeLine) : Ev (tOp (rIxL K) (tLst tl) tb) σ H (.int (ns.getD k.toNat 0)) :=
  ev_ixLP (evp_lstV ha hz) hb (by
    have e : k.toNat < ns.length := by omega
    have e2 : k = (k.toNat : Int) := by omega
    rw [e2]
    refine atI_nat ?_
    rw [List.getElem?_map, List.getElem?_eq_getElem e, List.getD_eq_getElem?_getD, show ((k.toNat : Int)).toNat = k.toNat from rfl, List.getElem?_eq_getElem e]
    rfl)
theorem menu_all {P : Int → Prop} {ns : List Int} (h : ∀ z ∈ ns, P z) (h0 : P 0) (k : Nat) : P (ns.getD k 0) := by
  rw [List.getD_eq_getElem?_getD]
  cases e : ns[k]? with
  | none => exact h0
  | some z => exact h z (List.mem_of_getElem? e)
theorem q_setI {n : Int} (h : Ev te σ H (.int n)) (k : ∀ z : Int, z = n → ∀ H', Sm H H' → D.nx (σ.set i (some (.int z))) H') : tAsg te (gName i) D σ H := q_set h fun H' S => k n rfl H' S
theorem q_ifsetI {n o : Int} (h : EvT c σ H b) (ho : σ[i]? = some (some (.int o))) (hv : b = true → Ev te σ H (.int n)) (k : ∀ z : Int, z = (if b = true then n else o) → ∀ H', Sm H H' → D.nx (σ.set i (some (.int z))) H') : tIfS c (tAsg te (gName i)) tNext D σ H :=
  q_ifset h ho hv fun H' S => by
    have q := k _ rfl H' S
    cases b <;> exact q
theorem q_ifsetS {n o : Str} (h : EvT c σ H b) (ho : σ[i]? = some (some (.str o))) (hv : b = true → Ev te σ H (.str n)) (k : ∀ H', Sm H H' → D.nx (σ.set i (some (.str (if b = true then n else o)))) H') : tIfS c (tAsg te (gName i)) tNext D σ H :=
  q_ifset h ho hv fun H' S => by
    have q := k H' S
    cases b <;> exact q
end
/-! a statement, then the rest -/
section
variable {σ : L2.St} {H : Hp} {v : V} {ta tb te : TE} {t u : TS} {D : Ends} {i : Nat} {c : TT} {b : Bool}
theorem qs_set (h : Ev te σ H v) (k : ∀ H', Sm H H' → u D (σ.set i (some v)) H') : tSeq (tAsg te (gName i)) u D σ H := q_set (D := { D with nx := u D }) h k
theorem qs_setP {P : V → Hp → Prop} (h : EvP te σ H P) (k : ∀ v H', Sm H H' → P v H' → u D (σ.set i (some v)) H') : tSeq (tAsg te (gName i)) u D σ H := q_setP (D := { D with nx := u D }) h k
theorem qs_setI {n : Int} (h : Ev te σ H (.int n)) (k : ∀ z : Int, z = n → ∀ H', Sm H H' → u D (σ.set i (some (.int z))) H') : tSeq (tAsg te (gName i)) u D σ H := q_setI (D := { D with nx := u D }) h k
theorem qs_ifset {old : V} (h : EvT c σ H b) (ho : σ[i]? = some (some old)) (hv : b = true → Ev te σ H v) (k : ∀ H', Sm H H' → u D (σ.set i (some (if b = true then v else old))) H') : tSeq (tIfS c (tAsg te (gName i)) tNext) u D σ H := q_ifset (D := { D with nx := u D }) h ho hv k
theorem qs_ifsetI {n o : Int} (h : EvT c σ H b) (ho : σ[i]? = some (some (.int o))) (hv : b = true → Ev te σ H (.int n)) (k : ∀ z : Int, z = (if b = true then n else o) → ∀ H', Sm H H' → u D (σ.set i (some (.int z))) H') : tSeq (tIfS c (tAsg te (gName i)) tNext) u D σ H := q_ifsetI (D := { D with nx := u D }) h ho hv k
theorem qs_ifsetS {n o : Str} (h : EvT c σ H b) (ho : σ[i]? = some (some (.str o))) (hv : b = true → Ev te σ H (.str n)) (k : ∀ H', Sm H H' → u D (σ.set i (some (.str (if b = true then n else o)))) H') : tSeq (tIfS c (tAsg te (gName i)) tNext) u D σ H := q_ifsetS (D := { D with nx := u D }) h ho hv k
/-- an if without else, then the rest -/
theorem qs_if (h : EvT c σ H b) (h1 : b = true → ∀ H', Sm H H' → t { D with nx := u D } σ H') (h2 : b = false → ∀ H', Sm H H' → u D σ H') : tSeq (tIfS c t tNext) u D σ H := q_if (D := { D with nx := u D }) h h1 h2
theorem qs_drop (h : Ev te σ H v) (k : ∀ H', Sm H H' → u D σ H') : tSeq (tDrop te) u D σ H := q_drop (D := { D with nx := u D }) h k
end
section
variable {σ : L2.St} {H : Hp} {ta tb : TE}
theorem ev_max2 {i j : Int} (ha : Ev ta σ H (.int i)) (hb : Ev tb σ H (.int j)) : Ev (tCB (fun xs H Q => ∃ i j, xs = [.int i, .int j] ∧ Q (.int (if j > i then j else i)) H) (tCons ta (tCons tb tNil))) σ H (.int (if j > i then j else i)) :=
  ev_cb (evl_cons ha (evl_cons hb evl_nil)) fun H1 S Q q => ⟨i, j, rfl, q H1 (Sm.refl _)⟩
theorem ev_min2 {i j : Int} (ha : Ev ta σ H (.int i)) (hb : Ev tb σ H (.int j)) : Ev (tCB (fun xs H Q => ∃ i j, xs = [.int i, .int j] ∧ Q (.int (if j < i then j else i)) H) (tCons ta (tCons tb tNil))) σ H (.int (if j < i then j else i)) :=
  ev_cb (evl_cons ha (evl_cons hb evl_nil)) fun H1 S Q q => ⟨i, j, rfl, q H1 (Sm.refl _)⟩
theorem ev_eqB {i j : Bool} (ha : Ev ta σ H (.bl i)) (hb : Ev tb σ H (.bl j)) : Ev (tOp rEq ta tb) σ H (.bl (decide (i = j))) :=
  (ev_eq ha hb rfl).to (by rw [show decide (V.bl i = V.bl j) = decide (i = j) from decide_eq_decide.mpr ⟨fun z => V.bl.inj z, fun z => by rw [z]⟩])
theorem ev_isB {K : PySem.W.Frag} {b : Bool} (ha : Ev ta σ H (.bl b)) : Ev (tCB (rIsi K) (tCons ta (tCons (tC (.ty "bool")) tNil))) σ H (.bl true) :=
  ev_isi ha ev_c (.ty "bool") (fun _ _ => .base (.bl b)) (kit_ty (by decide +kernel))
theorem ev_isI {K : PySem.W.Frag} {b : Int} (ha : Ev ta σ H (.int b)) : Ev (tCB (rIsi K) (tCons ta (tCons (tC (.ty "int")) tNil))) σ H (.bl true) :=
  ev_isi ha ev_c (.ty "int") (fun _ _ => .base (.int b)) (kit_ty (by decide +kernel))
end
end My

set_option Elab.async false
set_option linter.all false
set_option maxRecDepth 100000
set_option maxHeartbeats 400000
namespace My
open PySem PySem.Spec PyProof.Rows L2
open GxR (TabB TabG Tabbed)
/-! ### a def as the top has left it -/
structure Dn (K : PySem.W.Frag) (mg : Str → Option Value) (x : Str) (st : Stmt) (ps : List Str) (f : Addr) (fd : FuncData) : Prop where
  F : Fun K x x st f fd
  b : Binds K fd ps []
  g : mg x = some (.ref f)
/-- .. whose code object is known -/
structure DnC (K : PySem.W.Frag) (mg : Str → Option Value) (x : Str) (st : Stmt) (ps : List Str) (f : Addr) (fd : FuncData) (c : Addr) : Prop extends Dn K mg x st ps f fd where
  exC : ∃ (oc : Value) (od : Option Addr) (kV doc pm : Value) (an : Option Addr) (ct : Value) (osl : Array (Option Value)),
    fd = PySem.W.fnOf x x (defArgs st) (defBody st) (defScope st) .none kV doc pm an (.ref c) ct ∧ K.lookup f = some ⟨oc, od, .func fd, osl⟩ ∧ PySem.W.codeIn K (.ref c) x = true
section
variable {P : Program} {w : World} {K : PySem.W.Frag} {mg : Str → Option Value} {base : Heap}
theorem DnC.ok {x : Str} {st : Stmt} {f c : Addr} {fd : FuncData} {N ps qs : List Str} {k : Nat} {sp : Sp} (F : DnC K mg x st qs f fd c) (S : FnScope N ps (defScope st)) (len : ∀ vs H Q E, sp vs H Q E → vs.length = ps.length)
    (hbody : ∀ (A : Around) (outer : List Env) (s : Shared) (H : Hp) (vs : List V) (Q : VK) (E : XK), Room k (A.deeper (envOfC x (defScope st) s.heap.objs.size f (.ref c))) → sp vs H Q E →
      ∃ t, PSs (cxOf CX0 P w K mg base N x (defScope st) f (.ref c) A outer s H E).nox (defBody st) t ∧ t { nx := fun _ H' => Q .non H', rt := Q } (start N vs) H) : FnOk P w K mg base CX0 (k + 1) f fd ps sp := by
  obtain ⟨oc, od, kV, doc, pm, an, ct, osl, rfl, lk, hcd⟩ := F.exC
  refine fn_of lk hcd S len fun A outer s H vs Q E hr hsp => ?_
  obtain ⟨t, h, q⟩ := hbody A outer s H vs Q E hr hsp
  exact ⟨t, h.nox, q⟩
end
/-! ### the end: tables of defs that hold generator expressions -/
/-- what is known of the law's promise at the head's heap h -/
def LawG (l : PySem.W.OpenLaw) (w : World) (K : PySem.W.Frag) (CX : CXT) (k n : Nat) (x : Str) (mg : Str → Option Value) (fa : Addr) (h : Heap) (cs : List (Addr × Addr)) : Prop :=
  ∃ (fd : FuncData) (sp : Sp), (∀ (s : Shared) (u : Value), BindsTo s fd ⟨[u], []⟩ [(x, u)]) ∧
    (∀ (H : Hp) (a : Addr) (ns : List Int), ns.length ≤ n → (∀ z ∈ ns, Builtin.Int.intBits z ≤ 1048576) → (∀ p ∈ cs, H p.2 = some (.tbl #[])) → SqL K H a (ns.map V.int) → sp [.ref a] H (fun v _ => v = .bl true) fun _ _ _ => False) ∧
    ∀ base : Heap, K.In base → base.Ns mainGlobals mg → (∀ p ∈ cs, TabB base mg p.1 p.2) → FnOk l.prog w K mg base CX k fa fd [x] sp
theorem walk_gen {l : PySem.W.OpenLaw} {n k : Nat} {q : Program} {loose : List Str} {XP : (Str → Option Value) → Heap → Prop} {YP : World → Heap → Prop} {d : DefRec} {K : PySem.Params → PySem.W.Frag} {CX : World → CXT} {x : Str} (xs : List Str) (cs : List (Addr × Addr))
    (hn : l.most = some n) (hn2 : n ≤ sizeLine) (hdf : d.params.defaults = []) (hr : Room k callerA) (hY : ∀ (w : World) (h : Heap), YP w h → (K w.params).In h)
    (hrec : ∀ x ∈ xs, ((recsOf q).find? (fun e => e.name == x)).isSome = true)
    (htab : ∀ (w : World), ∀ p ∈ cs, ∃ x ∈ xs, PySem.W.tabIn (K w.params) x = some p)
    (hnl : ∀ (w : World), ∀ p ∈ cs, (K w.params).lookup p.2 = none)
    (F : ∀ (w : World) (mg : Str → Option Value) (fa : Addr) (h : Heap), YP w h → (K w.params).In h → h.Ns mainGlobals mg → mg d.name = some (.ref fa) → LawG l w (K w.params) (CX w) k n x mg fa h cs)
    (hCX : ∀ (w : World) (H : Hp) (s : Shared) (e : Value) (s' : Shared), CX w [] H s (fun _ _ _ => False) e s' → False) :
    PySem.W.WalkO q loose XP YP l.row.toRowW d [] (fun f vs => PySem.call f vs) := by
  refine Att.attach_callB hn hdf fun w s₀ s₁ mg mb fa o pm cd doc a vs ns G Y ho hd hcd hmg hobj hints hlen hbits hg => ?_
  have KX := hY w _ Y
  obtain ⟨fd, sp, hb, hsp, hF⟩ := F w mg fa _ Y KX G.T.g hmg
  have T : ∀ p ∈ cs, PySem.W.CodeHd s₁.heap p.1 p.2 ∧ s₁.heap.get? p.2 = some (PySem.W.tabObj #[]) := fun p hp => by
    obtain ⟨y, hy, e⟩ := htab w p hp
    obtain ⟨dd, hdd⟩ := Option.isSome_iff_exists.mp (hrec y hy)
    exact PySem.W.tab_of G.T KX hdd e
  exact LamX.law_callTs KX G.T.g G.T.b G.T.builtins G.T.nolimit hg (fun p hp => (T p hp).2) (hnl w) (fun p hp => (T p hp).1) G.T.bmain hobj hints (Nat.le_trans hlen hn2) hr (fun base h1 h2 h3 => hF base h1 h2 fun p hp => ⟨(h3 p hp).code, (h3 p hp).bm, (h3 p hp).gP⟩) hb (fun H hH hS => hsp H a ns hlen hbits hH hS) fun H e s' => hCX w H s₁ e s'
/-- the law's own promise: tabs, the tables of the defs that hold generator expressions -/
def SpLaw (K : PySem.W.Frag) (tabs : List Addr) : Sp := fun vs H Q _ => ∃ (a : Addr) (ns : List Int), vs = [.ref a] ∧ SqL K H a (ns.map V.int) ∧ ns.length ≤ 63 ∧ (∀ P ∈ tabs, TabG H P) ∧ ∀ H', Q (.bl true) H'
/-! ### wishes -/
structure Wish where
  buy : Bool
  lim : Int
  amt : Int
def sideS (b : Bool) : Str := if b = true then "buy" else "sell"
def Wish.side (w : Wish) : Str := sideS w.buy
def Wish.row (w : Wish) : List V := [.str w.side, .int w.lim, .int w.amt]
structure Wish.Good (w : Wish) : Prop where
  l0 : 0 ≤ w.lim
  l1 : w.lim ≤ 1000000000
  a0 : 1 ≤ w.amt
  a1 : w.amt ≤ 1000000
def WishV (K : PySem.W.Frag) (H : Hp) (v : V) (w : Wish) : Prop := ∃ t, v = .ref t ∧ SqT K H t w.row
def Wishes (K : PySem.W.Frag) (H : Hp) (xs : List V) (ws : List Wish) : Prop := Paired (WishV K H) xs ws
/-- at a a list of the wishes ws -/
def WishL (K : PySem.W.Frag) (H : Hp) (a : Addr) (ws : List Wish) : Prop := ∃ xs, SqL K H a xs ∧ Wishes K H xs ws
theorem WishV.sm {K : PySem.W.Frag} {H H' : Hp} (S : Sm H H') {v : V} {w : Wish} (h : WishV K H v w) : WishV K H' v w := let ⟨t, e, q⟩ := h; ⟨t, e, S.sqt q⟩
theorem Wishes.sm {K : PySem.W.Frag} {H H' : Hp} (S : Sm H H') : ∀ {xs : List V} {ws : List Wish}, Wishes K H xs ws → Wishes K H' xs ws
  | _, _, .nil => .nil
  | _, _, .cons r t => .cons (r.sm S) (Wishes.sm S t)
theorem WishL.sm {K : PySem.W.Frag} {H H' : Hp} (S : Sm H H') {a : Addr} {ws : List Wish} (h : WishL K H a ws) : WishL K H' a ws := let ⟨xs, h1, h2⟩ := h; ⟨xs, S.sql h1, h2.sm S⟩
theorem Wishes.length {K : PySem.W.Frag} {H : Hp} {xs : List V} {ws : List Wish} (h : Wishes K H xs ws) : xs.length = ws.length := Paired.length h
theorem Wishes.get {K : PySem.W.Frag} {H : Hp} : ∀ {xs : List V} {ws : List Wish} {i : Nat} {w : Wish}, Wishes K H xs ws → ws[i]? = some w → ∃ v, xs[i]? = some v ∧ WishV K H v w
  | _, _, _, _, .nil, e => by simp at e
  | _, _, 0, _, .cons r _, e => by
    have e2 := Option.some.inj e
    subst e2
    exact ⟨_, rfl, r⟩
  | _, _, i + 1, w, .cons _ t, e => by
    obtain ⟨v, h1, h2⟩ := Wishes.get (i := i) (w := w) t (by simpa using e)
    exact ⟨v, by simpa using h1, h2⟩
theorem Wishes.getV {K : PySem.W.Frag} {H : Hp} : ∀ {xs : List V} {ws : List Wish} {i : Nat} {v : V}, Wishes K H xs ws → xs[i]? = some v → ∃ w, ws[i]? = some w ∧ WishV K H v w
  | _, _, _, _, .nil, e => by simp at e
  | _, _, 0, _, .cons r _, e => by
    have e2 := Option.some.inj e
    subst e2
    exact ⟨_, rfl, r⟩
  | _, _, i + 1, w, .cons _ t, e => by
    obtain ⟨v, h1, h2⟩ := Wishes.getV (i := i) (v := w) t (by simpa using e)
    exact ⟨v, by simpa using h1, h2⟩
theorem Wishes.snoc {K : PySem.W.Frag} {H : Hp} {v : V} {w : Wish} : ∀ {xs : List V} {ws : List Wish}, Wishes K H xs ws → WishV K H v w → Wishes K H (xs ++ [v]) (ws ++ [w])
  | _, _, .nil, h => .cons h .nil
  | _, _, .cons r t, h => .cons r (Wishes.snoc t h)
theorem Wishes.rows {K : PySem.W.Frag} {H : Hp} : ∀ {xs : List V} {ws : List Wish}, Wishes K H xs ws → G3.Rows K H xs (ws.map Wish.row)
  | _, _, .nil => .nil
  | _, _, .cons r t => .cons r (Wishes.rows t)
/-! data, for == -/
def Wish.data (w : Wish) : PyData := .tuple [.str w.side, .int w.lim, .int w.amt]
theorem WishV.dp {K : PySem.W.Frag} {H : Hp} {v : V} {w : Wish} (h : WishV K H v w) : Dp K H v w.data := by
  obtain ⟨t, e, q⟩ := h
  rw [e]
  exact .tup q (.cons (.str _) (.cons (.int _) (.cons (.int _) .nil)))
theorem Wishes.dp {K : PySem.W.Frag} {H : Hp} : ∀ {xs : List V} {ws : List Wish}, Wishes K H xs ws → DpAll K H xs (ws.map Wish.data)
  | _, _, .nil => .nil
  | _, _, .cons r t => .cons r.dp (Wishes.dp t)
theorem WishL.dp {K : PySem.W.Frag} {H : Hp} {a : Addr} {ws : List Wish} (h : WishL K H a ws) : Dp K H (.ref a) (.list (ws.map Wish.data)) := let ⟨xs, h1, h2⟩ := h; .lst h1 h2.dp
/-! what is wanted and offered -/
def wantedOf (ws : List Wish) (p : Int) : Int := ((ws.filter fun w => w.buy && decide (p ≤ w.lim)).map Wish.amt).sum
def offeredOf (ws : List Wish) (p : Int) : Int := ((ws.filter fun w => !w.buy && decide (w.lim ≤ p)).map Wish.amt).sum
def sumOf (b : Bool) (ws : List Wish) (p : Int) : Int := if b = true then wantedOf ws p else offeredOf ws p
theorem side_buy (b : Bool) : decide (sideS b = (PySem.Str.ofString "buy")) = b := by cases b <;> decide
theorem side_sell (b : Bool) : decide (sideS b = (PySem.Str.ofString "sell")) = !b := by cases b <;> decide
def GoodP (cvs r : List V) : Prop := ∃ (p : Int) (w : Wish), cvs = [.int p] ∧ r = w.row
def pzB (cvs r : List V) : Bool := match cvs, r with
  | [.int p], [.str s, .int l, .int _] => decide (s = (PySem.Str.ofString "buy")) && decide (p ≤ l)
  | _, _ => false
def pzS (cvs r : List V) : Bool := match cvs, r with
  | [.int p], [.str s, .int l, .int _] => decide (s = (PySem.Str.ofString "sell")) && decide (l ≤ p)
  | _, _ => false
def amtR (_ r : List V) : Int := match r with
  | [_, _, .int a] => a
  | _ => 0
theorem rows_buy (ws : List Wish) (p : Int) : (((ws.map Wish.row).filter (pzB [.int p])).map (amtR [.int p])).sum = wantedOf ws p := by
  unfold wantedOf
  rw [List.filter_map, List.map_map]
  have e : (pzB [V.int p] ∘ Wish.row) = fun w => w.buy && decide (p ≤ w.lim) := by
    funext w
    show (decide (sideS w.buy = (PySem.Str.ofString "buy")) && decide (p ≤ w.lim)) = _
    rw [side_buy]
  rw [e]
  rfl
theorem rows_sell (ws : List Wish) (p : Int) : (((ws.map Wish.row).filter (pzS [.int p])).map (amtR [.int p])).sum = offeredOf ws p := by
  unfold offeredOf
  rw [List.filter_map, List.map_map]
  have e : (pzS [V.int p] ∘ Wish.row) = fun w => !w.buy && decide (w.lim ≤ p) := by
    funext w
    show (decide (sideS w.buy = (PySem.Str.ofString "sell")) && decide (w.lim ≤ p)) = _
    rw [side_sell]
  rw [e]
  rfl
theorem take_snoc {α : Type} {l : List α} {i : Nat} {x : α} (h : l[i]? = some x) : l.take (i + 1) = l.take i ++ [x] := by
  rw [List.take_add_one, h]
  rfl
theorem sumOf_snoc (b : Bool) (ws : List Wish) (w : Wish) (p : Int) : sumOf b (ws ++ [w]) p = (if (if b = true then w.buy && decide (p ≤ w.lim) else !w.buy && decide (w.lim ≤ p)) = true then sumOf b ws p + w.amt else sumOf b ws p) := by
  cases b with
  | true =>
    show wantedOf _ p = _
    unfold sumOf wantedOf
    simp only [if_true, List.filter_append, List.map_append, List.sum_append]
    cases h : (w.buy && decide (p ≤ w.lim)) with
    | true => simp [List.filter_cons, h]
    | false => simp [List.filter_cons, h]
  | false =>
    show offeredOf _ p = _
    unfold sumOf offeredOf
    simp only [Bool.false_eq_true, if_false, List.filter_append, List.map_append, List.sum_append]
    cases h : (!w.buy && decide (w.lim ≤ p)) with
    | true => simp [List.filter_cons, h]
    | false => simp [List.filter_cons, h]
/-! lists of wishes, of ints -/
theorem cut_ints (ns : List Int) (lo hi : Option Int) : ∃ cs : List Int, cutV (ns.map V.int) lo hi = cs.map V.int ∧ cs.length ≤ ns.length := by
  refine ⟨(ns.drop (HT.sIx ns.length 0 lo)).take (HT.sIx ns.length ns.length hi - HT.sIx ns.length 0 lo), ?_, ?_⟩
  · unfold cutV
    rw [List.length_map, ← List.map_drop, ← List.map_take]
  · rw [List.length_take, List.length_drop]
    omega
/-! slices, comprehensions -/
/-- the tuples stay -/
def Tk (K : PySem.W.Frag) (H H' : Hp) : Prop := ∀ a r, SqT K H a r → SqT K H' a r
theorem Sm.tk {K : PySem.W.Frag} {H H' : Hp} (S : Sm H H') : Tk K H H' := fun a r h => S.sqt h
theorem tk_lst {K : PySem.W.Frag} {H : Hp} {D : Addr} {xs ys : List V} (h : H D = some (.lst xs)) : Tk K H (upd H D (.lst ys)) := fun a r q => by
  rcases q with (q | ⟨o, q⟩) | q
  · exact .inl (.inl (by rw [upd_ne (fun e => by rw [e, h] at q; cases q)]; exact q))
  · exact .inl (.inr ⟨o, by rw [upd_ne (fun e => by rw [e, h] at q; cases q)]; exact q⟩)
  · exact .inr q
theorem WishV.tk {K : PySem.W.Frag} {H H' : Hp} (S : Tk K H H') {v : V} {w : Wish} (h : WishV K H v w) : WishV K H' v w := let ⟨t, e, q⟩ := h; ⟨t, e, S _ _ q⟩
theorem Wishes.tk {K : PySem.W.Frag} {H H' : Hp} (S : Tk K H H') : ∀ {xs : List V} {ws : List Wish}, Wishes K H xs ws → Wishes K H' xs ws
  | _, _, .nil => .nil
  | _, _, .cons r t => .cons (r.tk S) (Wishes.tk S t)
section
variable {σ : L2.St} {H : Hp} {v : V} {ta tb te : TE} {K : PySem.W.Frag}
def EvO (to : TO) (σ : L2.St) (H : Hp) (o : Option Int) : Prop := ∀ H1, Sm H H1 → ∀ Q : Option Int → Hp → Prop, (∀ H2, Sm H1 H2 → Q o H2) → to σ H1 Q
theorem evo_no : EvO tNoPart σ H none := fun H1 S Q q => q H1 (Sm.refl _)
theorem evo_some {i : Int} (h : Ev te σ H (.int i)) : EvO (tPart te) σ H (some i) := fun H1 S Q q => h H1 S _ fun H2 S2 => ⟨i, rfl, q H2 S2⟩
theorem evp_slice {tl th : TO} {a : Addr} {xs : List V} {lo hi : Option Int} (ha : Ev te σ H (.ref a)) (hl : EvO tl σ H lo) (hh : EvO th σ H hi) (hx : SqL K H a xs) : EvP (tSl (rSlL K) te tl th) σ H fun u H' => ∃ l, u = .ref l ∧ SqL K H' l (cutV xs lo hi) := fun H1 S Q q =>
  ha H1 S _ fun H2 S2 => hl H2 (S.trans S2) _ fun H3 S3 => hh H3 (S.trans (S2.trans S3)) _ fun H4 S4 => ⟨a, xs, rfl, (S.trans (S2.trans (S3.trans S4))).sql hx, fun p np => q _ _ (S2.trans (S3.trans (S4.trans (Sm.new np)))) ⟨p, rfl, .inl (.inl upd_same)⟩⟩
theorem evp_sliceN {tl th : TO} {a : Addr} {xs : List V} {lo hi : Option Int} (ha : Ev te σ H (.ref a)) (hl : EvO tl σ H lo) (hh : EvO th σ H hi) (hx : SqL K H a xs) : EvP (tSl (rSlL K) te tl th) σ H fun u H' => ∃ l, u = .ref l ∧ H l = none ∧ H' l = some (.lst (cutV xs lo hi)) := fun H1 S Q q =>
  ha H1 S _ fun H2 S2 => hl H2 (S.trans S2) _ fun H3 S3 => hh H3 (S.trans (S2.trans S3)) _ fun H4 S4 => ⟨a, xs, rfl, (S.trans (S2.trans (S3.trans S4))).sql hx, fun p np => q _ _ (S2.trans (S3.trans (S4.trans (Sm.new np)))) ⟨p, rfl, S.free (S2.free (S3.free (S4.free np))), upd_same⟩⟩
theorem Wishes.drop {K : PySem.W.Frag} {H : Hp} : ∀ (n : Nat) {xs : List V} {ws : List Wish}, Wishes K H xs ws → Wishes K H (xs.drop n) (ws.drop n)
  | 0, _, _, h => h
  | n + 1, _, _, .nil => .nil
  | n + 1, _, _, .cons _ t => Wishes.drop n t
theorem Wishes.take {K : PySem.W.Frag} {H : Hp} : ∀ (n : Nat) {xs : List V} {ws : List Wish}, Wishes K H xs ws → Wishes K H (xs.take n) (ws.take n)
  | 0, _, _, _ => .nil
  | n + 1, _, _, .nil => .nil
  | n + 1, _, _, .cons r t => .cons r (Wishes.take n t)
theorem Wishes.cut {K : PySem.W.Frag} {H : Hp} {xs : List V} {ws : List Wish} (h : Wishes K H xs ws) (lo hi : Option Int) : ∃ ws', Wishes K H (cutV xs lo hi) ws' ∧ (∀ w ∈ ws', w ∈ ws) ∧ ws'.length ≤ ws.length :=
  ⟨_, (h.drop _).take _, fun w hw => List.mem_of_mem_drop (List.mem_of_mem_take hw), by rw [List.length_take, List.length_drop]; omega⟩
theorem cutV_to (xs : List V) (k : Nat) : (cutV xs none (some (k : Int))).length ≤ k := by
  unfold cutV
  rw [List.length_take, HT.sIx_nat, HT.sIx_none]
  omega
theorem Paired.snoc {α β : Type} {R : α → β → Prop} {a : α} {b : β} : ∀ {l : List α} {m : List β}, Paired R l m → R a b → Paired R (l ++ [a]) (m ++ [b])
  | _, _, .nil, h => .cons h .nil
  | _, _, .cons r t, h => .cons r (Paired.snoc t h)
theorem Paired.mapR {α β : Type} {R R' : α → β → Prop} (f : ∀ a b, R a b → R' a b) : ∀ {l : List α} {m : List β}, Paired R l m → Paired R' l m
  | _, _, .nil => .nil
  | _, _, .cons r t => .cons (f _ _ r) (Paired.mapR f t)
/-- [te for x in tl], x in slot j: each item x gives a y of which P x y holds -/
theorem evp_lc {tl : TE} {j : Nat} {vs : List Nat} {xs : List V} {P : V → V → Hp → Prop} (hl : EvP tl σ H fun u H' => ∃ a, u = .ref a ∧ SqL K H' a xs) (st : ∀ x y H H', Tk K H H' → P x y H → P x y H') (hz : xs.length ≤ 100000)
    (hw : ∀ x, wipe ((wipe σ vs).set j (some x)) vs = wipe σ vs) (he : ∀ x, x ∈ xs → EvP te ((wipe σ vs).set j (some x)) H fun y H' => P x y H') :
    EvP (tLc (iList K tl) (gName j) tYes te vs) σ H fun u H' => ∃ l ys, u = .ref l ∧ H l = none ∧ H' l = some (.lst ys) ∧ Paired (fun x y => P x y H') xs ys := fun H1 S Q q =>
  hl H1 S _ fun u H2 S2 ⟨a, e, hx⟩ => ⟨a, e, ⟨xs, hx⟩, fun D nD => by
    have ne : ∀ {H3 : Hp}, Sm H2 H3 → SqL K H3 a xs := fun S => S.sql hx
    refine lc_list (K := K) (a := a) (xs := xs) (fun i H3 => Sm H2 H3 ∧ ∃ acc, H3 D = some (.lst acc) ∧ Paired (fun x y => P x y H3) (xs.take i) acc) ⟨Sm.new nD, [], upd_same, .nil⟩ (fun i H3 _ h => ne h.1) (fun i x H3 hi ⟨S3, acc, hD, hp⟩ => ?_) (fun H3 ⟨S3, acc, hD, hp⟩ => ?_)
    · refine ⟨hw x, ?_⟩
      simp only [tYes, if_true]
      refine he x (List.mem_of_getElem? hi) H3 (S.trans (S2.trans S3)) _ fun y H4 S4 p => ⟨acc, S4.lst hD, ?_, (S3.trans S4).mut nD, acc ++ [y], upd_same, ?_⟩
      · have e1 := Paired.length hp
        have e2 : i < xs.length := (List.getElem?_eq_some_iff.mp hi).1
        rw [List.length_take] at e1
        exact Nat.lt_of_lt_of_le (show acc.length < 100000 by omega) (by decide)
      · have t1 : Tk K H3 (upd H4 D (.lst (acc ++ [y]))) := fun b r z => tk_lst (S4.lst hD) _ _ (S4.sqt z)
        rw [take_snoc hi]
        exact Paired.snoc (Paired.mapR (fun x y z => st x y _ _ t1 z) hp) (st _ _ _ _ (tk_lst (S4.lst hD)) p)
    · rw [List.take_length] at hp
      exact q (.ref D) H3 (S2.trans S3) ⟨D, acc, rfl, S.free (S2.free nD), hD, hp⟩⟩
theorem wishes_of {H : Hp} : ∀ {xs ys : List V}, Paired (fun (_ : V) y => ∃ w, WishV K H y w ∧ w.Good) xs ys → ∃ ws, Wishes K H ys ws ∧ (∀ w ∈ ws, w.Good) ∧ ws.length = xs.length
  | _, _, .nil => ⟨[], .nil, (fun w h => by cases h), rfl⟩
  | _, _, .cons r t => by
    obtain ⟨ws, h1, h2, h3⟩ := wishes_of t
    obtain ⟨w, g1, g2⟩ := r
    refine ⟨w :: ws, .cons g1 h1, fun z hz => ?_, by rw [List.length_cons, List.length_cons, h3]⟩
    rcases List.mem_cons.mp hz with e | e
    · rw [e]
      exact g2
    · exact h2 z e
end
/-! loops -/
section
variable {σ : L2.St} {H : Hp} {te : TE} {K : PySem.W.Frag} {D : Ends} {tb : TS} {k : Nat}
theorem q_forR {ta : TA} {j : Int} (Pv : Nat → L2.St → Hp → Prop) (h : EvL ta σ H [.int j]) (hj : -(2 ^ 62) ≤ j ∧ j < 2 ^ 62) (h0 : ∀ H', Sm H H' → Pv 0 σ H')
    (hs : ∀ i σ' H', i < j.toNat → Pv i σ' H' → tb { D with nx := Pv (i + 1), ct := Pv (i + 1), bk := D.nx } (σ'.set k (some (.int i))) H') (hd : ∀ σ' H', Pv j.toNat σ' H' → D.nx σ' H') : tFor (iRng1 ta) (gName k) tb D σ H :=
  h H (Sm.refl _) _ fun us H2 S2 p => ⟨j, p, hj.1, hj.2, for_range (lo := 0) (n := j.toNat) Pv (h0 H2 S2) (fun i σ' H' hi hp => by
    have q := hs i σ' H' hi hp
    have e : (0 : Int) + (i : Int) = (i : Int) := Int.zero_add _
    rw [e]
    exact q) hd⟩
theorem q_forL {a : Addr} {xs : List V} (Pv : Nat → L2.St → Hp → Prop) (h : Ev te σ H (.ref a)) (hx : SqL K H a xs) (h0 : ∀ H', Sm H H' → Pv 0 σ H') (hl : ∀ i σ' H', i ≤ xs.length → Pv i σ' H' → SqL K H' a xs)
    (hs : ∀ i x σ' H', xs[i]? = some x → Pv i σ' H' → tb { D with nx := Pv (i + 1), ct := Pv (i + 1), bk := D.nx } (σ'.set k (some x)) H') (hd : ∀ σ' H', Pv xs.length σ' H' → D.nx σ' H') : tFor (iList K te) (gName k) tb D σ H :=
  h H (Sm.refl _) _ fun H2 S2 => ⟨a, rfl, ⟨xs, S2.sql hx⟩, for_list (K := K) (a := a) (xs := xs) Pv (h0 H2 S2) hl hs hd⟩
/-- xs.append(e): the list is new since H0 -/
theorem q_app {to : TE} {l : Addr} {acc : List V} {P : V → Hp → Prop} (ho : Ev to σ H (.ref l)) (hl : H l = some (.lst acc)) (hz : acc.length < sizeLine) (he : EvP te σ H P) (kk : ∀ y H', Sm H H' → P y H' → H' l = some (.lst acc) → D.nx σ (upd H' l (.lst (acc ++ [y])))) :
    tDrop (tBM K "list" rAppend to (tCons te tNil)) D σ H :=
  ho H (Sm.refl _) _ fun H1 S1 => ⟨.inl ⟨rfl, acc, .inl (.inl (S1.lst hl))⟩, he H1 S1 _ fun y H2 S2 p => ⟨l, acc, y, rfl, rfl, (S1.trans S2).lst hl, hz, kk y H2 (S1.trans S2) p ((S1.trans S2).lst hl)⟩⟩
end
/-! data, compared -/
mutual
theorem dp_sm {K : PySem.W.Frag} {H H' : Hp} (S : Sm H H') : ∀ (d : PyData) (v : V), Dp K H v d → Dp K H' v d
  | .none, _, h => by cases h; exact .non
  | .bool _, _, h => by cases h; exact .bl _
  | .int _, _, h => by cases h; exact .int _
  | .str _, _, h => by cases h; exact .str _
  | .list ds, _, h => by cases h with | lst h1 h2 => exact .lst (S.sql h1) (dpAll_sm S ds _ h2)
  | .tuple ds, _, h => by cases h with | tup h1 h2 => exact .tup (S.sqt h1) (dpAll_sm S ds _ h2)
  | .dict _, _, h => by cases h
theorem dpAll_sm {K : PySem.W.Frag} {H H' : Hp} (S : Sm H H') : ∀ (ds : List PyData) (vs : List V), DpAll K H vs ds → DpAll K H' vs ds
  | [], _, h => by cases h; exact .nil
  | d :: ds, _, h => by cases h with | cons h1 h2 => exact .cons (dp_sm S d _ h1) (dpAll_sm S ds _ h2)
end
theorem dp_ints {K : PySem.W.Frag} {H : Hp} : ∀ ns : List Int, DpAll K H (ns.map V.int) (ns.map PyData.int)
  | [] => .nil
  | n :: ns => .cons (.int n) (dp_ints ns)
section
variable {σ : L2.St} {H : Hp} {v : V} {ta tb te : TE} {K : PySem.W.Frag}
/-- te gives what holds the data d -/
def EvD (K : PySem.W.Frag) (te : TE) (σ : L2.St) (H : Hp) (d : PyData) : Prop := EvP te σ H fun u H' => Dp K H' u d
theorem Ev.d {d : PyData} (h : Ev te σ H v) (hd : Dp K H v d) : EvD K te σ H d := fun H1 S Q q => h H1 S Q fun H2 S2 => q v H2 S2 (dp_sm (S.trans S2) d v hd)
theorem ev_eqD {d e : PyData} (ha : EvD K ta σ H d) (hb : EvD K tb σ H e) (sd : SeqAt.shaped d = true) (se : SeqAt.shaped e = true) : Ev (tOp (rEqD K) ta tb) σ H (.bl (PyData.eqv d e)) := fun H1 S Q q =>
  ha H1 S _ fun u H2 S2 p => hb H2 (S.trans S2) _ fun u' H3 S3 p' => ⟨d, e, dp_sm S3 d u p, p', sd, se, q H3 (S2.trans S3)⟩
theorem ev_neD {d e : PyData} (ha : EvD K ta σ H d) (hb : EvD K tb σ H e) (sd : SeqAt.shaped d = true) (se : SeqAt.shaped e = true) : Ev (tOp (rNeD K) ta tb) σ H (.bl (!PyData.eqv d e)) := fun H1 S Q q =>
  ha H1 S _ fun u H2 S2 p => hb H2 (S.trans S2) _ fun u' H3 S3 p' => ⟨d, e, dp_sm S3 d u p, p', sd, se, q H3 (S2.trans S3)⟩
theorem evp_lstI {t : TA} {ns : List Int} (ha : EvI t σ H ns) (hz : (ns.map V.int).length ≤ sizeLine) : EvP (tLst t) σ H fun u H' => ∃ a, u = .ref a ∧ SqL K H' a (ns.map V.int) := evp_lstV ha hz
theorem evd_lstI {t : TA} {ns : List Int} (ha : EvI t σ H ns) (hz : (ns.map V.int).length ≤ sizeLine) : EvD K (tLst t) σ H (.list (ns.map PyData.int)) := fun H1 S Q q =>
  evp_lstV (K := K) ha hz H1 S Q fun u H2 S2 ⟨a, e, h⟩ => q u H2 S2 (by rw [e]; exact .lst h (dp_ints ns))
theorem evd_tupI {t : TA} {ns : List Int} (ha : EvI t σ H ns) (hz : (ns.map V.int).length ≤ sizeLine) : EvD K (tTup t) σ H (.tuple (ns.map PyData.int)) := fun H1 S Q q =>
  evp_tupV (K := K) ha hz H1 S Q fun u H2 S2 ⟨a, e, h⟩ => q u H2 S2 (by rw [e]; exact .tup h (dp_ints ns))
theorem canLay_ints : ∀ ns : List Int, PyData.canLayAll0 (ns.map PyData.int) = true
  | [] => by simp [PyData.canLayAll0]
  | n :: ns => by simp [PyData.canLayAll0, PyData.canLay0, canLay_ints ns]
theorem depth_ints : ∀ ns : List Int, PyData.depthAll (ns.map PyData.int) = 0
  | [] => by simp [PyData.depthAll]
  | n :: ns => by simp [PyData.depthAll, PyData.depth, depth_ints ns]
theorem shaped_ints (ns : List Int) : SeqAt.shaped (.list (ns.map PyData.int)) = true := by
  simp [SeqAt.shaped, PyData.canLay0, PyData.depth, canLay_ints, depth_ints]
theorem shaped_intsT (ns : List Int) : SeqAt.shaped (.tuple (ns.map PyData.int)) = true := by
  simp [SeqAt.shaped, PyData.canLay0, PyData.depth, canLay_ints, depth_ints]
theorem side_ok (b : Bool) : PyData.canLay0 (.str (sideS b)) = true := by cases b <;> decide +kernel
theorem canLay_wish (w : Wish) : PyData.canLay0 w.data = true := by
  have h := side_ok w.buy
  unfold Wish.data Wish.side
  simp only [PyData.canLay0, PyData.canLayAll0] at h ⊢
  simp [h]
theorem canLay_wishes : ∀ ws : List Wish, PyData.canLayAll0 (ws.map Wish.data) = true
  | [] => by simp [PyData.canLayAll0]
  | w :: ws => by simp [PyData.canLayAll0, canLay_wish, canLay_wishes ws]
theorem depth_wish (w : Wish) : PyData.depth w.data = 1 := by
  unfold Wish.data
  simp [PyData.depth, PyData.depthAll]
theorem depth_wishes : ∀ ws : List Wish, PyData.depthAll (ws.map Wish.data) ≤ 1
  | [] => by simp [PyData.depthAll]
  | w :: ws => by
    have h := depth_wishes ws
    simp only [List.map_cons, PyData.depthAll, depth_wish]
    omega
theorem shaped_wishes (ws : List Wish) : SeqAt.shaped (.list (ws.map Wish.data)) = true := by
  have h := depth_wishes ws
  unfold SeqAt.shaped
  rw [Bool.and_eq_true, decide_eq_true_eq]
  refine ⟨by simp only [PyData.canLay0, canLay_wishes], ?_⟩
  simp only [PyData.depth]
  omega
theorem eqv_self {d : PyData} (h : SeqAt.shaped d = true) : PyData.eqv d d = true := SeqAt.eqv_refl d (SeqAt.canLay_of_shaped h)
end
/-! three comparisons in a row; while -/
def tCh3 (r1 r2 r3 : R2) (ta tb tc td : TE) : TT := fun σ H Q => ta σ H fun x H1 => tb σ H1 fun y H2 => r1 x y H2 fun z H3 => ∃ k, z = .bl k ∧
  (if k = true then tc σ H3 fun u H4 => r2 y u H4 fun z' H5 => ∃ k', z' = .bl k' ∧ (if k' = true then td σ H5 fun v H6 => r3 u v H6 fun z2 H7 => ∃ k2, z2 = .bl k2 ∧ Q k2 H7 else Q false H5) else Q false H3)
theorem pt_chain3 {X : Cx} {a b c d : Expr} {ta tb tc td : TE} {pos : Pos} {o1 o2 o3 : CmpOp} {r1 r2 r3 : R2} (h1 : OpR X (compareOp o1) r1) (h2 : OpR X (compareOp o2) r2) (h3 : OpR X (compareOp o3) r3) (ha : PE X a ta) (hb : PE X b tb) (hc : PE X c tc) (hd : PE X d td)
    (hm : lastMarks [o1, o2, o3] [b, c, d] = false := by with_unfolding_all rfl) : PT X (.Compare a [o1, o2, o3] [b, c, d] pos) (tCh3 r1 r2 r3 ta tb tc td) := by
  refine ⟨fun pins s σ H Q I h => ?_⟩
  refine isTrue_chain (thn (ha.run pins s σ H _ I h) fun v s1 ⟨x, H1, I1, e1, q1⟩ => test_link (thn (hb.run pins s1 σ H1 _ I1 q1) fun u s2 ⟨y, H2, I2, e2, q2⟩ =>
    thn (h1 pins s2 σ H2 x y v u _ I2 e1 e2 q2) fun w s3 ⟨z, H3, I3, e3, k, ek, q3⟩ => ?_)) hm
  subst ek
  cases e3
  refine wpAny_truthy_bool ?_
  cases k with
  | false => exact ite_ff ⟨H3, I3, q3⟩
  | true =>
    refine ite_tt (test_link (thn (hc.run pins s3 σ H3 _ I3 q3) fun u' s4 ⟨y', H4, I4, e4, q4⟩ => thn (h2 pins s4 σ H4 y y' u u' _ I4 e2 e4 q4) fun w' s5 ⟨z', H5, I5, e5, k', ek', q5⟩ => ?_))
    subst ek'
    cases e5
    refine wpAny_truthy_bool ?_
    cases k' with
    | false => exact ite_ff ⟨H5, I5, q5⟩
    | true =>
      refine ite_tt (test_last (thn (hd.run pins s5 σ H5 _ I5 q5) fun u2 s6 ⟨y2, H6, I6, e6, q6⟩ => thn (h3 pins s6 σ H6 y' y2 u' u2 _ I6 e4 e6 q6) fun w2 s7 ⟨z2, H7, I7, e7, k2, ek2, q7⟩ => ?_))
      subst ek2
      cases e7
      exact wpAny_truthy_bool ⟨H7, I7, q7⟩
section
variable {σ : L2.St} {H : Hp} {ta tb tc td : TE} {D : Ends} {tb' : TS} {c : TT}
theorem evt_ch3 {g1 g2 g3 : Int → Int → Bool} {i j k l : Int} (ha : Ev ta σ H (.int i)) (hb : Ev tb σ H (.int j)) (hc : Ev tc σ H (.int k)) (hd : Ev td σ H (.int l)) :
    EvT (tCh3 (rI0 fun i j => .bl (g1 i j)) (rI0 fun i j => .bl (g2 i j)) (rI0 fun i j => .bl (g3 i j)) ta tb tc td) σ H (g1 i j && (g2 j k && g3 k l)) := fun H1 S Q q =>
  ha H1 S _ fun H2 S2 => hb H2 (S.trans S2) _ fun H3 S3 => ⟨i, j, rfl, rfl, g1 i j, rfl, by
    cases h : g1 i j with
    | false => rw [if_neg Bool.false_ne_true]; rw [h] at q; exact q H3 (S2.trans S3)
    | true =>
      rw [if_pos rfl]
      refine hc H3 (S.trans (S2.trans S3)) _ fun H4 S4 => ⟨j, k, rfl, rfl, g2 j k, rfl, ?_⟩
      cases h' : g2 j k with
      | false => rw [if_neg Bool.false_ne_true]; rw [h, h'] at q; exact q H4 (S2.trans (S3.trans S4))
      | true =>
        rw [if_pos rfl]
        exact hd H4 (S.trans (S2.trans (S3.trans S4))) _ fun H5 S5 => ⟨k, l, rfl, rfl, _, rfl, by rw [h, h'] at q; exact q H5 (S2.trans (S3.trans (S4.trans S5)))⟩⟩
theorem q_while (W : Nat → L2.St → Hp → Prop) {m0 : Nat} (h0 : W m0 σ H)
    (hs : ∀ m σ' H', W m σ' H' → ∃ b, EvT c σ' H' b ∧ (b = true → ∀ H1, Sm H' H1 → tb' { D with nx := fun σ2 H2 => ∃ m', m' < m ∧ W m' σ2 H2, ct := fun σ2 H2 => ∃ m', m' < m ∧ W m' σ2 H2, bk := D.nx } σ' H1) ∧ (b = false → ∀ H1, Sm H' H1 → D.nx σ' H1)) : tWhile c tb' D σ H :=
  ⟨W, ⟨m0, h0⟩, fun m σ' H' hW => by
    obtain ⟨b, h1, h2, h3⟩ := hs m σ' H' hW
    refine h1 H' (Sm.refl _) _ fun H1 S1 => ?_
    cases b with
    | true => rw [if_pos rfl]; exact ⟨_, fun σ2 H2 z => z, h2 rfl H1 S1⟩
    | false => rw [if_neg Bool.false_ne_true]; exact h3 rfl H1 S1⟩
end
end My

set_option Elab.async false
set_option linter.all false
set_option maxHeartbeats 400000
namespace My
open PySem PySem.Spec PyProof.Rows L2
/-! ### the mathematics of what is wanted and offered -/
theorem wanted_nil (p : Int) : wantedOf [] p = 0 := rfl
theorem offered_nil (p : Int) : offeredOf [] p = 0 := rfl
theorem wanted_cons (w : Wish) (ws : List Wish) (p : Int) : wantedOf (w :: ws) p = (if (w.buy && decide (p ≤ w.lim)) = true then w.amt else 0) + wantedOf ws p := by
  unfold wantedOf
  rw [List.filter_cons]
  split <;> rename_i h
  · rw [List.map_cons, List.sum_cons]
  · omega
theorem offered_cons (w : Wish) (ws : List Wish) (p : Int) : offeredOf (w :: ws) p = (if (!w.buy && decide (w.lim ≤ p)) = true then w.amt else 0) + offeredOf ws p := by
  unfold offeredOf
  rw [List.filter_cons]
  split <;> rename_i h
  · rw [List.map_cons, List.sum_cons]
  · omega
def Goods (ws : List Wish) : Prop := ∀ w ∈ ws, w.Good
theorem Goods.tail {w : Wish} {ws : List Wish} (h : Goods (w :: ws)) : Goods ws := fun z hz => h z (List.mem_cons_of_mem _ hz)
theorem Goods.head {w : Wish} {ws : List Wish} (h : Goods (w :: ws)) : w.Good := h w List.mem_cons_self
theorem wanted_mono {p q : Int} (h : p ≤ q) : ∀ {ws : List Wish}, Goods ws → wantedOf ws q ≤ wantedOf ws p
  | [], _ => Int.le_refl _
  | w :: ws, hg => by
    have ih := wanted_mono h hg.tail
    have ha := hg.head.a0
    rw [wanted_cons, wanted_cons]
    cases w.buy with
    | false => simpa using ih
    | true =>
      by_cases h1 : q ≤ w.lim
      · have h2 : p ≤ w.lim := by omega
        simp only [h1, h2, decide_true, Bool.and_self, if_true]
        omega
      · by_cases h2 : p ≤ w.lim
        · simp only [h1, h2, decide_true, decide_false, Bool.and_true, Bool.and_false, Bool.false_eq_true, if_false, if_true]
          omega
        · simp only [h1, h2, decide_false, Bool.and_false, Bool.false_eq_true, if_false]
          omega
theorem offered_mono {p q : Int} (h : p ≤ q) : ∀ {ws : List Wish}, Goods ws → offeredOf ws p ≤ offeredOf ws q
  | [], _ => Int.le_refl _
  | w :: ws, hg => by
    have ih := offered_mono h hg.tail
    have ha := hg.head.a0
    rw [offered_cons, offered_cons]
    cases w.buy with
    | true => simpa using ih
    | false =>
      by_cases h1 : w.lim ≤ p
      · have h2 : w.lim ≤ q := by omega
        simp only [h1, h2, decide_true, Bool.not_false, Bool.and_self, if_true]
        omega
      · by_cases h2 : w.lim ≤ q
        · simp only [h1, h2, decide_true, decide_false, Bool.not_false, Bool.and_true, Bool.and_false, Bool.false_eq_true, if_false, if_true]
          omega
        · simp only [h1, h2, decide_false, Bool.and_false, Bool.false_eq_true, if_false]
          omega
theorem wanted_nn (p : Int) : ∀ {ws : List Wish}, Goods ws → 0 ≤ wantedOf ws p
  | [], _ => Int.le_refl _
  | w :: ws, hg => by
    have ih := wanted_nn p hg.tail
    have ha := hg.head.a0
    rw [wanted_cons]
    split <;> omega
theorem offered_nn (p : Int) : ∀ {ws : List Wish}, Goods ws → 0 ≤ offeredOf ws p
  | [], _ => Int.le_refl _
  | w :: ws, hg => by
    have ih := offered_nn p hg.tail
    have ha := hg.head.a0
    rw [offered_cons]
    split <;> omega
theorem wanted_top {p : Int} (h : 1000000000 < p) : ∀ {ws : List Wish}, Goods ws → wantedOf ws p = 0
  | [], _ => rfl
  | w :: ws, hg => by
    have ih := wanted_top h hg.tail
    have hl := hg.head.l1
    have h1 : ¬ p ≤ w.lim := by omega
    rw [wanted_cons, ih]
    simp [h1]
theorem offered_low {p : Int} (h : p < 0) : ∀ {ws : List Wish}, Goods ws → offeredOf ws p = 0
  | [], _ => rfl
  | w :: ws, hg => by
    have ih := offered_low h hg.tail
    have hl := hg.head.l0
    have h1 : ¬ w.lim ≤ p := by omega
    rw [offered_cons, ih]
    simp [h1]
/-! too low, too high -/
def lowB (ws : List Wish) (p : Int) : Bool := decide (offeredOf ws p < wantedOf ws (p + 1))
def highB (ws : List Wish) (p : Int) : Bool := decide (wantedOf ws p < offeredOf ws (p - 1))
def clearsB (ws : List Wish) (p : Int) : Bool := !lowB ws p && !highB ws p
theorem low_iff {ws : List Wish} {p : Int} : lowB ws p = true ↔ offeredOf ws p < wantedOf ws (p + 1) := decide_eq_true_iff
theorem high_iff {ws : List Wish} {p : Int} : highB ws p = true ↔ wantedOf ws p < offeredOf ws (p - 1) := decide_eq_true_iff
theorem low_down {ws : List Wish} {p q : Int} (hg : Goods ws) (h : p ≤ q) (hq : lowB ws q = true) : lowB ws p = true := by
  rw [low_iff] at hq ⊢
  have h1 := offered_mono h hg
  have h2 := wanted_mono (show p + 1 ≤ q + 1 by omega) hg
  omega
theorem high_up {ws : List Wish} {p q : Int} (hg : Goods ws) (h : p ≤ q) (hq : highB ws p = true) : highB ws q = true := by
  rw [high_iff] at hq ⊢
  have h1 := wanted_mono h hg
  have h2 := offered_mono (show p - 1 ≤ q - 1 by omega) hg
  omega
theorem low_top {ws : List Wish} (hg : Goods ws) : lowB ws 1000000000 = false := by
  cases e : lowB ws 1000000000 with
  | false => rfl
  | true =>
    rw [low_iff, wanted_top (by omega) hg] at e
    have := offered_nn 1000000000 hg
    omega
theorem high_zero {ws : List Wish} (hg : Goods ws) : highB ws 0 = false := by
  cases e : highB ws 0 with
  | false => rfl
  | true =>
    rw [high_iff, offered_low (by omega) hg] at e
    have := wanted_nn 0 hg
    omega
/-- the least price that is not too low -/
structure IsLow (ws : List Wish) (p : Int) : Prop where
  p0 : 0 ≤ p
  p1 : p ≤ 1000000000
  nl : lowB ws p = false
  bl : p = 0 ∨ lowB ws (p - 1) = true
/-- the greatest price that is not too high -/
structure IsHigh (ws : List Wish) (p : Int) : Prop where
  p0 : 0 ≤ p
  p1 : p ≤ 1000000000
  nh : highB ws p = false
  bh : p = 1000000000 ∨ highB ws (p + 1) = true
theorem clears_iff {ws : List Wish} {p : Int} : clearsB ws p = true ↔ lowB ws p = false ∧ highB ws p = false := by
  unfold clearsB
  cases lowB ws p <;> cases highB ws p <;> simp
theorem IsLow.notHigh {ws : List Wish} {p : Int} (hg : Goods ws) (h : IsLow ws p) : highB ws p = false := by
  rcases h.bl with e | e
  · rw [e]
    exact high_zero hg
  · cases k : highB ws p with
    | false => rfl
    | true =>
      rw [low_iff] at e
      rw [high_iff] at k
      rw [show p - 1 + 1 = p by omega] at e
      omega
theorem IsHigh.notLow {ws : List Wish} {p : Int} (hg : Goods ws) (h : IsHigh ws p) : lowB ws p = false := by
  rcases h.bh with e | e
  · rw [e]
    exact low_top hg
  · cases k : lowB ws p with
    | false => rfl
    | true =>
      rw [high_iff] at e
      rw [low_iff] at k
      rw [show p + 1 - 1 = p by omega] at e
      omega
theorem IsLow.clears {ws : List Wish} {p : Int} (hg : Goods ws) (h : IsLow ws p) : clearsB ws p = true := clears_iff.mpr ⟨h.nl, h.notHigh hg⟩
theorem IsHigh.clears {ws : List Wish} {p : Int} (hg : Goods ws) (h : IsHigh ws p) : clearsB ws p = true := clears_iff.mpr ⟨h.notLow hg, h.nh⟩
theorem IsHigh.ge {ws : List Wish} {p q : Int} (hg : Goods ws) (h : IsHigh ws p) (hq : highB ws q = false) (h1 : q ≤ 1000000000) : q ≤ p := by
  rcases Int.lt_or_le p q with k | k
  · rcases h.bh with e | e
    · omega
    · rw [high_up hg (show p + 1 ≤ q by omega) e] at hq
      cases hq
  · exact k
theorem IsLow.le {ws : List Wish} {p q : Int} (hg : Goods ws) (h : IsLow ws p) (hq : lowB ws q = false) (h0 : 0 ≤ q) : p ≤ q := by
  rcases Int.lt_or_le q p with k | k
  · rcases h.bl with e | e
    · omega
    · rw [low_down hg (show q ≤ p - 1 by omega) e] at hq
      cases hq
  · exact k
theorem low_le_high {ws : List Wish} {p q : Int} (hg : Goods ws) (hl : IsLow ws p) (hh : IsHigh ws q) : p ≤ q := hh.ge hg (hl.notHigh hg) hl.p1
/-- a price clears just between the two -/
theorem clears_between {ws : List Wish} {p q z : Int} (hg : Goods ws) (hl : IsLow ws p) (hh : IsHigh ws q) (h0 : 0 ≤ z) (h1 : z ≤ 1000000000) : clearsB ws z = decide (p ≤ z ∧ z ≤ q) := by
  rw [Bool.eq_iff_iff, clears_iff, decide_eq_true_iff]
  constructor
  · intro ⟨a, b⟩
    exact ⟨hl.le hg a h0, hh.ge hg b h1⟩
  · intro ⟨a, b⟩
    constructor
    · cases e : lowB ws z with
      | false => rfl
      | true =>
        exact absurd hl.nl (by simp [low_down hg a e])
    · cases e : highB ws z with
      | false => rfl
      | true => exact absurd hh.nh (by simp [high_up hg b e])
end My

set_option Elab.async false
set_option linter.all false
set_option maxRecDepth 100000
set_option maxHeartbeats 400000
namespace PySem.TyNe
open PySem PySem.TypeEq
theorem slot_ne : Slot "type" (cmpInfo .NotEq).2.1 "object.__ne__" :=
  .of (owner := "object") (n := "__ne__") (by rw [typeLookup_type, builtinLookup_eq_fast]; kernel_rfl) (by decide +kernel) (by decide +kernel) (by decide +kernel)
    (by first | exact .inl (by decide +kernel) | exact .inr (by decide +kernel)) (by rw [isSubtype_type]; kernel_rfl)
theorem slot_ne_refl : Slot "type" (cmpInfo .NotEq).2.2 "object.__ne__" :=
  .of (owner := "object") (n := "__ne__") (by rw [typeLookup_type, builtinLookup_eq_fast]; kernel_rfl) (by decide +kernel) (by decide +kernel) (by decide +kernel)
    (by first | exact .inl (by decide +kernel) | exact .inr (by decide +kernel)) (by rw [isSubtype_type]; kernel_rfl)
section
variable {prog : Program} {w : World} {A : Around} {E : Value → Shared → Prop} {s : Shared} {Q : Value → Shared → Prop}
theorem call_ne_same {X : String} (hX : ∀ s' : Shared, s'.TypeIs (.type X) "type") (h : Q (.bool false) s) : wpAny (model prog w) A (call (.builtin "object.__ne__") [.type X, .type X]) Q E s := by
  refine wpAny_call_entry slot_ne (hX s) F.cmpEntry_ne ?_ (F.cmpArgs_ne _ _)
  unfold Builtin.«object.__ne__»
  refine wpAny_bind (wpAny_of_eq (a := ((Value.type X : Value), [Value.type X])) (by first | rfl | (simp only [slotArgs]; rfl)) ?_)
  refine wpAny_bind (wpAny_cRoomFor_or (.inl rfl) ?_)
  refine wpAny_bind (wpAny_callSpecialIfBound?_slot (hX s) slot_type_eq (call_gives slot_type_eq (hX s) F.entry_object_eq (F.args_object_eq_2 _ _) (object_eq_same rfl (by simp)) ?_))
  refine wpAny_bind (m := truthy (.bool true)) (wpAny_pure ?_)
  exact wpAny_pure ⟨_, rfl, h⟩
theorem call_ne_other {X Y : String} (hX : ∀ s' : Shared, s'.TypeIs (.type X) "type") (hne : (Value.type X == Value.type Y) = false) (h : Q .notImplemented s) : wpAny (model prog w) A (call (.builtin "object.__ne__") [.type X, .type Y]) Q E s := by
  refine wpAny_call_entry slot_ne (hX s) F.cmpEntry_ne ?_ (F.cmpArgs_ne _ _)
  unfold Builtin.«object.__ne__»
  refine wpAny_bind (wpAny_of_eq (a := ((Value.type X : Value), [Value.type Y])) (by first | rfl | (simp only [slotArgs]; rfl)) ?_)
  refine wpAny_bind (wpAny_cRoomFor_or (.inl rfl) ?_)
  refine wpAny_bind (wpAny_callSpecialIfBound?_slot (hX s) slot_type_eq (call_gives slot_type_eq (hX s) F.entry_object_eq (F.args_object_eq_2 _ _) (object_eq_other rfl hne) ?_))
  exact wpAny_pure ⟨_, rfl, h⟩
theorem ne_same {X : String} (hX : ∀ s' : Shared, s'.TypeIs (.type X) "type") (h : Q (.bool false) s) : wpAny (model prog w) A (compareOp .NotEq (.type X) (.type X)) Q E s := by
  show wpAny _ A (richCompare .NotEq _ _) Q E s
  exact wpAny_richCompare_same (T := "type") (hX s) (hX s) slot_ne (call_ne_same hX ⟨(by intro e; cases e), h⟩)
theorem ne_other {X Y : String} (hX : ∀ s' : Shared, s'.TypeIs (.type X) "type") (hY : ∀ s' : Shared, s'.TypeIs (.type Y) "type") (hne : (Value.type X == Value.type Y) = false) (h : Q (.bool true) s) : wpAny (model prog w) A (compareOp .NotEq (.type X) (.type Y)) Q E s := by
  have hne' : (Value.type Y == Value.type X) = false := by
    rw [Bool.eq_false_iff] at hne ⊢
    intro e
    exact hne (by rw [beq_iff_eq] at e ⊢; exact e.symm)
  show wpAny _ A (richCompare .NotEq _ _) Q E s
  have h1 := slot_ne
  have h2 := slot_ne_refl
  rcases hi : cmpInfo CmpOp.NotEq with ⟨sym, f, r⟩
  rw [hi] at h1 h2
  simp only [richCompare, hi, (hX s).oneThing_none]
  try with_reducible refine wpAny_holding ?_
  refine wpAny_bind (wpAny_cRoomFor_or (.inl rfl) ?_)
  refine wpAny_bind (wpAny_typeOf (hX s) (wpAny_bind (wpAny_typeOf (hY s) ?_)))
  simp only [bne_self_eq_false, Bool.false_eq_true, if_false, pure_bind, Bool.not_false, if_true]
  refine wpAny_bind (m := tryCompare (.type X) _ (.type Y)) (wpAny_tryCompare_declines (hX s) h1 (call_ne_other hX hne ⟨rfl, ?_⟩))
  refine wpAny_bind (m := tryCompare (.type Y) _ (.type X)) (wpAny_tryCompare_declines (hY s) h2 (call_ne_other hY hne' ⟨rfl, ?_⟩))
  exact wpAny_bind (wpAny_rule (wpAny_bind (wpAny_of_eq (show isSame (Value.type X) (.type Y) = pure false by rw [isSame_plain rfl, hne]) (wpAny_pure h))))
end
end PySem.TyNe
namespace My
open PySem PySem.Spec PyProof.Rows L2
/-- the kinds whose own kind is known -/
def tyL : List String := ["int", "str", "bool", "NoneType", "list", "tuple", "dict"]
theorem meta_of {a : String} (h : a ∈ tyL) (s : Shared) : s.TypeIs (.type a) "type" := by
  have h' : a = "int" ∨ a = "str" ∨ a = "bool" ∨ a = "NoneType" ∨ a = "list" ∨ a = "tuple" ∨ a = "dict" := by simpa [tyL] using h
  rcases h' with rfl | rfl | rfl | rfl | rfl | rfl | rfl
  · exact TypeEq.meta_int s
  · exact TypeEq.meta_str s
  · exact TypeEq.meta_bool s
  · exact TypeEq.meta_NoneType s
  · exact TypeEq.meta_list s
  · exact TypeEq.meta_tuple s
  · exact TypeEq.meta_dict s
section
variable {X : Cx}
def rEqT : R2 := fun x y H Q => ∃ a b, x = .ty a ∧ y = .ty b ∧ a ∈ tyL ∧ b ∈ tyL ∧ Q (.bl (decide (a = b))) H
def rNeT : R2 := fun x y H Q => ∃ a b, x = .ty a ∧ y = .ty b ∧ a ∈ tyL ∧ b ∈ tyL ∧ Q (.bl (!decide (a = b))) H
theorem op_eqT : OpR X (compareOp .Eq) rEqT := by
  intro pins s σ H x y v u Q I rx ry h
  obtain ⟨a, b, rfl, rfl, ha, hb, q⟩ := h
  cases (show v = Value.type a from rx)
  cases (show u = Value.type b from ry)
  by_cases e : a = b
  · subst e
    exact TypeEq.eq_type_same (meta_of ha) (fin_bl I q (by simp))
  · exact TypeEq.eq_type_other (meta_of ha) (meta_of hb) (beq_eq_false_iff_ne.mpr fun z => e (Value.type.inj z)) (fin_bl I q (by simp [e]))
theorem op_neT : OpR X (compareOp .NotEq) rNeT := by
  intro pins s σ H x y v u Q I rx ry h
  obtain ⟨a, b, rfl, rfl, ha, hb, q⟩ := h
  cases (show v = Value.type a from rx)
  cases (show u = Value.type b from ry)
  by_cases e : a = b
  · subst e
    exact TyNe.ne_same (meta_of ha) (fin_bl I q (by simp))
  · exact TyNe.ne_other (meta_of ha) (meta_of hb) (beq_eq_false_iff_ne.mpr fun z => e (Value.type.inj z)) (fin_bl I q (by simp [e]))
end
end My

set_option Elab.async false
set_option linter.all false
set_option maxRecDepth 100000
set_option maxHeartbeats 400000
/-! What is served one after the other: the lesser of what there is and what is asked for. -/
namespace My
theorem sum_perm {l l' : List Int} (h : l.Perm l') : l.sum = l'.sum := by
  induction h with
  | nil => rfl
  | cons x _ ih => rw [List.sum_cons, List.sum_cons, ih]
  | swap x y l => simp only [List.sum_cons]; omega
  | trans _ _ h1 h2 => exact h1.trans h2
/-- the amounts of those ahead of the key k -/
def before (l : List (Int × Int)) (k : Int) : Int := ((l.filter fun y => decide (y.1 < k)).map (·.2)).sum
/-- what x takes of D, all ahead of it served -/
def tk (D : Int) (l : List (Int × Int)) (x : Int × Int) : Int := max 0 (min x.2 (D - before l x.1))
theorem before_perm {l l' : List (Int × Int)} (h : l.Perm l') (k : Int) : before l k = before l' k := sum_perm ((h.filter _).map _)
theorem before_nn {l : List (Int × Int)} (h : ∀ x ∈ l, 0 ≤ x.2) (k : Int) : 0 ≤ before l k := by
  unfold before
  induction l with
  | nil => exact Int.le_refl 0
  | cons x l ih =>
    have h1 := h x List.mem_cons_self
    have h2 := ih fun y hy => h y (List.mem_cons_of_mem _ hy)
    rw [List.filter_cons]
    split
    · rw [List.map_cons, List.sum_cons]; omega
    · exact h2
theorem before_none {l : List (Int × Int)} {k : Int} (h : ∀ y ∈ l, k < y.1) : before l k = 0 := by
  unfold before
  have e : (l.filter fun y => decide (y.1 < k)) = [] := by
    rw [List.filter_eq_nil_iff]
    intro y hy
    have := h y hy
    simp only [decide_eq_true_eq]
    omega
  rw [e]
  rfl
theorem before_cons {l : List (Int × Int)} {x : Int × Int} {k : Int} : before (x :: l) k = (if x.1 < k then x.2 else 0) + before l k := by
  unfold before
  rw [List.filter_cons]
  by_cases h : x.1 < k
  · rw [if_pos (by simpa using h), if_pos h, List.map_cons, List.sum_cons]
  · rw [if_neg (by simpa using h), if_neg h, Int.zero_add]
theorem amts_nn : ∀ {l : List (Int × Int)}, (∀ x ∈ l, 0 ≤ x.2) → 0 ≤ (l.map (·.2)).sum
  | [], _ => Int.le_refl 0
  | y :: l, h => by
    have h1 := h y List.mem_cons_self
    have h2 := amts_nn fun z hz => h z (List.mem_cons_of_mem _ hz)
    rw [List.map_cons, List.sum_cons]
    omega
theorem served_sorted (D : Int) : ∀ (l : List (Int × Int)) (c : Int), (∀ x ∈ l, 0 ≤ x.2) → l.Pairwise (fun x y => x.1 < y.1) →
    (l.map fun x => max 0 (min x.2 (D - (c + before l x.1)))).sum = max 0 (min (D - c) (l.map (·.2)).sum)
  | [], c, _, _ => by
    show (0 : Int) = max 0 (min (D - c) 0)
    omega
  | x :: l, c, h, hp => by
    have hx := h x List.mem_cons_self
    have hl : ∀ y ∈ l, 0 ≤ y.2 := fun y hy => h y (List.mem_cons_of_mem _ hy)
    rw [List.pairwise_cons] at hp
    have ih := served_sorted D l (c + x.2) hl hp.2
    have e0 : before (x :: l) x.1 = 0 := by
      rw [before_cons, if_neg (by omega), before_none hp.1]
      rfl
    have e1 : (l.map fun y => max 0 (min y.2 (D - (c + before (x :: l) y.1)))) = l.map fun y => max 0 (min y.2 (D - (c + x.2 + before l y.1))) := by
      refine List.map_congr_left fun y hy => ?_
      rw [before_cons, if_pos (hp.1 y hy)]
      congr 2
      omega
    have hs : 0 ≤ (l.map (·.2)).sum := amts_nn hl
    rw [List.map_cons, List.sum_cons, List.map_cons, List.sum_cons, e1, ih, e0]
    omega
theorem served (D : Int) {l : List (Int × Int)} (h : ∀ x ∈ l, 0 ≤ x.2) (hk : l.Pairwise fun x y => x.1 ≠ y.1) : (l.map (tk D l)).sum = max 0 (min D (l.map (·.2)).sum) := by
  let le : Int × Int → Int × Int → Bool := fun x y => decide (x.1 ≤ y.1)
  have hp : (l.mergeSort le).Perm l := List.mergeSort_perm l le
  have hs : (l.mergeSort le).Pairwise (fun a b => le a b = true) := List.pairwise_mergeSort (fun a b c => by simp only [le, decide_eq_true_eq]; omega) (fun a b => by simp only [le, Bool.or_eq_true, decide_eq_true_eq]; omega) l
  have hn : (l.mergeSort le).Pairwise (fun x y => x.1 ≠ y.1) := (hp.pairwise_iff (fun {x y} h => h.symm)).mpr hk
  have hlt : (l.mergeSort le).Pairwise (fun x y => x.1 < y.1) := (hs.and hn).imp fun {x y} z => by
    have a : x.1 ≤ y.1 := by simpa [le] using z.1
    have b := z.2
    omega
  have q := served_sorted D (l.mergeSort le) 0 (fun x hx => h x (hp.mem_iff.mp hx)) hlt
  rw [← sum_perm (hp.map (·.2))]
  rw [Int.sub_zero] at q
  rw [← q]
  refine (sum_perm (hp.map _)).symm.trans ?_
  congr 1
  refine List.map_congr_left fun x hx => ?_
  unfold tk
  rw [before_perm hp, Int.zero_add]
/-! ### sums over the numbers of the wishes -/
def S (f : Nat → Bool) (a : Nat → Int) (n : Nat) : Int := ((List.range n).map fun j => if f j = true then a j else 0).sum
theorem S_zero {f : Nat → Bool} {a : Nat → Int} : S f a 0 = 0 := rfl
theorem S_succ {f : Nat → Bool} {a : Nat → Int} {n : Nat} : S f a (n + 1) = S f a n + (if f n = true then a n else 0) := by
  unfold S
  rw [List.range_succ, List.map_append, List.sum_append, List.map_cons, List.map_nil, List.sum_cons, List.sum_nil, Int.add_zero]
theorem S_congr {f g : Nat → Bool} {a b : Nat → Int} : ∀ {n : Nat}, (∀ j, j < n → f j = g j ∧ (f j = true → a j = b j)) → S f a n = S g b n
  | 0, _ => rfl
  | n + 1, h => by
    have h1 := h n (Nat.lt_succ_self n)
    rw [S_succ, S_succ, S_congr fun j hj => h j (Nat.lt_succ_of_lt hj), ← h1.1]
    by_cases e : f n = true
    · rw [if_pos e, if_pos e, h1.2 e]
    · rw [if_neg e, if_neg e]
theorem S_mono {f g : Nat → Bool} {a : Nat → Int} : ∀ {n : Nat}, (∀ j, j < n → (f j = true → g j = true) ∧ 0 ≤ a j) → S f a n ≤ S g a n
  | 0, _ => Int.le_refl 0
  | n + 1, h => by
    have h1 := h n (Nat.lt_succ_self n)
    have ih := S_mono (f := f) (g := g) (a := a) fun j hj => h j (Nat.lt_succ_of_lt hj)
    have h2 := h1.2
    rw [S_succ, S_succ]
    by_cases e : f n = true
    · rw [if_pos e, if_pos (h1.1 e)]; omega
    · rw [if_neg e]
      by_cases e' : g n = true
      · rw [if_pos e']; omega
      · rw [if_neg e']; omega
theorem S_or {f g : Nat → Bool} {a : Nat → Int} : ∀ {n : Nat}, (∀ j, j < n → ¬ (f j = true ∧ g j = true)) → S (fun j => f j || g j) a n = S f a n + S g a n
  | 0, _ => rfl
  | n + 1, h => by
    have h1 := h n (Nat.lt_succ_self n)
    rw [S_succ, S_succ, S_succ, S_or fun j hj => h j (Nat.lt_succ_of_lt hj)]
    cases e : f n <;> cases e' : g n
    · simp
    · simp; omega
    · simp; omega
    · exact absurd ⟨e, e'⟩ h1
theorem S_one {a : Nat → Int} {k : Nat} : ∀ {n : Nat}, k < n → S (fun j => decide (j = k)) a n = a k
  | 0, h => absurd h (Nat.not_lt_zero k)
  | n + 1, h => by
    rw [S_succ]
    by_cases e : n = k
    · subst e
      have z : S (fun j => decide (j = n)) a n = S (fun _ => false) a n := S_congr fun j hj => ⟨decide_eq_false (Nat.ne_of_lt hj), fun z => absurd (of_decide_eq_true z) (Nat.ne_of_lt hj)⟩
      have z2 : ∀ m, S (fun _ => false) a m = 0 := fun m => by
        induction m with
        | zero => rfl
        | succ m ih => rw [S_succ, ih]; rfl
      rw [z, z2, if_pos (decide_eq_true rfl), Int.zero_add]
    · rw [S_one (by omega), if_neg (by simpa using e), Int.add_zero]
theorem S_filter {f : Nat → Bool} {a : Nat → Int} : ∀ {n : Nat}, (((List.range n).filter f).map a).sum = S f a n
  | 0 => rfl
  | n + 1 => by
    rw [S_succ, List.range_succ, List.filter_append, List.map_append, List.sum_append, S_filter]
    congr 1
    rw [List.filter_cons]
    by_cases e : f n = true
    · rw [if_pos e, if_pos e]
      simp
    · rw [if_neg e, if_neg e]
      rfl
/-! ### the wishes by their numbers -/
def w0 : Wish := ⟨true, 0, 0⟩
def wAt (ws : List Wish) (k : Nat) : Wish := ws.getD k w0
def amtAt (ws : List Wish) (k : Nat) : Int := (wAt ws k).amt
theorem wAt_get {ws : List Wish} {k : Nat} (h : k < ws.length) : ws[k]? = some (wAt ws k) := by
  unfold wAt
  rw [List.getD_eq_getElem?_getD, List.getElem?_eq_getElem h]
  rfl
theorem wAt_good {ws : List Wish} {k : Nat} (hg : Goods ws) (h : k < ws.length) : (wAt ws k).Good := hg _ (List.mem_of_getElem? (wAt_get h))
/-- who would deal at the price -/
def elig (p : Int) (w : Wish) : Bool := if w.buy = true then decide (p ≤ w.lim) else decide (w.lim ≤ p)
def better (p : Int) (w : Wish) : Bool := if w.buy = true then decide (p < w.lim) else decide (w.lim < p)
theorem sumOf_S (b : Bool) (p : Int) (ws : List Wish) : ∀ n, n ≤ ws.length → sumOf b (ws.take n) p = S (fun j => decide ((wAt ws j).buy = b) && elig p (wAt ws j)) (amtAt ws) n
  | 0, _ => by
    rw [List.take_zero]
    cases b <;> rfl
  | n + 1, h => by
    rw [take_snoc (wAt_get h), sumOf_snoc, S_succ, sumOf_S b p ws n (by omega)]
    have e : (if b = true then (wAt ws n).buy && decide (p ≤ (wAt ws n).lim) else !(wAt ws n).buy && decide ((wAt ws n).lim ≤ p)) = (decide ((wAt ws n).buy = b) && elig p (wAt ws n)) := by
      unfold elig
      cases b <;> cases (wAt ws n).buy <;> simp
    rw [e]
    by_cases z : (decide ((wAt ws n).buy = b) && elig p (wAt ws n)) = true
    · rw [if_pos z, if_pos z]
      rfl
    · rw [if_neg z, if_neg z, Int.add_zero]
theorem sum_S (b : Bool) (p : Int) (ws : List Wish) : sumOf b ws p = S (fun j => decide ((wAt ws j).buy = b) && elig p (wAt ws j)) (amtAt ws) ws.length := by
  have h := sumOf_S b p ws ws.length (Nat.le_refl _)
  rw [List.take_length] at h
  exact h
/-- the wish a, of number j, goes ahead of b, of number k -/
def goes (a : Wish) (j : Nat) (b : Wish) (k : Nat) : Bool := decide (a.buy = b.buy) && ((if b.buy = true then decide (b.lim < a.lim) else decide (a.lim < b.lim)) || (decide (a.lim = b.lim) && decide (j < k)))
def aheadN (ws : List Wish) (k n : Nat) : Int := S (fun j => goes (wAt ws j) j (wAt ws k) k) (amtAt ws) n
def deal (ws : List Wish) (p : Int) : Int := min (wantedOf ws p) (offeredOf ws p)
/-- what the wish of number k gets at the price p -/
def due (ws : List Wish) (p : Int) (k : Nat) : Int := if elig p (wAt ws k) = true then max 0 (min (amtAt ws k) (deal ws p - aheadN ws k ws.length)) else 0
theorem key_lt {a b n j k : Int} (j0 : 0 ≤ j) (j1 : j < n) (k0 : 0 ≤ k) (k1 : k < n) : a * n + j < b * n + k ↔ a < b ∨ (a = b ∧ j < k) := by
  rcases Int.lt_trichotomy a b with h | h | h
  · have m := Int.mul_le_mul_of_nonneg_right (show a + 1 ≤ b by omega) (show 0 ≤ n by omega)
    rw [Int.add_mul, Int.one_mul] at m
    exact ⟨fun _ => .inl h, fun _ => by omega⟩
  · subst h
    exact ⟨fun z => .inr ⟨rfl, by omega⟩, fun z => by rcases z with z | z <;> omega⟩
  · have m := Int.mul_le_mul_of_nonneg_right (show b + 1 ≤ a by omega) (show 0 ≤ n by omega)
    rw [Int.add_mul, Int.one_mul] at m
    exact ⟨fun z => by omega, fun z => by rcases z with z | z <;> omega⟩
theorem S_term {f g : Nat → Bool} {a b : Nat → Int} : ∀ {n : Nat}, (∀ j, j < n → (if f j = true then a j else 0) = (if g j = true then b j else 0)) → S f a n = S g b n
  | 0, _ => rfl
  | n + 1, h => by rw [S_succ, S_succ, S_term fun j hj => h j (Nat.lt_succ_of_lt hj), h n (Nat.lt_succ_self n)]
def rankOf (w : Wish) : Int := if w.buy = true then -w.lim else w.lim
def keyAt (ws : List Wish) (k : Nat) : Int := rankOf (wAt ws k) * (ws.length : Int) + (k : Int)
def inB (ws : List Wish) (b : Bool) (p : Int) (j : Nat) : Bool := decide ((wAt ws j).buy = b) && elig p (wAt ws j)
def sideList (ws : List Wish) (b : Bool) (p : Int) : List (Int × Int) := ((List.range ws.length).filter (inB ws b p)).map fun j => (keyAt ws j, amtAt ws j)
theorem key_iff {ws : List Wish} {j k : Nat} (hj : j < ws.length) (hk : k < ws.length) : keyAt ws j < keyAt ws k ↔ rankOf (wAt ws j) < rankOf (wAt ws k) ∨ (rankOf (wAt ws j) = rankOf (wAt ws k) ∧ j < k) := by
  have h := key_lt (a := rankOf (wAt ws j)) (b := rankOf (wAt ws k)) (n := (ws.length : Int)) (j := (j : Int)) (k := (k : Int)) (by omega) (by omega) (by omega) (by omega)
  unfold keyAt
  rw [h]
  exact or_congr Iff.rfl (and_congr Iff.rfl (by omega))
theorem goes_iff {ws : List Wish} {b : Bool} {p : Int} {j k : Nat} (hj : j < ws.length) (hk : k < ws.length) (ik : inB ws b p k = true) : (inB ws b p j && decide (keyAt ws j < keyAt ws k)) = goes (wAt ws j) j (wAt ws k) k := by
  have ik2 := Bool.and_eq_true_iff.mp ik
  have bk : (wAt ws k).buy = b := of_decide_eq_true ik2.1
  have ek := ik2.2
  rw [Bool.eq_iff_iff, Bool.and_eq_true_iff, decide_eq_true_iff, key_iff hj hk]
  unfold inB goes elig rankOf
  unfold elig at ek
  rw [bk] at ek ⊢
  simp only [Bool.and_eq_true_iff, Bool.or_eq_true_iff, decide_eq_true_iff]
  cases b with
  | true =>
    simp only [if_true, decide_eq_true_iff] at ek ⊢
    constructor
    · rintro ⟨⟨h1, h2⟩, h3⟩
      rw [h1] at h3
      simp only [if_true] at h3
      exact ⟨h1, by omega⟩
    · rintro ⟨h1, h2⟩
      rw [h1]
      simp only [if_true, decide_eq_true_iff]
      exact ⟨⟨trivial, by omega⟩, by omega⟩
  | false =>
    simp only [Bool.false_eq_true, if_false, decide_eq_true_iff] at ek ⊢
    constructor
    · rintro ⟨⟨h1, h2⟩, h3⟩
      rw [h1] at h3
      simp only [Bool.false_eq_true, if_false] at h3
      exact ⟨h1, by omega⟩
    · rintro ⟨h1, h2⟩
      rw [h1]
      simp only [Bool.false_eq_true, if_false, decide_eq_true_iff]
      exact ⟨⟨trivial, by omega⟩, by omega⟩
theorem before_side {ws : List Wish} {b : Bool} {p : Int} {k : Nat} (hk : k < ws.length) (ik : inB ws b p k = true) : before (sideList ws b p) (keyAt ws k) = aheadN ws k ws.length := by
  unfold before sideList aheadN
  rw [List.filter_map, List.map_map, List.filter_filter]
  rw [show ((fun x : Int × Int => x.2) ∘ fun j => (keyAt ws j, amtAt ws j)) = amtAt ws from rfl, S_filter]
  refine S_congr fun j hj => ⟨?_, fun _ => rfl⟩
  rw [Bool.and_comm]
  exact goes_iff hj hk ik
theorem dealt_side {ws : List Wish} (hg : Goods ws) (b : Bool) (p : Int) : S (fun j => decide ((wAt ws j).buy = b)) (due ws p) ws.length = deal ws p := by
  have hd0 : 0 ≤ deal ws p := by
    have h1 := wanted_nn p hg
    have h2 := offered_nn p hg
    unfold deal
    omega
  have hle : deal ws p ≤ sumOf b ws p := by
    unfold deal
    cases b with
    | true => show _ ≤ wantedOf ws p; omega
    | false => show _ ≤ offeredOf ws p; omega
  have hn : ∀ x ∈ sideList ws b p, 0 ≤ x.2 := fun x hx => by
    obtain ⟨j, hj, rfl⟩ := List.mem_map.mp hx
    have h1 := (wAt_good hg (List.mem_range.mp (List.mem_filter.mp hj).1)).a0
    show 0 ≤ (wAt ws j).amt
    omega
  have hk : (sideList ws b p).Pairwise fun x y => x.1 ≠ y.1 := by
    unfold sideList
    rw [List.pairwise_map]
    refine List.Pairwise.imp_of_mem (fun {i j} hi hj h => ?_) (List.pairwise_lt_range.filter _)
    have hi' := List.mem_range.mp (List.mem_filter.mp hi).1
    have hj' := List.mem_range.mp (List.mem_filter.mp hj).1
    have a := key_iff hi' hj'
    have c := key_iff hj' hi'
    intro e
    have e' : keyAt ws i = keyAt ws j := e
    rw [e'] at a c
    omega
  have q := served (deal ws p) hn hk
  have e1 : ((sideList ws b p).map (·.2)).sum = sumOf b ws p := by
    unfold sideList
    rw [List.map_map, show ((fun x : Int × Int => x.2) ∘ fun j => (keyAt ws j, amtAt ws j)) = amtAt ws from rfl, S_filter]
    exact (sum_S b p ws).symm
  have e2 : ((sideList ws b p).map (tk (deal ws p) (sideList ws b p))).sum = S (inB ws b p) (fun j => tk (deal ws p) (sideList ws b p) (keyAt ws j, amtAt ws j)) ws.length := by
    conv => lhs; arg 1; arg 2; unfold sideList
    rw [List.map_map, S_filter]
    rfl
  rw [e1, e2] at q
  rw [show max 0 (min (deal ws p) (sumOf b ws p)) = deal ws p by omega] at q
  rw [← q]
  refine S_term fun j hj => ?_
  by_cases hb : (wAt ws j).buy = b
  · rw [if_pos (decide_eq_true hb)]
    by_cases he : elig p (wAt ws j) = true
    · have ij : inB ws b p j = true := Bool.and_eq_true_iff.mpr ⟨decide_eq_true hb, he⟩
      rw [if_pos ij]
      unfold due tk
      rw [if_pos he, before_side hj ij]
    · have ij : ¬ inB ws b p j = true := fun z => he (Bool.and_eq_true_iff.mp z).2
      rw [if_neg ij]
      unfold due
      rw [if_neg he]
  · have ij : ¬ inB ws b p j = true := fun z => hb (of_decide_eq_true (Bool.and_eq_true_iff.mp z).1)
    rw [if_neg (by simpa using hb), if_neg ij]
/-! ### at a price that clears -/
theorem due_nn {ws : List Wish} {p : Int} {k : Nat} : 0 ≤ due ws p k := by
  unfold due
  split <;> omega
theorem due_le {ws : List Wish} {p : Int} {k : Nat} (hg : Goods ws) (hk : k < ws.length) : due ws p k ≤ amtAt ws k := by
  have h1 : 1 ≤ amtAt ws k := (wAt_good hg hk).a0
  unfold due
  split <;> omega
theorem deal_nn {ws : List Wish} {p : Int} (hg : Goods ws) : 0 ≤ deal ws p := by
  have h1 := wanted_nn p hg
  have h2 := offered_nn p hg
  unfold deal
  omega
theorem goes_self {w : Wish} {k : Nat} : goes w k w k = false := by
  unfold goes
  cases w.buy <;> simp
/-- who has a better limit than a price that clears gets all -/
theorem due_better {ws : List Wish} {p : Int} {k : Nat} (hg : Goods ws) (hc : clearsB ws p = true) (hk : k < ws.length) (hb : better p (wAt ws k) = true) : due ws p k = amtAt ws k := by
  have c1 := (clears_iff.mp hc).1
  have c2 := (clears_iff.mp hc).2
  have l1 : wantedOf ws (p + 1) ≤ offeredOf ws p := by
    have := of_decide_eq_false c1
    omega
  have l2 : offeredOf ws (p - 1) ≤ wantedOf ws p := by
    have := of_decide_eq_false c2
    omega
  have m1 := wanted_mono (show p ≤ p + 1 by omega) hg
  have m2 := offered_mono (show p - 1 ≤ p by omega) hg
  have a0 : 1 ≤ amtAt ws k := (wAt_good hg hk).a0
  have he : elig p (wAt ws k) = true := by
    unfold elig
    unfold better at hb
    cases e : (wAt ws k).buy with
    | true =>
      rw [e] at hb
      simp only [if_true, decide_eq_true_iff] at hb ⊢
      omega
    | false =>
      rw [e] at hb
      simp only [Bool.false_eq_true, if_false, decide_eq_true_iff] at hb ⊢
      omega
  have hs : aheadN ws k ws.length + amtAt ws k ≤ deal ws p := by
    have e1 : aheadN ws k ws.length + amtAt ws k = S (fun j => goes (wAt ws j) j (wAt ws k) k || decide (j = k)) (amtAt ws) ws.length := by
      rw [S_or fun j hj z => ?_, S_one hk]
      · rfl
      · have e := of_decide_eq_true z.2
        rw [e, goes_self] at z
        exact absurd z.1 Bool.false_ne_true
    have nn : ∀ j, j < ws.length → 0 ≤ amtAt ws j := fun j hj => by
      have : 1 ≤ amtAt ws j := (wAt_good hg hj).a0
      omega
    unfold better at hb
    cases e : (wAt ws k).buy with
    | true =>
      rw [e] at hb
      simp only [if_true, decide_eq_true_iff] at hb
      have h2 : S (fun j => goes (wAt ws j) j (wAt ws k) k || decide (j = k)) (amtAt ws) ws.length ≤ S (fun j => decide ((wAt ws j).buy = true) && elig (p + 1) (wAt ws j)) (amtAt ws) ws.length := by
        refine S_mono fun j hj => ⟨fun z => ?_, nn j hj⟩
        rcases Bool.or_eq_true_iff.mp z with z | z
        · unfold goes at z
          rw [e] at z
          simp only [Bool.and_eq_true_iff, Bool.or_eq_true_iff, decide_eq_true_iff, if_true] at z
          unfold elig
          rw [z.1]
          simp only [if_true, Bool.and_eq_true_iff, decide_eq_true_iff]
          exact ⟨trivial, by omega⟩
        · rw [of_decide_eq_true z]
          unfold elig
          rw [e]
          simp only [if_true, Bool.and_eq_true_iff, decide_eq_true_iff]
          exact ⟨trivial, by omega⟩
      have h3 : S (fun j => decide ((wAt ws j).buy = true) && elig (p + 1) (wAt ws j)) (amtAt ws) ws.length = wantedOf ws (p + 1) := (sum_S true (p + 1) ws).symm
      unfold deal
      omega
    | false =>
      rw [e] at hb
      simp only [Bool.false_eq_true, if_false, decide_eq_true_iff] at hb
      have h2 : S (fun j => goes (wAt ws j) j (wAt ws k) k || decide (j = k)) (amtAt ws) ws.length ≤ S (fun j => decide ((wAt ws j).buy = false) && elig (p - 1) (wAt ws j)) (amtAt ws) ws.length := by
        refine S_mono fun j hj => ⟨fun z => ?_, nn j hj⟩
        rcases Bool.or_eq_true_iff.mp z with z | z
        · unfold goes at z
          rw [e] at z
          simp only [Bool.and_eq_true_iff, Bool.or_eq_true_iff, decide_eq_true_iff, Bool.false_eq_true, if_false] at z
          unfold elig
          rw [z.1]
          simp only [Bool.false_eq_true, if_false, Bool.and_eq_true_iff, decide_eq_true_iff]
          exact ⟨trivial, by omega⟩
        · rw [of_decide_eq_true z]
          unfold elig
          rw [e]
          simp only [Bool.false_eq_true, if_false, Bool.and_eq_true_iff, decide_eq_true_iff]
          exact ⟨trivial, by omega⟩
      have h3 : S (fun j => decide ((wAt ws j).buy = false) && elig (p - 1) (wAt ws j)) (amtAt ws) ws.length = offeredOf ws (p - 1) := (sum_S false (p - 1) ws).symm
      unfold deal
      omega
  unfold due
  rw [if_pos he]
  omega
/-- .. and who has a worse one nought -/
theorem due_worse {ws : List Wish} {p : Int} {k : Nat} (h : elig p (wAt ws k) = false) : due ws p k = 0 := by
  unfold due
  rw [h, if_neg Bool.false_ne_true]
/-- at no other price more is dealt -/
theorem deal_most {ws : List Wish} {p z : Int} (hg : Goods ws) (hc : clearsB ws p = true) : deal ws z ≤ deal ws p := by
  have c1 := (clears_iff.mp hc).1
  have c2 := (clears_iff.mp hc).2
  have l1 : wantedOf ws (p + 1) ≤ offeredOf ws p := by
    have := of_decide_eq_false c1
    omega
  have l2 : offeredOf ws (p - 1) ≤ wantedOf ws p := by
    have := of_decide_eq_false c2
    omega
  rcases Int.lt_trichotomy p z with h | h | h
  · have m1 := wanted_mono (show p + 1 ≤ z by omega) hg
    have m2 := wanted_mono (show p ≤ z by omega) hg
    unfold deal
    omega
  · rw [h]
    exact Int.le_refl _
  · have m1 := offered_mono (show z ≤ p - 1 by omega) hg
    have m2 := offered_mono (show z ≤ p by omega) hg
    unfold deal
    omega
/-! ### gains, worth -/
def gainAt (w : Wish) (p m : Int) : Int := if w.buy = true then (w.lim - p) * m else (p - w.lim) * m
def gained (ws : List Wish) (x : Nat → Int) (p : Int) (n : Nat) : Int := S (fun _ => true) (fun k => gainAt (wAt ws k) p (x k)) n
theorem gained_succ {ws : List Wish} {x : Nat → Int} {p : Int} {n : Nat} : gained ws x p (n + 1) = gained ws x p n + gainAt (wAt ws n) p (x n) := by
  unfold gained
  rw [S_succ, if_pos rfl]
/-- the gains at p are those at nought, less what is paid, and what is got more -/
theorem gained_shift {ws : List Wish} {x : Nat → Int} {p : Int} : ∀ n, gained ws x p n = gained ws x 0 n - p * (S (fun j => decide ((wAt ws j).buy = true)) x n - S (fun j => decide ((wAt ws j).buy = false)) x n)
  | 0 => by simp [gained, S_zero]
  | n + 1 => by
    rw [gained_succ, gained_succ, S_succ, S_succ, gained_shift n]
    unfold gainAt
    cases e : (wAt ws n).buy with
    | true =>
      simp only [if_true, decide_true, Int.sub_zero, Int.sub_mul, Int.mul_sub, Int.mul_add, Bool.true_eq_false, decide_false, Bool.false_eq_true, if_false, Int.mul_zero, Int.add_zero]
      omega
    | false =>
      simp only [if_true, decide_true, Int.zero_sub, Int.sub_mul, Int.mul_sub, Int.mul_add, Bool.false_eq_true, decide_false, if_false, Int.mul_zero, Int.add_zero, Int.neg_mul]
      omega
theorem gain_best {ws : List Wish} {p y : Int} {k : Nat} (hg : Goods ws) (hc : clearsB ws p = true) (hk : k < ws.length) (y0 : 0 ≤ y) (y1 : y ≤ amtAt ws k) : gainAt (wAt ws k) p y ≤ gainAt (wAt ws k) p (due ws p k) := by
  by_cases hb : better p (wAt ws k) = true
  · rw [due_better hg hc hk hb]
    unfold gainAt
    unfold better at hb
    cases e : (wAt ws k).buy with
    | true =>
      rw [e] at hb
      simp only [if_true, decide_eq_true_iff] at hb ⊢
      exact Int.mul_le_mul_of_nonneg_left y1 (by omega)
    | false =>
      rw [e] at hb
      simp only [Bool.false_eq_true, if_false, decide_eq_true_iff] at hb ⊢
      exact Int.mul_le_mul_of_nonneg_left y1 (by omega)
  · by_cases he : elig p (wAt ws k) = true
    · -- the limit is the price
      have e : (wAt ws k).lim = p := by
        unfold better at hb
        unfold elig at he
        cases e : (wAt ws k).buy with
        | true =>
          rw [e] at hb he
          simp only [if_true, decide_eq_true_iff] at hb he
          omega
        | false =>
          rw [e] at hb he
          simp only [Bool.false_eq_true, if_false, decide_eq_true_iff] at hb he
          omega
      unfold gainAt
      rw [e, Int.sub_self, Int.zero_mul, Int.zero_mul]
      exact Int.le_refl _
    · rw [due_worse (by simpa using he)]
      unfold gainAt
      unfold elig at he
      cases e : (wAt ws k).buy with
      | true =>
        rw [e] at he
        simp only [if_true, decide_eq_true_iff] at he ⊢
        rw [Int.mul_zero]
        exact Int.mul_nonpos_of_nonpos_of_nonneg (by omega) y0
      | false =>
        rw [e] at he
        simp only [Bool.false_eq_true, if_false, decide_eq_true_iff] at he ⊢
        rw [Int.mul_zero]
        exact Int.mul_nonpos_of_nonpos_of_nonneg (by omega) y0
theorem gained_best {ws : List Wish} {p : Int} {y : Nat → Int} (hg : Goods ws) (hc : clearsB ws p = true) (hy : ∀ k, k < ws.length → 0 ≤ y k ∧ y k ≤ amtAt ws k) : ∀ n, n ≤ ws.length → gained ws y p n ≤ gained ws (due ws p) p n
  | 0, _ => Int.le_refl _
  | n + 1, h => by
    have h1 := gained_best hg hc hy n (by omega)
    have h2 := gain_best hg hc (show n < ws.length by omega) (hy n (by omega)).1 (hy n (by omega)).2
    rw [gained_succ, gained_succ]
    omega
/-- no even pieces have a greater worth -/
theorem worth_best {ws : List Wish} {p : Int} {y : Nat → Int} (hg : Goods ws) (hc : clearsB ws p = true) (hy : ∀ k, k < ws.length → 0 ≤ y k ∧ y k ≤ amtAt ws k)
    (he : S (fun j => decide ((wAt ws j).buy = true)) y ws.length = S (fun j => decide ((wAt ws j).buy = false)) y ws.length) : gained ws y 0 ws.length ≤ gained ws (due ws p) 0 ws.length := by
  have h := gained_best hg hc hy ws.length (Nat.le_refl _)
  have e1 := gained_shift (ws := ws) (x := y) (p := p) ws.length
  have e2 := gained_shift (ws := ws) (x := due ws p) (p := p) ws.length
  rw [he, Int.sub_self, Int.mul_zero, Int.sub_zero] at e1
  rw [dealt_side hg true p, dealt_side hg false p, Int.sub_self, Int.mul_zero, Int.sub_zero] at e2
  rw [e1, e2] at h
  exact h
end My

set_option Elab.async false
set_option linter.all false
set_option maxRecDepth 100000
set_option maxHeartbeats 400000
namespace My
open PySem PySem.Spec PyProof.Rows L2
/-! ### classes of errors -/
/-- an own class -/
structure ClsK (K : PySem.W.Frag) (mg : Str → Option Value) (x : Str) (C : Addr) : Prop where
  g : mg x = some (.ref C)
/-- .. that is raised -/
structure ClsR (K : PySem.W.Frag) (D : Addr) : Prop where
  kp : PySem.W.keepIn K (.ref D) = true
  ex : PySem.W.excIn K D [.type "ValueError", .type "Exception", .type "BaseException", .type "object"] "ValueError.__new__" = true
  be : PySem.W.subIn K (.ref D) (.type "BaseException") = some true
  ty : PySem.W.typeIn K (.ref D) = some (.type "type")
  c : L2.ExcC K D
/-! ### isinstance(e, C), e the error that the suite holds; nothing is asked of it ahead -/
def rIsX (K : PySem.W.Frag) (a : Addr) (cls : Value) (d : Option Addr) : List V → Hp → VK → Prop := fun xs H Q =>
  ∃ (D : Addr) (c : V) (u : Value) (b : Bool), cls = .ref D ∧ d = none ∧ L2.ExcC K D ∧ xs = [.ref a, c] ∧ ClsV c u ∧ PySem.W.kitOne K (.ref D) u = some b ∧ Q (.bl b) H
theorem call_isX {X : Cx} {K : PySem.W.Frag} {a : Addr} {oe : Obj} {cls : Value} {d : Option Addr} (hK : X.K = K) (hp : (a, oe) ∈ X.pn) (hz : Zc cls d oe) (hf : ∃ vs, oe.data = .fields vs) : CallR X (.builtin "isinstance") (rIsX K a cls d) := by
  subst hK
  intro pins s σ H xs us Q I r h
  obtain ⟨D, c, u, b, rfl, rfl, C, rfl, k, e, q⟩ := h
  cases r with
  | cons rx rr =>
    cases rr with
    | cons rt rr =>
      cases rr
      cases rx
      have ec := k.eq rt
      subst ec
      obtain ⟨hget, _⟩ := I.pin (a, oe) (List.mem_append.mpr (.inl hp))
      obtain ⟨vs, hv⟩ := hf
      have J : PySem.W.InstAt s.heap a oe D none := by
        obtain ⟨oc, od, oda, osl⟩ := oe
        obtain ⟨h1, h2⟩ := hz
        dsimp only at h1 h2 hv
        subst h1 h2 hv
        exact ⟨hget, rfl, rfl, trivial⟩
      exact PySem.W.kia_one (PySem.W.handS_kitx_exc C.hg C.hk C.hs C.hd C.ha C.hn C.ht C.hm) I.kIn J e (fun z => nomatch z) fun tk => ⟨.bl b, H, I.kept (t' := tk) fun _ _ z => z, rfl, q⟩
/-! ### f(e): a def called in an except suite, the error among its arguments -/
def tCallE (N : List Str) (n : Nat) (t : TS) (ta : TA) : TE := fun σ H Q => ta σ H fun vs H1 => vs.length = n ∧ t { nx := fun _ H' => Q .non H', rt := Q } (start N vs) H1
section
variable {X : Cx} {a : Addr} {oe : Obj} {pn : List (Addr × Obj)} {x : Str} {st : Stmt} {f : Addr} {fd : FuncData} {N ps : List Str} {t : TS} {ta : TA} {k : Nat} {q pos : Pos} {e : Expr} {es : List Expr}
theorem pe_callE (F : Fun X.K x x st f fd) (S : FnScope N ps (defScope st)) (hb : Binds X.K fd ps []) (hg : Gl X x) (hm : X.mg x = some (.ref f)) (hr : L2H.RoomH k X.A)
    (hbody : ∀ (cdv : Value) (A : Around) (outer : List Env) (s : Shared) (H : Hp), PSs (L2H.cxH CX0 X.prog X.w X.K X.mg X.base N x (defScope st) f cdv A outer s H E0 (a, oe)) (defBody st) t)
    (ha : PA (X.suite a ((a, oe) :: pn)) (e :: es) ta) (hdb : (x == ("__debug__" : Str)) = false := by decide) (he : starEach (e :: es) X.env = (false, eval e X.env) :: starEach es X.env := by rfl) (hpl : (backTo pos (starEach es X.env)).any (·.1) = false := by rfl) :
    PE (X.suite a ((a, oe) :: pn)) (.Call (.Name x q) (e :: es) [] pos) (tCallE N ps.length t ta) := by
  refine ⟨fun pins s σ H Q I h => ?_⟩
  refine wpAny_Call_Name_kw (ld_glob I hg hm ?_ hdb)
  refine PySem.W.callWith_K (h₀ := X.base) I.ok.mod.kin F.kp (thn (ha.run pos pins s σ H _ I h) fun us s1 ⟨vs, H1, I1, r, hl, hq⟩ => ⟨I1.kIn, ?_⟩) he hpl
  obtain ⟨oc, od, kV, doc, pm, an, cdv, ct, osl, rfl, lk, hcd⟩ := F.ex
  have b := hb s1 us I1.kIn (by rw [List.append_nil]; exact r.length.symm.trans hl)
  rw [List.append_nil] at b
  have P1 := I1.pin (a, oe) (List.mem_append_left _ List.mem_cons_self)
  have hpin : L2H.PinOk (X.suite a ((a, oe) :: pn)).stack H1 s1 (a, oe) := ⟨P1.1, P1.2.1, fun hm => (List.mem_cons.mp (I1.stkSub a hm)).elim P1.2.2.1 P1.2.2.2.1, P1.2.2.2.2⟩
  have e0 := I1.env0
  have KX : X.K.In s1.heap := I1.kIn
  refine wpAny_call (codeAny_mono (R := CR CX0 X.stack X.prog X.w H1 s1 Q E0) ?_ fun r s' hq => ?_)
  · have lim : s1.heap.NoLimit := I1.nolimit
    have hkind : ∀ y ∈ ps.zip us, (defScope st).names.lookup y.1 = some .local ∨ ((defScope st).names.lookup y.1 = some .cell ∧ ((cellsFrom (s1.heap.objs.size + 1) (defScope st).names []).lookup y.1).isSome = true) := fun ⟨n, v⟩ hy => by
      rcases S.par n (List.of_mem_zip hy).1 with z | z
      · exact .inl z
      · exact .inr ⟨z, PySem.W.cellsFrom_some _ _ _ (.inl z)⟩
    refine codeAny_call_function (show (X.suite a ((a, oe) :: pn)).A.depth < recursionLimit from hr.depth) (KX _ _ lk) rfl S.co S.gen rfl (PySem.W.codeRec_of KX hcd) (b _ _ _ _ ?_)
    refine wpAny_newFunctionEnv_cells S.kind hkind fun env he s2 x2 => ?_
    subst he
    refine ⟨lim.keeps x2.toInCall.keep, codeAny_func ?_⟩
    have I2 : Inv (L2H.cxH CX0 X.prog X.w X.K X.mg X.base N x (defScope st) f cdv (X.suite a ((a, oe) :: pn)).A X.stack s1 H1 E0 (a, oe)) [] (start N vs) H1 s2 := L2H.inv_startH S hpin e0 hl r x2
    refine wpAny_mono ((hbody cdv _ _ _ _).run [] s2 (start N vs) H1 _ I2 hq) (fun fl s' hs => ?_) fun e s' hs => hs
    cases fl with
    | ret u =>
      obtain ⟨v, σ', H', J, rv, z⟩ := hs
      exact ⟨v, H', J.os, J.bare, J.base, J.hok, rv, z⟩
    | next =>
      obtain ⟨σ', H', J, z⟩ := hs
      exact ⟨.non, H', J.os, J.bare, J.base, J.hok, rfl, z⟩
    | brk => exact hs.elim fun _ z => z.elim fun _ z => z.2.elim
    | cont => exact hs.elim fun _ z => z.elim fun _ z => z.2.elim
  · cases r with
    | error e => exact False.elim hq
    | ok fl =>
      cases fl with
      | ret u => exact I1.after hq
      | next => exact False.elim hq
      | brk => exact False.elim hq
      | cont => exact False.elim hq
end
/-! ### readings -/
section
variable {σ : L2.St} {H : Hp} {v x y : V} {ta tb te : TE} {K : PySem.W.Frag}
theorem ev_callE {N : List Str} {n : Nat} {t : TS} {tr : TA} {vs : List V} (ha : EvL tr σ H vs) (hl : vs.length = n) (ht : ∀ H1, Sm H H1 → ∀ Q : VK, (∀ H2, Sm H1 H2 → Q v H2) → t { nx := fun _ H' => Q .non H', rt := Q } (start N vs) H1) : Ev (tCallE N n t tr) σ H v := fun H1 S Q q =>
  ha H1 S _ fun us H2 S2 p => by subst p; exact ⟨hl, ht H2 (S.trans S2) Q fun H3 S3 => q H3 (S2.trans S3)⟩
theorem ev_isX {a D : Addr} {u : Value} {b : Bool} (C : L2.ExcC K D) (ha : Ev ta σ H (.ref a)) (hb : Ev tb σ H y) (hc : ClsV y u) (hk : PySem.W.kitOne K (.ref D) u = some b) : Ev (tCB (rIsX K a (.ref D) none) (tCons ta (tCons tb tNil))) σ H (.bl b) :=
  ev_cb (evl_cons ha (evl_cons hb evl_nil)) fun H1 S Q q => ⟨D, y, u, b, rfl, rfl, C, rfl, hc, hk, q H1 (Sm.refl _)⟩
theorem ev_eqT {a b : String} (ha : Ev ta σ H (.ty a)) (hb : Ev tb σ H (.ty b)) (h1 : a ∈ tyL) (h2 : b ∈ tyL) : Ev (tOp rEqT ta tb) σ H (.bl (decide (a = b))) := fun H1 S Q q =>
  ha H1 S _ fun H2 S2 => hb H2 (S.trans S2) _ fun H3 S3 => ⟨a, b, rfl, rfl, h1, h2, q H3 (S2.trans S3)⟩
theorem ev_neT {a b : String} (ha : Ev ta σ H (.ty a)) (hb : Ev tb σ H (.ty b)) (h1 : a ∈ tyL) (h2 : b ∈ tyL) : Ev (tOp rNeT ta tb) σ H (.bl (!decide (a = b))) := fun H1 S Q q =>
  ha H1 S _ fun H2 S2 => hb H2 (S.trans S2) _ fun H3 S3 => ⟨a, b, rfl, rfl, h1, h2, q H3 (S2.trans S3)⟩
theorem tyB_in {T : String} (h : L2.TyB K H x T) (hb : ∀ b, x ≠ .byt b) : T ∈ tyL := by
  cases h with
  | byt b => exact (hb b rfl).elim
  | _ => decide
end
/-! ### values whose kind is known -/
section
variable {σ : L2.St} {H H' : Hp} {v x y : V} {ta tb te : TE} {K : PySem.W.Frag}
theorem tyB_sm {T : String} (S : Sm H H') (h : L2.TyB K H v T) : L2.TyB K H' v T := by
  cases h with
  | non => exact .non
  | bl b => exact .bl b
  | int i => exact .int i
  | str s => exact .str s
  | byt b => exact .byt b
  | lst h => exact .lst (S.sql h)
  | tup h => exact .tup (S.sqt h)
  | dK h => exact .dK (S.at h fun _ z => by cases z)
/-- a value whose kind is known -/
def Kn (K : PySem.W.Frag) (v : V) (H : Hp) : Prop := ∃ T, L2.TyB K H v T ∧ T ∈ tyL
theorem Kn.sm (S : Sm H H') (h : Kn K v H) : Kn K v H' := let ⟨T, h1, h2⟩ := h; ⟨T, tyB_sm S h1, h2⟩
theorem kn_non : Kn K .non H := ⟨_, .non, by decide⟩
theorem kn_bl {b : Bool} : Kn K (.bl b) H := ⟨_, .bl b, by decide⟩
theorem kn_int {i : Int} : Kn K (.int i) H := ⟨_, .int i, by decide⟩
theorem kn_str {i : Str} : Kn K (.str i) H := ⟨_, .str i, by decide⟩
theorem kn_tup {a : Addr} {xs : List V} (h : SqT K H a xs) : Kn K (.ref a) H := ⟨_, .tup h, by decide⟩
theorem kn_lst {a : Addr} {xs : List V} (h : SqL K H a xs) : Kn K (.ref a) H := ⟨_, .lst h, by decide⟩
theorem kn_dK {a : Addr} {kvs : List (Key × V)} (h : H a = some (.dK kvs)) : Kn K (.ref a) H := ⟨_, .dK h, by decide⟩
def numV (lo hi : Int) : V → Bool
  | .int i => decide (lo ≤ i) && decide (i ≤ hi)
  | _ => false
def sideV : V → Bool
  | .str s => decide (s = (PySem.Str.ofString "buy")) || decide (s = (PySem.Str.ofString "sell"))
  | _ => false
theorem ev_type {T : String} (ha : Ev ta σ H v) (h : L2.TyB K H v T) : Ev (tCB (rTyp K) (tCons ta tNil)) σ H (.ty T) :=
  ev_cb (evl_cons ha evl_nil) fun H1 S Q q => ⟨v, T, rfl, tyB_sm S h, q H1 (Sm.refl _)⟩
theorem tyB_int {T : String} (h : L2.TyB K H v T) (e : T = "int") : ∃ i, v = .int i := by
  cases h with
  | int i => exact ⟨i, rfl⟩
  | _ => exact absurd e (by decide)
theorem tyB_str {T : String} (h : L2.TyB K H v T) (e : T = "str") : ∃ i, v = .str i := by
  cases h with
  | str i => exact ⟨i, rfl⟩
  | _ => exact absurd e (by decide)
theorem tyB_tup {T : String} (h : L2.TyB K H v T) (e : T = "tuple") : ∃ a xs, v = .ref a ∧ SqT K H a xs := by
  cases h with
  | tup h => exact ⟨_, _, rfl, h⟩
  | _ => exact absurd e (by decide)
theorem numV_no {lo hi : Int} {T : String} (h : L2.TyB K H v T) (e : T ≠ "int") : numV lo hi v = false := by
  cases h with
  | int i => exact absurd rfl e
  | _ => rfl
theorem sideV_no {T : String} (h : L2.TyB K H v T) (e : T ≠ "str") : sideV v = false := by
  cases h with
  | str i => exact absurd rfl e
  | _ => rfl
/-! an item of a list that is displayed -/
def EvPs (t : TA) (σ : L2.St) (H : Hp) (P : V → Hp → Prop) (n : Nat) : Prop := EvA t σ H fun vs H' => vs.length = n ∧ ∀ v ∈ vs, P v H'
theorem evps_nil {P : V → Hp → Prop} : EvPs tNil σ H P 0 := fun H1 S Q q => q [] H1 (Sm.refl _) ⟨rfl, fun _ h => nomatch h⟩
theorem evps_cons {tr : TA} {P : V → Hp → Prop} {n : Nat} (st : Stab P) (ha : EvP ta σ H P) (hr : EvPs tr σ H P n) : EvPs (tCons ta tr) σ H P (n + 1) := fun H1 S Q q =>
  ha H1 S _ fun v H2 S2 pv => hr H2 (S.trans S2) _ fun r H3 S3 ⟨hl, p⟩ => q (v :: r) H3 (S2.trans S3) ⟨by rw [List.length_cons, hl], fun u hu => by
    rcases List.mem_cons.mp hu with e | e
    · rw [e]; exact st _ _ _ S3 pv
    · exact p u e⟩
theorem evp_menu {P : V → Hp → Prop} {tl : TA} {n : Nat} {k : Int} (st : Stab P) (ha : EvPs tl σ H P n) (hb : Ev tb σ H (.int k)) (h0 : 0 ≤ k) (h1 : k < (n : Int)) (hz : n ≤ sizeLine) : EvP (tOp (rIxL K) (tLst tl) tb) σ H P := fun H1 S Q q =>
  ha H1 S _ fun vs H2 S2 ⟨hl, p⟩ => ⟨by rw [hl]; exact hz, fun l nl => hb _ ((S.trans S2).trans (Sm.new nl)) _ fun H3 S3 => by
    have hj : k.toNat < vs.length := by omega
    refine ⟨l, vs, k, vs[k.toNat], rfl, rfl, S3.sql (.inl (.inl upd_same)), at_of (j := k.toNat) (by omega) (List.getElem?_eq_getElem hj), ?_⟩
    exact q _ H3 ((S2.trans (Sm.new nl)).trans S3) (st _ _ _ ((Sm.new nl).trans S3) (p _ (List.getElem_mem hj)))⟩
theorem Ev.pp {P : V → Hp → Prop} (h : Ev te σ H v) (hP : ∀ H', Sm H H' → P v H') : EvP te σ H P := fun H1 S Q q => h H1 S Q fun H2 S2 => q v H2 S2 (hP H2 (S.trans S2))
theorem evp_dnew : EvP tDNewK σ H fun u H' => ∃ a, u = .ref a ∧ H' a = some (.dK []) := fun H1 S Q q p np => q _ _ (Sm.new np) ⟨p, rfl, upd_same⟩
theorem EvP.to {P R : V → Hp → Prop} (h : EvP te σ H P) (k : ∀ v H', Sm H H' → P v H' → R v H') : EvP te σ H R := fun H1 S Q q => h H1 S Q fun v H2 S2 p => q v H2 S2 (k v H2 (S.trans S2) p)
theorem ev_addS {i j : Str} (ha : Ev ta σ H (.str i)) (hb : Ev tb σ H (.str j)) (hz : i.length + j.length ≤ sizeLine) : Ev (tOp (fun x y H Q => ∃ i j, x = .str i ∧ y = .str j ∧ i.length + j.length ≤ sizeLine ∧ Q (.str (i ++ j)) H) ta tb) σ H (.str (i ++ j)) := fun H1 S Q q =>
  ha H1 S _ fun H2 S2 => hb H2 (S.trans S2) _ fun H3 S3 => ⟨i, j, rfl, rfl, hz, q H3 (S2.trans S3)⟩
/-- x in (y, ..), flat -/
theorem ev_inT {t : TA} {vs : List V} (ha : Ev ta σ H x) (hb : EvL t σ H vs) (fx : flatV x = true) (fs : vs.all flatV = true) (hz : vs.length ≤ sizeLine) : Ev (tOp (rIn K false) ta (tTup t)) σ H (.bl (inV x vs)) := fun H1 S Q q =>
  ha H1 S _ fun H2 S2 => hb H2 (S.trans S2) _ fun us H3 S3 p => by
    subst p
    exact ⟨hz, fun l nl => ⟨l, us, rfl, .inr (.inl (.inl upd_same)), fx, fs, q _ (S2.trans (S3.trans (Sm.new nl)))⟩⟩
/-- a text and an int behind it -/
theorem js2 {s : Str} {i : Int} {C : Addr} {E : XK} (tb : TE) (hb : Ev tb σ H (.int i)) (hi : i.natAbs.log2 < 1920) (hs : (Str.empty ++ s).length ≤ sizeLine) (hz : ((Str.empty ++ s) ++ toString i).length ≤ sizeLine) (q : ∀ H', Sm H H' → E (.ref C) none H') :
    tJs [tC (.str s), tFmt tb] Str.empty σ H fun _ H1 => E (.ref C) none H1 :=
  ⟨s, rfl, hs, hb H (Sm.refl _) _ fun H2 S2 => .inr ⟨i, rfl, hi, ⟨_, rfl, hz, q H2 S2⟩⟩⟩
theorem qs_tup {D : Ends} {u : TS} {a : Addr} {xs : List V} {n : Nat} {t : TGs} (h : Ev te σ H (.ref a)) (hS : SqT K H a xs) (hl : xs.length = n) (k : ∀ H', Sm H H' → t xs σ H' (u D)) : tSeq (tAsg te (gTup K n t)) u D σ H :=
  h H (Sm.refl _) _ fun H2 S2 => ⟨a, xs, rfl, S2.sqt hS, hl, k H2 S2⟩
theorem evp_tup1 {tc : TE} {P : V → Hp → Prop} {z : V} (st : Stab P) (ha : EvP ta σ H P) (hb : Ev tb σ H y) (hc : Ev tc σ H z) : EvP (tTup (tCons ta (tCons tb (tCons tc tNil)))) σ H fun u H' => ∃ a x, u = .ref a ∧ SqT K H' a [x, y, z] ∧ P x H' := fun H1 S Q q =>
  ha H1 S _ fun x H2 S2 px => hb H2 (S.trans S2) _ fun H3 S3 => hc H3 (S.trans (S2.trans S3)) _ fun H4 S4 => ⟨by show 3 ≤ sizeLine; decide, fun l nl =>
    q (.ref l) _ (S2.trans (S3.trans (S4.trans (Sm.new nl)))) ⟨l, x, rfl, .inl (.inl upd_same), st _ _ _ (S3.trans (S4.trans (Sm.new nl))) px⟩⟩
theorem evp_tup2 {tc : TE} {P : V → Hp → Prop} {z : V} (st : Stab P) (ha : Ev ta σ H x) (hb : EvP tb σ H P) (hc : Ev tc σ H z) : EvP (tTup (tCons ta (tCons tb (tCons tc tNil)))) σ H fun u H' => ∃ a y, u = .ref a ∧ SqT K H' a [x, y, z] ∧ P y H' := fun H1 S Q q =>
  ha H1 S _ fun H2 S2 => hb H2 (S.trans S2) _ fun y H3 S3 py => hc H3 (S.trans (S2.trans S3)) _ fun H4 S4 => ⟨by show 3 ≤ sizeLine; decide, fun l nl =>
    q (.ref l) _ (S2.trans (S3.trans (S4.trans (Sm.new nl)))) ⟨l, y, rfl, .inl (.inl upd_same), st _ _ _ (S4.trans (Sm.new nl)) py⟩⟩
theorem evp_tup3 {tc : TE} {P : V → Hp → Prop} (st : Stab P) (ha : Ev ta σ H x) (hb : Ev tb σ H y) (hc : EvP tc σ H P) : EvP (tTup (tCons ta (tCons tb (tCons tc tNil)))) σ H fun u H' => ∃ a z, u = .ref a ∧ SqT K H' a [x, y, z] ∧ P z H' := fun H1 S Q q =>
  ha H1 S _ fun H2 S2 => hb H2 (S.trans S2) _ fun H3 S3 => hc H3 (S.trans (S2.trans S3)) _ fun z H4 S4 pz => ⟨by show 3 ≤ sizeLine; decide, fun l nl =>
    q (.ref l) _ (S2.trans (S3.trans (S4.trans (Sm.new nl)))) ⟨l, z, rfl, .inl (.inl upd_same), st _ _ _ (Sm.new nl) pz⟩⟩
theorem numV_lt {lo hi i : Int} (h : i < lo) : numV lo hi (.int i) = false := by
  show (decide (lo ≤ i) && decide (i ≤ hi)) = false
  rw [decide_eq_false (by omega)]
  rfl
theorem numV_gt {lo hi i : Int} (h : hi < i) : numV lo hi (.int i) = false := by
  show (decide (lo ≤ i) && decide (i ≤ hi)) = false
  rw [decide_eq_false (show ¬ i ≤ hi by omega), Bool.and_false]
theorem numV_in {lo hi i : Int} (h1 : lo ≤ i) (h2 : i ≤ hi) : numV lo hi (.int i) = true := by
  show (decide (lo ≤ i) && decide (i ≤ hi)) = true
  rw [decide_eq_true h1, decide_eq_true h2]
  rfl
/-- of a known kind, and c says no -/
def KnNo (K : PySem.W.Frag) (c : V → Bool) (v : V) (H : Hp) : Prop := Kn K v H ∧ c v = false
theorem KnNo.stab {c : V → Bool} : Stab (KnNo K c) := fun v H H' S h => ⟨h.1.sm S, h.2⟩
/-- a tuple that is displayed, of which c says no -/
theorem evp_tupNo {t : TA} {vs : List V} {c : V → Bool} (ha : EvL t σ H vs) (hz : vs.length ≤ sizeLine) (hc : ∀ a, c (.ref a) = false) : EvP (tTup t) σ H (KnNo K c) :=
  (evp_tupV (K := K) ha hz).to fun v H' S ⟨a, e, h⟩ => ⟨by rw [e]; exact kn_tup h, by rw [e]; exact hc a⟩
/-- an if that stores one name anew, of which P holds either way -/
theorem qs_ifsetP {D : Ends} {u : TS} {c : TT} {b : Bool} {i : Nat} {old : V} {P : V → Hp → Prop} (h : EvT c σ H b) (ho : σ[i]? = some (some old)) (hv : b = true → EvP te σ H P) (hn : b = false → ∀ H', Sm H H' → P old H') (k : ∀ v H', Sm H H' → P v H' → u D (σ.set i (some v)) H') :
    tSeq (tIfS c (tAsg te (gName i)) tNext) u D σ H :=
  qs_if h (fun e H' S => (hv e) H' S _ fun v H2 S2 p => k v H2 (S.trans S2) p) fun e H' S => by
    have q := k old H' S (hn e H' S)
    have es : σ.set i (some old) = σ := by
      refine List.ext_getElem? fun j => ?_
      by_cases hj : j = i
      · subst hj
        rw [List.getElem?_set_self (List.getElem?_eq_some_iff.mp ho).1, ho]
      · rw [List.getElem?_set_ne (Ne.symm hj)]
    rw [es] at q
    exact q
/-- try: x = f(..) except C as e: suite -/
theorem qs_tryCall {D : Ends} {u : TS} {c : Value} {i j : Nat} {sp : Sp} {tr : TA} {vs : List V} {ts : Addr → Value → Option Addr → TS} {Wout : WX} (ha : EvL tr σ H vs)
    (h : ∀ H1, Sm H H1 → sp vs H1 (fun v H2 => u D (σ.set j (some v)) H2) (fun cls d H2 => wAs K c i ts Wout { D with nx := u D } cls d σ H2)) :
    tSeq (fun D σ H => tAsg (tCallS sp (WE (wAs K c i ts Wout D)) tr) (gName j) D σ H) u D σ H :=
  ha H (Sm.refl _) _ fun us H2 S2 p => by subst p; exact h H2 S2
/-- try: f(..) except C as e: suite -/
theorem qs_tryDrop {D : Ends} {u : TS} {c : Value} {i : Nat} {sp : Sp} {tr : TA} {vs : List V} {ts : Addr → Value → Option Addr → TS} {Wout : WX} (ha : EvL tr σ H vs)
    (h : ∀ H1, Sm H H1 → sp vs H1 (fun _ H2 => u D σ H2) (fun cls d H2 => wAs K c i ts Wout { D with nx := u D } cls d σ H2)) :
    tSeq (fun D σ H => tDrop (tCallS sp (WE (wAs K c i ts Wout D)) tr) D σ H) u D σ H :=
  ha H (Sm.refl _) _ fun us H2 S2 p => by subst p; exact h H2 S2
/-- f(..) that may raise, its answer dropped -/
theorem qs_dropS {D : Ends} {u : TS} {sp : Sp} {tr : TA} {vs : List V} {E : L2.St → XK} (ha : EvL tr σ H vs) (h : ∀ H1, Sm H H1 → sp vs H1 (fun _ H2 => u D σ H2) (E σ)) : tSeq (tDrop (tCallS sp E tr)) u D σ H :=
  ha H (Sm.refl _) _ fun us H2 S2 p => by subst p; exact h H2 S2
theorem ev_abs {i : Int} (ha : Ev ta σ H (.int i)) : Ev (tCB (fun xs H Q => ∃ i, xs = [.int i] ∧ Q (.int (if i < 0 then -i else i)) H) (tCons ta tNil)) σ H (.int (if i < 0 then -i else i)) :=
  ev_cb (evl_cons ha evl_nil) fun H1 S Q q => ⟨i, rfl, q H1 (Sm.refl _)⟩
theorem evp_maxmin {tc : TE} {o : Int} {P R : Int → Prop} (ha : EvP ta σ H fun v _ => ∃ p, v = .int p ∧ P p) (hb : Ev tb σ H (.int o)) (hc : EvP tc σ H fun v _ => ∃ p, v = .int p ∧ R p) :
    EvP (tCB (fun xs H Q => ∃ i j, xs = [.int i, .int j] ∧ Q (.int (if j > i then j else i)) H) (tCons ta (tCons (tCB (fun xs H Q => ∃ i j, xs = [.int i, .int j] ∧ Q (.int (if j < i then j else i)) H) (tCons tb (tCons tc tNil))) tNil))) σ H
      fun v _ => ∃ lo hi, P lo ∧ R hi ∧ v = .int (if (if hi < o then hi else o) > lo then (if hi < o then hi else o) else lo) := fun H1 S Q q =>
  ha H1 S _ fun v H2 S2 ⟨lo, e, hp⟩ => hb H2 (S.trans S2) _ fun H3 S3 => hc H3 (S.trans (S2.trans S3)) _ fun v' H4 S4 ⟨hi, e', hr⟩ => by
    subst e e'
    exact ⟨o, hi, rfl, lo, _, rfl, q _ H4 (S2.trans (S3.trans S4)) ⟨lo, hi, hp, hr, rfl⟩⟩
end
end My

set_option Elab.async false
set_option linter.all false
set_option maxRecDepth 100000
set_option maxHeartbeats 400000
/-! Lists of wishes, read by their numbers; rows of pieces. -/
namespace My
open PySem PySem.Spec PyProof.Rows L2
section
variable {σ : L2.St} {H : Hp} {v : V} {ta tb te : TE} {K : PySem.W.Frag} {a : Addr} {ws : List Wish} {ns : List Int} {i : Nat}
theorem evp_wish (ha : Ev ta σ H (.ref a)) (hb : Ev tb σ H (.int (i : Int))) (hW : WishL K H a ws) (hi : i < ws.length) : EvP (tOp (rIxL K) ta tb) σ H fun v H' => WishV K H' v (wAt ws i) := by
  obtain ⟨xs, hx, hw⟩ := hW
  obtain ⟨v, hv, hwv⟩ := hw.get (wAt_get hi)
  exact evp_ixL ha hb hx (at_of (j := i) rfl hv) fun H' S => hwv.sm S
theorem ev_wpart {j : Int} (ha : Ev ta σ H (.ref a)) (hb : Ev tb σ H (.int (i : Int))) (hW : WishL K H a ws) (hi : i < ws.length) (hj : atI (wAt ws i).row j = some v) : Ev (tOp (rIxT K) (tOp (rIxL K) ta tb) (tC (.int j))) σ H v :=
  ev_ixTP ((evp_wish ha hb hW hi).to fun v H' S h => h) ev_c hj
theorem ev_wSide (ha : Ev ta σ H (.ref a)) (hb : Ev tb σ H (.int (i : Int))) (hW : WishL K H a ws) (hi : i < ws.length) : Ev (tOp (rIxT K) (tOp (rIxL K) ta tb) (tC (.int 0))) σ H (.str (sideS (wAt ws i).buy)) := ev_wpart ha hb hW hi rfl
theorem ev_wLim (ha : Ev ta σ H (.ref a)) (hb : Ev tb σ H (.int (i : Int))) (hW : WishL K H a ws) (hi : i < ws.length) : Ev (tOp (rIxT K) (tOp (rIxL K) ta tb) (tC (.int 1))) σ H (.int (wAt ws i).lim) := ev_wpart ha hb hW hi rfl
theorem ev_wAmt (ha : Ev ta σ H (.ref a)) (hb : Ev tb σ H (.int (i : Int))) (hW : WishL K H a ws) (hi : i < ws.length) : Ev (tOp (rIxT K) (tOp (rIxL K) ta tb) (tC (.int 2))) σ H (.int (amtAt ws i)) := ev_wpart ha hb hW hi rfl
/-- a part of a wish in hand -/
theorem ev_vSide {t : Addr} {w : Wish} (ha : Ev ta σ H (.ref t)) (h : SqT K H t w.row) : Ev (tOp (rIxT K) ta (tC (.int 0))) σ H (.str (sideS w.buy)) := ev_ixT ha ev_c h rfl
theorem ev_vLim {t : Addr} {w : Wish} (ha : Ev ta σ H (.ref t)) (h : SqT K H t w.row) : Ev (tOp (rIxT K) ta (tC (.int 1))) σ H (.int w.lim) := ev_ixT ha ev_c h rfl
theorem ev_vAmt {t : Addr} {w : Wish} (ha : Ev ta σ H (.ref t)) (h : SqT K H t w.row) : Ev (tOp (rIxT K) ta (tC (.int 2))) σ H (.int w.amt) := ev_ixT ha ev_c h rfl
/-- a number of a list of numbers -/
theorem ev_ixN (ha : Ev ta σ H (.ref a)) (hb : Ev tb σ H (.int (i : Int))) (hS : SqL K H a (ns.map V.int)) (hi : i < ns.length) : Ev (tOp (rIxL K) ta tb) σ H (.int (ns.getD i 0)) :=
  ev_ixL ha hb hS (at_of (j := i) rfl (by rw [List.getElem?_map, List.getElem?_eq_getElem hi, List.getD_eq_getElem?_getD, List.getElem?_eq_getElem hi]; rfl))
theorem ev_lenW (ha : Ev ta σ H (.ref a)) (hW : WishL K H a ws) : Ev (tCB (fun xs H Q => ∃ p ys, xs = [.ref p] ∧ (SqL K H p ys ∨ SqT K H p ys) ∧ Q (.int ys.length) H) (tCons ta tNil)) σ H (.int (ws.length : Int)) := by
  obtain ⟨xs, hx, hw⟩ := hW
  rw [← hw.length]
  exact ev_len ha hx
/-- pieces that go with the wishes -/
structure Pcs (ws : List Wish) (ns : List Int) : Prop where
  len : ns.length = ws.length
  ok : ∀ k, k < ws.length → 0 ≤ ns.getD k 0 ∧ ns.getD k 0 ≤ amtAt ws k
theorem Pcs.snoc {xs : List Int} {m : Int} {n : Nat} (hl : xs.length = n) (h : ∀ k, k < n → 0 ≤ xs.getD k 0 ∧ xs.getD k 0 ≤ amtAt ws k) (h0 : 0 ≤ m) (h1 : m ≤ amtAt ws n) : ∀ k, k < n + 1 → 0 ≤ (xs ++ [m]).getD k 0 ∧ (xs ++ [m]).getD k 0 ≤ amtAt ws k := fun k hk => by
  by_cases e : k < n
  · rw [List.getD_eq_getElem?_getD, List.getElem?_append_left (by omega), ← List.getD_eq_getElem?_getD]
    exact h k e
  · have e2 : k = n := by omega
    subst e2
    rw [List.getD_eq_getElem?_getD, List.getElem?_append_right (by omega), hl, Nat.sub_self]
    exact ⟨h0, h1⟩
theorem WishL.mut {H' : Hp} {l : Addr} {o : HO} (h : WishL K H' a ws) {H0 : Hp} (S : Sm H0 H') (hn : H0 l = none) (h0 : WishL K H0 a ws) : WishL K (upd H' l o) a ws := h0.sm (S.mut hn)
/-- [], new -/
theorem evp_lst0 : EvP (tLst tNil) σ H fun u H' => ∃ l, u = .ref l ∧ H l = none ∧ H' l = some (.lst []) := fun H1 S Q q =>
  ⟨Nat.zero_le _, fun l nl => q (.ref l) _ (Sm.new nl) ⟨l, rfl, S.free nl, upd_same⟩⟩
/-- xs + ys, lists -/
theorem evp_cat {Pa Pb : List V → Hp → Prop} (sa : ∀ xs H H', Sm H H' → Pa xs H → Pa xs H') (sb : ∀ xs H H', Sm H H' → Pb xs H → Pb xs H') (hz : ∀ xs ys H', Pa xs H' → Pb ys H' → xs.length + ys.length ≤ sizeLine)
    (ha : EvP ta σ H fun v H' => ∃ a xs, v = .ref a ∧ H' a = some (.lst xs) ∧ Pa xs H') (hb : EvP tb σ H fun v H' => ∃ a xs, v = .ref a ∧ H' a = some (.lst xs) ∧ Pb xs H') :
    EvP (tOp rCat ta tb) σ H fun v H' => ∃ a xs, v = .ref a ∧ H' a = some (.lst xs) ∧ ∃ ys zs, xs = ys ++ zs ∧ Pa ys H' ∧ Pb zs H' := fun H1 S Q q =>
  ha H1 S _ fun u H2 S2 ⟨a, xs, e, h, pa⟩ => hb H2 (S.trans S2) _ fun u' H3 S3 ⟨b, ys, e', h', pb⟩ => by
    subst e e'
    exact ⟨a, b, xs, ys, rfl, rfl, S3.lst h, h', hz xs ys H3 (sa _ _ _ S3 pa) pb, fun p np => q _ _ (S2.trans (S3.trans (Sm.new np))) ⟨p, _, rfl, upd_same, xs, ys, rfl, sa _ _ _ (S3.trans (Sm.new np)) pa, sb _ _ _ (Sm.new np) pb⟩⟩
end
/-! ### sizes -/
abbrev bits : Int → Nat := Builtin.Int.intBits
theorem bits_small {i : Int} (h1 : -(2 ^ 64) < i) (h2 : i < 2 ^ 64) : bits i ≤ 64 := PySem.intBits_le_64 h1 h2
theorem bits_getD {ns : List Int} {m : Nat} (h : ∀ z ∈ ns, bits z ≤ m) (k : Nat) (hm : 64 ≤ m) : bits (ns.getD k 0) ≤ m := by
  rw [List.getD_eq_getElem?_getD]
  cases e : ns[k]? with
  | none => exact Nat.le_trans (bits_small (by decide) (by decide)) hm
  | some z => exact h z (List.mem_of_getElem? e)
/-- the law's own promise, with the script's sizes -/
def SpLawB (K : PySem.W.Frag) (tabs : List Addr) : Sp := fun vs H Q _ => ∃ (a : Addr) (ns : List Int), vs = [.ref a] ∧ SqL K H a (ns.map V.int) ∧ ns.length ≤ 63 ∧ (∀ z ∈ ns, bits z ≤ 1048576) ∧ (∀ P ∈ tabs, GxR.TabG H P) ∧ ∀ H', Q (.bl true) H'
end My

set_option Elab.async false
set_option linter.all false
set_option maxRecDepth 100000
set_option maxHeartbeats 400000
/-! Walks: comprehensions and loops over zip, enumerate, any list; sorted pairs; stores into lists. -/
namespace My
open PySem PySem.Spec PyProof.Rows L2
/-! ### one more rule: xs[i] of an assignment with an operator -/
theorem get_list {X : Cx} : PGet X (rIxL X.K) := by
  intro pins s σ H x y v u Q I rx ry h
  obtain ⟨p, xs, i, z, rfl, rfl, hq, he, q⟩ := h
  cases rx
  obtain ⟨t, rfl⟩ := ry
  obtain ⟨its, r, pl, hz⟩ := I.list hq
  obtain ⟨j, h1, h2, h3, h4, h5⟩ := atI_get he
  obtain ⟨w, ew, rw'⟩ := r.get h2
  have hl := r.length
  have hn := line63
  have fin : EP X pins σ Q w s := ⟨z, H, I, rw', q⟩
  by_cases h0 : 0 ≤ i
  · have hj : i.toNat = j := by
      rw [seqIndex_of h0 h5] at h1
      exact Option.some.inj h1
    exact wpAny_getItem_list pl.isList h0 (by omega) (by rw [hj]; simpa using ew) fin
  · have hj : (i + (its.toArray.size : Int)).toNat = j := by
      rw [seqIndex_neg (by omega) h4] at h1
      rw [List.size_toArray, ← hl]
      exact Option.some.inj h1
    exact wpAny_getItem_list_neg pl.isList (by omega) (by rw [List.size_toArray] <;> omega) (by omega) (by rw [hj]; simpa using ew) fin
/-! ### a target that takes a value apart -/
/-- the target takes the value, and leaves the slots σ' -/
def EvG (g : TG) (x : V) (σ : L2.St) (H : Hp) (σ' : L2.St) : Prop := ∀ H1, Sm H H1 → ∀ Q : L2.St → Hp → Prop, (∀ H2, Sm H1 H2 → Q σ' H2) → g x σ H1 Q
def EvGs (g : TGs) (xs : List V) (σ : L2.St) (H : Hp) (σ' : L2.St) : Prop := ∀ H1, Sm H H1 → ∀ Q : L2.St → Hp → Prop, (∀ H2, Sm H1 H2 → Q σ' H2) → g xs σ H1 Q
section
variable {σ σ' σ2 : L2.St} {H : Hp} {v x : V} {xs : List V} {K : PySem.W.Frag} {g : TG} {gs : TGs}
theorem evg_name {i : Nat} : EvG (gName i) x σ H (σ.set i (some x)) := fun H1 S Q q => q H1 (Sm.refl _)
theorem evgs_nil : EvGs gNil [] σ H σ := fun H1 S Q q => ⟨rfl, q H1 (Sm.refl _)⟩
theorem evgs_cons (h : EvG g x σ H σ') (k : EvGs gs xs σ' H σ2) : EvGs (gCons g gs) (x :: xs) σ H σ2 := fun H1 S Q q => ⟨x, xs, rfl, h H1 S _ fun H2 S2 => k H2 (S.trans S2) Q fun H3 S3 => q H3 (S2.trans S3)⟩
theorem evg_tup {a : Addr} {n : Nat} (hS : SqT K H a xs) (hl : xs.length = n) (k : EvGs gs xs σ H σ') : EvG (gTup K n gs) (.ref a) σ H σ' := fun H1 S Q q => ⟨a, xs, rfl, S.sqt hS, hl, k H1 S Q q⟩
theorem EvG.mono {H' : Hp} (h : EvG g x σ H σ') (S : Sm H H') : EvG g x σ H' σ' := fun H1 S1 => h H1 (S.trans S1)
end
/-! ### comprehensions over any walk -/
/-- the tuples stay -/
structure Tq (K : PySem.W.Frag) (H H' : Hp) : Prop where
  tk : Tk K H H'
  tup : ∀ a r, H a = some (.tup r) → H' a = some (.tup r)
theorem Sm.tq {K : PySem.W.Frag} {H H' : Hp} (S : Sm H H') : Tq K H H' := ⟨S.tk, fun _ _ h => S.tup h⟩
theorem Tq.trans {K : PySem.W.Frag} {H H1 H' : Hp} (s : Tq K H H1) (t : Tq K H1 H') : Tq K H H' := ⟨fun a r h => t.tk a r (s.tk a r h), fun a r h => t.tup a r (s.tup a r h)⟩
theorem tq_lst {K : PySem.W.Frag} {H : Hp} {D : Addr} {xs ys : List V} (h : H D = some (.lst xs)) : Tq K H (upd H D (.lst ys)) := ⟨tk_lst h, fun a r e => by rw [upd_ne (fun z => by rw [z, h] at e; cases e)]; exact e⟩
section
variable {σ : L2.St} {H : Hp} {K : PySem.W.Frag}
/-- what is left of a comprehension when its walk J has been made -/
def tLcB (J : It) (g : TG) (tt : TT) (te : TE) (vs : List Nat) (σ : L2.St) (H1 : Hp) (Q : VK) : Prop := ∀ D, H1 D = none → ∃ W : Nat → Nat → Hp → Prop, (∃ m, W 0 m (upd H1 D (.lst []))) ∧ ∀ i m H, W i m H →
  (J.stop i H ∧ Q (.ref D) H) ∨ (J.go i H ∧ ∃ Nx : Hp → Prop, (∀ H', Nx H' → ∃ m', m' < m ∧ W (i + 1) m' H') ∧ ∀ x H', J.yld i H x H' → g x (wipe σ vs) H' fun σ2 H2 => wipe σ2 vs = wipe σ vs ∧ tt σ2 H2 fun b H3 =>
    if b = true then te σ2 H3 fun y H4 => ∃ acc, H4 D = some (.lst acc) ∧ acc.length < sizeLine ∧ Nx (upd H4 D (.lst (acc ++ [y]))) else Nx H3)
theorem tLc_eq (wi : TI) (g : TG) (tt : TT) (te : TE) (vs : List Nat) (σ : L2.St) (H : Hp) (Q : VK) : tLc wi g tt te vs σ H Q = wi σ H fun J H1 => tLcB J g tt te vs σ H1 Q := rfl
/-- the numbers below n that pass -/
def kept (pz : Nat → Bool) (n : Nat) : List Nat := (List.range n).filter pz
theorem kept_succ {pz : Nat → Bool} {n : Nat} : kept pz (n + 1) = kept pz n ++ (if pz n = true then [n] else []) := by
  unfold kept
  rw [List.range_succ, List.filter_append, List.filter_cons]
  by_cases h : pz n = true
  · rw [if_pos h, if_pos h]; rfl
  · rw [if_neg h, if_neg h]; rfl
theorem kept_len {pz : Nat → Bool} {n : Nat} : (kept pz n).length ≤ n := by
  have h := List.length_filter_le pz (List.range n)
  rw [List.length_range] at h
  exact h
theorem kept_lt {pz : Nat → Bool} {n i : Nat} (h : i ∈ kept pz n) : i < n ∧ pz i = true := ⟨List.mem_range.mp (List.mem_filter.mp h).1, (List.mem_filter.mp h).2⟩
theorem lc_walk {J : It} {n : Nat} {G : Hp → Prop} {Y : Nat → Hp → V → Hp → Prop} {g : TG} {tt : TT} {te : TE} {vs : List Nat} {pz : Nat → Bool} {P : Nat → V → Hp → Prop} {Q : VK}
    (w : Walk J n G Y) (hG : ∀ H1, Sm H H1 → G H1) (st : ∀ i y H H', Tq K H H' → P i y H → P i y H') (hz : n ≤ 100000)
    (ht : ∀ i x H1 H2, i < n → Sm H H1 → Y i H1 x H2 → Sm H1 H2 ∧ ∃ σ', EvG g x (wipe σ vs) H2 σ' ∧ wipe σ' vs = wipe σ vs ∧ EvT tt σ' H2 (pz i) ∧ (pz i = true → EvP te σ' H2 (P i)))
    (q : ∀ D ys H', H D = none → Sm H H' → H' D = some (.lst ys) → Paired (fun i y => P i y H') (kept pz n) ys → Q (.ref D) H') : tLcB J g tt te vs σ H Q := fun D nD => by
  refine lc_it w (Qd := fun H' => Q (.ref D) H') (fun i H' => Sm H H' ∧ ∃ acc, H' D = some (.lst acc) ∧ Paired (fun j y => P j y H') (kept pz i) acc) ⟨Sm.new nD, [], upd_same, .nil⟩ (fun i H' _ h => hG H' h.1) (fun i x H1 H2 hi hP hy => ?_) (fun H' hP => ?_)
  · obtain ⟨S1, acc, hD, hp⟩ := hP
    obtain ⟨S2, σ', eg, ew, et, ee⟩ := ht i x H1 H2 hi S1 hy
    refine eg H2 (Sm.refl _) _ fun H3 S3 => ⟨ew, et H3 S3 _ fun H4 S4 => ?_⟩
    have S14 := S2.trans (S3.trans S4)
    have hl := Paired.length hp
    have hk := kept_len (pz := pz) (n := i)
    cases e : pz i with
    | true =>
      rw [if_pos rfl]
      refine ee e H4 (S3.trans S4) _ fun y H5 S5 py => ⟨acc, S5.lst (S14.lst hD), Nat.lt_of_lt_of_le (show acc.length < 100001 by omega) (by decide), (S1.trans (S14.trans S5)).mut nD, acc ++ [y], upd_same, ?_⟩
      have hD5 := S5.lst (S14.lst hD)
      have t1 : Tq K H1 (upd H5 D (.lst (acc ++ [y]))) := (S14.trans S5).tq.trans (tq_lst hD5)
      rw [kept_succ, if_pos e]
      exact Paired.snoc (Paired.mapR (fun a b z => st a b _ _ t1 z) hp) (st _ _ _ _ (tq_lst hD5) py)
    | false =>
      rw [if_neg Bool.false_ne_true]
      refine ⟨S1.trans S14, acc, S14.lst hD, ?_⟩
      rw [kept_succ, if_neg (by rw [e]; exact Bool.false_ne_true), List.append_nil]
      exact Paired.mapR (fun a b z => st a b _ _ S14.tq z) hp
  · obtain ⟨S1, acc, hD, hp⟩ := hP
    exact q D acc H' nD S1 hD hp
/-- numbers, or texts, or truths: what the list holds is known -/
theorem paired_map {α β : Type} {f : α → β} : ∀ {l : List α} {m : List β}, Paired (fun i y => y = f i) l m → m = l.map f
  | _, _, .nil => rfl
  | _, _, .cons r t => by rw [List.map_cons, ← paired_map t, r]
/-! the walks -/
theorem Sm.pair {H H' : Hp} {T : Addr} {x y : V} (h : H T = none) (e : H' = upd H T (.tup [x, y])) : Sm H H' := e ▸ Sm.new h
/-- zip(xs, ys) -/
theorem evp_lcZip {ta : TA} {a b : Addr} {xs ys : List V} {n : Nat} {g : TG} {tt : TT} {te : TE} {vs : List Nat} {pz : Nat → Bool} {P : Nat → V → Hp → Prop}
    (ha : EvL ta σ H [.ref a, .ref b]) (hx : SqL K H a xs) (hy : SqL K H b ys) (hn : n = min xs.length ys.length) (st : ∀ i y H H', Tq K H H' → P i y H → P i y H') (hz : n ≤ 100000)
    (ht : ∀ i x y T H2, xs[i]? = some x → ys[i]? = some y → Sm H H2 → H2 T = some (.tup [x, y]) → ∃ σ', EvG g (.ref T) (wipe σ vs) H2 σ' ∧ wipe σ' vs = wipe σ vs ∧ EvT tt σ' H2 (pz i) ∧ (pz i = true → EvP te σ' H2 (P i))) :
    EvP (tLc (iZip K ta) g tt te vs) σ H fun u H' => ∃ D zs, u = .ref D ∧ H D = none ∧ H' D = some (.lst zs) ∧ Paired (fun i y => P i y H') (kept pz n) zs := fun H1 S Q q =>
  ha H1 S _ fun us H2 S2 p => ⟨a, b, xs, ys, p, (S.trans S2).sql hx, (S.trans S2).sql hy, lc_walk (K := K) (walk_zip hn) (fun H3 S3 => ⟨(S.trans (S2.trans S3)).sql hx, (S.trans (S2.trans S3)).sql hy⟩) st hz (fun i x H3 H4 hi S3 hY => by
      obtain ⟨T, x1, y1, e, nT, e4, h1, h2⟩ := hY
      subst e
      have S34 := Sm.pair nT e4
      exact ⟨S34, ht i x1 y1 T H4 h1 h2 (S.trans (S2.trans (S3.trans S34))) (by rw [e4, upd_same])⟩)
    fun D zs H3 nD S3 hD hp => q _ H3 (S2.trans S3) ⟨D, zs, rfl, S.free (S2.free nD), hD, hp⟩⟩
/-- enumerate(xs) -/
theorem evp_lcEnum {ta : TA} {a : Addr} {xs : List V} {g : TG} {tt : TT} {te : TE} {vs : List Nat} {pz : Nat → Bool} {P : Nat → V → Hp → Prop}
    (ha : EvL ta σ H [.ref a]) (hx : SqL K H a xs) (st : ∀ i y H H', Tq K H H' → P i y H → P i y H') (hz : xs.length ≤ 100000)
    (ht : ∀ (i : Nat) y T H2, xs[i]? = some y → Sm H H2 → H2 T = some (.tup [.int (i : Int), y]) → ∃ σ', EvG g (.ref T) (wipe σ vs) H2 σ' ∧ wipe σ' vs = wipe σ vs ∧ EvT tt σ' H2 (pz i) ∧ (pz i = true → EvP te σ' H2 (P i))) :
    EvP (tLc (iEnum K ta) g tt te vs) σ H fun u H' => ∃ D zs, u = .ref D ∧ H D = none ∧ H' D = some (.lst zs) ∧ Paired (fun i y => P i y H') (kept pz xs.length) zs := fun H1 S Q q =>
  ha H1 S _ fun us H2 S2 p => ⟨a, xs, p, (S.trans S2).sql hx, lc_walk (K := K) walk_enum (fun H3 S3 => (S.trans (S2.trans S3)).sql hx) st hz (fun i x H3 H4 hi S3 hY => by
      obtain ⟨T, x1, y1, e, nT, e4, h1, h2⟩ := hY
      subst e
      have e1 := Option.some.inj h1
      subst e1
      have S34 := Sm.pair nT e4
      exact ⟨S34, ht i y1 T H4 h2 (S.trans (S2.trans (S3.trans S34))) (by rw [e4, upd_same])⟩)
    fun D zs H3 nD S3 hD hp => q _ H3 (S2.trans S3) ⟨D, zs, rfl, S.free (S2.free nD), hD, hp⟩⟩
/-- a list, made or known; what it holds may be known by R alone -/
theorem evp_lcL {δ : Type} {tl : TE} {g : TG} {tt : TT} {te : TE} {vs : List Nat} {R : δ → List V → Hp → Prop} {pz : δ → Nat → Bool} {P : δ → Nat → V → Hp → Prop}
    (hl : EvP tl σ H fun u H' => ∃ a xs d, u = .ref a ∧ SqL K H' a xs ∧ R d xs H') (sR : ∀ d xs H H', Sm H H' → R d xs H → R d xs H') (st : ∀ d i y H H', Tq K H H' → P d i y H → P d i y H') (hz : ∀ d xs H', R d xs H' → xs.length ≤ 100000)
    (ht : ∀ d xs i x H2, R d xs H2 → xs[i]? = some x → Sm H H2 → ∃ σ', EvG g x (wipe σ vs) H2 σ' ∧ wipe σ' vs = wipe σ vs ∧ EvT tt σ' H2 (pz d i) ∧ (pz d i = true → EvP te σ' H2 (P d i))) :
    EvP (tLc (iList K tl) g tt te vs) σ H fun u H' => ∃ D zs xs d, u = .ref D ∧ H D = none ∧ H' D = some (.lst zs) ∧ R d xs H' ∧ Paired (fun i y => P d i y H') (kept (pz d) xs.length) zs := fun H1 S Q q =>
  hl H1 S _ fun u H2 S2 ⟨a, xs, d, e, hx, hR⟩ => ⟨a, e, ⟨xs, hx⟩, lc_walk (K := K) walk_list (fun H3 S3 => S3.sql hx) (st d) (hz d xs H2 hR) (fun i x H3 H4 hi S3 hY => by
      obtain ⟨e4, h1⟩ := hY
      subst e4
      exact ⟨Sm.refl _, ht d xs i x _ (sR d xs _ _ S3 hR) h1 (S.trans (S2.trans S3))⟩)
    fun D zs H3 nD S3 hD hp => q _ H3 (S2.trans S3) ⟨D, zs, xs, d, rfl, S.free (S2.free nD), hD, sR d xs _ _ S3 hR, hp⟩⟩
/-- range(n) -/
theorem evp_lcR {ta : TA} {j : Int} {n : Nat} {g : TG} {tt : TT} {te : TE} {vs : List Nat} {pz : Nat → Bool} {P : Nat → V → Hp → Prop}
    (ha : EvL ta σ H [.int j]) (hj : j = (n : Int)) (st : ∀ i y H H', Tq K H H' → P i y H → P i y H') (hz : n ≤ 100000)
    (ht : ∀ i H2, i < n → Sm H H2 → ∃ σ', EvG g (.int (i : Int)) (wipe σ vs) H2 σ' ∧ wipe σ' vs = wipe σ vs ∧ EvT tt σ' H2 (pz i) ∧ (pz i = true → EvP te σ' H2 (P i))) :
    EvP (tLc (iRng1 ta) g tt te vs) σ H fun u H' => ∃ D zs, u = .ref D ∧ H D = none ∧ H' D = some (.lst zs) ∧ Paired (fun i y => P i y H') (kept pz n) zs := fun H1 S Q q =>
  ha H1 S _ fun us H2 S2 p => ⟨j, p, by omega, by omega, by
    subst hj
    refine lc_walk (K := K) (walk_range (lo := 0)) (fun _ _ => True.intro) st hz (fun i x H3 H4 hi S3 hY => ?_) fun D zs H3 nD S3 hD hp => q _ H3 (S2.trans S3) ⟨D, zs, rfl, S.free (S2.free nD), hD, hp⟩
    obtain ⟨e4, e5⟩ := hY
    subst e4 e5
    show _ ∧ ∃ σ', EvG g (.int (0 + (i : Int))) _ _ σ' ∧ _
    rw [Int.zero_add]
    exact ⟨Sm.refl _, ht i _ (by omega) (S.trans (S2.trans S3))⟩⟩
theorem evt_yes {b : Bool} (h : b = true) : EvT tYes σ H b := fun H1 S Q q => by subst h; exact q H1 (Sm.refl _)
end
/-! ### loops over any walk -/
section
variable {σ : L2.St} {H : Hp} {K : PySem.W.Frag} {D : Ends} {tb : TS} {g : TG}
/-- for .. in zip(xs, ys) -/
theorem q_forZ {ta : TA} {a b : Addr} {xs ys : List V} {n : Nat} (Pv : Nat → L2.St → Hp → Prop) (ha : EvL ta σ H [.ref a, .ref b]) (hx : SqL K H a xs) (hy : SqL K H b ys) (hn : n = min xs.length ys.length) (h0 : ∀ H', Sm H H' → Pv 0 σ H') (hl : ∀ i σ' H', i ≤ n → Pv i σ' H' → SqL K H' a xs ∧ SqL K H' b ys)
    (hs : ∀ i x y T σ' H1 H2, xs[i]? = some x → ys[i]? = some y → Pv i σ' H1 → Sm H1 H2 → H2 T = some (.tup [x, y]) → ∃ σ2, EvG g (.ref T) σ' H2 σ2 ∧ ∀ H3, Sm H2 H3 → tb { D with nx := Pv (i + 1), ct := Pv (i + 1), bk := D.nx } σ2 H3) (hd : ∀ σ' H', Pv n σ' H' → D.nx σ' H') : tFor (iZip K ta) g tb D σ H :=
  ha H (Sm.refl _) _ fun us H2 S2 p => ⟨a, b, xs, ys, p, S2.sql hx, S2.sql hy, for_it (walk_zip hn) Pv (h0 H2 S2) hl (fun i x σ' H1 H3 hi hP hY => by
    obtain ⟨T, x1, y1, e, nT, e4, h1, h2⟩ := hY
    subst e
    obtain ⟨σ2, eg, k⟩ := hs i x1 y1 T σ' H1 H3 h1 h2 hP (Sm.pair nT e4) (by rw [e4, upd_same])
    exact eg H3 (Sm.refl _) _ k) hd⟩
/-- for .. in xs, any target -/
theorem q_forG {te : TE} {a : Addr} {xs : List V} (Pv : Nat → L2.St → Hp → Prop) (h : Ev te σ H (.ref a)) (hx : SqL K H a xs) (h0 : ∀ H', Sm H H' → Pv 0 σ H') (hl : ∀ i σ' H', i ≤ xs.length → Pv i σ' H' → SqL K H' a xs)
    (hs : ∀ i x σ' H', xs[i]? = some x → Pv i σ' H' → ∃ σ2, EvG g x σ' H' σ2 ∧ ∀ H3, Sm H' H3 → tb { D with nx := Pv (i + 1), ct := Pv (i + 1), bk := D.nx } σ2 H3) (hd : ∀ σ' H', Pv xs.length σ' H' → D.nx σ' H') : tFor (iList K te) g tb D σ H :=
  h H (Sm.refl _) _ fun H2 S2 => ⟨a, rfl, ⟨xs, S2.sql hx⟩, for_it walk_list Pv (h0 H2 S2) hl (fun i x σ' H1 H3 hi hP hY => by
    obtain ⟨e4, h1⟩ := hY
    subst e4
    obtain ⟨σ2, eg, k⟩ := hs i x σ' _ h1 hP
    exact eg _ (Sm.refl _) _ k) hd⟩
/-- for .. in a list that is just made -/
theorem q_forP {te : TE} {R : Addr → List V → Hp → Prop} (h : EvP te σ H fun u H' => ∃ a xs, u = .ref a ∧ SqL K H' a xs ∧ R a xs H') (k : ∀ a xs H', Sm H H' → SqL K H' a xs → R a xs H' → tFor (iList K (tC (.ref a))) g tb D σ H') : tFor (iList K te) g tb D σ H :=
  h H (Sm.refl _) _ fun u H2 S2 ⟨a, xs, e, hx, hR⟩ => by
    obtain ⟨a', e', k'⟩ := k a xs H2 S2 hx hR
    cases e'
    exact ⟨a, e, k'⟩
/-- for .. in a tuple that is just made -/
theorem q_forT {te : TE} {xs : List V} {R : Hp → Prop} (Pv : Nat → L2.St → Hp → Prop) (h : EvP te σ H fun u H' => ∃ a, u = .ref a ∧ SqT K H' a xs ∧ R H') (h0 : ∀ H', Sm H H' → R H' → Pv 0 σ H') (hl : ∀ i σ' H0 H', Sm H H0 → R H0 → Pv i σ' H' → Sm H0 H' ∨ Tq K H0 H')
    (hs : ∀ i x σ' H', xs[i]? = some x → Pv i σ' H' → ∃ σ2, EvG g x σ' H' σ2 ∧ ∀ H3, Sm H' H3 → tb { D with nx := Pv (i + 1), ct := Pv (i + 1), bk := D.nx } σ2 H3) (hd : ∀ σ' H', Pv xs.length σ' H' → D.nx σ' H') : tFor (iTup K te) g tb D σ H :=
  h H (Sm.refl _) _ fun u H2 S2 ⟨a, e, hx, hR⟩ => ⟨a, e, ⟨xs, hx⟩, for_it walk_tup Pv (h0 H2 S2 hR) (fun i σ' H' _ hP => by
      rcases hl i σ' H2 H' S2 hR hP with S | S
      · exact S.sqt hx
      · exact S.tk _ _ hx) (fun i x σ' H1 H3 hi hP hY => by
    obtain ⟨e4, h1⟩ := hY
    subst e4
    obtain ⟨σ2, eg, k⟩ := hs i x σ' _ h1 hP
    exact eg _ (Sm.refl _) _ k) hd⟩
/-- xs[i] = e -/
theorem q_put {te to ti : TE} {l : Addr} {xs : List V} {i : Int} {j : Nat} {P : V → Hp → Prop} (he : EvP te σ H P) (ho : Ev to σ H (.ref l)) (hi : Ev ti σ H (.int i)) (hl : H l = some (.lst xs)) (hj : ixN xs.length i = some j) (k : ∀ y H' H2, Sm H H' → P y H' → Sm H' H2 → H2 l = some (.lst xs) → D.nx σ (upd H2 l (.lst (xs.set j y)))) : tAsg te (gSub to ti rSetL) D σ H :=
  he H (Sm.refl _) _ fun y H1 S1 py => ho H1 S1 _ fun H2 S2 => hi H2 (S1.trans S2) _ fun H3 S3 => ⟨l, xs, i, j, rfl, rfl, (S1.trans (S2.trans S3)).lst hl, hj, k y H1 H3 S1 py (S2.trans S3) ((S1.trans (S2.trans S3)).lst hl)⟩
/-- xs[i] op= e, ints -/
theorem q_augL {te to ti : TE} {l : Addr} {xs : List V} {i : Int} {j : Nat} {m n : Int} {f : Int → Int → Int} (ho : Ev to σ H (.ref l)) (hi : Ev ti σ H (.int i)) (he : Ev te σ H (.int n)) (hl : H l = some (.lst xs)) (hj : ixN xs.length i = some j) (hx : xs[j]? = some (.int m)) (k : ∀ H', Sm H H' → H' l = some (.lst xs) → D.nx σ (upd H' l (.lst (xs.set j (.int (f m n)))))) : tAugS to ti te (rIxL K) (ipI f) rSetL D σ H :=
  ho H (Sm.refl _) _ fun H1 S1 => hi H1 S1 _ fun H2 S2 => ⟨l, xs, i, .int m, rfl, rfl, .inl (.inl ((S1.trans S2).lst hl)), by unfold atI; rw [hj]; exact hx, he H2 (S1.trans S2) _ fun H3 S3 => ⟨m, n, rfl, rfl, l, xs, i, j, rfl, rfl, (S1.trans (S2.trans S3)).lst hl, hj, k H3 (S1.trans (S2.trans S3)) ((S1.trans (S2.trans S3)).lst hl)⟩⟩
/-- x op= e, ints -/
theorem q_aug {te : TE} {i : Nat} {m n : Int} {f : Int → Int → Int} (h0 : σ[i]? = some (some (.int m))) (he : Ev te σ H (.int n)) (k : ∀ H', Sm H H' → D.nx (σ.set i (some (.int (f m n)))) H') : tAug i te (ipI f) D σ H :=
  ⟨_, h0, he H (Sm.refl _) _ fun H1 S1 => ⟨m, n, rfl, rfl, k H1 S1⟩⟩
end
theorem ixN_nat {n i : Nat} (h : i < n) : ixN n (i : Int) = some i := by
  unfold ixN
  rw [if_pos (by omega), if_pos (by omega)]
  rfl
section
variable {σ : L2.St} {H : Hp} {K : PySem.W.Frag} {ta tb te : TE}
/-- sum(xs), numbers -/
theorem ev_sumP {t : TE} {ns : List Int} (h : EvP t σ H fun u H' => ∃ a, u = .ref a ∧ SqL K H' a (ns.map V.int)) : Ev (tCB (rSum K) (tCons t tNil)) σ H (.int ns.sum) := fun H1 S Q q =>
  h H1 S _ fun u H2 S2 ⟨a, e, hx⟩ => ⟨a, ns, by rw [e], hx, q H2 S2⟩
end
/-! ### heaps of which some objects change -/
/-- all that is tracked stays, but for ps -/
def SmE (ps : List Addr) (H H' : Hp) : Prop := ∀ b o, b ∉ ps → H b = some o → H' b = some o ∨ ∃ qs qs' : Array Value, o = .tbl qs ∧ H' b = some (.tbl qs') ∧ TriplesOk qs'.toList
section
variable {ps : List Addr} {H H' H1 : Hp} {K : PySem.W.Frag}
theorem Sm.e (S : Sm H H') : SmE ps H H' := fun b o _ h => S b o h
theorem SmE.refl : SmE ps H H := fun _ _ _ h => .inl h
theorem SmE.trans (a : SmE ps H H1) (b : SmE ps H1 H') : SmE ps H H' := fun c o n h => by
  rcases a c o n h with e | ⟨qs, qs', e1, e2, e3⟩
  · exact b c o n e
  · rcases b c _ n e2 with e | ⟨rs, rs', f1, f2, f3⟩
    · exact .inr ⟨qs, qs', e1, e, e3⟩
    · exact .inr ⟨qs, rs', e1, f2, f3⟩
theorem SmE.upd {p : Addr} {o : HO} (S : SmE ps H H') (h : p ∈ ps) : SmE ps H (upd H' p o) := fun b u n e => by
  have hb : b ≠ p := fun z => n (by rw [z]; exact h)
  rw [upd_ne hb]
  exact S b u n e
theorem SmE.sm (S : SmE ps H H') (h : ∀ p ∈ ps, H p = none) : Sm H H' := fun b o e => S b o (fun m => by rw [h b m] at e; cases e) e
theorem SmE.mono {qs : List Addr} (S : SmE ps H H') (h : ∀ p ∈ ps, p ∈ qs) : SmE qs H H' := fun b o n e => S b o (fun m => n (h b m)) e
theorem SmE.at (S : SmE ps H H') {b : Addr} {o : HO} (n : b ∉ ps) (e : H b = some o) (t : ∀ qs, o ≠ .tbl qs) : H' b = some o := by
  rcases S b o n e with h | ⟨qs, _, h, _⟩
  · exact h
  · exact (t qs h).elim
theorem SmE.lst (S : SmE ps H H') {b : Addr} {xs : List V} (n : b ∉ ps) (e : H b = some (.lst xs)) : H' b = some (.lst xs) := S.at n e fun _ z => by cases z
theorem SmE.tup (S : SmE ps H H') {b : Addr} {xs : List V} (n : b ∉ ps) (e : H b = some (.tup xs)) : H' b = some (.tup xs) := S.at n e fun _ z => by cases z
theorem SmE.free (S : SmE ps H H') {b : Addr} (n : b ∉ ps) (h : H' b = none) : H b = none := by
  cases e : H b with
  | none => rfl
  | some o => rcases S b o n e with z | ⟨_, _, _, z, _⟩ <;> (rw [h] at z; cases z)
theorem SmE.tabG (S : SmE ps H H') {P : Addr} (n : P ∉ ps) (t : GxR.TabG H P) : GxR.TabG H' P := by
  obtain ⟨qs, e, k⟩ := t
  rcases S P _ n e with z | ⟨rs, rs', _, z, z2⟩
  · exact ⟨qs, z, k⟩
  · exact ⟨rs', z, z2⟩
end
/-! ### sorted pairs -/
/-- the pairs' keys -/
def pairK (H : Hp) (v : V) : Int × Int := match v with
  | .ref t => match H t with
    | some (.tup [.int i, .int j]) => (i, j)
    | _ => (0, 0)
  | _ => (0, 0)
theorem pairK_of {H : Hp} {t : Addr} {i j : Int} (h : H t = some (.tup [.int i, .int j])) : pairK H (.ref t) = (i, j) := by
  show (match H t with | some (.tup [.int i, .int j]) => (i, j) | _ => (0, 0)) = (i, j)
  rw [h]
/-- one of rank r, number i, goes ahead of one of rank s, number j -/
def PLt (p q : Int × Int) : Prop := p.1 < q.1 ∨ (p.1 = q.1 ∧ p.2 < q.2)
theorem plt_of {p q : Int × Int} (h : (p.1 < q.1 ∨ (p.1 = q.1 ∧ p.2 ≤ q.2))) (n : p ≠ q) : PLt p q := by
  obtain ⟨a, b⟩ := p
  obtain ⟨c, d⟩ := q
  unfold PLt
  by_cases e : b = d
  · subst e
    rcases h with h | ⟨h, _⟩
    · exact .inl h
    · exact absurd (by simp only at h; rw [h]) n
  · simp only at h ⊢
    omega
theorem paired_self {α β : Type} {f : β → α} {R : α → β → Prop} : ∀ {l : List β}, (∀ y ∈ l, R (f y) y) → Paired R (l.map f) l
  | [], _ => .nil
  | y :: l, h => .cons (h y List.mem_cons_self) (paired_self fun z hz => h z (List.mem_cons_of_mem _ hz))
section
variable {σ : L2.St} {H : Hp} {K : PySem.W.Frag}
/-- sorted(xs), xs new pairs of numbers: their keys, in order -/
theorem evp_sortedP {t : TE} {qs : List (Int × Int)} (h : EvP t σ H fun u H' => ∃ a xs, u = .ref a ∧ H' a = some (.lst xs) ∧ Paired (fun (q : Int × Int) y => ∃ t, y = .ref t ∧ H' t = some (.tup [.int q.1, .int q.2])) qs xs) (nd : qs.Nodup) :
    EvP (tCB (rSortedPO K) (tCons t tNil)) σ H fun u H' => ∃ a xs rs, u = .ref a ∧ H' a = some (.lst xs) ∧ rs.Perm qs ∧ rs.Pairwise PLt ∧ Paired (fun (q : Int × Int) y => ∃ t, y = .ref t ∧ H' t = some (.tup [.int q.1, .int q.2])) rs xs := fun H1 S Q q =>
  h H1 S _ fun u H2 S2 ⟨a, xs, e, hx, hp⟩ => by
    have hmem : ∀ {qs : List (Int × Int)} {xs : List V}, Paired (fun (q : Int × Int) y => ∃ t, y = .ref t ∧ H2 t = some (.tup [.int q.1, .int q.2])) qs xs → qs = xs.map (pairK H2) ∧ ∀ x ∈ xs, ∃ t, x = .ref t ∧ H2 t = some (.tup [.int (pairK H2 x).1, .int (pairK H2 x).2]) := by
      intro qs xs hp
      induction hp with
      | nil => exact ⟨rfl, fun x h => nomatch h⟩
      | cons r _ ih =>
        obtain ⟨t, e, ht⟩ := r
        refine ⟨by rw [List.map_cons, ← ih.1, e, pairK_of ht], fun x hx => ?_⟩
        rcases List.mem_cons.mp hx with z | z
        · refine ⟨t, by rw [z, e], ?_⟩
          rw [z, e, pairK_of ht]
          exact ht
        · exact ih.2 x z
    obtain ⟨eq, hm⟩ := hmem hp
    refine ⟨a, xs, pairK H2, by rw [e], .inl (.inl hx), hm, fun ys p hs hst np => ?_⟩
    have hperm : (ys.map (pairK H2)).Perm qs := by rw [eq]; exact hst.perm.map _
    refine q _ _ (S2.trans (Sm.new np)) ⟨p, ys, ys.map (pairK H2), rfl, upd_same, hperm, ?_, ?_⟩
    · have nd2 : (ys.map (pairK H2)).Nodup := hperm.nodup_iff.mpr nd
      rw [List.pairwise_map]
      rw [List.nodup_iff_pairwise_ne, List.pairwise_map] at nd2
      refine (hs.and nd2).imp fun {x y} z => plt_of ?_ z.2
      have z1 := z.1
      have := SrtO.lexB_no.mp z1
      omega
    · have hy : ∀ y ∈ ys, ∃ t, y = .ref t ∧ H2 t = some (.tup [.int (pairK H2 y).1, .int (pairK H2 y).2]) := fun y hy => hm y (hst.perm.mem_iff.mp hy)
      exact paired_self fun y h => by
        obtain ⟨t, e1, ht⟩ := hy y h
        exact ⟨t, e1, by rw [upd_ne (ne_of_none ht np)]; exact ht⟩
end
end My

set_option Elab.async false
set_option linter.all false
set_option maxRecDepth 100000
set_option maxHeartbeats 400000
/-! The wishes of a side in their turn: who goes ahead is served first. -/
namespace My
theorem take_filter {α : Type} {lt : α → α → Bool} (irr : ∀ a, lt a a = false) (asym : ∀ a b, lt a b = true → lt b a = false) : ∀ {l : List α} {i : Nat} {m : α}, l.Pairwise (fun x y => lt x y = true) → l[i]? = some m → l.filter (fun x => lt x m) = l.take i
  | [], _, _, _, h => by simp at h
  | x :: l, 0, m, hp, h => by
    have e : x = m := Option.some.inj h
    subst e
    rw [List.pairwise_cons] at hp
    rw [List.take_zero, List.filter_eq_nil_iff]
    intro y hy
    rcases List.mem_cons.mp hy with z | z
    · rw [z, irr]
      exact Bool.false_ne_true
    · rw [asym _ _ (hp.1 y z)]
      exact Bool.false_ne_true
  | x :: l, i + 1, m, hp, h => by
    rw [List.pairwise_cons] at hp
    have h' : l[i]? = some m := by simpa using h
    rw [List.filter_cons, if_pos (hp.1 m (List.mem_of_getElem? h')), List.take_succ_cons, take_filter irr asym hp.2 h']
/-- how a wish is ranked, its number behind -/
def keyP (ws : List Wish) (i : Nat) : Int × Int := (rankOf (wAt ws i), (i : Int))
/-- those of side b who would deal at p, in their turn -/
structure Turn (ws : List Wish) (b : Bool) (p : Int) (ms : List Nat) : Prop where
  perm : ms.Perm (kept (inB ws b p) ws.length)
  srt : ms.Pairwise fun i j => PLt (keyP ws i) (keyP ws j)
theorem turn_of {ws : List Wish} {b : Bool} {p : Int} {rs : List (Int × Int)} (hp : rs.Perm ((kept (inB ws b p) ws.length).map (keyP ws))) (hs : rs.Pairwise PLt) : ∃ ms, Turn ws b p ms ∧ rs = ms.map (keyP ws) := by
  have e : rs = (rs.map fun q => q.2.toNat).map (keyP ws) := by
    rw [List.map_map]
    refine (List.map_id rs).symm.trans (List.map_congr_left fun q hq => ?_)
    obtain ⟨i, _, rfl⟩ := List.mem_map.mp (hp.mem_iff.mp hq)
    rfl
  refine ⟨rs.map fun q => q.2.toNat, ⟨?_, ?_⟩, e⟩
  · have h := hp.map fun q => q.2.toNat
    rw [List.map_map] at h
    have e2 : (kept (inB ws b p) ws.length).map ((fun q : Int × Int => q.2.toNat) ∘ keyP ws) = kept (inB ws b p) ws.length := by
      refine (List.map_congr_left fun q hq => ?_).trans (List.map_id _)
      rfl
    rw [e2] at h
    exact h
  · rw [e, List.pairwise_map] at hs
    exact hs
theorem nodup_keys {ws : List Wish} {pz : Nat → Bool} {n : Nat} : ((kept pz n).map (keyP ws)).Nodup := by
  rw [List.nodup_iff_pairwise_ne, List.pairwise_map]
  unfold kept
  refine (List.pairwise_lt_range.filter _).imp fun {a b} h e => ?_
  have e2 : (a : Int) = (b : Int) := congrArg Prod.snd e
  omega
section
variable {ws : List Wish} {b : Bool} {p : Int} {ms : List Nat}
theorem Turn.mem (t : Turn ws b p ms) {i : Nat} (h : i ∈ ms) : i < ws.length ∧ inB ws b p i = true := kept_lt (t.perm.mem_iff.mp h)
theorem Turn.has (t : Turn ws b p ms) {i : Nat} (h : i < ws.length) (h2 : inB ws b p i = true) : i ∈ ms := t.perm.mem_iff.mpr (List.mem_filter.mpr ⟨List.mem_range.mpr h, h2⟩)
theorem Turn.len (t : Turn ws b p ms) : ms.length ≤ ws.length := by
  rw [t.perm.length_eq]
  exact kept_len
theorem Turn.nodup (t : Turn ws b p ms) : ms.Nodup := by
  refine t.perm.nodup_iff.mpr ?_
  unfold kept
  exact List.nodup_range.filter _
theorem Turn.before (t : Turn ws b p ms) {i m : Nat} (h : ms[i]? = some m) : ((ms.take i).map (amtAt ws)).sum = aheadN ws m ws.length := by
  have hm := t.mem (List.mem_of_getElem? h)
  have hs : ms.Pairwise fun x y => decide (keyAt ws x < keyAt ws y) = true := by
    refine t.srt.imp_of_mem fun {x y} hx hy q => ?_
    have hx' := (t.mem hx).1
    have hy' := (t.mem hy).1
    refine decide_eq_true ((key_iff hx' hy').mpr ?_)
    unfold PLt keyP at q
    simp only at q
    omega
  have e := take_filter (lt := fun x y => decide (keyAt ws x < keyAt ws y)) (fun a => by simp) (fun a b z => by simp only [decide_eq_true_eq, decide_eq_false_iff_not] at z ⊢; omega) hs h
  rw [← e]
  have hp := (t.perm.filter fun x => decide (keyAt ws x < keyAt ws m)).map (amtAt ws)
  rw [sum_perm hp]
  unfold kept aheadN
  rw [List.filter_filter, S_filter]
  refine S_congr fun j hj => ⟨?_, fun _ => rfl⟩
  rw [Bool.and_comm]
  exact goes_iff hj hm.1 hm.2
theorem Turn.due (t : Turn ws b p ms) {i m : Nat} (h : ms[i]? = some m) : due ws p m = max 0 (min (amtAt ws m) (deal ws p - ((ms.take i).map (amtAt ws)).sum)) := by
  have hm := t.mem (List.mem_of_getElem? h)
  unfold My.due
  rw [if_pos (Bool.and_eq_true_iff.mp hm.2).2, t.before h]
theorem take_sum {f : Nat → Int} {i m : Nat} (h : ms[i]? = some m) : ((ms.take (i + 1)).map f).sum = ((ms.take i).map f).sum + f m := by
  rw [take_snoc h, List.map_append, List.sum_append]
  simp
end
theorem due_off {ws : List Wish} {p : Int} {k : Nat} (h1 : inB ws true p k = false) (h2 : inB ws false p k = false) : due ws p k = 0 := by
  refine due_worse ?_
  unfold inB at h1 h2
  cases e : (wAt ws k).buy with
  | true => rw [e] at h1; simpa using h1
  | false => rw [e] at h2; simpa using h2
end My

set_option Elab.async false
set_option linter.all false
set_option maxRecDepth 100000
set_option maxHeartbeats 400000
/-! The turns of the two sides. -/
namespace My
open PySem PySem.Spec PyProof.Rows L2
theorem Wishes.at {K : PySem.W.Frag} {H : Hp} {xs : List V} {ws : List Wish} {i : Nat} {x : V} (h : Wishes K H xs ws) (hi : xs[i]? = some x) : i < ws.length ∧ ∃ t, x = .ref t ∧ SqT K H t (wAt ws i).row := by
  have h1 : i < ws.length := by
    rw [← h.length]
    exact (List.getElem?_eq_some_iff.mp hi).1
  obtain ⟨v, hv, t, e, ht⟩ := h.get (wAt_get h1)
  rw [hi] at hv
  cases hv
  exact ⟨h1, t, e, ht⟩
/-! ### buyers_in_turn, sellers_in_turn -/
def natVs (ms : List Nat) : List V := ms.map fun (i : Nat) => V.int (i : Int)
def spTurn (K : PySem.W.Frag) (b : Bool) : Sp := fun vs H Q _ => ∃ (a : Addr) (ws : List Wish) (p : Int), vs = [.ref a, .int p] ∧ WishL K H a ws ∧ Goods ws ∧ ws.length ≤ 1000 ∧
  ∀ l H' ms, Sm H H' → H l = none → H' l = some (.lst (natVs ms)) → Turn ws b p ms → Q (.ref l) H'
theorem evp_turn {K : PySem.W.Frag} {b : Bool} {σ : L2.St} {H : Hp} {ta tb : TE} {E : XK} {a : Addr} {ws : List Wish} {p : Int} (ha : Ev ta σ H (.ref a)) (hb : Ev tb σ H (.int p)) (hW : WishL K H a ws) (hg : Goods ws) (hn : ws.length ≤ 1000) :
    EvP (tCall (spTurn K b) [] E (tCons ta (tCons tb tNil))) σ H fun v H' => ∃ l ms, v = .ref l ∧ H l = none ∧ H' l = some (.lst (natVs ms)) ∧ Turn ws b p ms :=
  evp_call (evl_cons ha (evl_cons hb evl_nil)) fun H1 S Q q => ⟨a, ws, p, rfl, hW.sm S, hg, hn, fun l H' ms S' nl hl h => q _ _ S' ⟨l, ms, rfl, S.free nl, hl, h⟩⟩
theorem in_buy (ws : List Wish) (p : Int) (i : Nat) : (decide (sideS (wAt ws i).buy = (PySem.Str.ofString "buy")) && decide (p ≤ (wAt ws i).lim)) = inB ws true p i := by
  rw [side_buy]
  unfold inB elig
  cases (wAt ws i).buy <;> simp
theorem in_sell (ws : List Wish) (p : Int) (i : Nat) : (decide (sideS (wAt ws i).buy = (PySem.Str.ofString "sell")) && decide ((wAt ws i).lim ≤ p)) = inB ws false p i := by
  rw [side_sell]
  unfold inB elig
  cases (wAt ws i).buy <;> simp
theorem rank_buy {ws : List Wish} {p : Int} {i : Nat} (h : inB ws true p i = true) : -(wAt ws i).lim = (keyP ws i).1 := by
  have e : (wAt ws i).buy = true := of_decide_eq_true (Bool.and_eq_true_iff.mp h).1
  show _ = rankOf (wAt ws i)
  unfold rankOf
  rw [e]
  rfl
theorem rank_sell {ws : List Wish} {p : Int} {i : Nat} (h : inB ws false p i = true) : (wAt ws i).lim = (keyP ws i).1 := by
  have e : (wAt ws i).buy = false := of_decide_eq_true (Bool.and_eq_true_iff.mp h).1
  show _ = rankOf (wAt ws i)
  unfold rankOf
  rw [e]
  rfl
/-- pairs of numbers -/
def PairsAt (H : Hp) (q : Int × Int) (y : V) : Prop := ∃ t, y = .ref t ∧ H t = some (.tup [.int q.1, .int q.2])
theorem paired_mapL {α β γ : Type} {f : α → γ} {R : γ → β → Prop} : ∀ {l : List α} {m : List β}, Paired (fun a b => R (f a) b) l m → Paired R (l.map f) m
  | _, _, .nil => .nil
  | _, _, .cons r t => .cons r (paired_mapL t)
theorem PairsAt.sm {H H' : Hp} (S : Sm H H') : ∀ {qs : List (Int × Int)} {ys : List V}, Paired (PairsAt H) qs ys → Paired (PairsAt H') qs ys
  | _, _, .nil => .nil
  | _, _, .cons ⟨t, e, h⟩ r => .cons ⟨t, e, S.tup h⟩ (PairsAt.sm S r)
theorem paired_get {α β : Type} {R : α → β → Prop} : ∀ {l : List α} {m : List β} {i : Nat} {y : β}, Paired R l m → m[i]? = some y → ∃ x, l[i]? = some x ∧ R x y
  | _, _, _, _, .nil, h => by simp at h
  | _, _, 0, _, .cons r _, h => by
    have e := Option.some.inj h
    subst e
    exact ⟨_, rfl, r⟩
  | _, _, i + 1, y, .cons _ t, h => by
    obtain ⟨x, h1, h2⟩ := paired_get (i := i) (y := y) t (by simpa using h)
    exact ⟨x, by simpa using h1, h2⟩
/-- [number for rank, number in sorted(turns)] -/
theorem evp_seconds {K : PySem.W.Frag} {σ : L2.St} {H : Hp} {a : Addr} {tl : TE} {i j : Nat} {qs : List (Int × Int)} (hl : Ev tl σ H (.ref a)) {xs : List V} (hx : H a = some (.lst xs)) (hp : Paired (PairsAt H) qs xs) (nd : qs.Nodup) (hz : qs.length ≤ 1000)
    (hw : ∀ x y, wipe (((wipe σ [i, j]).set i (some x)).set j (some y)) [i, j] = wipe σ [i, j]) (hv : ∀ x y, (((wipe σ [i, j]).set i (some x)).set j (some y))[j]? = some (some y)) :
    EvP (tLc (iList K (tCB (rSortedPO K) (tCons tl tNil))) (gTup K 2 (gCons (gName i) (gCons (gName j) gNil))) tYes (tVar j) [i, j]) σ H fun u H' => ∃ (D : Addr) (rs : List (Int × Int)), u = .ref D ∧ H D = none ∧ H' D = some (.lst (rs.map fun q => V.int q.2)) ∧ rs.Perm qs ∧ rs.Pairwise PLt := by
  refine (evp_lcL (K := K) (δ := List (Int × Int)) (R := fun rs xs H' => rs.Perm qs ∧ rs.Pairwise PLt ∧ Paired (PairsAt H') rs xs) (pz := fun _ _ => true) (P := fun rs i y _ => y = .int (rs.getD i (0, 0)).2)
    ((evp_sortedP (K := K) (qs := qs) (hl.pp fun H' S => ⟨a, xs, rfl, S.lst hx, PairsAt.sm S hp⟩) nd).to fun v H' S ⟨b, ys, rs, e, hb, h1, h2, h3⟩ => ⟨b, ys, rs, e, .inl (.inl hb), h1, h2, h3⟩)
    (fun d xs H H' S ⟨h1, h2, h3⟩ => ⟨h1, h2, PairsAt.sm S h3⟩) (fun _ _ _ _ _ _ e => e) (fun d xs H' ⟨h1, h2, h3⟩ => ?_) (fun d xs k x H2 ⟨h1, h2, h3⟩ hk S => ?_)).to fun v H' S ⟨D, zs, ys, rs, e, nD, hD, ⟨h1, h2, h3⟩, h4⟩ => ⟨D, rs, e, nD, ?_, h1, h2⟩
  · rw [← Paired.length h3, h1.length_eq]
    omega
  · obtain ⟨q, hq, t, rfl, ht⟩ := paired_get h3 hk
    refine ⟨_, evg_tup (.inl (.inl ht)) rfl (evgs_cons evg_name (evgs_cons evg_name evgs_nil)), hw _ _, evt_yes rfl, fun _ => ((ev_var (hv _ _)).p).to fun v H' S e => ?_⟩
    rw [e, List.getD_eq_getElem?_getD, hq]
    rfl
  · rw [hD, paired_map h4, ← Paired.length h3]
    congr 2
    unfold kept
    rw [List.filter_eq_self.mpr fun _ _ => rfl]
    refine List.ext_getElem? fun k => ?_
    rw [List.getElem?_map, List.getElem?_map]
    by_cases hk : k < rs.length
    · rw [List.getElem?_range hk, List.getElem?_eq_getElem hk]
      show some (V.int (rs.getD k (0, 0)).2) = _
      rw [List.getD_eq_getElem?_getD, List.getElem?_eq_getElem hk]
      rfl
    · rw [List.getElem?_eq_none (by rw [List.length_range]; omega), List.getElem?_eq_none (by omega)]
      rfl
/-! ### dealing out -/
def dues (ws : List Wish) (p : Int) : List Int := (List.range ws.length).map (due ws p)
theorem dues_len {ws : List Wish} {p : Int} : (dues ws p).length = ws.length := by
  unfold dues
  rw [List.length_map, List.length_range]
theorem dues_at {ws : List Wish} {p : Int} {k : Nat} (h : k < ws.length) : (dues ws p).getD k 0 = due ws p k := by
  unfold dues
  rw [List.getD_eq_getElem?_getD, List.getElem?_map, List.getElem?_range h]
  rfl
theorem dues_pcs {ws : List Wish} {p : Int} (hg : Goods ws) : Pcs ws (dues ws p) := ⟨dues_len, fun k hk => by
  rw [dues_at hk]
  exact ⟨due_nn, due_le hg hk⟩⟩
theorem eq_of_getD {xs ys : List Int} (hl : xs.length = ys.length) (h : ∀ k, k < xs.length → xs.getD k 0 = ys.getD k 0) : xs = ys := by
  refine List.ext_getElem? fun k => ?_
  by_cases hk : k < xs.length
  · have := h k hk
    rw [List.getD_eq_getElem?_getD, List.getD_eq_getElem?_getD, List.getElem?_eq_getElem hk, List.getElem?_eq_getElem (by omega)] at this
    rw [List.getElem?_eq_getElem hk, List.getElem?_eq_getElem (by omega)]
    exact congrArg some this
  · rw [List.getElem?_eq_none (by omega), List.getElem?_eq_none (by omega)]
theorem getD_set {xs : List Int} {j k : Nat} {z : Int} (hj : j < xs.length) : (xs.set j z).getD k 0 = if k = j then z else xs.getD k 0 := by
  rw [List.getD_eq_getElem?_getD, List.getD_eq_getElem?_getD]
  by_cases h : k = j
  · subst h
    rw [if_pos rfl, List.getElem?_set_self hj]
    rfl
  · rw [if_neg h, List.getElem?_set_ne (Ne.symm h)]
theorem natVs_get {ms : List Nat} {i : Nat} {x : V} (h : (natVs ms)[i]? = some x) : ∃ m, ms[i]? = some m ∧ x = .int (m : Int) := by
  unfold natVs at h
  rw [List.getElem?_map] at h
  obtain ⟨m, h1, h2⟩ := Option.map_eq_some_iff.mp h
  exact ⟨m, h1, h2.symm⟩
section
variable {σ : L2.St} {H : Hp} {K : PySem.W.Frag} {ta tb te : TE} {D : Ends} {u : TS}
theorem rep0 (n : Nat) : (List.replicate (n : Int).toNat [V.int 0]).flatten = (List.replicate n (0 : Int)).map V.int := by
  rw [Int.toNat_natCast]
  induction n with
  | zero => rfl
  | succ n ih => rw [List.replicate_succ, List.flatten_cons, ih]; rfl
/-- [0] * n -/
theorem evp_rep0 {n : Nat} (hb : Ev tb σ H (.int (n : Int))) (hz : n ≤ 100000) : EvP (tOp rRep (tLst (tCons (tC (.int 0)) tNil)) tb) σ H fun v H' => ∃ l, v = .ref l ∧ H l = none ∧ H' l = some (.lst ((List.replicate n (0 : Int)).map V.int)) := fun H1 S Q q =>
  ⟨by show 1 ≤ sizeLine; decide, fun l nl => hb _ (S.trans (Sm.new nl)) _ fun H3 S3 => ⟨l, (n : Int), [.int 0], rfl, rfl, S3.lst upd_same, by omega, by omega, by
    have h1 : 100000 ≤ sizeLine := by decide
    show 1 * (n : Int).toNat ≤ sizeLine
    omega, fun p np => q _ _ ((Sm.new nl).trans (S3.trans (Sm.new np))) ⟨p, rfl, S.free ((Sm.new nl).free (S3.free np)), by rw [upd_same, rep0]⟩⟩⟩
/-- side, limit, amount = a wish -/
theorem qs_unw {w : Wish} {i j k : Nat} (h : EvP te σ H fun v H' => WishV K H' v w) (kk : ∀ H', Sm H H' → u D (((σ.set i (some (.str w.side))).set j (some (.int w.lim))).set k (some (.int w.amt))) H') :
    tSeq (tAsg te (gTup K 3 (gCons (gName i) (gCons (gName j) (gCons (gName k) gNil))))) u D σ H :=
  h H (Sm.refl _) _ fun v H2 S2 ⟨t, e, ht⟩ => ⟨t, _, e, ht, rfl, _, _, rfl, _, _, rfl, _, _, rfl, rfl, kk H2 S2⟩
/-- for .. in a tuple that is just made -/
theorem q_forTP {g : TG} {tb : TS} {R : List V → Hp → Prop} (h : EvP te σ H fun u H' => ∃ a xs, u = .ref a ∧ H' a = some (.tup xs) ∧ R xs H') (k : ∀ a xs H', Sm H H' → H' a = some (.tup xs) → R xs H' → tFor (iTup K (tC (.ref a))) g tb D σ H') : tFor (iTup K te) g tb D σ H :=
  h H (Sm.refl _) _ fun u H2 S2 ⟨a, xs, e, hx, hR⟩ => by
    obtain ⟨a', e', k'⟩ := k a xs H2 S2 hx hR
    cases e'
    exact ⟨a, e, k'⟩
theorem q_forTup {g : TG} {tb : TS} {a : Addr} {xs : List V} (Pv : Nat → L2.St → Hp → Prop) (hx : SqT K H a xs) (h0 : Pv 0 σ H) (hl : ∀ i σ' H', i ≤ xs.length → Pv i σ' H' → SqT K H' a xs)
    (hs : ∀ i x σ' H', xs[i]? = some x → Pv i σ' H' → ∃ σ2, EvG g x σ' H' σ2 ∧ ∀ H3, Sm H' H3 → tb { D with nx := Pv (i + 1), ct := Pv (i + 1), bk := D.nx } σ2 H3) (hd : ∀ σ' H', Pv xs.length σ' H' → D.nx σ' H') : tFor (iTup K (tC (.ref a))) g tb D σ H :=
  ⟨a, rfl, ⟨xs, hx⟩, for_it walk_tup Pv h0 hl (fun i x σ' H1 H3 hi hP hY => by
    obtain ⟨e4, h1⟩ := hY
    subst e4
    obtain ⟨σ2, eg, k⟩ := hs i x σ' _ h1 hP
    exact eg _ (Sm.refl _) _ k) hd⟩
end
end My

set_option Elab.async false
set_option linter.all false
set_option maxRecDepth 100000
set_option maxHeartbeats 400000
/-! Copies that are handed in; sides' sums; evened pieces; regrets. -/
namespace My
open PySem PySem.Spec PyProof.Rows L2
section
variable {σ : L2.St} {H : Hp} {K : PySem.W.Frag} {ta tb te : TE} {v : V}
theorem ev_callA {sp : Sp} {E : XK} {t : TA} {R : List V → Hp → Prop} (ha : EvA t σ H R) (hr : ∀ vs H1, Sm H H1 → R vs H1 → ∀ Q : VK, (∀ H2, Sm H1 H2 → Q v H2) → sp vs H1 Q E) : Ev (tCall sp [] E t) σ H v := fun H1 S Q q =>
  ha H1 S _ fun us H2 S2 p => by rw [List.append_nil]; exact hr us H2 (S.trans S2) p Q fun H3 S3 => q H3 (S2.trans S3)
/-- the term list(x) -/
abbrev tCopy (K : PySem.W.Frag) (te : TE) : TE := tCB (fun xs H Q => ∃ p ys, xs = [.ref p] ∧ (SqL K H p ys ∨ SqT K H p ys) ∧ ∀ l, H l = none → Q (.ref l) (upd H l (.lst ys))) (tCons te tNil)
theorem evp_copyW {a : Addr} {ws : List Wish} (h : Ev te σ H (.ref a)) (hW : WishL K H a ws) : EvP (tCopy K te) σ H fun v H' => ∃ l, v = .ref l ∧ WishL K H' l ws := by
  obtain ⟨xs, hx, hw⟩ := hW
  exact (evp_listOf h hx).to fun v H' S ⟨l, e, h⟩ => ⟨l, e, xs, .inl (.inl h), hw.sm S⟩
/-- .. new -/
theorem evp_copyN {a : Addr} {xs : List V} (ha : Ev te σ H (.ref a)) (hx : SqL K H a xs) : EvP (tCopy K te) σ H fun u H' => ∃ l, u = .ref l ∧ H l = none ∧ H' l = some (.lst xs) :=
  evp_cb (evl_cons ha evl_nil) fun H1 S Q q => ⟨a, xs, rfl, .inl (S.sql hx), fun l nl => q _ _ (Sm.new nl) ⟨l, rfl, S.free nl, upd_same⟩⟩
theorem evp_copyWN {a : Addr} {ws : List Wish} (h : Ev te σ H (.ref a)) (hW : WishL K H a ws) : EvP (tCopy K te) σ H fun v H' => ∃ l, v = .ref l ∧ H l = none ∧ WishL K H' l ws := by
  obtain ⟨xs, hx, hw⟩ := hW
  exact (evp_copyN h hx).to fun v H' S ⟨l, e, n, h⟩ => ⟨l, e, n, xs, .inl (.inl h), hw.sm S⟩
theorem wl_stab' {ws : List Wish} : Stab fun v H' => ∃ l, v = V.ref l ∧ WishL K H' l ws := fun v H H' S ⟨l, e, h⟩ => ⟨l, e, h.sm S⟩
theorem EvA.to {ta : TA} {P R : List V → Hp → Prop} (h : EvA ta σ H P) (k : ∀ v H', Sm H H' → P v H' → R v H') : EvA ta σ H R := fun H1 S Q q => h H1 S Q fun v H2 S2 p => q v H2 S2 (k v H2 (S.trans S2) p)
theorem lst_stab {xs : List V} : Stab fun v H' => ∃ l, v = V.ref l ∧ H' l = some (.lst xs) := fun v H H' S ⟨l, e, h⟩ => ⟨l, e, S.lst h⟩
/-- (list(wishes), list(xs)) as arguments -/
theorem eva_copies {a b : Addr} {ws : List Wish} {xs : List V} {ta tb : TE} (ha : Ev ta σ H (.ref a)) (hW : WishL K H a ws) (hb : Ev tb σ H (.ref b)) (hx : H b = some (.lst xs)) :
    EvA (tCons (tCopy K ta) (tCons (tCopy K tb) tNil)) σ H fun us H' => ∃ l d, us = [.ref l, .ref d] ∧ WishL K H' l ws ∧ H' d = some (.lst xs) :=
  (eva_consP (evp_copyW ha hW) wl_stab' (eva_consP (evp_listOf hb (.inl (.inl hx))) lst_stab eva_nil)).to fun us H' S h => by
    obtain ⟨v, r, rfl, ⟨l, rfl, h1⟩, v2, r2, rfl, ⟨d, rfl, h2⟩, rfl⟩ := h
    exact ⟨l, d, rfl, h1, h2⟩
/-- .. with a value between -/
theorem eva_copies3 {a b : Addr} {ws : List Wish} {xs : List V} {ta tb tc : TE} {y : V} (ha : Ev ta σ H (.ref a)) (hW : WishL K H a ws) (hc : Ev tc σ H y) (hb : Ev tb σ H (.ref b)) (hx : H b = some (.lst xs)) :
    EvA (tCons (tCopy K ta) (tCons tc (tCons (tCopy K tb) tNil))) σ H fun us H' => ∃ l d, us = [.ref l, y, .ref d] ∧ WishL K H' l ws ∧ H' d = some (.lst xs) :=
  (eva_consP (evp_copyW ha hW) wl_stab' (eva_cons hc (eva_consP (evp_listOf hb (.inl (.inl hx))) lst_stab eva_nil))).to fun us H' S h => by
    obtain ⟨v, r, rfl, ⟨l, rfl, h1⟩, r1, rfl, v2, r2, rfl, ⟨d, rfl, h2⟩, rfl⟩ := h
    exact ⟨l, d, rfl, h1, h2⟩
/-- [list(wishes), list(ns)] -/
theorem evp_handed {a b : Addr} {ws : List Wish} {xs : List V} {ta tb : TE} (ha : Ev ta σ H (.ref a)) (hW : WishL K H a ws) (hb : Ev tb σ H (.ref b)) (hx : H b = some (.lst xs)) :
    EvP (tLst (tCons (tCopy K ta) (tCons (tCopy K tb) tNil))) σ H fun u H' => ∃ h l d, u = .ref h ∧ H' h = some (.lst [.ref l, .ref d]) ∧ WishL K H' l ws ∧ H' d = some (.lst xs) :=
  (evp_lst K (eva_copies ha hW hb hx) (fun vs H' ⟨l, d, e, _⟩ => by rw [e]; show 2 ≤ sizeLine; decide) (fun vs H H' S ⟨l, d, e, h1, h2⟩ => ⟨l, d, e, h1.sm S, S.lst h2⟩)).to fun v H' S ⟨h, vs, e, hh, l, d, e2, h1, h2⟩ => ⟨h, l, d, e, by rw [hh, e2], h1, h2⟩
theorem shaped_wi (ws : List Wish) (ms : List Int) : SeqAt.shaped (.list [.list (ws.map Wish.data), .list (ms.map PyData.int)]) = true := by
  have := depth_wishes ws
  simp [SeqAt.shaped, PyData.canLay0, PyData.canLayAll0, PyData.depth, PyData.depthAll, canLay_wishes, canLay_ints, depth_ints]
  omega
theorem dp_wi {h l d : Addr} {ws : List Wish} {ms : List Int} (hh : SqL K H h [.ref l, .ref d]) (hW : WishL K H l ws) (hd : SqL K H d (ms.map V.int)) : Dp K H (.ref h) (.list [.list (ws.map Wish.data), .list (ms.map PyData.int)]) :=
  .lst hh (.cons hW.dp (.cons (.lst hd (dp_ints ms)) .nil))
/-- handed == [wishes, ns] -/
theorem ev_handed {h l d a b : Addr} {ws : List Wish} {ms : List Int} {ta tb tc : TE} (hh : H h = some (.lst [.ref l, .ref d])) (hl : WishL K H l ws) (hd : H d = some (.lst (ms.map V.int))) (hW : WishL K H a ws) (hb : H b = some (.lst (ms.map V.int)))
    (ec : Ev tc σ H (.ref h)) (ea : Ev ta σ H (.ref a)) (eb : Ev tb σ H (.ref b)) : Ev (tOp (rEqD K) tc (tLst (tCons ta (tCons tb tNil)))) σ H (.bl true) :=
  Ev.to (ev_eqD (d := .list [.list (ws.map Wish.data), .list (ms.map PyData.int)]) (ec.d (dp_wi (.inl (.inl hh)) hl (.inl (.inl hd)))) ((evp_lstV (K := K) (evl_cons ea (evl_cons eb evl_nil)) (by show 2 ≤ sizeLine; decide)).to fun v H' S ⟨d, e, hd⟩ => by
    rw [e]
    exact dp_wi hd (hW.sm S) (.inl (.inl (S.lst hb)))) (shaped_wi ws ms) (shaped_wi ws ms)) (by rw [eqv_self (shaped_wi ws ms)])
/-- handed != [wishes, ns] -/
theorem ev_handedN {h l d a b : Addr} {ws : List Wish} {ms : List Int} {ta tb tc : TE} (hh : H h = some (.lst [.ref l, .ref d])) (hl : WishL K H l ws) (hd : H d = some (.lst (ms.map V.int))) (hW : WishL K H a ws) (hb : H b = some (.lst (ms.map V.int)))
    (ec : Ev tc σ H (.ref h)) (ea : Ev ta σ H (.ref a)) (eb : Ev tb σ H (.ref b)) : Ev (tOp (rNeD K) tc (tLst (tCons ta (tCons tb tNil)))) σ H (.bl false) :=
  Ev.to (ev_neD (d := .list [.list (ws.map Wish.data), .list (ms.map PyData.int)]) (ec.d (dp_wi (.inl (.inl hh)) hl (.inl (.inl hd)))) ((evp_lstV (K := K) (evl_cons ea (evl_cons eb evl_nil)) (by show 2 ≤ sizeLine; decide)).to fun v H' S ⟨d, e, hd⟩ => by
    rw [e]
    exact dp_wi hd (hW.sm S) (.inl (.inl (S.lst hb)))) (shaped_wi ws ms) (shaped_wi ws ms)) (by rw [eqv_self (shaped_wi ws ms)]; rfl)
end
/-! ### the sides' sums -/
def onSide (ws : List Wish) (b : Bool) (j : Nat) : Bool := decide ((wAt ws j).buy = b)
def sideSum (ws : List Wish) (ns : List Int) (b : Bool) (n : Nat) : Int := S (onSide ws b) (fun k => ns.getD k 0) n
theorem sideSum_succ {ws : List Wish} {ns : List Int} {b : Bool} {n : Nat} : sideSum ws ns b (n + 1) = sideSum ws ns b n + (if (wAt ws n).buy = b then ns.getD n 0 else 0) := by
  unfold sideSum
  rw [S_succ]
  unfold onSide
  by_cases h : (wAt ws n).buy = b
  · rw [if_pos h, if_pos (decide_eq_true h)]
  · rw [if_neg h, if_neg (by simpa using h)]
theorem side_test (w : Wish) (b : Bool) : decide (sideS w.buy = sideS b) = decide (w.buy = b) := by cases w.buy <;> cases b <;> decide
theorem sum_kept {ws : List Wish} {ns : List Int} {b : Bool} {n : Nat} : ((kept (onSide ws b) n).map fun k => ns.getD k 0).sum = sideSum ws ns b n := S_filter
theorem sideSum_mono {ws : List Wish} {ns : List Int} {b : Bool} {n : Nat} (h : ∀ k, k < n → 0 ≤ ns.getD k 0) : ∀ i, i ≤ n → 0 ≤ sideSum ws ns b i ∧ sideSum ws ns b i ≤ sideSum ws ns b n := by
  induction n with
  | zero => exact fun i hi => by rw [show i = 0 by omega]; exact ⟨Int.le_refl 0, Int.le_refl 0⟩
  | succ n ih =>
    intro i hi
    have h1 := ih (fun k hk => h k (by omega))
    have h2 := h n (by omega)
    by_cases e : i = n + 1
    · subst e
      have h3 := (h1 n (Nat.le_refl n)).1
      rw [sideSum_succ]
      split <;> omega
    · have h3 := h1 i (by omega)
      rw [sideSum_succ (n := n)]
      split <;> omega
theorem sideSum_app {ws : List Wish} {ns ms : List Int} {b : Bool} : ∀ {n : Nat}, (∀ k, k < n → ns.getD k 0 = ms.getD k 0) → sideSum ws ns b n = sideSum ws ms b n
  | 0, _ => rfl
  | n + 1, h => by rw [sideSum_succ, sideSum_succ, sideSum_app fun k hk => h k (by omega), h n (by omega)]
theorem getD_app_lt {xs ys : List Int} {k : Nat} (h : k < xs.length) : (xs ++ ys).getD k 0 = xs.getD k 0 := by
  rw [List.getD_eq_getElem?_getD, List.getElem?_append_left h, ← List.getD_eq_getElem?_getD]
theorem getD_app_at {xs : List Int} {z : Int} {n : Nat} (h : xs.length = n) : (xs ++ [z]).getD n 0 = z := by
  rw [List.getD_eq_getElem?_getD, List.getElem?_append_right (by omega), h, Nat.sub_self]
  rfl
theorem sideSum_snoc {ws : List Wish} {ms : List Int} {b : Bool} {n : Nat} {z : Int} (h : ms.length = n) : sideSum ws (ms ++ [z]) b (n + 1) = sideSum ws ms b n + (if (wAt ws n).buy = b then z else 0) := by
  rw [sideSum_succ, getD_app_at h, sideSum_app (ms := ms) fun k hk => getD_app_lt (by omega)]
/-- pieces that are even -/
def EvenP (ws : List Wish) (ns : List Int) : Prop := sideSum ws ns true ws.length = sideSum ws ns false ws.length
/-! ### regrets -/
def betAt (w : Wish) (p : Int) : Int := if w.buy = true then w.lim - p else p - w.lim
theorem gain_one (w : Wish) (p : Int) : gainAt w p 1 = betAt w p := by
  unfold gainAt betAt
  split <;> rw [Int.mul_one]
def regrB (w : Wish) (p m : Int) : Bool := (decide (0 < betAt w p) && decide (m < w.amt)) || (decide (betAt w p < 0) && decide (0 < m))
def regrAt (ws : List Wish) (p : Int) (ns : List Int) (k : Nat) : Bool := regrB (wAt ws k) p (ns.getD k 0)
def spPS (K : PySem.W.Frag) : Sp := fun vs H Q _ => ∃ (a b : Addr) (ws : List Wish) (ns : List Int) (c : Bool), vs = [.ref a, .ref b, .str (sideS c)] ∧ WishL K H a ws ∧ SqL K H b (ns.map V.int) ∧ ns.length = ws.length ∧ ws.length ≤ 1000 ∧ ∀ H', Sm H H' → Q (.int (sideSum ws ns c ws.length)) H'
theorem ev_ps {K : PySem.W.Frag} {σ : L2.St} {H : Hp} {ta tb tc : TE} {E : XK} {a b : Addr} {ws : List Wish} {ns : List Int} {c : Bool} {z : Str} (ha : Ev ta σ H (.ref a)) (hb : Ev tb σ H (.ref b)) (hc : Ev tc σ H (.str z)) (hz : z = sideS c) (hW : WishL K H a ws) (hS : SqL K H b (ns.map V.int)) (hl : ns.length = ws.length) (hn : ws.length ≤ 1000) :
    Ev (tCall (spPS K) [] E (tCons ta (tCons tb (tCons tc tNil)))) σ H (.int (sideSum ws ns c ws.length)) :=
  ev_call (evl_cons ha (evl_cons hb (evl_cons hc evl_nil))) fun H1 S Q q => ⟨a, b, ws, ns, c, by rw [hz], hW.sm S, S.sql hS, hl, hn, q⟩
/-! ### rows of pieces that do not go with the wishes -/
def BadRow (K : PySem.W.Frag) (ws : List Wish) (xs : List V) (H : Hp) : Prop := (∀ v ∈ xs, Kn K v H) ∧ (xs.length ≠ ws.length ∨ ∃ k v, k < ws.length ∧ xs[k]? = some v ∧ numV 0 (amtAt ws k) v = false) ∧ xs.length ≤ ws.length + 1
theorem BadRow.sm {K : PySem.W.Frag} {ws : List Wish} {xs : List V} {H H' : Hp} (S : Sm H H') (h : BadRow K ws xs H) : BadRow K ws xs H' := ⟨fun v hv => (h.1 v hv).sm S, h.2⟩
theorem kn_ints {K : PySem.W.Frag} {H : Hp} {ns : List Int} : ∀ v ∈ ns.map V.int, Kn K v H := fun v hv => by
  obtain ⟨n, _, rfl⟩ := List.mem_map.mp hv
  exact kn_int
theorem mem_cutV {xs : List V} {lo hi : Option Int} {v : V} (h : v ∈ cutV xs lo hi) : v ∈ xs := List.mem_of_mem_drop (List.mem_of_mem_take h)
theorem cutV_from1 (xs : List V) (h : 0 < xs.length) : (cutV xs (some 1) none).length = xs.length - 1 := by
  have e := HT.sIx_nat xs.length 0 1
  unfold cutV
  rw [List.length_take, List.length_drop, HT.sIx_none, show (some (1 : Int)) = some ((1 : Nat) : Int) from rfl, e]
  omega
theorem cutV_upto (xs : List V) (j : Nat) (h : j ≤ xs.length) : cutV xs none (some (j : Int)) = xs.take j := by
  have e := HT.sIx_nat xs.length xs.length j
  unfold cutV
  rw [HT.sIx_none, e, List.drop_zero, Nat.sub_zero, Nat.min_eq_left h]
theorem cutV_behind (xs : List V) (j : Nat) (h : j ≤ xs.length) : cutV xs (some (j : Int)) none = xs.drop j := by
  have e := HT.sIx_nat xs.length 0 j
  unfold cutV
  rw [HT.sIx_none, e, Nat.min_eq_left h]
  exact List.take_of_length_le (by rw [List.length_drop]; omega)
theorem badrow_at {K : PySem.W.Frag} {H : Hp} {ws : List Wish} {ns : List Int} {j : Nat} {v : V} (hp : Pcs ws ns) (hj : j < ws.length) (hk : Kn K v H) (hno : numV 0 (amtAt ws j) v = false) : BadRow K ws ((ns.map V.int).take j ++ [v] ++ (ns.map V.int).drop (j + 1)) H := by
  have hbl : (ns.map V.int).length = ws.length := by rw [List.length_map, hp.len]
  refine ⟨fun u hu => ?_, .inr ⟨j, v, hj, ?_, hno⟩, ?_⟩
  · rcases List.mem_append.mp hu with h | h
    · rcases List.mem_append.mp h with h | h
      · exact kn_ints u (List.mem_of_mem_take h)
      · rw [List.mem_singleton.mp h]
        exact hk
    · exact kn_ints u (List.mem_of_mem_drop h)
  · have e1 : ((ns.map V.int).take j).length = j := by rw [List.length_take, hbl]; omega
    rw [List.append_assoc, List.getElem?_append_right (by omega), e1, Nat.sub_self]
    rfl
  · rw [List.length_append, List.length_append, List.length_take, List.length_drop, hbl]
    show min j ws.length + 1 + (ws.length - (j + 1)) ≤ ws.length + 1
    omega
/-- a def of wishes and pieces that refuses what does not go with them: R, what it answers -/
def spRow (K : PySem.W.Frag) (C : Addr) (R : List Wish → List Int → V) : Sp := fun vs H Q E => ∃ (a b : Addr) (ws : List Wish) (xs : List V), vs = [.ref a, .ref b] ∧ WishL K H a ws ∧ Goods ws ∧ ws.length ≤ 1000 ∧ H b = some (.lst xs) ∧
  ((BadRow K ws xs H ∧ ∀ H', Sm H H' → E (.ref C) none H') ∨ ∃ ns, xs = ns.map V.int ∧ Pcs ws ns ∧ ∀ H', Sm H H' → Q (R ws ns) H')
end My

set_option Elab.async false
set_option linter.all false
set_option maxRecDepth 100000
set_option maxHeartbeats 400000
/-! Buyers and sellers paired by rising numbers. -/
namespace My
abbrev Deal := Nat × Nat × Int
/-- those of a side that have pieces -/
def onB (ws : List Wish) (ns : List Int) (b : Bool) (k : Nat) : Bool := decide ((wAt ws k).buy = b) && decide (0 < ns.getD k 0)
def dl (ws : List Wish) (ns : List Int) (b : Bool) : List Nat := kept (onB ws ns b) ws.length
theorem dl_mem {ws : List Wish} {ns : List Int} {b : Bool} {k : Nat} (h : k ∈ dl ws ns b) : k < ws.length ∧ (wAt ws k).buy = b ∧ 0 < ns.getD k 0 := by
  have h1 := kept_lt h
  have h2 := Bool.and_eq_true_iff.mp h1.2
  exact ⟨h1.1, of_decide_eq_true h2.1, of_decide_eq_true h2.2⟩
theorem dl_has {ws : List Wish} {ns : List Int} {b : Bool} {k : Nat} (h1 : k < ws.length) (h2 : (wAt ws k).buy = b) (h3 : 0 < ns.getD k 0) : k ∈ dl ws ns b :=
  List.mem_filter.mpr ⟨List.mem_range.mpr h1, Bool.and_eq_true_iff.mpr ⟨decide_eq_true h2, decide_eq_true h3⟩⟩
theorem dl_lt {ws : List Wish} {ns : List Int} {b : Bool} : (dl ws ns b).Pairwise (· < ·) := List.pairwise_lt_range.filter _
theorem dl_ix {ws : List Wish} {ns : List Int} {b : Bool} {i j x y : Nat} (h1 : (dl ws ns b)[i]? = some x) (h2 : (dl ws ns b)[j]? = some y) (h : i < j) : x < y := by
  obtain ⟨a1, b1⟩ := List.getElem?_eq_some_iff.mp h1
  obtain ⟨a2, b2⟩ := List.getElem?_eq_some_iff.mp h2
  have := List.pairwise_iff_getElem.mp (dl_lt (ws := ws) (ns := ns) (b := b)) i j a1 a2 h
  omega
theorem dl_ne {ws : List Wish} {ns : List Int} {b : Bool} {i j x y : Nat} (h1 : (dl ws ns b)[i]? = some x) (h2 : (dl ws ns b)[j]? = some y) (h : i ≠ j) : x ≠ y := by
  rcases Nat.lt_or_gt_of_ne h with z | z
  · exact Nat.ne_of_lt (dl_ix h1 h2 z)
  · exact Nat.ne_of_gt (dl_ix h2 h1 z)
theorem dl_at {ws : List Wish} {ns : List Int} {b : Bool} {i x : Nat} (h : (dl ws ns b)[i]? = some x) : x < ws.length ∧ (wAt ws x).buy = b ∧ 0 < ns.getD x 0 := dl_mem (List.mem_of_getElem? h)
theorem dl_find {ws : List Wish} {ns : List Int} {b : Bool} {k : Nat} (h : k ∈ dl ws ns b) : ∃ j : Nat, (dl ws ns b)[j]? = some k := List.mem_iff_getElem?.mp h
/-- what the deals tell of a wish -/
def got (ds : List Deal) (k : Nat) : Int := (ds.map fun d => (if d.1 = k then d.2.2 else 0) + (if d.2.1 = k then d.2.2 else 0)).sum
theorem got_snoc {ds : List Deal} {d : Deal} {k : Nat} : got (ds ++ [d]) k = got ds k + ((if d.1 = k then d.2.2 else 0) + (if d.2.1 = k then d.2.2 else 0)) := by
  unfold got
  rw [List.map_append, List.sum_append]
  simp
theorem got_nn {ds : List Deal} (h : ∀ d ∈ ds, 1 ≤ d.2.2) (k : Nat) : 0 ≤ got ds k := by
  induction ds with
  | nil => exact Int.le_refl 0
  | cons d ds ih =>
    have h1 := h d List.mem_cons_self
    have h2 := ih fun e he => h e (List.mem_cons_of_mem _ he)
    unfold got at h2 ⊢
    rw [List.map_cons, List.sum_cons]
    split <;> split <;> omega
/-- a deal of a buyer and a seller that have pieces -/
structure DealOk (ws : List Wish) (ns : List Int) (d : Deal) : Prop where
  b : d.1 < ws.length ∧ (wAt ws d.1).buy = true ∧ 0 < ns.getD d.1 0
  s : d.2.1 < ws.length ∧ (wAt ws d.2.1).buy = false ∧ 0 < ns.getD d.2.1 0
  m : 1 ≤ d.2.2
/-- neither number falls, one of both rises -/
def Rise (d e : Deal) : Prop := d.1 ≤ e.1 ∧ d.2.1 ≤ e.2.1 ∧ (d.1 < e.1 ∨ d.2.1 < e.2.1)
/-- what pairs tells -/
structure Paird (ws : List Wish) (ns : List Int) (ds : List Deal) : Prop where
  ok : ∀ d ∈ ds, DealOk ws ns d
  ris : ds.Pairwise Rise
  sum : ∀ k, k < ws.length → got ds k = ns.getD k 0
/-- along the way -/
structure PInv (ws : List Wish) (ns rs : List Int) (ds : List Deal) (at_ i : Nat) : Prop where
  len : rs.length = ws.length
  nn : ∀ k, k < ws.length → 0 ≤ rs.getD k 0
  acc : ∀ k, k < ws.length → rs.getD k 0 + got ds k = ns.getD k 0
  ev : sideSum ws rs true ws.length = sideSum ws rs false ws.length
  bz : ∀ j b, (dl ws ns true)[j]? = some b → j < i → rs.getD b 0 = 0
  sz : ∀ j s, (dl ws ns false)[j]? = some s → j < at_ → rs.getD s 0 = 0
  sp : ∀ j s, (dl ws ns false)[j]? = some s → at_ ≤ j → 0 < rs.getD s 0
  ok : ∀ d ∈ ds, DealOk ws ns d
  ris : ds.Pairwise Rise
  lastB : ∀ d ∈ ds, ∀ b, (dl ws ns true)[i]? = some b → d.1 ≤ b
  lastS : ∀ d ∈ ds, ∀ s, (dl ws ns false)[at_]? = some s → d.2.1 ≤ s
  strict : ∀ d ∈ ds, ∀ b s, (dl ws ns true)[i]? = some b → (dl ws ns false)[at_]? = some s → 0 < rs.getD b 0 → d.1 < b ∨ d.2.1 < s
theorem sideSum_set {ws : List Wish} {rs : List Int} {b : Bool} {k : Nat} {z : Int} (hk : k < rs.length) : ∀ n, k < n → sideSum ws (rs.set k z) b n = sideSum ws rs b n + (if (wAt ws k).buy = b then z - rs.getD k 0 else 0)
  | 0, h => absurd h (Nat.not_lt_zero k)
  | n + 1, h => by
    rw [sideSum_succ, sideSum_succ, getD_set hk]
    by_cases e : k = n
    · subst e
      rw [if_pos rfl, sideSum_app (ms := rs) fun j hj => by rw [getD_set hk, if_neg (by omega)]]
      split <;> omega
    · rw [if_neg (show ¬ n = k from fun z => e z.symm), sideSum_set hk n (by omega)]
      omega
theorem sideSum_ge {ws : List Wish} {rs : List Int} {b : Bool} {k : Nat} : ∀ n, (∀ j, j < n → 0 ≤ rs.getD j 0) → k < n → (wAt ws k).buy = b → rs.getD k 0 ≤ sideSum ws rs b n
  | 0, _, h, _ => absurd h (Nat.not_lt_zero k)
  | n + 1, nn, h, hb => by
    have hn := nn n (by omega)
    rw [sideSum_succ]
    by_cases e : k = n
    · subst e
      have := (sideSum_mono (ws := ws) (ns := rs) (b := b) (n := k) (fun j hj => nn j (by omega)) k (Nat.le_refl k)).1
      rw [if_pos hb]
      omega
    · have ih := sideSum_ge n (fun j hj => nn j (by omega)) (by omega) hb
      split <;> omega
theorem sideSum_zero {ws : List Wish} {rs : List Int} {b : Bool} : ∀ n, (∀ j, j < n → (wAt ws j).buy = b → rs.getD j 0 = 0) → sideSum ws rs b n = 0
  | 0, _ => rfl
  | n + 1, h => by
    rw [sideSum_succ, sideSum_zero n fun j hj => h j (by omega)]
    split
    · rename_i e
      rw [h n (by omega) e]
      rfl
    · rfl
section
variable {ws : List Wish} {ns rs : List Int} {ds : List Deal} {at_ i : Nat}
theorem PInv.start (hp : Pcs ws ns) (he : EvenP ws ns) : PInv ws ns ns [] 0 0 where
  len := hp.len
  nn := fun k hk => (hp.ok k hk).1
  acc := fun k _ => Int.add_zero _
  ev := he
  bz := fun _ _ _ h => absurd h (Nat.not_lt_zero _)
  sz := fun _ _ _ h => absurd h (Nat.not_lt_zero _)
  sp := fun _ _ h _ => (dl_at h).2.2
  ok := fun _ h => nomatch h
  ris := .nil
  lastB := fun _ h => nomatch h
  lastS := fun _ h => nomatch h
  strict := fun _ h => nomatch h
/-- no pieces of one who has none -/
theorem PInv.off (I : PInv ws ns rs ds at_ i) {k : Nat} (hk : k < ws.length) (h : ¬ 0 < ns.getD k 0) : rs.getD k 0 = 0 := by
  have h1 := I.nn k hk
  have h2 := I.acc k hk
  have h3 := got_nn (fun d hd => (I.ok d hd).m) k
  omega
/-- while a buyer has some left, so has a seller -/
theorem PInv.seller (I : PInv ws ns rs ds at_ i) {b : Nat} (hb : (dl ws ns true)[i]? = some b) (h : 0 < rs.getD b 0) : ∃ s, (dl ws ns false)[at_]? = some s := by
  by_cases hl : at_ < (dl ws ns false).length
  · exact ⟨_, List.getElem?_eq_getElem hl⟩
  · exfalso
    have hb' := dl_at hb
    have z : sideSum ws rs false ws.length = 0 := sideSum_zero _ fun j hj hs => by
      by_cases hn : 0 < ns.getD j 0
      · obtain ⟨m, hm⟩ := dl_find (dl_has hj hs hn)
        have := (List.getElem?_eq_some_iff.mp hm).1
        exact I.sz m j hm (by omega)
      · exact I.off hj hn
    have g := sideSum_ge (ws := ws) (rs := rs) (b := true) ws.length I.nn hb'.1 hb'.2.1
    have := I.ev
    omega
/-- one deal -/
theorem PInv.step (I : PInv ws ns rs ds at_ i) {b s : Nat} (hb : (dl ws ns true)[i]? = some b) (hs : (dl ws ns false)[at_]? = some s) (h : 0 < rs.getD b 0) {m : Int} (hm : m = min (rs.getD b 0) (rs.getD s 0)) :
    1 ≤ m ∧ (rs.set b (rs.getD b 0 - m)).getD s 0 = rs.getD s 0 ∧ PInv ws ns ((rs.set b (rs.getD b 0 - m)).set s (rs.getD s 0 - m)) (ds ++ [(b, s, m)]) (if rs.getD s 0 - m = 0 then at_ + 1 else at_) i ∧ ((rs.set b (rs.getD b 0 - m)).set s (rs.getD s 0 - m)).getD b 0 = rs.getD b 0 - m := by
  have hb' := dl_at hb
  have hs' := dl_at hs
  have hbs : b ≠ s := fun e => by
    have h1 := hb'.2.1
    rw [e, hs'.2.1] at h1
    cases h1
  have sp := I.sp at_ s hs (Nat.le_refl _)
  have m1 : 1 ≤ m := by omega
  have bl : b < rs.length := by rw [I.len]; exact hb'.1
  have sl : s < rs.length := by rw [I.len]; exact hs'.1
  have sl' : s < (rs.set b (rs.getD b 0 - m)).length := by rw [List.length_set]; exact sl
  have at_s : (rs.set b (rs.getD b 0 - m)).getD s 0 = rs.getD s 0 := by rw [getD_set bl, if_neg (Ne.symm hbs)]
  have val : ∀ k, ((rs.set b (rs.getD b 0 - m)).set s (rs.getD s 0 - m)).getD k 0 = if k = s then rs.getD s 0 - m else if k = b then rs.getD b 0 - m else rs.getD k 0 := fun k => by
    rw [getD_set sl', getD_set bl]
  have new : DealOk ws ns (b, s, m) := ⟨hb', hs', m1⟩
  have ind : ∀ d ∈ ds ++ [(b, s, m)], d ∈ ds ∨ d = (b, s, m) := fun d hd => by
    rcases List.mem_append.mp hd with z | z
    · exact .inl z
    · exact .inr (List.mem_singleton.mp z)
  refine ⟨m1, at_s, ⟨?_, ?_, ?_, ?_, ?_, ?_, ?_, ?_, ?_, ?_, ?_, ?_⟩, by rw [val, if_neg hbs, if_pos rfl]⟩
  · rw [List.length_set, List.length_set, I.len]
  · intro k hk
    have := I.nn k hk
    rw [val]
    split
    · omega
    · split <;> omega
  · intro k hk
    have := I.acc k hk
    rw [val, got_snoc]
    dsimp only
    by_cases e1 : k = s
    · subst e1
      rw [if_pos rfl, if_neg hbs, if_pos rfl]
      omega
    · rw [if_neg e1]
      by_cases e2 : k = b
      · subst e2
        rw [if_pos rfl, if_pos rfl, if_neg (fun z => e1 z.symm)]
        omega
      · rw [if_neg e2, if_neg (fun z => e2 z.symm), if_neg (fun z => e1 z.symm)]
        omega
  · have := I.ev
    rw [sideSum_set sl' _ hs'.1, sideSum_set bl _ hb'.1, sideSum_set sl' _ hs'.1, sideSum_set bl _ hb'.1, at_s, hb'.2.1, hs'.2.1]
    simp only [if_true, Bool.false_eq_true, Bool.true_eq_false, if_false]
    omega
  · intro j c hj hji
    have hc := dl_at hj
    have n1 : c ≠ b := dl_ne hj hb (by omega)
    have n2 : c ≠ s := fun e => by
      have := hc.2.1
      rw [e, hs'.2.1] at this
      cases this
    rw [val, if_neg n2, if_neg n1]
    exact I.bz j c hj hji
  · intro j c hj hja
    have hc := dl_at hj
    have n1 : c ≠ b := fun e => by
      have := hc.2.1
      rw [e, hb'.2.1] at this
      cases this
    rw [val]
    by_cases e : j = at_
    · subst e
      have ec : c = s := Option.some.inj (hj.symm.trans hs)
      subst ec
      rw [if_pos rfl]
      by_cases z : rs.getD c 0 - m = 0
      · exact z
      · rw [if_neg z] at hja
        omega
    · have hja' : j < at_ := by
        split at hja <;> omega
      rw [if_neg (dl_ne hj hs e), if_neg n1]
      exact I.sz j c hj hja'
  · intro j c hj hja
    have hc := dl_at hj
    have n1 : c ≠ b := fun e => by
      have := hc.2.1
      rw [e, hb'.2.1] at this
      cases this
    rw [val]
    by_cases e : j = at_
    · subst e
      have ec : c = s := Option.some.inj (hj.symm.trans hs)
      subst ec
      rw [if_pos rfl]
      by_cases z : rs.getD c 0 - m = 0
      · rw [if_pos z] at hja
        omega
      · omega
    · have hja' : at_ ≤ j := by
        split at hja <;> omega
      rw [if_neg (dl_ne hj hs e), if_neg n1]
      exact I.sp j c hj hja'
  · intro d hd
    rcases ind d hd with z | z
    · exact I.ok d z
    · rw [z]
      exact new
  · rw [List.pairwise_append]
    refine ⟨I.ris, List.pairwise_singleton _ _, fun d hd e he => ?_⟩
    rw [List.mem_singleton.mp he]
    exact ⟨I.lastB d hd b hb, I.lastS d hd s hs, I.strict d hd b s hb hs h⟩
  · intro d hd c hc
    have ec : c = b := Option.some.inj (hc.symm.trans hb)
    subst ec
    rcases ind d hd with z | z
    · exact I.lastB d z c hb
    · rw [z]
      exact Nat.le_refl _
  · intro d hd c hc
    have hle : s ≤ c := by
      by_cases z : rs.getD s 0 - m = 0
      · rw [if_pos z] at hc
        exact Nat.le_of_lt (dl_ix hs hc (Nat.lt_succ_self _))
      · rw [if_neg z] at hc
        exact Nat.le_of_eq (Option.some.inj (hs.symm.trans hc))
    rcases ind d hd with z | z
    · exact Nat.le_trans (I.lastS d z s hs) hle
    · rw [z]
      exact hle
  · intro d hd c e hc he hpos
    have ec : c = b := Option.some.inj (hc.symm.trans hb)
    subst ec
    rw [val, if_neg hbs, if_pos rfl] at hpos
    have z : rs.getD s 0 - m = 0 := by omega
    rw [if_pos z] at he
    have hlt := dl_ix hs he (Nat.lt_succ_self _)
    rcases ind d hd with y | y
    · have := I.lastS d y s hs
      exact .inr (by omega)
    · rw [y]
      exact .inr hlt
/-- the next buyer -/
theorem PInv.next (I : PInv ws ns rs ds at_ i) {b : Nat} (hb : (dl ws ns true)[i]? = some b) (h : rs.getD b 0 = 0) : PInv ws ns rs ds at_ (i + 1) where
  len := I.len
  nn := I.nn
  acc := I.acc
  ev := I.ev
  bz := fun j c hj hji => by
    by_cases e : j = i
    · subst e
      rw [← Option.some.inj (hb.symm.trans hj)]
      exact h
    · exact I.bz j c hj (by omega)
  sz := I.sz
  sp := I.sp
  ok := I.ok
  ris := I.ris
  lastB := fun d hd c hc => Nat.le_of_lt (Nat.lt_of_le_of_lt (I.lastB d hd b hb) (dl_ix hb hc (Nat.lt_succ_self _)))
  lastS := I.lastS
  strict := fun d hd c s hc _ _ => .inl (Nat.lt_of_le_of_lt (I.lastB d hd b hb) (dl_ix hb hc (Nat.lt_succ_self _)))
theorem PInv.fin (I : PInv ws ns rs ds at_ (dl ws ns true).length) : Paird ws ns ds := by
  have zb : ∀ k, k < ws.length → (wAt ws k).buy = true → rs.getD k 0 = 0 := fun k hk hb => by
    by_cases hn : 0 < ns.getD k 0
    · obtain ⟨m, hm⟩ := dl_find (dl_has hk hb hn)
      exact I.bz m k hm (List.getElem?_eq_some_iff.mp hm).1
    · exact I.off hk hn
  have z : sideSum ws rs true ws.length = 0 := sideSum_zero _ zb
  have z2 := I.ev
  refine ⟨I.ok, I.ris, fun k hk => ?_⟩
  have h1 := I.acc k hk
  have h2 := I.nn k hk
  have h3 : rs.getD k 0 = 0 := by
    cases hb : (wAt ws k).buy with
    | true => exact zb k hk hb
    | false =>
      have := sideSum_ge (ws := ws) (rs := rs) (b := false) ws.length I.nn hk hb
      omega
  omega
end
theorem rising_len : ∀ {l : List Nat} {lo N : Nat}, l.Pairwise (· < ·) → (∀ x ∈ l, lo ≤ x ∧ x < N) → l.length ≤ N - lo
  | [], _, _, _, _ => Nat.zero_le _
  | x :: l, lo, N, hp, h => by
    rw [List.pairwise_cons] at hp
    have hx := h x List.mem_cons_self
    have ih := rising_len (lo := x + 1) (N := N) hp.2 fun y hy => ⟨hp.1 y hy, (h y (List.mem_cons_of_mem _ hy)).2⟩
    rw [List.length_cons]
    omega
theorem deals_len {ws : List Wish} {ns : List Int} {ds : List Deal} (ok : ∀ d ∈ ds, DealOk ws ns d) (ris : ds.Pairwise Rise) : ds.length ≤ 2 * ws.length := by
  have h := rising_len (l := ds.map fun d => d.1 + d.2.1) (lo := 0) (N := 2 * ws.length) ?_ ?_
  · rw [List.length_map] at h
    exact h
  · rw [List.pairwise_map]
    exact ris.imp fun {a b} z => by
      have := z.1
      have := z.2.1
      rcases z.2.2 with z | z <;> omega
  · intro x hx
    obtain ⟨d, hd, rfl⟩ := List.mem_map.mp hx
    have h1 := (ok d hd).b.1
    have h2 := (ok d hd).s.1
    exact ⟨Nat.zero_le _, by omega⟩
end My

set_option Elab.async false
set_option linter.all false
set_option maxRecDepth 100000
set_option maxHeartbeats 400000
/-! What pairs asks and gives. -/
namespace My
open PySem PySem.Spec PyProof.Rows L2
/-- a tuple that tells a deal -/
def DealAt (H : Hp) (d : Deal) (y : V) : Prop := ∃ t, y = .ref t ∧ H t = some (.tup [.int (d.1 : Int), .int (d.2.1 : Int), .int d.2.2])
theorem DealAt.tq {K : PySem.W.Frag} {H H' : Hp} (S : Tq K H H') : ∀ {ds : List Deal} {ys : List V}, Paired (DealAt H) ds ys → Paired (DealAt H') ds ys
  | _, _, .nil => .nil
  | _, _, .cons ⟨t, e, h⟩ r => .cons ⟨t, e, S.tup _ _ h⟩ (DealAt.tq S r)
theorem DealAt.sm {H H' : Hp} (S : Sm H H') : ∀ {ds : List Deal} {ys : List V}, Paired (DealAt H) ds ys → Paired (DealAt H') ds ys
  | _, _, .nil => .nil
  | _, _, .cons ⟨t, e, h⟩ r => .cons ⟨t, e, S.tup h⟩ (DealAt.sm S r)
section
variable {σ : L2.St} {H : Hp} {K : PySem.W.Frag} {ta tb tc te : TE} {D : Ends} {u t : TS}
def spDl (K : PySem.W.Frag) : Sp := fun vs H Q _ => ∃ (a b : Addr) (ws : List Wish) (ns : List Int) (c : Bool), vs = [.ref a, .ref b, .str (sideS c)] ∧ WishL K H a ws ∧ SqL K H b (ns.map V.int) ∧ ns.length = ws.length ∧ ws.length ≤ 1000 ∧
  ∀ l H', Sm H H' → H l = none → H' l = some (.lst (natVs (dl ws ns c))) → Q (.ref l) H'
theorem evp_dl {E : XK} {a b : Addr} {ws : List Wish} {ns : List Int} {c : Bool} {z : Str} (ha : Ev ta σ H (.ref a)) (hb : Ev tb σ H (.ref b)) (hc : Ev tc σ H (.str z)) (hz : z = sideS c) (hW : WishL K H a ws) (hS : SqL K H b (ns.map V.int)) (hl : ns.length = ws.length) (hn : ws.length ≤ 1000) :
    EvP (tCall (spDl K) [] E (tCons ta (tCons tb (tCons tc tNil)))) σ H fun v H' => ∃ l, v = .ref l ∧ H l = none ∧ H' l = some (.lst (natVs (dl ws ns c))) :=
  evp_call (evl_cons ha (evl_cons hb (evl_cons hc evl_nil))) fun H1 S Q q => ⟨a, b, ws, ns, c, by rw [hz], hW.sm S, S.sql hS, hl, hn, fun l H' S' nl hl => q _ _ S' ⟨l, rfl, S.free nl, hl⟩⟩
def spPairs (K : PySem.W.Frag) (C1 C2 : Addr) : Sp := fun vs H Q E => ∃ (a b : Addr) (ws : List Wish) (xs : List V), vs = [.ref a, .ref b] ∧ WishL K H a ws ∧ Goods ws ∧ ws.length ≤ 1000 ∧ H b = some (.lst xs) ∧
  ((BadRow K ws xs H ∧ ∀ H', Sm H H' → E (.ref C1) none H') ∨ ∃ ns, xs = ns.map V.int ∧ Pcs ws ns ∧ ((¬ EvenP ws ns ∧ ∀ H', Sm H H' → E (.ref C2) none H') ∨ (EvenP ws ns ∧ ∀ l H' ds ys, Sm H H' → H l = none → H' l = some (.lst ys) → Paired (DealAt H') ds ys → Paird ws ns ds → Q (.ref l) H')))
/-- if not f(..): suite; f may raise -/
theorem qs_ifNotS {sp : Sp} {E : L2.St → XK} {tr : TA} {vs : List V} (ha : EvL tr σ H vs) (h : ∀ H1, Sm H H1 → sp vs H1 (fun v H2 => ∃ b, v = .bl b ∧ (b = false → t { D with nx := u D } σ H2) ∧ (b = true → u D σ H2)) (E σ)) : tSeq (tIfS (tNot (tB (tCallS sp E tr))) t tNext) u D σ H :=
  ha H (Sm.refl _) _ fun us H2 S2 p => by
    subst p
    have q := h H2 S2
    have e : (fun v H2 => ∃ b, v = V.bl b ∧ (b = false → t { D with nx := u D } σ H2) ∧ (b = true → u D σ H2)) = fun (x : V) H1 => ∃ b, x = .bl b ∧ (if (!b) = true then t { D with nx := u D } σ H1 else tNext { D with nx := u D } σ H1) := by
      funext v H2
      refine propext ⟨fun ⟨b, e, h1, h2⟩ => ⟨b, e, ?_⟩, fun ⟨b, e, h⟩ => ⟨b, e, fun z => ?_, fun z => ?_⟩⟩
      · cases b with
        | false => exact h1 rfl
        | true => exact h2 rfl
      · subst z; exact h
      · subst z; exact h
    rw [e] at q
    exact q
end
/-! ### deals, read -/
theorem offs {k b s : Nat} {A B L N g m : Int} (hne : s ≠ b) (h0 : L = N - g) (hA : k = b → A = L) (hB : k = s → B = L) : (if k = s then B - m else if k = b then A - m else L) = N - (g + ((if b = k then m else 0) + (if s = k then m else 0))) := by
  by_cases e1 : k = s
  · have := hB e1
    rw [if_pos e1, if_neg (show ¬ b = k from fun z => hne (by rw [z, e1])), if_pos e1.symm]
    omega
  · rw [if_neg e1, if_neg (show ¬ s = k from fun z => e1 z.symm)]
    by_cases e2 : k = b
    · have := hA e2
      rw [if_pos e2, if_pos e2.symm]
      omega
    · rw [if_neg e2, if_neg (show ¬ b = k from fun z => e2 z.symm)]
      omega
theorem rep_at {n k : Nat} : (List.replicate n (0 : Int)).getD k 0 = 0 := by
  rw [List.getD_eq_getElem?_getD, List.getElem?_replicate]
  split <;> rfl
section
variable {σ : L2.St} {H : Hp} {K : PySem.W.Frag} {ta tb tc te : TE} {D : Ends} {u t : TS}
theorem even_set {ws : List Wish} {ms : List Int} {k : Nat} {z : Int} (hl : ms.length = ws.length) (h : EvenP ws ms) (hk : k < ws.length) (hz : z ≠ ms.getD k 0) : ¬ EvenP ws (ms.set k z) := by
  unfold EvenP at h ⊢
  rw [sideSum_set (by omega) _ hk, sideSum_set (by omega) _ hk]
  cases (wAt ws k).buy with
  | true =>
    simp only [if_true, Bool.true_eq_false, if_false]
    omega
  | false =>
    simp only [if_true, Bool.false_eq_true, if_false]
    omega
/-- two of unlike sides get as much more, or two of a side the one what the other gives -/
theorem even_two {ws : List Wish} {ms : List Int} {k j : Nat} {y z : Int} (hl : ms.length = ws.length) (h : EvenP ws ms) (hk : k < ws.length) (hj : j < ws.length) (hne : j ≠ k)
    (hd : (if (wAt ws k).buy = (wAt ws j).buy then (y - ms.getD k 0) + (z - ms.getD j 0) else (y - ms.getD k 0) - (z - ms.getD j 0)) = 0) : EvenP ws ((ms.set k y).set j z) := by
  have e : (ms.set k y).getD j 0 = ms.getD j 0 := by rw [getD_set (by omega), if_neg hne]
  unfold EvenP at h ⊢
  rw [sideSum_set (by rw [List.length_set]; omega) _ hj, sideSum_set (by omega) _ hk, sideSum_set (by rw [List.length_set]; omega) _ hj, sideSum_set (by omega) _ hk, e]
  cases hb : (wAt ws k).buy <;> cases hc : (wAt ws j).buy <;> rw [hb, hc] at hd <;> simp only [if_true, Bool.true_eq_false, Bool.false_eq_true, if_false] at hd ⊢ <;> omega
theorem pcs_set {ws : List Wish} {ms : List Int} {k : Nat} {z : Int} (h : Pcs ws ms) (hk : k < ws.length) (h0 : 0 ≤ z) (h1 : z ≤ amtAt ws k) : Pcs ws (ms.set k z) :=
  ⟨by rw [List.length_set, h.len], fun j hj => by
    rw [getD_set (by rw [h.len]; exact hk)]
    split
    · rename_i e
      rw [e]
      exact ⟨h0, h1⟩
    · exact h.ok j hj⟩
/-- t[:2] -/
theorem evp_cut2 {a : Addr} {x y z : V} (ha : Ev ta σ H (.ref a)) (hS : SqT K H a [x, y, z]) : EvP (tSl (rSlT K) ta tNoPart (tPart (tC (.int 2)))) σ H fun v H' => ∃ b, v = .ref b ∧ SqT K H' b [x, y] := fun H1 S Q q =>
  ha H1 S _ fun H2 S2 => ⟨2, rfl, a, [x, y, z], rfl, (S.trans S2).sqt hS, (by show ¬ (HT.sIx 3 0 none = 0 ∧ HT.sIx 3 3 (some 2) = 3); decide), fun p np => q _ _ (S2.trans (Sm.new np)) ⟨p, rfl, .inl (.inl (by rw [upd_same]; rfl))⟩⟩
theorem shaped_two (i j : Int) : SeqAt.shaped (.tuple [.int i, .int j]) = true := shaped_intsT [i, j]
theorem eqv_two {i j k l : Int} (h : i ≠ k ∨ j ≠ l) : PyData.eqv (.tuple [.int i, .int j]) (.tuple [.int k, .int l]) = false := by
  simp only [PyData.eqv, PyData.eqvAll, Bool.and_true]
  rcases h with h | h <;> simp [h]
/-- for .. in a tuple in hand -/
theorem q_forTE {g : TG} {tb : TS} {a : Addr} {xs : List V} (Pv : Nat → L2.St → Hp → Prop) (h : Ev te σ H (.ref a)) (hx : SqT K H a xs) (h0 : ∀ H', Sm H H' → Pv 0 σ H') (hl : ∀ i σ' H', i ≤ xs.length → Pv i σ' H' → SqT K H' a xs)
    (hs : ∀ i x σ' H', xs[i]? = some x → Pv i σ' H' → ∃ σ2, EvG g x σ' H' σ2 ∧ ∀ H3, Sm H' H3 → tb { D with nx := Pv (i + 1), ct := Pv (i + 1), bk := D.nx } σ2 H3) (hd : ∀ σ' H', Pv xs.length σ' H' → D.nx σ' H') : tFor (iTup K te) g tb D σ H :=
  h H (Sm.refl _) _ fun H2 S2 => ⟨a, rfl, ⟨xs, S2.sqt hx⟩, for_it walk_tup Pv (h0 H2 S2) hl (fun i x σ' H1 H3 hi hP hY => by
    obtain ⟨e4, h1⟩ := hY
    subst e4
    obtain ⟨σ2, eg, k⟩ := hs i x σ' _ h1 hP
    exact eg _ (Sm.refl _) _ k) hd⟩
theorem deal_get {ds : List Deal} {ys : List V} {i : Nat} (h : Paired (DealAt H) ds ys) (hi : i < ds.length) : ∃ d t, ds[i]? = some d ∧ ys[i]? = some (.ref t) ∧ H t = some (.tup [.int (d.1 : Int), .int (d.2.1 : Int), .int d.2.2]) := by
  have hl := Paired.length h
  have hy : i < ys.length := by omega
  obtain ⟨d, h1, t, e, ht⟩ := paired_get h (List.getElem?_eq_getElem hy)
  exact ⟨d, t, h1, by rw [List.getElem?_eq_getElem hy, e], ht⟩
theorem rise_at {ds : List Deal} {i : Nat} {d e : Deal} (h : ds.Pairwise Rise) (h1 : ds[i]? = some d) (h2 : ds[i + 1]? = some e) : Rise d e := by
  obtain ⟨a1, b1⟩ := List.getElem?_eq_some_iff.mp h1
  obtain ⟨a2, b2⟩ := List.getElem?_eq_some_iff.mp h2
  have := List.pairwise_iff_getElem.mp h i (i + 1) a1 a2 (Nat.lt_succ_self i)
  rw [b1, b2] at this
  exact this
theorem got_take {ds : List Deal} {i : Nat} {d : Deal} {k : Nat} (h : ds[i]? = some d) : got (ds.take (i + 1)) k = got (ds.take i) k + ((if d.1 = k then d.2.2 else 0) + (if d.2.1 = k then d.2.2 else 0)) := by
  rw [take_snoc h, got_snoc]
/-- an if that stores one name anew, at a block's end -/
theorem q_ifsetP {c : TT} {b : Bool} {i : Nat} {old : V} {P : V → Hp → Prop} (h : EvT c σ H b) (ho : σ[i]? = some (some old)) (hv : b = true → EvP te σ H P) (hn : b = false → ∀ H', Sm H H' → P old H') (k : ∀ v H', Sm H H' → P v H' → D.nx (σ.set i (some v)) H') :
    tIfS c (tAsg te (gName i)) tNext D σ H := qs_ifsetP (u := tNext) h ho hv hn k
/-- two numbers of a list of our own are stored anew -/
theorem q_put2 {H0 : Hp} {to1 ti1 te1 to2 ti2 te2 : TE} {f : Addr} {ns : List Int} {k j : Nat} {y z : Int} (S : Sm H0 H) (nf : H0 f = none) (hf : H f = some (.lst (ns.map V.int))) (hk : k < ns.length) (hj : j < ns.length)
    (e1 : Ev te1 σ H (.int y)) (o1 : Ev to1 σ H (.ref f)) (i1 : Ev ti1 σ H (.int (k : Int)))
    (e2 : ∀ H', Sm H0 H' → H' f = some (.lst ((ns.set k y).map V.int)) → Ev te2 σ H' (.int z)) (o2 : ∀ H', Ev to2 σ H' (.ref f)) (i2 : ∀ H', Sm H0 H' → Ev ti2 σ H' (.int (j : Int)))
    (q : ∀ H', Sm H0 H' → H' f = some (.lst (((ns.set k y).set j z).map V.int)) → D.nx σ H') : tSeq (tAsg te1 (gSub to1 ti1 rSetL)) (tAsg te2 (gSub to2 ti2 rSetL)) D σ H := by
  refine q_seq (q_put (P := fun v _ => v = .int y) e1.p o1 i1 hf (by rw [List.length_map]; exact ixN_nat hk) fun v H5 H6 S5 ey S6 hf6 => ?_)
  subst ey
  rw [show (ns.map V.int).set k (.int y) = (ns.set k y).map V.int from (List.map_set ..).symm]
  have S06 := (S.trans (S5.trans S6)).mut (o := .lst ((ns.set k y).map V.int)) nf
  have hf6' : upd H6 f (.lst ((ns.set k y).map V.int)) f = some (.lst ((ns.set k y).map V.int)) := upd_same
  generalize upd H6 f (.lst ((ns.set k y).map V.int)) = H7 at S06 hf6'
  have hj2 : j < (ns.set k y).length := by rw [List.length_set]; exact hj
  dsimp only
  refine q_put (P := fun v _ => v = .int z) (e2 H7 S06 hf6').p (o2 H7) (i2 H7 S06) hf6' (by rw [List.length_map]; exact ixN_nat hj2) fun v H8 H9 S8 ey S9 hf9 => ?_
  subst ey
  rw [show ((ns.set k y).map V.int).set j (.int z) = ((ns.set k y).set j z).map V.int from (List.map_set ..).symm]
  exact q _ ((S06.trans (S8.trans S9)).mut nf) upd_same
/-- list(t), t a tuple -/
theorem evp_listOfT {a : Addr} {xs : List V} (ha : Ev te σ H (.ref a)) (hx : SqT K H a xs) : EvP (tCopy K te) σ H fun u H' => ∃ l, u = .ref l ∧ H' l = some (.lst xs) :=
  evp_cb (evl_cons ha evl_nil) fun H1 S Q q => ⟨a, xs, rfl, .inr (S.sqt hx), fun l nl => q _ _ (Sm.new nl) ⟨l, rfl, upd_same⟩⟩
/-- an if whose suite stores one name anew, of which P holds either way; then the rest -/
theorem qs_ifP {c : TT} {b : Bool} {i : Nat} {old : V} {P : V → Hp → Prop} (h : EvT c σ H b) (ho : σ[i]? = some (some old)) (h1 : b = true → ∀ H', Sm H H' → ∀ D' : Ends, (∀ v H2, Sm H' H2 → P v H2 → D'.nx (σ.set i (some v)) H2) → t D' σ H') (h2 : b = false → ∀ H', Sm H H' → P old H')
    (k : ∀ v H', Sm H H' → P v H' → u D (σ.set i (some v)) H') : tSeq (tIfS c t tNext) u D σ H :=
  qs_if h (fun e H' S => h1 e H' S { D with nx := u D } fun v H2 S2 p => k v H2 (S.trans S2) p) fun e H' S => by
    have q := k old H' S (h2 e H' S)
    have es : σ.set i (some old) = σ := by
      refine List.ext_getElem? fun j => ?_
      by_cases hj : j = i
      · subst hj
        rw [List.getElem?_set_self (List.getElem?_eq_some_iff.mp ho).1, ho]
      · rw [List.getElem?_set_ne (Ne.symm hj)]
    rw [es] at q
    exact q
/-- an if whose suite stores some names anew; R holds of the slots and the heap either way; then the rest -/
theorem qs_ifQ {c : TT} {b : Bool} (R : L2.St → Hp → Prop) (h : EvT c σ H b) (h1 : b = true → ∀ H', Sm H H' → ∀ D' : Ends, (∀ σ2 H2, R σ2 H2 → D'.nx σ2 H2) → D'.rt = D.rt → t D' σ H') (h2 : b = false → ∀ H', Sm H H' → R σ H')
    (k : ∀ σ2 H2, R σ2 H2 → u D σ2 H2) : tSeq (tIfS c t tNext) u D σ H :=
  qs_if h (fun e H' S => h1 e H' S { D with nx := u D } k rfl) fun e H' S => k σ H' (h2 e H' S)
end
end My

set_option Elab.async false
set_option linter.all false
set_option maxRecDepth 100000
set_option maxHeartbeats 400000
/-! Texts: split, signs, numbers read and written. -/
namespace My
open PySem PySem.Spec PyProof.Rows L2
/-! ### rules -/
def rMulS : R2 := fun x y H Q => ∃ z n, x = .str z ∧ y = .int n ∧ MulOk z n ∧ Q (.str (Txt.mul z n)) H
theorem op_mulS {X : Cx} : OpR X (binaryOp .Mult) rMulS := by
  intro pins s σ H x y v u Q I rx ry h
  obtain ⟨z, n, rfl, rfl, hok, q⟩ := h
  obtain ⟨t, rfl⟩ := rx
  obtain ⟨t', rfl⟩ := ry
  exact SB.mul hok fun t' k => ⟨.str (Txt.mul z n), H, I.tok _, ⟨_, rfl⟩, q⟩
section
variable {σ : L2.St} {H : Hp} {K : PySem.W.Frag} {ta tb tc te : TE} {D : Ends} {tb' : TS} {g : TG} {z : Str}
theorem ev_mulS {n : Int} (ha : Ev ta σ H (.str z)) (hb : Ev tb σ H (.int n)) (hok : MulOk z n) : Ev (tOp rMulS ta tb) σ H (.str (Txt.mul z n)) := fun H1 S Q q =>
  ha H1 S _ fun H2 S2 => hb H2 (S.trans S2) _ fun H3 S3 => ⟨z, n, rfl, rfl, hok, q H3 (S2.trans S3)⟩
theorem atS_of {α : Type} {l : List α} {i : Int} {j : Nat} {c : α} (h : i = (j : Int)) (hc : l[j]? = some c) : atI l i = some c := by
  have := (List.getElem?_eq_some_iff.mp hc).1
  subst h
  unfold atI ixN
  rw [if_pos (by omega), if_pos (by omega)]
  exact hc
theorem ev_neS {i j : Str} (ha : Ev ta σ H (.str i)) (hb : Ev tb σ H (.str j)) : Ev (tOp rNe ta tb) σ H (.bl (!decide (i = j))) :=
  (ev_ne ha hb rfl).to (by rw [show decide (V.str i = V.str j) = decide (i = j) from decide_eq_decide.mpr ⟨fun z => V.str.inj z, fun z => by rw [z]⟩])
theorem ev_lenS (ha : Ev ta σ H (.str z)) (hz : z.length ≤ sizeLine) : Ev (tCB (fun xs H Q => ∃ z : Str, xs = [.str z] ∧ z.length ≤ sizeLine ∧ Q (.int z.length) H) (tCons ta tNil)) σ H (.int (z.length : Int)) :=
  ev_cb (evl_cons ha evl_nil) fun H1 S Q q => ⟨z, rfl, hz, q H1 (Sm.refl _)⟩
theorem ev_ixS {i : Int} {c : Nat} (ha : Ev ta σ H (.str z)) (hb : Ev tb σ H (.int i)) (hz : z.length ≤ sizeLine) (hc : atI z.cps.toList i = some c) : Ev (tOp rIxS ta tb) σ H (.str ⟨#[c]⟩) := fun H1 S Q q =>
  ha H1 S _ fun H2 S2 => hb H2 (S.trans S2) _ fun H3 S3 => ⟨z, i, c, rfl, rfl, hz, hc, q H3 (S2.trans S3)⟩
theorem ev_cutS {tl th : TO} {lo hi : Option Int} (ha : Ev ta σ H (.str z)) (hl : EvO tl σ H lo) (hh : EvO th σ H hi) (hz : z.length ≤ sizeLine) : Ev (tSl rSlS ta tl th) σ H (.str (cutS z lo hi)) := fun H1 S Q q =>
  ha H1 S _ fun H2 S2 => hl H2 (S.trans S2) _ fun H3 S3 => hh H3 (S.trans (S2.trans S3)) _ fun H4 S4 => ⟨z, rfl, hz, q H4 (S2.trans (S3.trans S4))⟩
theorem ev_strI {i : Int} (ha : Ev ta σ H (.int i)) (hi : i.natAbs.log2 < 1920) : Ev (tCB (fun xs H Q => ∃ i : Int, xs = [.int i] ∧ i.natAbs.log2 < 1920 ∧ Q (.str (toString i)) H) (tCons ta tNil)) σ H (.str (toString i)) :=
  ev_cb (evl_cons ha evl_nil) fun H1 S Q q => ⟨i, rfl, hi, q H1 (Sm.refl _)⟩
theorem ev_intS {n : Int} (ha : Ev ta σ H (.str z)) (hn : intText? z = some n) (hz : z.length ≤ 640) : Ev (tCB (fun xs H Q => ∃ (a : Str) (n : Int), xs = [.str a] ∧ PySem.intText? a = some n ∧ a.length ≤ 640 ∧ Q (.int n) H) (tCons ta tNil)) σ H (.int n) :=
  ev_cb (evl_cons ha evl_nil) fun H1 S Q q => ⟨z, n, rfl, hn, hz, q H1 (Sm.refl _)⟩
theorem ev_inS {c : Nat} (ha : Ev ta σ H (.str ⟨#[c]⟩)) (hb : Ev tb σ H (.str z)) : Ev (tOp (fun x y H Q => ∃ (c : Nat) (z : Str), x = .str ⟨#[c]⟩ ∧ y = .str z ∧ Q (.bl (decide (c ∈ z.cps.toList))) H) ta tb) σ H (.bl (decide (c ∈ z.cps.toList))) := fun H1 S Q q =>
  ha H1 S _ fun H2 S2 => hb H2 (S.trans S2) _ fun H3 S3 => ⟨c, z, rfl, rfl, q H3 (S2.trans S3)⟩
theorem ev_notInS {c : Nat} (ha : Ev ta σ H (.str ⟨#[c]⟩)) (hb : Ev tb σ H (.str z)) : Ev (tOp (fun x y H Q => ∃ (c : Nat) (z : Str), x = .str ⟨#[c]⟩ ∧ y = .str z ∧ Q (.bl (!decide (c ∈ z.cps.toList))) H) ta tb) σ H (.bl (!decide (c ∈ z.cps.toList))) := fun H1 S Q q =>
  ha H1 S _ fun H2 S2 => hb H2 (S.trans S2) _ fun H3 S3 => ⟨c, z, rfl, rfl, q H3 (S2.trans S3)⟩
theorem ev_notInT {x : V} {t : TA} {vs : List V} (ha : Ev ta σ H x) (hb : EvL t σ H vs) (fx : flatV x = true) (fs : vs.all flatV = true) (hz : vs.length ≤ sizeLine) : Ev (tOp (rIn K true) ta (tTup t)) σ H (.bl (!inV x vs)) := fun H1 S Q q =>
  ha H1 S _ fun H2 S2 => hb H2 (S.trans S2) _ fun us H3 S3 p => by
    subst p
    exact ⟨hz, fun l nl => ⟨l, us, rfl, .inr (.inl (.inl upd_same)), fx, fs, q _ (S2.trans (S3.trans (Sm.new nl)))⟩⟩
theorem evp_split {y : Str} (ha : Ev ta σ H (.str z)) (hb : Ev tb σ H (.str y)) (hy : (y.length == 0) = false) (hz : z.length + 2 ≤ sizeLine) :
    EvP (tM1 (fun x xs H Q => ∃ a b, x = .str a ∧ xs = [.str b] ∧ (b.length == 0) = false ∧ a.length + 2 ≤ sizeLine ∧ rNewStrs (Txt.split a b) H Q) ta tb) σ H fun v H' => ∃ l, v = .ref l ∧ H l = none ∧ H' l = some (.lst ((Txt.split z y).map V.str)) := fun H1 S Q q =>
  ha H1 S _ fun H2 S2 => ⟨⟨z, rfl⟩, hb H2 (S.trans S2) _ fun H3 S3 => ⟨z, y, rfl, rfl, hy, hz, fun p np => q _ _ (S2.trans (S3.trans (Sm.new np))) ⟨p, rfl, S.free (S2.free (S3.free np)), upd_same⟩⟩⟩
/-- for c in a text -/
theorem q_forS (Pv : Nat → L2.St → Hp → Prop) (h : Ev te σ H (.str z)) (h0 : ∀ H', Sm H H' → Pv 0 σ H')
    (hs : ∀ (i c : Nat) σ' H', z.cps.toList[i]? = some c → Pv i σ' H' → ∃ σ2, EvG g (.str ⟨#[c]⟩) σ' H' σ2 ∧ ∀ H3, Sm H' H3 → tb' { D with nx := Pv (i + 1), ct := Pv (i + 1), bk := D.nx } σ2 H3) (hd : ∀ σ' H', Pv z.length σ' H' → D.nx σ' H') : tFor (iStr te) g tb' D σ H :=
  h H (Sm.refl _) _ fun H2 S2 => ⟨z, rfl, for_it walk_str Pv (h0 H2 S2) (fun _ _ _ _ _ => True.intro) (fun i x σ' H1 H3 hi hP hY => by
    obtain ⟨e4, c, h1, e5⟩ := hY
    subst e4 e5
    obtain ⟨σ2, eg, k⟩ := hs i c σ' _ (by rw [Array.getElem?_toList]; exact h1) hP
    exact eg _ (Sm.refl _) _ k) hd⟩
/-- [.. for c in a text] -/
theorem evp_lcS {tt : TT} {vs : List Nat} {pz : Nat → Bool} {P : Nat → V → Hp → Prop} (h : Ev ta σ H (.str z)) (st : ∀ i y H H', Tq K H H' → P i y H → P i y H') (hz : z.length ≤ 100000)
    (ht : ∀ (i c : Nat) H2, z.cps.toList[i]? = some c → Sm H H2 → ∃ σ', EvG g (.str ⟨#[c]⟩) (wipe σ vs) H2 σ' ∧ wipe σ' vs = wipe σ vs ∧ EvT tt σ' H2 (pz i) ∧ (pz i = true → EvP te σ' H2 (P i))) :
    EvP (tLc (iStr ta) g tt te vs) σ H fun u H' => ∃ D zs, u = .ref D ∧ H D = none ∧ H' D = some (.lst zs) ∧ Paired (fun i y => P i y H') (kept pz z.length) zs := fun H1 S Q q =>
  h H1 S _ fun H2 S2 => ⟨z, rfl, lc_walk (K := K) walk_str (fun _ _ => True.intro) st hz (fun i x H3 H4 hi S3 hY => by
      obtain ⟨e4, c, h1, e5⟩ := hY
      subst e4 e5
      exact ⟨Sm.refl _, ht i c _ (by rw [Array.getElem?_toList]; exact h1) (S.trans (S2.trans S3))⟩)
    fun D zs H3 nD S3 hD hp => q _ H3 (S2.trans S3) ⟨D, zs, rfl, S.free (S2.free nD), hD, hp⟩⟩
/-- all(xs), truths -/
theorem ev_all {bs : List Bool} (h : EvP te σ H fun u H' => ∃ a, u = .ref a ∧ SqL K H' a (bs.map V.bl)) : Ev (tCB (rAll K) (tCons te tNil)) σ H (.bl (bs.all id)) := fun H1 S Q q =>
  h H1 S _ fun u H2 S2 ⟨a, e, hx⟩ => ⟨a, bs, by rw [e], hx, q H2 S2⟩
/-- a, b, .. = a list -/
theorem qs_lst {u : TS} {l : Addr} {xs : List V} {n : Nat} {t : TGs} (h : Ev te σ H (.ref l)) (hx : SqL K H l xs) (hl : xs.length = n) (k : ∀ H', Sm H H' → t xs σ H' (u D)) : tSeq (tAsg te (gLst K n t)) u D σ H :=
  h H (Sm.refl _) _ fun H2 S2 => ⟨l, xs, rfl, S2.sql hx, hl, k H2 S2⟩
/-- return f(..), f may raise -/
theorem q_retCallS {sp : Sp} {E : L2.St → XK} {t : TA} {R : List V → Hp → Prop} (ha : EvA t σ H R) (h : ∀ vs H1, Sm H H1 → R vs H1 → sp vs H1 D.rt (E σ)) : tRet (tCallS sp E t) D σ H :=
  ha H (Sm.refl _) _ fun vs H1 S1 p => h vs H1 S1 p
/-! f-strings -/
def EvJ (ts : List TE) (acc : Str) (σ : L2.St) (H : Hp) (out : Str) : Prop := ∀ H1, Sm H H1 → ∀ Q : Str → Hp → Prop, (∀ H2, Sm H1 H2 → Q out H2) → tJs ts acc σ H1 Q
theorem evj_nil {acc : Str} : EvJ [] acc σ H acc := fun H1 S Q q => q H1 (Sm.refl _)
theorem evj_c {ts : List TE} {acc s out : Str} (hz : (acc ++ s).length ≤ sizeLine) (h : EvJ ts (acc ++ s) σ H out) : EvJ (tC (.str s) :: ts) acc σ H out := fun H1 S Q q => ⟨s, rfl, hz, h H1 S Q q⟩
theorem evj_s {ts : List TE} {acc s out : Str} (he : Ev te σ H (.str s)) (h0 : s.length ≤ sizeLine) (hz : (acc ++ s).length ≤ sizeLine) (h : EvJ ts (acc ++ s) σ H out) : EvJ (tFmt te :: ts) acc σ H out := fun H1 S Q q =>
  he H1 S _ fun H2 S2 => .inl ⟨s, rfl, h0, ⟨s, rfl, hz, h H2 (S.trans S2) Q fun H3 S3 => q H3 (S2.trans S3)⟩⟩
theorem evj_i {ts : List TE} {acc out : Str} {i : Int} (he : Ev te σ H (.int i)) (h0 : i.natAbs.log2 < 1920) (hz : (acc ++ (toString i : Str)).length ≤ sizeLine) (h : EvJ ts (acc ++ (toString i : Str)) σ H out) : EvJ (tFmt te :: ts) acc σ H out := fun H1 S Q q =>
  he H1 S _ fun H2 S2 => .inr ⟨i, rfl, h0, ⟨_, rfl, hz, h H2 (S.trans S2) Q fun H3 S3 => q H3 (S2.trans S3)⟩⟩
/-- raise C(f'..') -/
theorem js_raise {ts : List TE} {out : Str} {C : Addr} {E : XK} (h : EvJ ts Str.empty σ H out) (q : ∀ H', Sm H H' → E (.ref C) none H') : tJs ts Str.empty σ H fun _ H1 => E (.ref C) none H1 := h H (Sm.refl _) _ q
theorem ev_joined {ts : List TE} {out : Str} (h : EvJ ts Str.empty σ H out) : Ev (fun σ H Q => tJs ts Str.empty σ H fun out H1 => Q (.str out) H1) σ H (.str out) := fun H1 S Q q => h H1 S _ q
end
/-! ### numbers in texts -/
def figs : Str := (PySem.Str.ofString "0123456789")
def sign0 : Str := (PySem.Str.ofString "0")
/-- every sign a figure -/
def digs (z : Str) : Bool := z.cps.toList.all fun c => decide (c ∈ figs.cps.toList)
/-- a number's form -/
def isNum (z : Str) : Bool := decide (1 ≤ z.length) && (decide (z.length ≤ 60) && (if z.cps.toList.head? = some 48 then decide (z = sign0) else digs z))
def intOf (z : Str) : Int := (NumText.digitsVal z.cps.toList : Nat)
theorem figs_list : figs.cps.toList = [48, 49, 50, 51, 52, 53, 54, 55, 56, 57] := by decide +kernel
theorem fig_iff {c : Nat} : c ∈ figs.cps.toList ↔ 48 ≤ c ∧ c ≤ 57 := by
  rw [figs_list]
  simp only [List.mem_cons, List.not_mem_nil, or_false]
  omega
theorem digs_all {z : Str} (h : digs z = true) : NumText.AllDigits z.cps.toList := fun c hc => fig_iff.mp (of_decide_eq_true (List.all_eq_true.mp h c hc))
theorem len_list (z : Str) : z.cps.toList.length = z.length := Array.length_toList
theorem int_of {z : Str} (h : digs z = true) (h1 : 1 ≤ z.length) (h2 : z.length ≤ 60) : intText? z = some (intOf z) := by
  refine intText_digits (digs_all h) (fun e => ?_) (by omega)
  have := len_list z
  rw [e] at this
  simp at this
  omega
theorem intOf_nn (z : Str) : 0 ≤ intOf z := Int.natCast_nonneg _
theorem sign0_digs : digs sign0 = true := by decide +kernel
theorem sign0_eq : sign0 = ⟨#[48]⟩ := by decide +kernel
theorem sign_eq {c : Nat} : decide ((⟨#[c]⟩ : Str) = sign0) = decide (c = 48) := by
  rw [sign0_eq]
  refine decide_eq_decide.mpr ⟨fun h => ?_, fun h => by rw [h]⟩
  have := congrArg (fun z : Str => z.cps.toList) h
  simpa using this
theorem isNum_digs {z : Str} (h : isNum z = true) : digs z = true ∧ 1 ≤ z.length ∧ z.length ≤ 60 := by
  unfold isNum at h
  have h1 := Bool.and_eq_true_iff.mp h
  have h2 := Bool.and_eq_true_iff.mp h1.2
  refine ⟨?_, of_decide_eq_true h1.1, of_decide_eq_true h2.1⟩
  have h3 := h2.2
  split at h3
  · rw [of_decide_eq_true h3]
    exact sign0_digs
  · exact h3
theorem one_sign {z : Str} (h : z.length = 1) (hc : z.cps.toList.head? = some 48) : z = sign0 := by
  have hl := len_list z
  rw [h] at hl
  obtain ⟨cs⟩ := z
  obtain ⟨l⟩ := cs
  match l, hl, hc with
  | [c], _, hc =>
    have : c = 48 := Option.some.inj hc
    rw [this, sign0_eq]
/-- as the law has it -/
theorem isNum_law {z : Str} (h1 : 1 ≤ z.length) (h2 : z.length ≤ 60) (h3 : ¬ (1 < z.length ∧ z.cps.toList.head? = some 48)) : isNum z = digs z := by
  unfold isNum
  rw [decide_eq_true h1, decide_eq_true h2, Bool.true_and, Bool.true_and]
  split
  · rename_i hc
    have hn : ¬ 1 < z.length := fun a => h3 ⟨a, hc⟩
    have : z = sign0 := one_sign (by omega) hc
    rw [decide_eq_true this, this, sign0_digs]
  · rfl
theorem isNum_no {z : Str} (h : (1 < z.length ∧ z.cps.toList.head? = some 48)) : isNum z = false := by
  unfold isNum
  rw [if_pos h.2, decide_eq_false (show ¬ z = sign0 from fun e => ?_)]
  · simp
  · have := h.1
    rw [e] at this
    revert this
    decide +kernel
/-! ### lines -/
def word (s : String) : Str := PySem.Str.ofString s
abbrev sBuy : Str := (PySem.Str.ofString "buy")
abbrev sSell : Str := (PySem.Str.ofString "sell")
abbrev sAt : Str := (PySem.Str.ofString "at")
abbrev sBlank : Str := (PySem.Str.ofString " ")
/-- the words of a line of the form -/
structure Form (ys : List Str) (b : Bool) (am li : Str) : Prop where
  e : ys = [sideS b, am, sAt, li]
  a : isNum am = true
  l : isNum li = true
def Bad0 (ys : List Str) : Prop := ∀ b am li, ¬ Form ys b am li
def InB (am li : Str) : Prop := 1 ≤ intOf am ∧ intOf am ≤ 1000000 ∧ intOf li ≤ 1000000000
def Bad1 (ys : List Str) : Prop := ∃ b am li, Form ys b am li ∧ ¬ InB am li
def wOf (b : Bool) (am li : Str) : Wish := ⟨b, intOf li, intOf am⟩
def Good1 (ys : List Str) (w : Wish) : Prop := ∃ b am li, Form ys b am li ∧ InB am li ∧ w = wOf b am li
theorem good1_good {ys : List Str} {w : Wish} (h : Good1 ys w) : w.Good := by
  obtain ⟨b, am, li, _, h, rfl⟩ := h
  exact ⟨intOf_nn li, h.2.2, h.1, h.2.1⟩
theorem form_cases (ys : List Str) : Bad0 ys ∨ Bad1 ys ∨ ∃ w, Good1 ys w := by
  by_cases h : ∃ b am li, Form ys b am li
  · obtain ⟨b, am, li, h⟩ := h
    by_cases h2 : InB am li
    · exact .inr (.inr ⟨_, b, am, li, h, h2, rfl⟩)
    · exact .inr (.inl ⟨b, am, li, h, h2⟩)
  · exact .inl fun b am li z => h ⟨b, am, li, z⟩
theorem side_inj {b c : Bool} (h : sideS b = sideS c) : b = c := by
  have := side_buy b
  rw [h, side_buy] at this
  exact this.symm
theorem form_one {ys : List Str} {b c : Bool} {am li am' li' : Str} (h : Form ys b am li) (h' : Form ys c am' li') : b = c ∧ am = am' ∧ li = li' := by
  have e := h.e.symm.trans h'.e
  simp only [List.cons.injEq, and_true, true_and] at e
  exact ⟨side_inj e.1, e.2.1, e.2.2⟩
theorem good1_one {ys : List Str} {w w' : Wish} (h : Good1 ys w) (h' : Good1 ys w') : w = w' := by
  obtain ⟨b, am, li, f, _, rfl⟩ := h
  obtain ⟨b', am', li', f', _, rfl⟩ := h'
  obtain ⟨rfl, rfl, rfl⟩ := form_one f f'
  rfl
theorem strs_get {ys : List Str} {i : Nat} {y : Str} (h : ys[i]? = some y) : (ys.map V.str)[i]? = some (.str y) := by rw [List.getElem?_map, h]; rfl
theorem text_len {i : Int} (h0 : 0 ≤ i) (h1 : i ≤ 1000000000) : (PySem.Str.ofString (toString i)).length ≤ 10 := toString_length_le h0 (by decide) (by omega)
theorem log_small {i : Int} (h0 : 0 ≤ i) (h1 : i ≤ 1000000000) : i.natAbs.log2 < 1920 := by
  have : i.natAbs < 2 ^ 30 := by omega
  by_cases h : i.natAbs = 0
  · rw [h]; decide
  · have := (Nat.log2_lt h).mpr this
    omega
theorem side_len (b : Bool) : (sideS b).length ≤ 4 := by cases b <;> decide +kernel
end My

set_option Elab.async false
set_option linter.all false
set_option maxRecDepth 100000
set_option maxHeartbeats 400000
namespace My
open PySem PySem.Spec PyProof.Rows L2
open GxR (TabB TabG Tabbed)
def topS (i : Nat) : Stmt := PySem.Challenge.pw_bidclear_k10_written_and_read.main.body.getD i (.Pass ⟨0, 0, 0, 0⟩)
abbrev s_is_number : Stmt := topS 11
abbrev names_is_number : List Str := ["thing", "least", "most"]
theorem sc_is_number : FnScope ["thing", "least", "most"] ["thing", "least", "most"] (defScope s_is_number) := ⟨rfl, rfl, rfl, by decide +kernel, rfl, by decide +kernel, by decide +kernel⟩
abbrev s_is_side : Stmt := topS 12
abbrev names_is_side : List Str := ["thing"]
theorem sc_is_side : FnScope ["thing"] ["thing"] (defScope s_is_side) := ⟨rfl, rfl, rfl, by decide +kernel, rfl, by decide +kernel, by decide +kernel⟩
abbrev s_checked : Stmt := topS 13
abbrev names_checked : List Str := ["thing", "side", "limit", "amount"]
theorem sc_checked : FnScope ["thing", "side", "limit", "amount"] ["thing"] (defScope s_checked) := ⟨rfl, rfl, rfl, by decide +kernel, rfl, by decide +kernel, by decide +kernel⟩
abbrev s_shown : Stmt := topS 17
abbrev names_shown : List Str := ["wish", "side", "limit", "amount"]
theorem sc_shown : FnScope ["wish", "side", "limit", "amount"] ["wish"] (defScope s_shown) := ⟨rfl, rfl, rfl, by decide +kernel, rfl, by decide +kernel, by decide +kernel⟩
abbrev s_is_written_number : Stmt := topS 18
abbrev names_is_written_number : List Str := ["word", "sign"]
theorem sc_is_written_number : FnScope ["word", "sign"] ["word"] (defScope s_is_written_number) := ⟨rfl, rfl, rfl, by decide +kernel, rfl, by decide +kernel, by decide +kernel⟩
abbrev s_read : Stmt := topS 19
abbrev names_read : List Str := ["line", "words", "side", "amount", "between", "limit"]
theorem sc_read : FnScope ["line", "words", "side", "amount", "between", "limit"] ["line"] (defScope s_read) := ⟨rfl, rfl, rfl, by decide +kernel, rfl, by decide +kernel, by decide +kernel⟩
abbrev s__law_cell_at : Stmt := topS 21
abbrev names__law_cell_at : List Str := ["_law_script", "_law_k"]
theorem sc__law_cell_at : FnScope ["_law_script", "_law_k"] ["_law_script", "_law_k"] (defScope s__law_cell_at) := ⟨rfl, rfl, rfl, by decide +kernel, rfl, by decide +kernel, by decide +kernel⟩
abbrev s__law_whole : Stmt := topS 22
abbrev names__law_whole : List Str := ["_law_thing"]
theorem sc__law_whole : FnScope ["_law_thing"] ["_law_thing"] (defScope s__law_whole) := ⟨rfl, rfl, rfl, by decide +kernel, rfl, by decide +kernel, by decide +kernel⟩
abbrev s__law_sign_by : Stmt := topS 23
abbrev names__law_sign_by : List Str := ["_law_cell", "_law_some"]
theorem sc__law_sign_by : FnScope ["_law_cell", "_law_some"] ["_law_cell"] (defScope s__law_sign_by) := ⟨rfl, rfl, rfl, by decide +kernel, rfl, by decide +kernel, by decide +kernel⟩
abbrev s__law_figures : Stmt := topS 24
abbrev names__law_figures : List Str := ["_law_word", "_law_sign"]
theorem sc__law_figures : FnScope ["_law_word", "_law_sign"] ["_law_word"] (defScope s__law_figures) := ⟨rfl, rfl, rfl, by decide +kernel, rfl, by decide +kernel, by decide +kernel⟩
abbrev s__law_due_of : Stmt := topS 25
abbrev names__law_due_of : List Str := ["_law_line", "_law_words", "_law_amount", "_law_limit"]
theorem sc__law_due_of : FnScope ["_law_line", "_law_words", "_law_amount", "_law_limit"] ["_law_line"] (defScope s__law_due_of) := ⟨rfl, rfl, rfl, by decide +kernel, rfl, by decide +kernel, by decide +kernel⟩
abbrev s__law_names : Stmt := topS 26
abbrev names__law_names : List Str := ["_law_e", "_law_found"]
theorem sc__law_names : FnScope ["_law_e", "_law_found"] ["_law_e"] (defScope s__law_names) := ⟨rfl, rfl, rfl, by decide +kernel, rfl, by decide +kernel, by decide +kernel⟩
abbrev s__law_alike : Stmt := topS 27
abbrev names__law_alike : List Str := ["_law_found", "_law_due"]
theorem sc__law_alike : FnScope ["_law_found", "_law_due"] ["_law_found", "_law_due"] (defScope s__law_alike) := ⟨rfl, rfl, rfl, by decide +kernel, rfl, by decide +kernel, by decide +kernel⟩
abbrev s__law_good : Stmt := topS 28
abbrev names__law_good : List Str := ["_law_line", "_law_due", "_law_found", "_law_e"]
theorem sc__law_good : FnScope ["_law_line", "_law_due", "_law_found", "_law_e"] ["_law_line"] (defScope s__law_good) := ⟨rfl, rfl, rfl, by decide +kernel, rfl, by decide +kernel, by decide +kernel⟩
abbrev s__law_odd_line : Stmt := topS 29
abbrev names__law_odd_line : List Str := ["_law_cell", "_law_some"]
theorem sc__law_odd_line : FnScope ["_law_cell", "_law_some"] ["_law_cell"] (defScope s__law_odd_line) := ⟨rfl, rfl, rfl, by decide +kernel, rfl, by decide +kernel, by decide +kernel⟩
abbrev s_law : Stmt := topS 30
abbrev names_law : List Str := ["_law_script", "_law_cell", "_law_side", "_law_limit", "_law_amount", "_law_line", "_law_text", "_law_way", "_law_at", "_law_sign", "_law_figures_here"]
theorem sc_law : FnScope ["_law_script", "_law_cell", "_law_side", "_law_limit", "_law_amount", "_law_line", "_law_text", "_law_way", "_law_at", "_law_sign", "_law_figures_here"] ["_law_script"] (defScope s_law) := ⟨rfl, rfl, rfl, by decide +kernel, rfl, by decide +kernel, by decide +kernel⟩
structure Txt (K : PySem.W.Frag) (mg : Str → Option Value) where
  f_is_number : Addr
  d_is_number : FuncData
  D_is_number : Dn K mg "is_number" s_is_number ["thing", "least", "most"] f_is_number d_is_number
  f_is_side : Addr
  d_is_side : FuncData
  D_is_side : Dn K mg "is_side" s_is_side ["thing"] f_is_side d_is_side
  f_checked : Addr
  d_checked : FuncData
  D_checked : Dn K mg "checked" s_checked ["thing"] f_checked d_checked
  f_shown : Addr
  d_shown : FuncData
  D_shown : Dn K mg "shown" s_shown ["wish"] f_shown d_shown
  f_is_written_number : Addr
  d_is_written_number : FuncData
  D_is_written_number : Dn K mg "is_written_number" s_is_written_number ["word"] f_is_written_number d_is_written_number
  f_read : Addr
  d_read : FuncData
  D_read : Dn K mg "read" s_read ["line"] f_read d_read
  f__law_cell_at : Addr
  d__law_cell_at : FuncData
  D__law_cell_at : Dn K mg "_law_cell_at" s__law_cell_at ["_law_script", "_law_k"] f__law_cell_at d__law_cell_at
  f__law_whole : Addr
  d__law_whole : FuncData
  D__law_whole : Dn K mg "_law_whole" s__law_whole ["_law_thing"] f__law_whole d__law_whole
  f__law_sign_by : Addr
  d__law_sign_by : FuncData
  D__law_sign_by : Dn K mg "_law_sign_by" s__law_sign_by ["_law_cell"] f__law_sign_by d__law_sign_by
  f__law_figures : Addr
  d__law_figures : FuncData
  D__law_figures : Dn K mg "_law_figures" s__law_figures ["_law_word"] f__law_figures d__law_figures
  f__law_due_of : Addr
  d__law_due_of : FuncData
  D__law_due_of : Dn K mg "_law_due_of" s__law_due_of ["_law_line"] f__law_due_of d__law_due_of
  f__law_names : Addr
  d__law_names : FuncData
  D__law_names : Dn K mg "_law_names" s__law_names ["_law_e"] f__law_names d__law_names
  f__law_alike : Addr
  d__law_alike : FuncData
  D__law_alike : Dn K mg "_law_alike" s__law_alike ["_law_found", "_law_due"] f__law_alike d__law_alike
  f__law_good : Addr
  d__law_good : FuncData
  D__law_good : Dn K mg "_law_good" s__law_good ["_law_line"] f__law_good d__law_good
  f__law_odd_line : Addr
  d__law_odd_line : FuncData
  D__law_odd_line : Dn K mg "_law_odd_line" s__law_odd_line ["_law_cell"] f__law_odd_line d__law_odd_line
  f_law : Addr
  d_law : FuncData
  D_law : Dn K mg "law" s_law ["_law_script"] f_law d_law
  t_TOP : Tok
  c_TOP : mg "TOP" = some (.int 1000000000 t_TOP)
  t_MOST : Tok
  c_MOST : mg "MOST" = some (.int 1000000 t_MOST)
  t_FIGURES : Tok
  c_FIGURES : mg "FIGURES" = some (.str (PySem.Str.ofString "0123456789") t_FIGURES)
  t_MOST_FIGURES : Tok
  c_MOST_FIGURES : mg "MOST_FIGURES" = some (.int 60 t_MOST_FIGURES)
  n_len : mg "len" = none
  n_isinstance : mg "isinstance" = none
  n_tuple : mg "tuple" = none
  n_int : mg "int" = none
  n_bool : mg "bool" = none
  n_str : mg "str" = none
  n_type : mg "type" = none
  n_all : mg "all" = none
  n_ValueError : mg "ValueError" = none
  a_BidError : Addr
  g_BidError : mg "BidError" = some (.ref a_BidError)
  a_BadWish : Addr
  g_BadWish : mg "BadWish" = some (.ref a_BadWish)
  a_BadPrice : Addr
  g_BadPrice : mg "BadPrice" = some (.ref a_BadPrice)
  a_BadPieces : Addr
  g_BadPieces : mg "BadPieces" = some (.ref a_BadPieces)
  a_Uneven : Addr
  g_Uneven : mg "Uneven" = some (.ref a_Uneven)
  a_NoSuch : Addr
  g_NoSuch : mg "NoSuch" = some (.ref a_NoSuch)
  a_Unread : Addr
  g_Unread : mg "Unread" = some (.ref a_Unread)
  R_BadWish : ClsR K a_BadWish
  V_BadWish : PySem.W.kitOne K (.ref a_BadWish) (.type "ValueError") = some true
  I_BadWish_BidError : PySem.W.kitOne K (.ref a_BadWish) (.ref a_BidError) = some true
  I_BadWish_BadWish : PySem.W.kitOne K (.ref a_BadWish) (.ref a_BadWish) = some true
  I_BadWish_BadPrice : PySem.W.kitOne K (.ref a_BadWish) (.ref a_BadPrice) = some false
  I_BadWish_BadPieces : PySem.W.kitOne K (.ref a_BadWish) (.ref a_BadPieces) = some false
  I_BadWish_Uneven : PySem.W.kitOne K (.ref a_BadWish) (.ref a_Uneven) = some false
  I_BadWish_NoSuch : PySem.W.kitOne K (.ref a_BadWish) (.ref a_NoSuch) = some false
  I_BadWish_Unread : PySem.W.kitOne K (.ref a_BadWish) (.ref a_Unread) = some false
  X_BadWish_BidError : PySem.W.exmOne K (.ref a_BadWish) (.ref a_BidError) = some true
  R_Unread : ClsR K a_Unread
  V_Unread : PySem.W.kitOne K (.ref a_Unread) (.type "ValueError") = some true
  I_Unread_BidError : PySem.W.kitOne K (.ref a_Unread) (.ref a_BidError) = some true
  I_Unread_BadWish : PySem.W.kitOne K (.ref a_Unread) (.ref a_BadWish) = some false
  I_Unread_BadPrice : PySem.W.kitOne K (.ref a_Unread) (.ref a_BadPrice) = some false
  I_Unread_BadPieces : PySem.W.kitOne K (.ref a_Unread) (.ref a_BadPieces) = some false
  I_Unread_Uneven : PySem.W.kitOne K (.ref a_Unread) (.ref a_Uneven) = some false
  I_Unread_NoSuch : PySem.W.kitOne K (.ref a_Unread) (.ref a_NoSuch) = some false
  I_Unread_Unread : PySem.W.kitOne K (.ref a_Unread) (.ref a_Unread) = some true
  X_Unread_BidError : PySem.W.exmOne K (.ref a_Unread) (.ref a_BidError) = some true
local macro_rules | `(tactic| walk_at "sq") => `(tactic| first
  | (with_reducible assumption)
  | ((with_reducible refine' Sm.sql ?a ?b); (case a => (with_reducible assumption)); (case b => walk_at "sq"))
  | ((with_reducible refine' Sm.sqt ?a ?b); (case a => (with_reducible assumption)); (case b => walk_at "sq"))
  | ((with_reducible refine' WishL.sm ?a ?b); (case a => (with_reducible assumption)); (case b => walk_at "sq"))
  | ((with_reducible refine' WishV.sm ?a ?b); (case a => (with_reducible assumption)); (case b => walk_at "sq"))
  | ((with_reducible refine' Sm.tabG ?a ?b); (case a => (with_reducible assumption)); (case b => walk_at "sq")))
local macro_rules | `(tactic| walk_at "ar") => `(tactic| first
  | decide
  | exact .inr ⟨by decide, by decide⟩
  | exact .inl ⟨by decide, by decide⟩
  | exact ⟨by decide, by decide⟩
  | omega
  | (simp only [List.length_cons, List.length_nil]; omega))
local macro_rules | `(tactic| walk_at "il") => `(tactic| first
  | exact evi_nil
  | ((with_reducible refine' evi_cons ?a ?b); (case a => walk_at "ev"); (case b => walk_at "il")))
local macro_rules | `(tactic| walk_at "el") => `(tactic| first
  | exact evl_nil
  | ((with_reducible refine' evl_cons ?a ?b); (case a => walk_at "ev"); (case b => walk_at "el")))
local macro_rules | `(tactic| walk_at "ev") => `(tactic| first
  | exact ev_c
  | exact ev_var rfl
  | ((with_reducible refine' ev_opI0 ?a ?b); (case a => walk_at "ev"); (case b => walk_at "ev"))
  | ((with_reducible refine' ev_opI ?a ?b ?c); (case a => walk_at "ev"); (case b => walk_at "ev"); (case c => walk_at "ar"))
  | ((with_reducible refine' ev_un ?a); (case a => walk_at "ev"))
  | ((with_reducible refine' ev_eqI ?a ?b); (case a => walk_at "ev"); (case b => walk_at "ev"))
  | ((with_reducible refine' ev_eqS ?a ?b); (case a => walk_at "ev"); (case b => walk_at "ev"))
  | ((with_reducible refine' ev_neI ?a ?b); (case a => walk_at "ev"); (case b => walk_at "ev"))
  | ((with_reducible refine' ev_eqB ?a ?b); (case a => walk_at "ev"); (case b => walk_at "ev"))
  | ((with_reducible refine' ev_max2 ?a ?b); (case a => walk_at "ev"); (case b => walk_at "ev"))
  | ((with_reducible refine' ev_min2 ?a ?b); (case a => walk_at "ev"); (case b => walk_at "ev"))
  | ((with_reducible refine' ev_isB ?a); (case a => walk_at "ev"))
  | ((with_reducible refine' ev_isI ?a); (case a => walk_at "ev"))
  | ((with_reducible refine' ev_menu ?a ?b ?c ?d ?e); (case a => walk_at "il"); (case b => walk_at "ev"); (case c => walk_at "ar"); (case d => walk_at "ar"); (case e => decide))
  | ((with_reducible refine' ev_len ?a ?b); (case a => walk_at "ev"); (case b => walk_at "sq"))
  | ((with_reducible refine' ev_lenT ?a ?b); (case a => walk_at "ev"); (case b => walk_at "sq"))
  | ((with_reducible refine' ev_and ?a ?b); (case a => walk_at "ev"); (case b => intro _; walk_at "ev"))
  | ((with_reducible refine' ev_or ?a ?b); (case a => walk_at "ev"); (case b => intro _; walk_at "ev"))
  | ((with_reducible refine' ev_chain ?a ?b ?c); (case a => walk_at "ev"); (case b => walk_at "ev"); (case c => walk_at "ev"))
  | ((with_reducible refine' ev_not ?a); (case a => walk_at "ev")))
local macro_rules | `(tactic| walk_at "et") => `(tactic| first
  | ((with_reducible refine' evt_test ?a); (case a => walk_at "ev"))
  | ((with_reducible refine' evt_ch3 ?a ?b ?c ?d); (case a => walk_at "ev"); (case b => walk_at "ev"); (case c => walk_at "ev"); (case d => walk_at "ev"))
  | ((with_reducible refine' evt_b ?a); (case a => walk_at "ev"))
  | ((with_reducible refine' evt_and ?a ?b); (case a => walk_at "et"); (case b => intro _; walk_at "et"))
  | ((with_reducible refine' evt_or ?a ?b); (case a => walk_at "et"); (case b => intro _; walk_at "et"))
  | ((with_reducible refine' evt_not ?a); (case a => walk_at "et")))

local macro_rules | `(tactic| walk_at "ev") => `(tactic| first
  | ((with_reducible refine' ev_wSide ?a ?b ?c ?d); (case a => walk_at "ev"); (case b => walk_at "ev"); (case c => walk_at "sq"); (case d => walk_at "ar"))
  | ((with_reducible refine' ev_wLim ?a ?b ?c ?d); (case a => walk_at "ev"); (case b => walk_at "ev"); (case c => walk_at "sq"); (case d => walk_at "ar"))
  | ((with_reducible refine' ev_wAmt ?a ?b ?c ?d); (case a => walk_at "ev"); (case b => walk_at "ev"); (case c => walk_at "sq"); (case d => walk_at "ar"))
  | ((with_reducible refine' ev_ixN ?a ?b ?c ?d); (case a => walk_at "ev"); (case b => walk_at "ev"); (case c => walk_at "sq"); (case d => walk_at "ar"))
  | ((with_reducible refine' ev_lenW ?a ?b); (case a => walk_at "ev"); (case b => walk_at "sq")))

section
variable {P : Program} {w : World} {K : PySem.W.Frag} {mg : Str → Option Value} {base : Heap}
/-! ### _law_cell_at -/
def spCell (K : PySem.W.Frag) : Sp := fun vs H Q _ => ∃ (a : Addr) (ns : List Int) (k : Int), vs = [.ref a, .int k] ∧ SqL K H a (ns.map V.int) ∧ 0 ≤ k ∧ ∀ H', Sm H H' → Q (.int (ns.getD k.toNat 0)) H'
theorem ev_cell {K : PySem.W.Frag} {σ : L2.St} {H : Hp} {ta tb : TE} {E : XK} {a : Addr} {ns : List Int} {k : Int} (ha : Ev ta σ H (.ref a)) (hb : Ev tb σ H (.int k)) (hS : SqL K H a (ns.map V.int)) (hk : 0 ≤ k) :
    Ev (tCall (spCell K) [] E (tCons ta (tCons tb tNil))) σ H (.int (ns.getD k.toNat 0)) :=
  ev_call (evl_cons ha (evl_cons hb evl_nil)) fun H1 S Q q => ⟨a, ns, k, rfl, S.sql hS, hk, q⟩
local macro_rules | `(tactic| walk_at "ev") => `(tactic| ((with_reducible refine' ev_cell ?a ?b ?c ?d); (case a => walk_at "ev"); (case b => walk_at "ev"); (case c => walk_at "sq"); (case d => walk_at "ar")))
theorem ok__law_cell_at (T : Txt K mg) : FnOk P w K mg base CX0 1 T.f__law_cell_at T.d__law_cell_at ["_law_script", "_law_k"] (spCell K) := by
  refine T.D__law_cell_at.F.ok sc__law_cell_at (fun vs H Q E h => ?_) (fun cdv A outer s H vs Q E hr h => ?_)
  · obtain ⟨a, ns, k, rfl, _⟩ := h
    rfl
  · obtain ⟨a, ns, k, rfl, hS, hk, q⟩ := h
    refine ⟨_, (pss_cons (ps_if (pt_cmpR op_lt (pv 1) (pe_callB call_len_seq (by rfl) T.n_len PySem.boot_len (pa_cons (pv 0) pa_nil)) (nomark _))
    (pss_one (ps_ret (pe_ix (r := rIxL K) ix_list (pv 0) (pv 1) (fun _ _ => rfl))))
    pss_nil)
  (pss_one (ps_ret pe_int))), ?_⟩
    try dsimp only [cxOf, Cx.nox, Cx.wish]
    refine qs_if (by walk_at "et") (fun e H1 S1 => ?_) (fun e H1 S1 => ?_)
    · rw [List.length_map] at e
      have e1 : k < (ns.length : Int) := of_decide_eq_true e
      have e2 : k.toNat < ns.length := by omega
      refine q_ret (v := .int (ns.getD k.toNat 0)) (ev_ixL (by walk_at "ev") (by walk_at "ev") (by walk_at "sq") (at_of (j := k.toNat) (by omega) ?_)) fun H2 S2 => ?_
      · rw [List.getElem?_map, List.getElem?_eq_getElem e2, List.getD_eq_getElem?_getD, List.getElem?_eq_getElem e2]
        rfl
      · exact q H2 (S1.trans S2)
    · rw [List.length_map] at e
      have e1 : ¬ k < (ns.length : Int) := of_decide_eq_false e
      refine q_ret ev_c fun H2 S2 => ?_
      have q2 := q H2 (S1.trans S2)
      rw [List.getD_eq_getElem?_getD, List.getElem?_eq_none (by omega)] at q2
      exact q2

/-! ### _law_whole -/
/-- whether a value is a whole number, of those that occur -/
def wholeV : V → Bool
  | .int _ => true
  | _ => false
/-- a value whose kind is known -/
def KindV (K : PySem.W.Frag) (v : V) (H : Hp) : Prop := ∃ t : String, (∀ H', Sm H H' → TyX K H' v (.type t)) ∧ (kitB t "int" = some (wholeV v || t == "bool")) ∧ kitB t "bool" = some (t == "bool") ∧ (wholeV v = true → t ≠ "bool")
theorem kind_int {K : PySem.W.Frag} {i : Int} {H : Hp} : KindV K (.int i) H := ⟨"int", fun H' _ => .base (.int i), (by show kitB "int" "int" = some true; decide +kernel), by decide +kernel, fun _ => by decide⟩
def spWhole (K : PySem.W.Frag) : Sp := fun vs H Q _ => ∃ v, vs = [v] ∧ KindV K v H ∧ ∀ H', Sm H H' → Q (.bl (wholeV v)) H'
theorem ev_whole {K : PySem.W.Frag} {σ : L2.St} {H : Hp} {ta : TE} {E : XK} {v : V} (ha : Ev ta σ H v) (hk : ∀ H', Sm H H' → KindV K v H') : Ev (tCall (spWhole K) [] E (tCons ta tNil)) σ H (.bl (wholeV v)) :=
  ev_call (evl_cons ha evl_nil) fun H1 S Q q => ⟨v, rfl, hk H1 S, q⟩
theorem ev_wholeI {K : PySem.W.Frag} {σ : L2.St} {H : Hp} {ta : TE} {E : XK} {i : Int} (ha : Ev ta σ H (.int i)) : Ev (tCall (spWhole K) [] E (tCons ta tNil)) σ H (.bl true) :=
  ev_whole ha fun _ _ => kind_int
local macro_rules | `(tactic| walk_at "ev") => `(tactic| ((with_reducible refine' ev_wholeI ?a); (case a => walk_at "ev")))
theorem ok__law_whole (T : Txt K mg) : FnOk P w K mg base CX0 1 T.f__law_whole T.d__law_whole ["_law_thing"] (spWhole K) := by
  refine T.D__law_whole.F.ok sc__law_whole (fun vs H Q E h => ?_) (fun cdv A outer s H vs Q E hr h => ?_)
  · obtain ⟨v, rfl, _⟩ := h
    rfl
  · obtain ⟨v, rfl, ⟨t, ht, k1, k2, k3⟩, q⟩ := h
    refine ⟨_, (pss_one (ps_ret (pe_and (pe_callB call_isi (by rfl) T.n_isinstance (by decide +kernel) (pa_cons (pv 0) (pa_cons (pe_bltn (v := .ty "int") (by rfl) T.n_int (by decide +kernel) rfl) pa_nil))) (pe_one (pe_not (pe_callB call_isi (by rfl) T.n_isinstance (by decide +kernel) (pa_cons (pv 0) (pa_cons (pe_bltn (v := .ty "bool") (by rfl) T.n_bool (by decide +kernel) rfl) pa_nil)))))))), ?_⟩
    try dsimp only [cxOf, Cx.nox, Cx.wish]
    refine q_ret (ev_and (ev_isi (ev_var rfl) ev_c (.ty "int") ht (kit_ty k1)) fun _ => ev_not (ev_isi (ev_var rfl) ev_c (.ty "bool") ht (kit_ty k2))) fun H1 S1 => ?_
    have q1 := q H1 S1
    have e : ((wholeV v || t == "bool") && !(t == "bool")) = wholeV v := by
      cases h : wholeV v with
      | false => cases t == "bool" <;> rfl
      | true =>
        have h2 := k3 h
        rw [beq_eq_false_iff_ne.mpr h2]
        rfl
    rw [e]
    exact q1

/-! ### is_number -/
def spNum (K : PySem.W.Frag) : Sp := fun vs H Q _ => ∃ (v : V) (lo hi : Int), vs = [v, .int lo, .int hi] ∧ Kn K v H ∧ ∀ H', Sm H H' → Q (.bl (numV lo hi v)) H'
theorem ev_num {K : PySem.W.Frag} {σ : L2.St} {H : Hp} {ta tb tc : TE} {E : XK} {v : V} {lo hi : Int} (ha : Ev ta σ H v) (hb : Ev tb σ H (.int lo)) (hc : Ev tc σ H (.int hi)) (hk : Kn K v H) : Ev (tCall (spNum K) [] E (tCons ta (tCons tb (tCons tc tNil)))) σ H (.bl (numV lo hi v)) :=
  ev_call (evl_cons ha (evl_cons hb (evl_cons hc evl_nil))) fun H1 S Q q => ⟨v, lo, hi, rfl, hk.sm S, q⟩
theorem ok_is_number (T : Txt K mg) : FnOk P w K mg base CX0 1 T.f_is_number T.d_is_number ["thing", "least", "most"] (spNum K) := by
  refine T.D_is_number.F.ok sc_is_number (fun vs H Q E h => ?_) (fun cdv A outer s H vs Q E hr h => ?_)
  · obtain ⟨v, lo, hi, rfl, _⟩ := h
    rfl
  · obtain ⟨v, lo, hi, rfl, ⟨k, hk, hm⟩, q⟩ := h
    refine ⟨_, (pss_one (ps_ret (pe_and (pe_cmpR op_eqT (pe_callTy call_type1 (by rfl) T.n_type (by decide +kernel) (pa_cons (pv 0) pa_nil)) (pe_bltn (v := .ty "int") (by rfl) T.n_int (by decide +kernel) rfl) (nomark _)) (pe_one (pe_chain op_le op_le (pv 1) (pv 0) (pv 2)))))), ?_⟩
    try dsimp only [cxOf, Cx.nox, Cx.wish]
    by_cases e : k = "int"
    · obtain ⟨i, rfl⟩ := tyB_int hk e
      refine q_ret (v := .bl (numV lo hi (.int i))) ((ev_and (ev_eqT (ev_type (ev_var rfl) hk) ev_c hm (by decide)) fun _ => ev_chain (ev_var rfl) (ev_var rfl) (ev_var rfl)).to ?_) fun H1 S1 => q H1 S1
      rw [decide_eq_true e]
      rfl
    · refine q_ret (v := .bl (numV lo hi v)) ((ev_and (c := false) (ev_eqT (ev_type (ev_var rfl) hk) ev_c hm (by decide)) fun z => absurd (of_decide_eq_true z) e).to ?_) fun H1 S1 => q H1 S1
      rw [decide_eq_false e, numV_no hk e]
      rfl

/-! ### is_side -/
def spSide (K : PySem.W.Frag) : Sp := fun vs H Q _ => ∃ v : V, vs = [v] ∧ Kn K v H ∧ ∀ H', Sm H H' → Q (.bl (sideV v)) H'
theorem ev_side {K : PySem.W.Frag} {σ : L2.St} {H : Hp} {ta : TE} {E : XK} {v : V} (ha : Ev ta σ H v) (hk : Kn K v H) : Ev (tCall (spSide K) [] E (tCons ta tNil)) σ H (.bl (sideV v)) :=
  ev_call (evl_cons ha evl_nil) fun H1 S Q q => ⟨v, rfl, hk.sm S, q⟩
theorem in_side (s : Str) : inV (.str s) [.str (PySem.Str.ofString "buy"), .str (PySem.Str.ofString "sell")] = sideV (.str s) := by
  show ((PySem.Str.ofString "buy" == s) || ((PySem.Str.ofString "sell" == s) || false)) = (decide (s = (PySem.Str.ofString "buy")) || decide (s = (PySem.Str.ofString "sell")))
  rw [Bool.or_false]
  congr 1
  · rw [Bool.eq_iff_iff]
    simp only [beq_iff_eq, decide_eq_true_iff]
    exact eq_comm
  · rw [Bool.eq_iff_iff]
    simp only [beq_iff_eq, decide_eq_true_iff]
    exact eq_comm
theorem ok_is_side (T : Txt K mg) : FnOk P w K mg base CX0 1 T.f_is_side T.d_is_side ["thing"] (spSide K) := by
  refine T.D_is_side.F.ok sc_is_side (fun vs H Q E h => ?_) (fun cdv A outer s H vs Q E hr h => ?_)
  · obtain ⟨v, rfl, _⟩ := h
    rfl
  · obtain ⟨v, rfl, ⟨k, hk, hm⟩, q⟩ := h
    refine ⟨_, (pss_one (ps_ret (pe_and (pe_cmpR op_eqT (pe_callTy call_type1 (by rfl) T.n_type (by decide +kernel) (pa_cons (pv 0) pa_nil)) (pe_bltn (v := .ty "str") (by rfl) T.n_str (by decide +kernel) rfl) (nomark _)) (pe_one (pe_cmpR op_in_seq (pv 0) (pe_tup (pa_cons pe_str (pa_cons pe_str pa_nil))) (by rfl)))))), ?_⟩
    try dsimp only [cxOf, Cx.nox, Cx.wish]
    by_cases e : k = "str"
    · obtain ⟨i, rfl⟩ := tyB_str hk e
      refine q_ret (v := .bl (sideV (.str i))) ((ev_and (ev_eqT (ev_type (ev_var rfl) hk) ev_c hm (by decide)) fun _ => ev_inT (ev_var rfl) (evl_cons ev_c (evl_cons ev_c evl_nil)) rfl rfl (by decide)).to ?_) fun H1 S1 => q H1 S1
      rw [decide_eq_true e, in_side]
      rfl
    · refine q_ret (v := .bl (sideV v)) ((ev_and (c := false) (ev_eqT (ev_type (ev_var rfl) hk) ev_c hm (by decide)) fun z => absurd (of_decide_eq_true z) e).to ?_) fun H1 S1 => q H1 S1
      rw [decide_eq_false e, sideV_no hk e]
      rfl

/-! ### checked -/
def goodV (x y z : V) : Bool := sideV x && (numV 0 1000000000 y && numV 1 1000000 z)
/-- what is no wish -/
def BadV (K : PySem.W.Frag) (v : V) (H : Hp) : Prop :=
  (∃ T, L2.TyB K H v T ∧ T ∈ tyL ∧ T ≠ "tuple") ∨ ∃ a xs, v = .ref a ∧ SqT K H a xs ∧ (xs.length ≠ 3 ∨ ∃ x y z, xs = [x, y, z] ∧ Kn K x H ∧ Kn K y H ∧ Kn K z H ∧ goodV x y z = false)
theorem BadV.sm {K : PySem.W.Frag} {v : V} {H H' : Hp} (S : Sm H H') (h : BadV K v H) : BadV K v H' := by
  rcases h with ⟨T, h1, h2, h3⟩ | ⟨a, xs, e, h, z⟩
  · exact .inl ⟨T, tyB_sm S h1, h2, h3⟩
  · refine .inr ⟨a, xs, e, S.sqt h, ?_⟩
    rcases z with z | ⟨x, y, z, e, k1, k2, k3, g⟩
    · exact .inl z
    · exact .inr ⟨x, y, z, e, k1.sm S, k2.sm S, k3.sm S, g⟩
def spChecked (K : PySem.W.Frag) (C : Addr) : Sp := fun vs H Q E => ∃ v : V, vs = [v] ∧
  ((BadV K v H ∧ ∀ H', Sm H H' → E (.ref C) none H') ∨ ∃ a x y z, v = .ref a ∧ SqT K H a [x, y, z] ∧ Kn K x H ∧ Kn K y H ∧ Kn K z H ∧ goodV x y z = true ∧ ∀ H', Sm H H' → Q v H')
theorem ok_checked (T : Txt K mg) : FnOk P w K mg base (L2.CX P w) 3 T.f_checked T.d_checked ["thing"] (spChecked K T.a_BadWish) := by
  have G_is_number : FnOk P w K mg base CX0 1 T.f_is_number T.d_is_number ["thing", "least", "most"] (spNum K) := ok_is_number T
  have G_is_side : FnOk P w K mg base CX0 1 T.f_is_side T.d_is_side ["thing"] (spSide K) := ok_is_side T
  refine T.D_checked.F.okX sc_checked (fun vs H Q E h => ?_) (fun cdv A outer s H vs Q E hr h => ?_)
  · obtain ⟨v, rfl, _⟩ := h
    rfl
  · obtain ⟨v, rfl, h⟩ := h
    refine ⟨_, (pss_cons (ps_if (PW.pt (pw_or (pt_cmpR op_neT (pe_callTy call_type1 (by rfl) T.n_type (by decide +kernel) (pa_cons (pv 0) pa_nil)) (pe_bltn (v := .ty "tuple") (by rfl) T.n_tuple (by decide +kernel) rfl) (nomark _)) (pw_or1 (pt_cmpR op_ne (pe_callB call_len_seq (by rfl) T.n_len PySem.boot_len (pa_cons (pv 0) pa_nil)) pe_int (nomark _)))))
    (pss_one (ps_raise rfl (takes_of rfl rfl rfl rfl) (pmk_own PySem.F.excBase_ValueError T.R_BadWish.ex T.g_BadWish T.R_BadWish.kp (raises_own T.R_BadWish.be T.R_BadWish.ty) (by rfl))))
    pss_nil)
  (pss_cons (ps_asg (pv 0) (pg_tup (by rfl) (pgs_cons (pg_name (i := 1) sc_checked.nd rfl (.inl rfl)) (pgs_cons (pg_name (i := 2) sc_checked.nd rfl (.inl rfl)) (pgs_cons (pg_name (i := 3) sc_checked.nd rfl (.inl rfl)) pgs_nil)))))
  (pss_cons (ps_if (pt_not (pt_val (pe_call G_is_side (hr.mono (by decide)) (by rfl) T.D_is_side.g T.D_is_side.F.kp T.D_is_side.b .nil pass0 (pa_cons (pv 1) pa_nil))))
    (pss_one (ps_raise rfl (takes_of rfl rfl rfl rfl) (pmk_own PySem.F.excBase_ValueError T.R_BadWish.ex T.g_BadWish T.R_BadWish.kp (raises_own T.R_BadWish.be T.R_BadWish.ty) (by rfl))))
    pss_nil)
  (pss_cons (ps_if (pt_not (pt_val (pe_call G_is_number (hr.mono (by decide)) (by rfl) T.D_is_number.g T.D_is_number.F.kp T.D_is_number.b .nil pass0 (pa_cons (pv 2) (pa_cons pe_int (pa_cons (pe_glob (v := .int 1000000000) (by rfl) T.c_TOP ⟨_, rfl⟩) pa_nil))))))
    (pss_one (ps_raise rfl (takes_of rfl rfl rfl rfl) (SkE.pmk_own1 PySem.F.excBase_ValueError T.R_BadWish.ex T.g_BadWish T.R_BadWish.kp (raises_own T.R_BadWish.be T.R_BadWish.ty) (by rfl) (pe_joined (.cons pe_str (.cons (pe_fmt (pe_glob (v := .int 1000000000) (by rfl) T.c_TOP ⟨_, rfl⟩)) .nil))))))
    pss_nil)
  (pss_cons (ps_if (pt_not (pt_val (pe_call G_is_number (hr.mono (by decide)) (by rfl) T.D_is_number.g T.D_is_number.F.kp T.D_is_number.b .nil pass0 (pa_cons (pv 3) (pa_cons pe_int (pa_cons (pe_glob (v := .int 1000000) (by rfl) T.c_MOST ⟨_, rfl⟩) pa_nil))))))
    (pss_one (ps_raise rfl (takes_of rfl rfl rfl rfl) (SkE.pmk_own1 PySem.F.excBase_ValueError T.R_BadWish.ex T.g_BadWish T.R_BadWish.kp (raises_own T.R_BadWish.be T.R_BadWish.ty) (by rfl) (pe_joined (.cons pe_str (.cons (pe_fmt (pe_glob (v := .int 1000000) (by rfl) T.c_MOST ⟨_, rfl⟩)) .nil))))))
    pss_nil)
  (pss_one (ps_ret (pv 0)))))))), ?_⟩
    try dsimp only [cxOf, Cx.wish]
    -- the three parts, of their kinds
    have h2 : ((∃ k, L2.TyB K H v k ∧ k ∈ tyL ∧ k ≠ "tuple") ∨ (∃ a xs, v = .ref a ∧ SqT K H a xs ∧ xs.length ≠ 3)) ∧ (∀ H', Sm H H' → E (.ref T.a_BadWish) none H') ∨
        ∃ a x y z, v = .ref a ∧ SqT K H a [x, y, z] ∧ Kn K x H ∧ Kn K y H ∧ Kn K z H ∧ (goodV x y z = false → ∀ H', Sm H H' → E (.ref T.a_BadWish) none H') ∧ (goodV x y z = true → ∀ H', Sm H H' → Q v H') := by
      rcases h with ⟨hbad, hE⟩ | ⟨a, x, y, z, ev, hS, kx, ky, kz, g, hQ⟩
      · rcases hbad with hh | ⟨a, xs, ev, hS, hl | ⟨x, y, z, exs, kx, ky, kz, g⟩⟩
        · exact .inl ⟨.inl hh, hE⟩
        · exact .inl ⟨.inr ⟨a, xs, ev, hS, hl⟩, hE⟩
        · rw [exs] at hS
          exact .inr ⟨a, x, y, z, ev, hS, kx, ky, kz, fun _ => hE, fun z => by rw [g] at z; cases z⟩
      · exact .inr ⟨a, x, y, z, ev, hS, kx, ky, kz, (fun z => by rw [g] at z; cases z), fun _ => hQ⟩
    rcases h2 with ⟨⟨k, hk, hm, hn⟩ | ⟨a, xs, ev, hS, hl⟩, hE⟩ | ⟨a, x, y, z, ev, hS, kx, ky, kz, hb, hg⟩
    · refine qs_if (b := true) ((evt_or (c := false) (evt_b (ev_neT (ev_type (ev_var rfl) hk) ev_c hm (by decide))) fun z => ?_).to ?_) (fun e H1 S1 => ?_) (fun e => by cases e)
      · rw [decide_eq_false hn] at z
        cases z
      · rw [decide_eq_false hn]
        rfl
      · exact hE H1 S1
    · subst ev
      refine qs_if (b := true) ((evt_or (evt_b (ev_neT (ev_type (ev_var rfl) (.tup hS)) ev_c (by decide) (by decide))) fun _ => evt_b (ev_neI (ev_lenT (ev_var rfl) hS) ev_c)).to ?_) (fun e H1 S1 => ?_) (fun e => by cases e)
      · rw [decide_eq_false (show ¬ ((xs.length : Int) = 3) by omega)]
        rfl
      · exact hE H1 S1
    · subst ev
      refine qs_if (evt_or (evt_b (ev_neT (ev_type (ev_var rfl) (.tup hS)) ev_c (by decide) (by decide))) fun _ => evt_b (ev_neI (ev_lenT (ev_var rfl) hS) ev_c)) (fun e H1 S1 => ?_) (fun e H1 S1 => ?_)
      · exact absurd e (by simp)
      · refine qs_tup (ev_var rfl) (S1.sqt hS) rfl fun H2 S2 => ?_
        have S02 := S1.trans S2
        refine ⟨x, _, rfl, y, _, rfl, z, _, rfl, rfl, ?_⟩
        show tSeq _ _ _ (some (.ref a) :: some x :: some y :: some z :: []) H2
        refine qs_if (evt_not (evt_b (ev_side (ev_var rfl) (kx.sm S02)))) (fun e H3 S3 => ?_) (fun e H3 S3 => ?_)
        · exact hb (by unfold goodV; rw [show sideV x = false by simpa using e]; rfl) H3 (S02.trans S3)
        · have gx : sideV x = true := by simpa using e
          have S03 := S02.trans S3
          refine qs_if (evt_not (evt_b (ev_num (ev_var rfl) ev_c ev_c (ky.sm S03)))) (fun e H4 S4 => ?_) (fun e H4 S4 => ?_)
          · exact js2 _ ev_c (by decide) (by decide) (by decide +kernel) fun H5 S5 => hb (by unfold goodV; rw [gx, show numV 0 1000000000 y = false by simpa using e]; rfl) H5 (S03.trans (S4.trans S5))
          · have gy : numV 0 1000000000 y = true := by simpa using e
            have S04 := S03.trans S4
            refine qs_if (evt_not (evt_b (ev_num (ev_var rfl) ev_c ev_c (kz.sm S04)))) (fun e H5 S5 => ?_) (fun e H5 S5 => ?_)
            · exact js2 _ ev_c (by decide) (by decide) (by decide +kernel) fun H6 S6 => hb (by unfold goodV; rw [gx, gy, show numV 1 1000000 z = false by simpa using e]; rfl) H6 (S04.trans (S5.trans S6))
            · have gz : numV 1 1000000 z = true := by simpa using e
              refine q_ret (ev_var rfl) fun H6 S6 => ?_
              exact hg (by unfold goodV; rw [gx, gy, gz]; rfl) H6 (S04.trans (S5.trans S6))

/-! ### shown -/
def spShown (K : PySem.W.Frag) : Sp := fun vs H Q _ => ∃ (v : V) (w : Wish), vs = [v] ∧ WishV K H v w ∧ w.Good ∧ ∀ H', Sm H H' → Q (.str (((((Str.empty ++ w.side) ++ sBlank) ++ (toString w.amt : Str)) ++ (PySem.Str.ofString " at ")) ++ (toString w.lim : Str))) H'
theorem lens {a b : Str} {n m : Nat} (h1 : a.length ≤ n) (h2 : b.length ≤ m) : (a ++ b).length ≤ n + m := by
  rw [PySem.Str.length_append]
  omega
theorem ok_shown (T : Txt K mg) : FnOk P w K mg base CX0 1 T.f_shown T.d_shown ["wish"] (spShown K) := by
  refine T.D_shown.F.ok sc_shown (fun vs H Q E h => ?_) (fun cdv A outer s H vs Q E hr h => ?_)
  · obtain ⟨v, w, rfl, _⟩ := h
    rfl
  · obtain ⟨v, w, rfl, ⟨t, rfl, ht⟩, hg, q⟩ := h
    refine ⟨_, (pss_cons (ps_asg (pv 0) (pg_tup (by rfl) (pgs_cons (pg_name (i := 1) sc_shown.nd rfl (.inl rfl)) (pgs_cons (pg_name (i := 2) sc_shown.nd rfl (.inl rfl)) (pgs_cons (pg_name (i := 3) sc_shown.nd rfl (.inl rfl)) pgs_nil)))))
  (pss_one (ps_ret (pe_joined (.cons (pe_fmt (pv 1)) (.cons pe_str (.cons (pe_fmt (pv 3)) (.cons pe_str (.cons (pe_fmt (pv 2)) .nil))))))))), ?_⟩
    try dsimp only [cxOf, Cx.nox, Cx.wish]
    have l0 := hg.l0
    have l1 := hg.l1
    have a0 := hg.a0
    have a1 := hg.a1
    have h1 := side_len w.buy
    have h2 : (toString w.amt : Str).length ≤ 10 := text_len (by omega) (by omega)
    have h3 : (toString w.lim : Str).length ≤ 10 := text_len l0 l1
    have zz : 1000 ≤ sizeLine := by decide
    have e0 : Str.empty.length ≤ 0 := by decide +kernel
    have e1 : sBlank.length ≤ 1 := by decide +kernel
    have e2 : (PySem.Str.ofString " at ").length ≤ 4 := by decide +kernel
    have k1 := lens e0 h1
    have k2 := lens k1 e1
    have k3 := lens k2 h2
    have k4 := lens k3 e2
    have k5 := lens k4 h3
    refine qs_tup (ev_var rfl) ht rfl fun H1 S1 => ?_
    refine ⟨_, _, rfl, _, _, rfl, _, _, rfl, rfl, ?_⟩
    show tRet _ _ (some (.ref t) :: some (.str w.side) :: some (.int w.lim) :: some (.int w.amt) :: []) H1
    refine q_ret (ev_joined (evj_s (ev_var rfl) (Nat.le_trans h1 (by decide)) (Nat.le_trans k1 (by omega)) (evj_c (Nat.le_trans k2 (by omega)) (evj_i (ev_var rfl) (log_small (by omega) (by omega)) (Nat.le_trans k3 (by omega)) (evj_c (Nat.le_trans k4 (by omega)) (evj_i (ev_var rfl) (log_small l0 l1) (Nat.le_trans k5 (by omega)) evj_nil)))))) fun H2 S2 => q H2 (S1.trans S2)
/-! ### is_written_number -/
def spWN (K : PySem.W.Frag) : Sp := fun vs H Q _ => ∃ z : Str, vs = [.str z] ∧ z.length ≤ 1000 ∧ ∀ H', Sm H H' → Q (.bl (isNum z)) H'
theorem ev_wn {K : PySem.W.Frag} {σ : L2.St} {H : Hp} {ta : TE} {E : XK} {z : Str} (ha : Ev ta σ H (.str z)) (hz : z.length ≤ 1000) : Ev (tCall (spWN K) [] E (tCons ta tNil)) σ H (.bl (isNum z)) :=
  ev_call (evl_cons ha evl_nil) fun H1 S Q q => ⟨z, rfl, hz, q⟩
theorem head_at {z : Str} (h : 1 ≤ z.length) : ∃ c, atI z.cps.toList 0 = some c ∧ z.cps.toList.head? = some c := by
  have hl := len_list z
  generalize z.cps.toList = l at hl
  match l, hl with
  | [], hl => simp at hl; omega
  | c :: l, _ => exact ⟨c, by simp [atI, ixN], rfl⟩
theorem all_digs {z : Str} : (((kept (fun _ => true) z.length).map fun i => decide (z.cps.toList.getD i 0 ∈ figs.cps.toList)).all id) = digs z := by
  unfold kept digs
  rw [List.filter_eq_self.mpr fun _ _ => rfl, Bool.eq_iff_iff, List.all_eq_true, List.all_eq_true]
  have hl := len_list z
  constructor
  · intro h c hc
    obtain ⟨i, hi, e⟩ := List.mem_iff_getElem.mp hc
    have := h _ (List.mem_map.mpr ⟨i, List.mem_range.mpr (by omega), rfl⟩)
    rw [List.getD_eq_getElem?_getD, List.getElem?_eq_getElem hi, e] at this
    exact this
  · intro h x hx
    obtain ⟨i, hi, rfl⟩ := List.mem_map.mp hx
    have hi' : i < z.cps.toList.length := by rw [hl]; exact List.mem_range.mp hi
    rw [List.getD_eq_getElem?_getD, List.getElem?_eq_getElem hi']
    exact h _ (List.getElem_mem hi')
theorem ok_is_written_number (T : Txt K mg) : FnOk P w K mg base CX0 1 T.f_is_written_number T.d_is_written_number ["word"] (spWN K) := by
  refine T.D_is_written_number.F.ok sc_is_written_number (fun vs H Q E h => ?_) (fun cdv A outer s H vs Q E hr h => ?_)
  · obtain ⟨z, rfl, _⟩ := h
    rfl
  · obtain ⟨z, rfl, hz, q⟩ := h
    refine ⟨_, (pss_cons (ps_if (pt_not (pt_chain op_le op_le pe_int (pe_callB call_len_str (by rfl) T.n_len PySem.boot_len (pa_cons (pv 0) pa_nil)) (pe_glob (v := .int 60) (by rfl) T.c_MOST_FIGURES ⟨_, rfl⟩)))
    (pss_one (ps_ret pe_bl))
    pss_nil)
  (pss_cons (ps_if (pt_cmpR op_eq (pe_ix ix_str (pv 0) pe_int (fun _ _ => rfl)) pe_str (nomark _))
    (pss_one (ps_ret (pe_cmpR op_eq (pv 0) pe_str (nomark _))))
    pss_nil)
  (pss_one (ps_ret (pe_callB (cr_all (by rfl)) (by rfl) T.n_all (by decide +kernel) (pa_cons (pe_lc (own := [("sign", 1)]) (g := (gName 1)) (by rfl) sc_is_written_number.nd (pi_str (pv 0)) (blkOk_by (own := [("sign", 1)]) (N := names_is_written_number) (sc := defScope s_is_written_number) (by decide +kernel)) (fun _ _ _ _ _ => (pg_name (i := 1) sc_is_written_number.nd rfl (Or.inl rfl))) (fun _ _ _ _ _ => pts_nil) (fun _ _ _ _ _ => (pe_cmpR op_in_sign (pv 1) (pe_glob (v := .str (PySem.Str.ofString "0123456789")) (by rfl) T.c_FIGURES ⟨_, rfl⟩) (by rfl)))) pa_nil)))))), ?_⟩
    try dsimp only [cxOf, Cx.nox, Cx.wish]
    have zz : 1000 ≤ sizeLine := by decide
    refine qs_if (evt_not (evt_b (ev_chain ev_c (ev_lenS (ev_var rfl) (by omega)) ev_c))) (fun e H1 S1 => ?_) (fun e H1 S1 => ?_)
    · refine q_ret (ev_c.to ?_) fun H2 S2 => q H2 (S1.trans S2)
      congr 1
      unfold isNum
      have e1 : (decide ((1 : Int) ≤ (z.length : Int)) && decide ((z.length : Int) ≤ 60)) = false := by
        cases h : (decide ((1 : Int) ≤ (z.length : Int)) && decide ((z.length : Int) ≤ 60)) with
        | false => rfl
        | true => rw [h] at e; cases e
      by_cases h1 : 1 ≤ z.length
      · have h2 : ¬ z.length ≤ 60 := fun h => by
          rw [decide_eq_true (show (1 : Int) ≤ (z.length : Int) by omega), decide_eq_true (show (z.length : Int) ≤ 60 by omega)] at e1
          cases e1
        rw [decide_eq_false h2, Bool.false_and, Bool.and_false]
      · rw [decide_eq_false h1, Bool.false_and]
    · have e1 : (decide ((1 : Int) ≤ (z.length : Int)) && decide ((z.length : Int) ≤ 60)) = true := by simpa using e
      have e2 := Bool.and_eq_true_iff.mp e1
      have h1 : 1 ≤ z.length := by
        have : (1 : Int) ≤ (z.length : Int) := of_decide_eq_true e2.1
        omega
      have h2 : z.length ≤ 60 := by
        have : (z.length : Int) ≤ 60 := of_decide_eq_true e2.2
        omega
      obtain ⟨c, hc, hh⟩ := head_at h1
      have hn : isNum z = if c = 48 then decide (z = sign0) else digs z := by
        unfold isNum
        rw [decide_eq_true h1, decide_eq_true h2, Bool.true_and, Bool.true_and, hh]
        by_cases h : c = 48
        · rw [if_pos h, if_pos (by rw [h])]
        · rw [if_neg h, if_neg (fun z => h (Option.some.inj z))]
      refine qs_if (b := decide (c = 48)) (EvT.to (evt_test (ev_eqS (ev_ixS (ev_var rfl) ev_c (by omega) hc) ev_c)) sign_eq) (fun e3 H2 S2 => ?_) (fun e3 H2 S2 => ?_)
      · refine q_ret ((ev_eqS (j := sign0) (ev_var rfl) ev_c).to ?_) fun H3 S3 => q H3 (S1.trans (S2.trans S3))
        rw [hn, if_pos (of_decide_eq_true e3)]
      · refine q_ret ((ev_all (bs := (kept (fun _ => true) z.length).map fun i => decide (z.cps.toList.getD i 0 ∈ figs.cps.toList)) ((evp_lcS (K := K) (pz := fun _ => true) (P := fun i y _ => y = .bl (decide (z.cps.toList.getD i 0 ∈ figs.cps.toList))) (ev_var rfl) (fun _ _ _ _ _ e => e) (by omega) (fun i c H3 hc S3 => ⟨_, evg_name, rfl, evt_yes rfl, fun _ => ((ev_inS (z := figs) (ev_var rfl) ev_c).p).to fun v H' S e => ?_⟩)).to fun v H' S ⟨D, zs, e, nD, hD, hp⟩ => ⟨D, e, .inl (.inl ?_)⟩)).to (by rw [all_digs, hn, if_neg (of_decide_eq_false e3)])) fun H3 S3 => q H3 (S1.trans (S2.trans S3))
        · rw [e, List.getD_eq_getElem?_getD, hc]
          rfl
        · rw [hD, paired_map hp, List.map_map]
          rfl
/-! ### read -/
def spRead (K : PySem.W.Frag) (C1 C2 : Addr) : Sp := fun vs H Q E => ∃ a : Str, vs = [.str a] ∧ a.length ≤ 1000 ∧ ((Bad0 (Txt.split a sBlank) ∧ ∀ H', Sm H H' → E (.ref C1) none H') ∨ (Bad1 (Txt.split a sBlank) ∧ ∀ H', Sm H H' → E (.ref C2) none H') ∨ ∃ w, Good1 (Txt.split a sBlank) w ∧ ∀ t H', Sm H H' → H' t = some (.tup w.row) → Q (.ref t) H')
theorem four {α : Type} {l : List α} (h : l.length = 4) : ∃ a b c d, l = [a, b, c, d] := by
  match l, h with
  | [a, b, c, d], _ => exact ⟨a, b, c, d, rfl⟩
theorem in_sides (s : Str) : inV (.str s) [.str sBuy, .str sSell] = (decide (s = sBuy) || decide (s = sSell)) := in_side s
theorem side_of {s : Str} (h : (decide (s = sBuy) || decide (s = sSell)) = true) : ∃ b, s = sideS b := by
  rcases Bool.or_eq_true_iff.mp h with z | z
  · exact ⟨true, of_decide_eq_true z⟩
  · exact ⟨false, of_decide_eq_true z⟩
theorem side_no {s : Str} {b : Bool} (h : (decide (s = sBuy) || decide (s = sSell)) = false) : s ≠ sideS b := fun e => by
  rw [e] at h
  revert h
  cases b <;> decide +kernel
set_option maxHeartbeats 1000000 in
theorem ok_read (T : Txt K mg) : FnOk P w K mg base (L2.CX P w) 5 T.f_read T.d_read ["line"] (spRead K T.a_Unread T.a_BadWish) := by
  have G_is_written_number : FnOk P w K mg base CX0 1 T.f_is_written_number T.d_is_written_number ["word"] (spWN K) := ok_is_written_number T
  have G_checked : FnOk P w K mg base (L2.CX P w) 3 T.f_checked T.d_checked ["thing"] (spChecked K T.a_BadWish) := ok_checked T
  refine T.D_read.F.okX sc_read (fun vs H Q E h => ?_) (fun cdv A outer s H vs Q E hr h => ?_)
  · obtain ⟨a, rfl, _⟩ := h
    rfl
  · obtain ⟨a, rfl, hz, h⟩ := h
    refine ⟨_, (pss_cons (ps_if (pt_not (pt_val (pe_callB call_isi (by rfl) T.n_isinstance (by decide +kernel) (pa_cons (pv 0) (pa_cons (pe_bltn (v := .ty "str") (by rfl) T.n_str (by decide +kernel) rfl) pa_nil)))))
    (pss_one (ps_raise rfl (takes_of rfl rfl rfl rfl) (pmk_own PySem.F.excBase_ValueError T.R_Unread.ex T.g_Unread T.R_Unread.kp (raises_own T.R_Unread.be T.R_Unread.ty) (by rfl))))
    pss_nil)
  (pss_cons (ps_set (i := 1) sc_read.nd rfl (.inl rfl) (pe_split (pv 0) pe_str))
  (pss_cons (ps_if (pt_cmpR op_ne (pe_callB call_len_seq (by rfl) T.n_len PySem.boot_len (pa_cons (pv 1) pa_nil)) pe_int (nomark _))
    (pss_one (ps_raise rfl (takes_of rfl rfl rfl rfl) (pmk_own PySem.F.excBase_ValueError T.R_Unread.ex T.g_Unread T.R_Unread.kp (raises_own T.R_Unread.be T.R_Unread.ty) (by rfl))))
    pss_nil)
  (pss_cons (ps_asg (pv 1) (pg_lst (by rfl) (pgs_cons (pg_name (i := 2) sc_read.nd rfl (.inl rfl)) (pgs_cons (pg_name (i := 3) sc_read.nd rfl (.inl rfl)) (pgs_cons (pg_name (i := 4) sc_read.nd rfl (.inl rfl)) (pgs_cons (pg_name (i := 5) sc_read.nd rfl (.inl rfl)) pgs_nil))))))
  (pss_cons (ps_if (PW.pt (pw_or (pt_cmpR op_notIn_seq (pv 2) (pe_tup (pa_cons pe_str (pa_cons pe_str pa_nil))) (by rfl)) (pw_or1 (pt_cmpR op_ne (pv 4) pe_str (nomark _)))))
    (pss_one (ps_raise rfl (takes_of rfl rfl rfl rfl) (pmk_own PySem.F.excBase_ValueError T.R_Unread.ex T.g_Unread T.R_Unread.kp (raises_own T.R_Unread.be T.R_Unread.ty) (by rfl))))
    pss_nil)
  (pss_cons (ps_if (PW.pt (pw_or (pt_not (pt_val (pe_call G_is_written_number (hr.mono (by decide)) (by rfl) T.D_is_written_number.g T.D_is_written_number.F.kp T.D_is_written_number.b .nil pass0 (pa_cons (pv 3) pa_nil)))) (pw_or1 (pt_not (pt_val (pe_call G_is_written_number (hr.mono (by decide)) (by rfl) T.D_is_written_number.g T.D_is_written_number.F.kp T.D_is_written_number.b .nil pass0 (pa_cons (pv 5) pa_nil)))))))
    (pss_one (ps_raise rfl (takes_of rfl rfl rfl rfl) (SkE.pmk_own1 PySem.F.excBase_ValueError T.R_Unread.ex T.g_Unread T.R_Unread.kp (raises_own T.R_Unread.be T.R_Unread.ty) (by rfl) (pe_joined (.cons pe_str (.cons (pe_fmt (pe_glob (v := .int 60) (by rfl) T.c_MOST_FIGURES ⟨_, rfl⟩)) (.cons pe_str .nil)))))))
    pss_nil)
  (pss_one (ps_ret (pe_callS G_checked (hr.mono (by decide)) (by rfl) T.D_checked.g T.D_checked.F.kp T.D_checked.b (fun σ => passAt (takes_of rfl rfl rfl rfl) σ) (pa_cons (pe_tup (pa_cons (pv 2) (pa_cons (pe_callTy call_int_str (by rfl) T.n_int (by decide +kernel) (pa_cons (pv 5) pa_nil)) (pa_cons (pe_callTy call_int_str (by rfl) T.n_int (by decide +kernel) (pa_cons (pv 3) pa_nil)) pa_nil)))) pa_nil)))))))))), ?_⟩
    try dsimp only [cxOf, Cx.wish]
    have zz : 2000 ≤ sizeLine := by decide
    have hshort : ∀ y ∈ Txt.split a sBlank, y.length ≤ 1000 := fun y hy => Nat.le_trans (part_short hy) hz
    generalize hys : Txt.split a sBlank = ys at h hshort
    -- what is no form is refused
    have h0 : Bad0 ys → ∀ H', Sm H H' → E (.ref T.a_Unread) none H' := fun hb => by
      rcases h with ⟨_, hE⟩ | ⟨⟨b, am, li, f, _⟩, _⟩ | ⟨w, ⟨b, am, li, f, _⟩, _⟩
      · exact hE
      · exact absurd f (hb b am li)
      · exact absurd f (hb b am li)
    refine qs_if (b := false) (EvT.to (evt_not (evt_b (b := true) (ev_isi (x := .str a) (u := .type "str") (t := .type "str") (ev_var rfl) ev_c (.ty "str") (fun H' S' => .base (.str _)) (kit_ty (by decide +kernel))))) rfl) (fun e => by cases e) (fun e H1 S1 => ?_)
    refine qs_setP (evp_split (y := sBlank) (ev_var rfl) ev_c (by decide +kernel) (by omega)) fun v H2 S2 hv => ?_
    obtain ⟨l, rfl, nl, hl⟩ := hv
    rw [hys] at hl
    have S02 := S1.trans S2
    have hlS : ∀ {H'}, Sm H2 H' → SqL K H' l (ys.map V.str) := fun S => .inl (.inl (S.lst hl))
    refine qs_if (evt_b (ev_neI (ev_len (ev_var rfl) (hlS (Sm.refl _))) ev_c)) (fun e H3 S3 => ?_) (fun e H3 S3 => ?_)
    · refine h0 (fun b am li f => ?_) H3 (S02.trans S3)
      rw [List.length_map, f.e] at e
      simp at e
    · have e4 : ys.length = 4 := by
        rw [List.length_map] at e
        have : ((ys.length : Nat) : Int) = 4 := by simpa using e
        omega
      obtain ⟨s1, am, bt, li, rfl⟩ := four e4
      have m1 := hshort am (by simp)
      have m2 := hshort li (by simp)
      refine qs_lst (ev_var rfl) (hlS S3) rfl fun H4 S4 => ⟨_, _, rfl, _, _, rfl, _, _, rfl, _, _, rfl, rfl, ?_⟩
      have S04 := S02.trans (S3.trans S4)
      show tSeq _ _ _ (some (.str a) :: some (.ref l) :: some (.str s1) :: some (.str am) :: some (.str bt) :: some (.str li) :: []) H4
      refine qs_if (evt_or (EvT.to (evt_b (ev_notInT (K := K) (ev_var rfl) (evl_cons ev_c (evl_cons ev_c evl_nil)) rfl rfl (by decide))) (by rw [in_sides])) fun _ => evt_b (ev_ne (ev_var rfl) ev_c rfl)) (fun e5 H5 S5 => ?_) (fun e5 H5 S5 => ?_)
      · refine h0 (fun b am' li' f => ?_) H5 (S04.trans S5)
        have fe := f.e
        simp only [List.cons.injEq, and_true] at fe
        rcases Bool.or_eq_true_iff.mp e5 with z | z
        · exact side_no (b := b) (by simpa using z) fe.1
        · rw [fe.2.2.1] at z
          revert z
          decide +kernel
      · have e6 := Bool.or_eq_false_iff.mp e5
        have e61 : (decide (s1 = sBuy) || decide (s1 = sSell)) = true := by
          cases h : (decide (s1 = sBuy) || decide (s1 = sSell)) with
          | true => rfl
          | false => have := e6.1; rw [h] at this; cases this
        obtain ⟨b, rfl⟩ := side_of (s := s1) e61
        have hat : bt = sAt := by
          have : decide (V.str bt = V.str sAt) = true := by simpa using e6.2
          exact V.str.inj (of_decide_eq_true this)
        subst hat
        refine qs_if (evt_or (evt_not (evt_b (ev_wn (ev_var rfl) m1))) fun _ => evt_not (evt_b (ev_wn (ev_var rfl) m2))) (fun e7 H6 S6 => ?_) (fun e7 H6 S6 => ?_)
        · have k1 : ((Str.empty ++ (PySem.Str.ofString "a number is written by one to ")) ++ (toString (60 : Int) : Str) ++ (PySem.Str.ofString " figures, without a nought ahead")).length ≤ sizeLine := by decide +kernel
          refine js_raise (evj_c (by decide +kernel) (evj_i ev_c (by decide) (by decide +kernel) (evj_c (by decide +kernel) evj_nil))) fun H7 S7 => ?_
          refine h0 (fun b' am' li' f => ?_) H7 (S04.trans (S5.trans (S6.trans S7)))
          have fe := f.e
          simp only [List.cons.injEq, and_true, true_and] at fe
          rw [fe.2.1, fe.2.2, f.a, f.l] at e7
          simp at e7
        · have e8 := Bool.or_eq_false_iff.mp e7
          have na : isNum am = true := by simpa using e8.1
          have nl2 : isNum li = true := by simpa using e8.2
          have fm : Form [sideS b, am, sAt, li] b am li := ⟨rfl, na, nl2⟩
          obtain ⟨d1, d2, d3⟩ := isNum_digs na
          obtain ⟨g1, g2, g3⟩ := isNum_digs nl2
          have S06 := S04.trans (S5.trans S6)
          refine q_retCallS (eva_consP (evp_tup (P := fun vs _ => vs = [V.str (sideS b), V.int (intOf li), V.int (intOf am)]) K (evl_cons (ev_var rfl) (evl_cons (ev_intS (ev_var rfl) (int_of g1 g2 g3) (by omega)) (evl_cons (ev_intS (ev_var rfl) (int_of d1 d2 d3) (by omega)) evl_nil))) (fun vs H' e => by rw [e]; show 3 ≤ sizeLine; decide) (fun _ _ _ _ e => e)) (fun v H H' S ⟨t, vs, e, ht, e2⟩ => ⟨t, vs, e, S.tup ht, e2⟩) eva_nil) fun us H7 S7 hu => ?_
          obtain ⟨v, r, rfl, ⟨t, vs, rfl, ht, rfl⟩, rfl⟩ := hu
          have S07 := S06.trans S7
          refine ⟨.ref t, rfl, ?_⟩
          have hSt : SqT K H7 t [V.str (sideS b), V.int (intOf li), V.int (intOf am)] := .inl (.inl ht)
          have gv : goodV (.str (sideS b)) (.int (intOf li)) (.int (intOf am)) = (decide (1 ≤ intOf am) && decide (intOf am ≤ 1000000) && decide (intOf li ≤ 1000000000)) := by
            unfold goodV
            have n0 := intOf_nn li
            have gs : sideV (.str (sideS b)) = true := by cases b <;> decide +kernel
            rw [gs, Bool.true_and]
            show (decide (0 ≤ intOf li) && decide (intOf li ≤ 1000000000) && (decide (1 ≤ intOf am) && decide (intOf am ≤ 1000000))) = _
            rw [decide_eq_true n0, Bool.true_and, Bool.and_comm]
          by_cases hin : InB am li
          · have gt : goodV (.str (sideS b)) (.int (intOf li)) (.int (intOf am)) = true := by
              rw [gv, decide_eq_true hin.1, decide_eq_true hin.2.1, decide_eq_true hin.2.2]
              rfl
            refine .inr ⟨t, _, _, _, rfl, hSt, kn_str, kn_int, kn_int, gt, fun H8 S8 => ?_⟩
            have gw : Good1 [sideS b, am, sAt, li] (wOf b am li) := ⟨b, am, li, fm, hin, rfl⟩
            rcases h with ⟨hb, _⟩ | ⟨⟨b', am', li', f, hno⟩, _⟩ | ⟨w, hw, hQ⟩
            · exact absurd fm (hb b am li)
            · obtain ⟨_, rfl, rfl⟩ := form_one fm f
              exact absurd hin hno
            · have e9 := good1_one hw gw
              subst e9
              exact hQ t H8 (S07.trans S8) (S8.tup ht)
          · have gf : goodV (.str (sideS b)) (.int (intOf li)) (.int (intOf am)) = false := by
              rw [gv, Bool.eq_false_iff]
              intro z
              have z1 := Bool.and_eq_true_iff.mp z
              have z2 := Bool.and_eq_true_iff.mp z1.1
              exact hin ⟨of_decide_eq_true z2.1, of_decide_eq_true z2.2, of_decide_eq_true z1.2⟩
            refine .inl ⟨.inr ⟨t, _, rfl, hSt, .inr ⟨_, _, _, rfl, kn_str, kn_int, kn_int, gf⟩⟩, fun H8 S8 => ?_⟩
            rcases h with ⟨hb, _⟩ | ⟨_, hE⟩ | ⟨w, ⟨b', am', li', f, hi2, _⟩, _⟩
            · exact absurd fm (hb b am li)
            · exact hE H8 (S07.trans S8)
            · obtain ⟨_, rfl, rfl⟩ := form_one fm f
              exact absurd hi2 hin

/-! ### _law_sign_by -/
def spSign (K : PySem.W.Frag) : Sp := fun vs H Q _ => ∃ c : Int, vs = [.int c] ∧ ∀ (x : Nat) H', Sm H H' → Q (.str ⟨#[x]⟩) H'
theorem ok__law_sign_by (T : Txt K mg) : FnOk P w K mg base CX0 1 T.f__law_sign_by T.d__law_sign_by ["_law_cell"] (spSign K) := by
  refine T.D__law_sign_by.F.ok sc__law_sign_by (fun vs H Q E h => ?_) (fun cdv A outer s H vs Q E hr h => ?_)
  · obtain ⟨c, rfl, _⟩ := h
    rfl
  · obtain ⟨c, rfl, q⟩ := h
    refine ⟨_, (pss_cons (ps_set (i := 1) sc__law_sign_by.nd rfl (.inl rfl) pe_str)
  (pss_cons (ps_set (i := 1) sc__law_sign_by.nd rfl (.inl rfl) (pe_op op_add_str (pv 1) pe_str))
  (pss_one (ps_ret (pe_ix ix_str (pv 1) (pe_op op_mod (pv 0) pe_int) (fun _ _ => rfl)))))), ?_⟩
    try dsimp only [cxOf, Cx.nox, Cx.wish]
    refine qs_set ev_c fun H1 S1 => ?_
    refine qs_set (ev_addS (ev_var rfl) ev_c (by decide +kernel)) fun H2 S2 => ?_
    have c0 := Int.emod_nonneg c (show (96 : Int) ≠ 0 by decide)
    have c1 := Int.emod_lt_of_pos c (show (0 : Int) < 96 by decide)
    refine q_ret (ev_ixS (i := c % 96) (ev_var rfl) (ev_opI (ev_var rfl) ev_c (by show (0 : Int) < 96; decide)) (by decide +kernel) (atS_of (j := (c % 96).toNat) (by omega) (List.getElem?_eq_getElem ?_))) fun H3 S3 => q _ H3 (S1.trans (S2.trans S3))
    have : (c % 96).toNat < 96 := by omega
    refine Nat.lt_of_lt_of_le this ?_
    decide +kernel
/-! ### _law_figures -/
def figV (z : Str) : Int := if isNum z = true then intOf z else -1
def spFig (K : PySem.W.Frag) : Sp := fun vs H Q _ => ∃ z : Str, vs = [.str z] ∧ z.length ≤ 1000 ∧ ∀ H', Sm H H' → Q (.int (figV z)) H'
theorem ev_fig {K : PySem.W.Frag} {σ : L2.St} {H : Hp} {ta : TE} {E : XK} {z : Str} (ha : Ev ta σ H (.str z)) (hz : z.length ≤ 1000) : Ev (tCall (spFig K) [] E (tCons ta tNil)) σ H (.int (figV z)) :=
  ev_call (evl_cons ha evl_nil) fun H1 S Q q => ⟨z, rfl, hz, q⟩
theorem ok__law_figures (T : Txt K mg) : FnOk P w K mg base CX0 1 T.f__law_figures T.d__law_figures ["_law_word"] (spFig K) := by
  refine T.D__law_figures.F.ok sc__law_figures (fun vs H Q E h => ?_) (fun cdv A outer s H vs Q E hr h => ?_)
  · obtain ⟨z, rfl, _⟩ := h
    rfl
  · obtain ⟨z, rfl, hz, q⟩ := h
    refine ⟨_, (pss_cons (ps_if (PW.pt (pw_or (pt_cmpR op_lt (pe_callB call_len_str (by rfl) T.n_len PySem.boot_len (pa_cons (pv 0) pa_nil)) pe_int (nomark _)) (pw_or (pt_cmpR op_gt (pe_callB call_len_str (by rfl) T.n_len PySem.boot_len (pa_cons (pv 0) pa_nil)) pe_int (nomark _)) (pw_or1 (PW.pt (pw_and (pt_cmpR op_gt (pe_callB call_len_str (by rfl) T.n_len PySem.boot_len (pa_cons (pv 0) pa_nil)) pe_int (nomark _)) (pw_and1 (pt_cmpR op_eq (pe_ix ix_str (pv 0) pe_int (fun _ _ => rfl)) pe_str (nomark _)))))))))
    (pss_one (ps_ret (pe_un un_neg pe_int)))
    pss_nil)
  (pss_cons (ps_for PassesOwn.never rfl (pi_str (pv 0)) (pg_name (i := 1) sc__law_figures.nd rfl (.inl rfl))
    (pss_one (ps_if (pt_cmpR op_notIn_sign (pv 1) pe_str (by rfl))
    (pss_one (ps_ret (pe_un un_neg pe_int)))
    pss_nil)))
  (pss_one (ps_ret (pe_callTy call_int_str (by rfl) T.n_int (by decide +kernel) (pa_cons (pv 0) pa_nil)))))), ?_⟩
    try dsimp only [cxOf, Cx.nox, Cx.wish]
    have zz : 1000 ≤ sizeLine := by decide
    have hno : isNum z = false → ∀ H', Sm H H' → Q (.int (-1)) H' := fun h H' S => by
      have := q H' S
      unfold figV at this
      rw [h, if_neg Bool.false_ne_true] at this
      exact this
    refine qs_if (evt_or (evt_test (ev_opI0 (ev_lenS (ev_var rfl) (by omega)) ev_c)) fun _ => evt_or (evt_test (ev_opI0 (ev_lenS (ev_var rfl) (by omega)) ev_c)) fun _ => evt_and (c := decide (z.cps.toList.head? = some 48)) (evt_test (ev_opI0 (ev_lenS (ev_var rfl) (by omega)) ev_c)) fun hl => ?_) (fun e H1 S1 => ?_) (fun e H1 S1 => ?_)
    · have h1 : 1 ≤ z.length := by
        have : (1 : Int) < (z.length : Int) := of_decide_eq_true hl
        omega
      obtain ⟨c, hc, hh⟩ := head_at h1
      refine EvT.to (evt_test (ev_eqS (j := sign0) (ev_ixS (ev_var rfl) ev_c (by omega) hc) ev_c)) ?_
      rw [sign_eq, hh]
      exact decide_eq_decide.mpr ⟨fun h => by rw [h], fun h => Option.some.inj h⟩
    · refine q_ret (ev_un ev_c) fun H2 S2 => hno ?_ H2 (S1.trans S2)
      have h3 := Bool.or_eq_true_iff.mp e
      rcases h3 with h3 | h3
      · have : (z.length : Int) < 1 := of_decide_eq_true h3
        unfold isNum
        rw [decide_eq_false (show ¬ 1 ≤ z.length by omega), Bool.false_and]
      · rcases Bool.or_eq_true_iff.mp h3 with h4 | h4
        · have : (60 : Int) < (z.length : Int) := of_decide_eq_true h4
          unfold isNum
          rw [decide_eq_false (show ¬ z.length ≤ 60 by omega), Bool.false_and, Bool.and_false]
        · have h5 := Bool.and_eq_true_iff.mp h4
          have : (1 : Int) < (z.length : Int) := of_decide_eq_true h5.1
          exact isNum_no ⟨by omega, of_decide_eq_true h5.2⟩
    · have e1 := Bool.or_eq_false_iff.mp e
      have e2 := Bool.or_eq_false_iff.mp e1.2
      have h1 : ¬ (z.length : Int) < 1 := of_decide_eq_false e1.1
      have h2 : ¬ (60 : Int) < (z.length : Int) := of_decide_eq_false e2.1
      have hn : isNum z = digs z := isNum_law (by omega) (by omega) fun ⟨h3, h4⟩ => by
        have e3 := e2.2
        rw [decide_eq_true (show (1 : Int) < (z.length : Int) by omega), decide_eq_true h4] at e3
        cases e3
      refine q_seq (q_forS (D := { nx := _, rt := _ }) (z := z) (fun i σ' H' => ∃ y1, σ' = [some (.str z), y1] ∧ Sm H H' ∧ ∀ j c, j < i → z.cps.toList[j]? = some c → c ∈ figs.cps.toList) (ev_var rfl) (fun H2 S2 => ⟨none, rfl, S1.trans S2, fun j c hj => absurd hj (Nat.not_lt_zero j)⟩) (fun i c σ' H' hc hP => ?_) (fun σ' H' hP => ?_))
      · obtain ⟨y1, rfl, S2, hj⟩ := hP
        refine ⟨_, evg_name, fun H3 S3 => ?_⟩
        refine q_if (evt_test (ev_notInS (z := figs) (ev_var rfl) ev_c)) (fun e3 H4 S4 => ?_) (fun e3 H4 S4 => q_next ?_)
        · refine q_ret (ev_un ev_c) fun H5 S5 => hno ?_ H5 (S2.trans (S3.trans (S4.trans S5)))
          rw [hn, Bool.eq_false_iff]
          intro hd
          have := List.all_eq_true.mp hd c (List.mem_of_getElem? hc)
          rw [this] at e3
          cases e3
        · refine ⟨some (.str ⟨#[c]⟩), rfl, S2.trans (S3.trans S4), fun j c' hj' hc' => ?_⟩
          by_cases h : j < i
          · exact hj j c' h hc'
          · have : j = i := by omega
            subst this
            rw [hc] at hc'
            cases hc'
            have : (decide (c ∈ figs.cps.toList)) = true := by
              cases h : decide (c ∈ figs.cps.toList) with
              | true => rfl
              | false => rw [h] at e3; cases e3
            exact of_decide_eq_true this
      · obtain ⟨y1, rfl, S2, hj⟩ := hP
        dsimp only
        have hd : digs z = true := List.all_eq_true.mpr fun c hc => by
          obtain ⟨j, hj2, e3⟩ := List.mem_iff_getElem.mp hc
          exact decide_eq_true (hj j c (by rw [len_list] at hj2; exact hj2) (by rw [List.getElem?_eq_getElem hj2, e3]))
        refine q_ret (ev_intS (ev_var rfl) (int_of hd (by omega) (by omega)) (by omega)) fun H3 S3 => ?_
        have := q H3 (S2.trans S3)
        unfold figV at this
        rw [hn, hd, if_pos rfl] at this
        exact this
theorem figV_neg {z : Str} : decide (figV z < 0) = !isNum z := by
  have := intOf_nn z
  unfold figV
  cases isNum z with
  | true => rw [if_pos rfl]; simp; omega
  | false => rw [if_neg Bool.false_ne_true]; rfl
/-! ### _law_due_of -/
def DueV (K : PySem.W.Frag) (ys : List Str) (v : V) (H : Hp) : Prop := (v = .str (PySem.Str.ofString "unread ") ∧ Bad0 ys) ∨ (v = .str (PySem.Str.ofString "wish ") ∧ Bad1 ys) ∨ ∃ w, (∃ t, v = .ref t ∧ H t = some (.tup w.row)) ∧ Good1 ys w
def spDue (K : PySem.W.Frag) : Sp := fun vs H Q _ => ∃ a : Str, vs = [.str a] ∧ a.length ≤ 1000 ∧ ∀ v H', Sm H H' → DueV K (Txt.split a sBlank) v H' → Q v H'
set_option maxHeartbeats 1000000 in
theorem ok__law_due_of (T : Txt K mg) : FnOk P w K mg base CX0 2 T.f__law_due_of T.d__law_due_of ["_law_line"] (spDue K) := by
  have G__law_figures : FnOk P w K mg base CX0 1 T.f__law_figures T.d__law_figures ["_law_word"] (spFig K) := ok__law_figures T
  refine T.D__law_due_of.F.ok sc__law_due_of (fun vs H Q E h => ?_) (fun cdv A outer s H vs Q E hr h => ?_)
  · obtain ⟨a, rfl, _⟩ := h
    rfl
  · obtain ⟨a, rfl, hz, q⟩ := h
    refine ⟨_, (pss_cons (ps_set (i := 1) sc__law_due_of.nd rfl (.inl rfl) (pe_split (pv 0) pe_str))
  (pss_cons (ps_if (PW.pt (pw_or (pt_cmpR op_ne (pe_callB call_len_seq (by rfl) T.n_len PySem.boot_len (pa_cons (pv 1) pa_nil)) pe_int (nomark _)) (pw_or (PW.pt (pw_and (pt_cmpR op_ne (pe_ix (r := rIxL K) ix_list (pv 1) pe_int (fun _ _ => rfl)) pe_str (nomark _)) (pw_and1 (pt_cmpR op_ne (pe_ix (r := rIxL K) ix_list (pv 1) pe_int (fun _ _ => rfl)) pe_str (nomark _))))) (pw_or1 (pt_cmpR op_ne (pe_ix (r := rIxL K) ix_list (pv 1) pe_int (fun _ _ => rfl)) pe_str (nomark _))))))
    (pss_one (ps_ret pe_str))
    pss_nil)
  (pss_cons (ps_set (i := 2) sc__law_due_of.nd rfl (.inl rfl) (pe_call G__law_figures (hr.mono (by decide)) (by rfl) T.D__law_figures.g T.D__law_figures.F.kp T.D__law_figures.b .nil pass0 (pa_cons (pe_ix (r := rIxL K) ix_list (pv 1) pe_int (fun _ _ => rfl)) pa_nil)))
  (pss_cons (ps_set (i := 3) sc__law_due_of.nd rfl (.inl rfl) (pe_call G__law_figures (hr.mono (by decide)) (by rfl) T.D__law_figures.g T.D__law_figures.F.kp T.D__law_figures.b .nil pass0 (pa_cons (pe_ix (r := rIxL K) ix_list (pv 1) pe_int (fun _ _ => rfl)) pa_nil)))
  (pss_cons (ps_if (PW.pt (pw_or (pt_cmpR op_lt (pv 2) pe_int (nomark _)) (pw_or1 (pt_cmpR op_lt (pv 3) pe_int (nomark _)))))
    (pss_one (ps_ret pe_str))
    pss_nil)
  (pss_cons (ps_if (PW.pt (pw_or (pt_not (pt_chain op_le op_le pe_int (pv 2) pe_int)) (pw_or1 (pt_cmpR op_gt (pv 3) pe_int (nomark _)))))
    (pss_one (ps_ret pe_str))
    pss_nil)
  (pss_one (ps_ret (pe_tup (pa_cons (pe_ix (r := rIxL K) ix_list (pv 1) pe_int (fun _ _ => rfl)) (pa_cons (pv 3) (pa_cons (pv 2) pa_nil)))))))))))), ?_⟩
    try dsimp only [cxOf, Cx.nox, Cx.wish]
    have zz : 2000 ≤ sizeLine := by decide
    have hshort : ∀ y ∈ Txt.split a sBlank, y.length ≤ 1000 := fun y hy => Nat.le_trans (part_short hy) hz
    generalize hys : Txt.split a sBlank = ys at q hshort
    refine qs_setP (evp_split (y := sBlank) (ev_var rfl) ev_c (by decide +kernel) (by omega)) fun v H2 S2 hv => ?_
    obtain ⟨l, rfl, nl, hl⟩ := hv
    rw [hys] at hl
    have hlS : ∀ {H'}, Sm H2 H' → SqL K H' l (ys.map V.str) := fun S => .inl (.inl (S.lst hl))
    by_cases h4 : ys.length = 4
    · obtain ⟨s1, am, bt, li, rfl⟩ := four h4
      have m1 := hshort am (by simp)
      have m2 := hshort li (by simp)
      refine qs_if (b := (!decide (s1 = sBuy) && !decide (s1 = sSell)) || !decide (bt = sAt)) (EvT.to (evt_or (b := false) (EvT.to (evt_test (ev_neI (ev_len (ev_var rfl) (hlS (Sm.refl _))) ev_c)) rfl) fun _ => evt_or (evt_and (evt_test (ev_neS (ev_ixL (v := .str s1) (ev_var rfl) ev_c (hlS (Sm.refl _)) rfl) ev_c)) fun _ => evt_test (ev_neS (ev_ixL (v := .str s1) (ev_var rfl) ev_c (hlS (Sm.refl _)) rfl) ev_c)) fun _ => evt_test (ev_neS (ev_ixL (v := .str bt) (ev_var rfl) ev_c (hlS (Sm.refl _)) rfl) ev_c)) rfl) (fun e H3 S3 => ?_) (fun e H3 S3 => ?_)
      · refine q_ret ev_c fun H4 S4 => q _ H4 (S2.trans (S3.trans S4)) (.inl ⟨rfl, fun b am' li' f => ?_⟩)
        have fe := f.e
        simp only [List.cons.injEq, and_true] at fe
        rw [fe.1, fe.2.2.1, decide_eq_true rfl] at e
        revert e
        cases b <;> decide +kernel
      · have e2 := Bool.or_eq_false_iff.mp e
        have hat : bt = sAt := by
          cases h : decide (bt = sAt) with
          | true => exact of_decide_eq_true h
          | false => have := e2.2; rw [h] at this; cases this
        have hsd : (decide (s1 = sBuy) || decide (s1 = sSell)) = true := by
          have e3 := e2.1
          cases h : decide (s1 = sBuy) with
          | true => rfl
          | false =>
            cases h2 : decide (s1 = sSell) with
            | true => rfl
            | false => rw [h, h2] at e3; cases e3
        obtain ⟨b, rfl⟩ := side_of hsd
        subst hat
        refine qs_setI (ev_fig (ev_ixL (v := .str am) (ev_var rfl) ev_c (hlS S3) rfl) m1) fun va hva H4 S4 => ?_
        refine qs_setI (ev_fig (ev_ixL (v := .str li) (ev_var rfl) ev_c (hlS (S3.trans S4)) rfl) m2) fun vl hvl H5 S5 => ?_
        have S25 := S3.trans (S4.trans S5)
        refine qs_if (b := (!isNum am || !isNum li)) (EvT.to (evt_or (evt_test (ev_opI0 (ev_var rfl) ev_c)) fun _ => evt_test (ev_opI0 (ev_var rfl) ev_c)) (by rw [hva, hvl, figV_neg, figV_neg])) (fun e3 H6 S6 => ?_) (fun e3 H6 S6 => ?_)
        · refine q_ret ev_c fun H7 S7 => q _ H7 (S2.trans (S25.trans (S6.trans S7))) (.inl ⟨rfl, fun b' am' li' f => ?_⟩)
          have fe := f.e
          simp only [List.cons.injEq, and_true, true_and] at fe
          rw [fe.2.1, fe.2.2, f.a, f.l] at e3
          cases e3
        · have na : isNum am = true := by
            cases h : isNum am with
            | true => rfl
            | false => rw [h] at e3; cases e3
          have nl2 : isNum li = true := by
            cases h : isNum li with
            | true => rfl
            | false => rw [na, h] at e3; cases e3
          have fm : Form [sideS b, am, sAt, li] b am li := ⟨rfl, na, nl2⟩
          have ea : va = intOf am := by rw [hva]; unfold figV; rw [na, if_pos rfl]
          have el : vl = intOf li := by rw [hvl]; unfold figV; rw [nl2, if_pos rfl]
          refine qs_if (evt_or (evt_not (evt_b (ev_chain ev_c (ev_var rfl) ev_c))) fun _ => evt_test (ev_opI0 (ev_var rfl) ev_c)) (fun e4 H7 S7 => ?_) (fun e4 H7 S7 => ?_)
          · refine q_ret ev_c fun H8 S8 => q _ H8 (S2.trans (S25.trans (S6.trans (S7.trans S8)))) (.inr (.inl ⟨rfl, b, am, li, fm, fun hin => ?_⟩))
            rw [ea, el, decide_eq_true hin.1, decide_eq_true hin.2.1, decide_eq_false (show ¬ (1000000000 < intOf li) from by have := hin.2.2; omega)] at e4
            cases e4
          · have e5 := Bool.or_eq_false_iff.mp e4
            have e6 : (decide (1 ≤ va) && decide (va ≤ 1000000)) = true := by
              cases h : (decide (1 ≤ va) && decide (va ≤ 1000000)) with
              | true => rfl
              | false => have := e5.1; rw [h] at this; cases this
            have e7 := Bool.and_eq_true_iff.mp e6
            have e8 : ¬ (1000000000 < vl) := of_decide_eq_false e5.2
            refine q_retP (evp_tup (P := fun vs _ => vs = [V.str (sideS b), V.int vl, V.int va]) K (evl_cons (ev_ixL (ev_var rfl) ev_c (hlS (S25.trans (S6.trans S7))) rfl) (evl_cons (ev_var rfl) (evl_cons (ev_var rfl) evl_nil))) (fun vs H' e => by rw [e]; show 3 ≤ sizeLine; decide) (fun _ _ _ _ e => e)) fun v H8 S8 hv => ?_
            obtain ⟨t, vs, rfl, ht, rfl⟩ := hv
            refine q _ H8 (S2.trans (S25.trans (S6.trans (S7.trans S8)))) (.inr (.inr ⟨wOf b am li, ⟨t, rfl, ?_⟩, b, am, li, fm, ⟨by rw [← ea]; exact of_decide_eq_true e7.1, by rw [← ea]; exact of_decide_eq_true e7.2, by omega⟩, rfl⟩))
            rw [ht, ea, el]
            rfl
    · refine qs_if (b := true) (EvT.to (evt_or (b := true) (c := true) (EvT.to (evt_test (ev_neI (ev_len (ev_var rfl) (hlS (Sm.refl _))) ev_c)) (by rw [List.length_map, decide_eq_false (show ¬ ((ys.length : Nat) : Int) = 4 by omega)]; rfl)) fun z => by cases z) rfl) (fun e H3 S3 => ?_) (fun e => by cases e)
      refine q_ret ev_c fun H4 S4 => q _ H4 (S2.trans (S3.trans S4)) (.inl ⟨rfl, fun b am' li' f => ?_⟩)
      rw [f.e] at h4
      exact h4 rfl
/-! ### _law_alike -/
def spAlike (K : PySem.W.Frag) : Sp := fun vs H Q _ => ∃ (v u : V) (w : Wish), vs = [v, u] ∧ (∃ t, v = .ref t ∧ H t = some (.tup w.row)) ∧ (∃ t, u = .ref t ∧ H t = some (.tup w.row)) ∧ ∀ H', Sm H H' → Q (.bl true) H'
theorem shaped_wish (w : Wish) : SeqAt.shaped w.data = true := by
  simp [SeqAt.shaped, canLay_wish, depth_wish]
theorem ok__law_alike (T : Txt K mg) : FnOk P w K mg base CX0 2 T.f__law_alike T.d__law_alike ["_law_found", "_law_due"] (spAlike K) := by
  have G__law_whole : FnOk P w K mg base CX0 1 T.f__law_whole T.d__law_whole ["_law_thing"] (spWhole K) := ok__law_whole T
  refine T.D__law_alike.F.ok sc__law_alike (fun vs H Q E h => ?_) (fun cdv A outer s H vs Q E hr h => ?_)
  · obtain ⟨v, u, w, rfl, _⟩ := h
    rfl
  · obtain ⟨v, u, w, rfl, ⟨t, rfl, ht⟩, ⟨t2, rfl, ht2⟩, q⟩ := h
    refine ⟨_, (pss_cons (ps_if (PW.pt (pw_or (pt_not (pt_val (pe_callB call_isi (by rfl) T.n_isinstance (by decide +kernel) (pa_cons (pv 0) (pa_cons (pe_bltn (v := .ty "tuple") (by rfl) T.n_tuple (by decide +kernel) rfl) pa_nil))))) (pw_or (pt_cmpR op_ne (pe_callB call_len_seq (by rfl) T.n_len PySem.boot_len (pa_cons (pv 0) pa_nil)) pe_int (nomark _)) (pw_or1 (pt_not (pt_val (pe_callB call_isi (by rfl) T.n_isinstance (by decide +kernel) (pa_cons (pe_ix (r := rIxT K) ix_tup (pv 0) pe_int (fun _ _ => rfl)) (pa_cons (pe_bltn (v := .ty "str") (by rfl) T.n_str (by decide +kernel) rfl) pa_nil)))))))))
    (pss_one (ps_ret pe_bl))
    pss_nil)
  (pss_one (ps_ret (pe_and (pe_call G__law_whole (hr.mono (by decide)) (by rfl) T.D__law_whole.g T.D__law_whole.F.kp T.D__law_whole.b .nil pass0 (pa_cons (pe_ix (r := rIxT K) ix_tup (pv 0) pe_int (fun _ _ => rfl)) pa_nil)) (pe_and (pe_call G__law_whole (hr.mono (by decide)) (by rfl) T.D__law_whole.g T.D__law_whole.F.kp T.D__law_whole.b .nil pass0 (pa_cons (pe_ix (r := rIxT K) ix_tup (pv 0) pe_int (fun _ _ => rfl)) pa_nil)) (pe_one (pe_cmpR (op_eqD hr.units) (pv 0) (pv 1) (nomark _)))))))), ?_⟩
    try dsimp only [cxOf, Cx.nox, Cx.wish]
    have hS : ∀ {H'}, Sm H H' → SqT K H' t w.row := fun S => .inl (.inl (S.tup ht))
    have hS2 : ∀ {H'}, Sm H H' → SqT K H' t2 w.row := fun S => .inl (.inl (S.tup ht2))
    refine qs_if (b := false) (EvT.to (evt_or (b := false) (c := false) (EvT.to (evt_not (evt_b (b := true) (ev_isi (x := .ref t) (u := .type "tuple") (t := .type "tuple") (ev_var rfl) ev_c (.ty "tuple") (fun H' S' => .base (.tup (S'.tup ht))) (kit_ty (by decide +kernel))))) rfl) fun _ => EvT.to (evt_or (b := false) (c := false) (EvT.to (evt_test (ev_neI (ev_lenT (ev_var rfl) (hS (Sm.refl _))) ev_c)) rfl) fun _ => EvT.to (evt_not (evt_b (b := true) (ev_isi (x := .str w.side) (u := .type "str") (t := .type "str") (ev_ixT (ev_var rfl) ev_c (hS (Sm.refl _)) rfl) ev_c (.ty "str") (fun H' S' => .base (.str _)) (kit_ty (by decide +kernel))))) rfl) rfl) rfl) (fun e => by cases e) (fun e H1 S1 => ?_)
    refine q_ret (v := .bl true) ((ev_and (ev_wholeI (ev_ixT (ev_var rfl) ev_c (hS S1) rfl)) fun _ => ev_and (ev_wholeI (ev_ixT (ev_var rfl) ev_c (hS S1) rfl)) fun _ => ev_eqD (K := K) (d := w.data) (e := w.data) ((ev_var rfl).d (WishV.dp ⟨t, rfl, hS S1⟩)) ((ev_var rfl).d (WishV.dp ⟨t2, rfl, hS2 S1⟩)) (shaped_wish _) (shaped_wish _)).to ?_) fun H2 S2 => q H2 (S1.trans S2)
    rw [eqv_self (shaped_wish _)]
    rfl
/-! ### _law_good -/
def spLine (K : PySem.W.Frag) : Sp := fun vs H Q _ => ∃ a : Str, vs = [.str a] ∧ a.length ≤ 1000 ∧ ∀ H', Sm H H' → Q (.bl true) H'
theorem ev_good {K : PySem.W.Frag} {σ : L2.St} {H : Hp} {ta : TE} {E : XK} {z : Str} (ha : Ev ta σ H (.str z)) (hz : z.length ≤ 1000) : Ev (tCall (spLine K) [] E (tCons ta tNil)) σ H (.bl true) :=
  ev_call (evl_cons ha evl_nil) fun H1 S Q q => ⟨z, rfl, hz, q⟩
set_option maxHeartbeats 4000000 in
theorem ok__law_good (T : Txt K mg) : FnOk P w K mg base CX0 8 T.f__law_good T.d__law_good ["_law_line"] (spLine K) := by
  have G__law_due_of : FnOk P w K mg base CX0 2 T.f__law_due_of T.d__law_due_of ["_law_line"] (spDue K) := ok__law_due_of T
  have G__law_alike : FnOk P w K mg base CX0 2 T.f__law_alike T.d__law_alike ["_law_found", "_law_due"] (spAlike K) := ok__law_alike T
  have G_read : FnOk P w K mg base (L2.CX P w) 5 T.f_read T.d_read ["line"] (spRead K T.a_Unread T.a_BadWish) := ok_read T
  refine T.D__law_good.F.ok sc__law_good (fun vs H Q E h => ?_) (fun cdv A outer s H vs Q E hr h => ?_)
  · obtain ⟨a, rfl, _⟩ := h
    rfl
  · obtain ⟨a, rfl, hz, q⟩ := h
    refine ⟨_, (pss_cons (ps_set (i := 1) sc__law_good.nd rfl (.inl rfl) (pe_call G__law_due_of (hr.mono (by decide)) (by rfl) T.D__law_due_of.g T.D__law_due_of.F.kp T.D__law_due_of.b .nil pass0 (pa_cons (pv 0) pa_nil)))
  (pss_cons (ps_try_as (i := 3) (Wout := fun _ _ _ _ => False) rfl rfl sc__law_good.nd rfl rfl ⟨rfl, by decide, Or.inl T.g_BidError⟩ takes0
    (fun W pn xe tk _ => (pss_one (ps_set (i := 2) sc__law_good.nd rfl (.inl rfl) (pe_callS G_read (hr.mono (by decide)) (by rfl) T.D_read.g T.D_read.F.kp T.D_read.b (fun σ => passAt tk σ) (pa_cons (pv 0) pa_nil)))))
    (fun a oe cls d pn hz hf => (pss_one (ps_ret (pe_and (pe_callB (id := "isinstance") (r := rIsi K) call_isi (by rfl) T.n_isinstance (by decide +kernel) (pa_cons (pv 1) (pa_cons (pe_bltn (v := .ty "str") (by rfl) T.n_str (by decide +kernel) rfl) pa_nil))) (pe_one (pe_cmpR op_eq (pe_callE (a := a) (oe := oe) T.D__law_names.F sc__law_names T.D__law_names.b (by rfl) T.D__law_names.g (L2H.roomH_of (k := 1) (hr.mono (by decide))) (fun cdv A outer s H => (pss_cons (ps_set (i := 1) sc__law_names.nd rfl (.inl rfl) pe_str)
  (pss_cons (ps_if (pt_val (pe_callB (call_isX (K := K) (a := a) (oe := oe) rfl List.mem_cons_self hz hf) (by rfl) T.n_isinstance (by decide +kernel) (pa_cons (pv 0) (pa_cons (pe_glob (v := .ref T.a_BadWish) (by rfl) T.g_BadWish rfl) pa_nil))))
    (pss_one (ps_set (i := 1) sc__law_names.nd rfl (.inl rfl) (pe_op op_add_str (pv 1) pe_str)))
    pss_nil)
  (pss_cons (ps_if (pt_val (pe_callB (call_isX (K := K) (a := a) (oe := oe) rfl List.mem_cons_self hz hf) (by rfl) T.n_isinstance (by decide +kernel) (pa_cons (pv 0) (pa_cons (pe_glob (v := .ref T.a_BadPrice) (by rfl) T.g_BadPrice rfl) pa_nil))))
    (pss_one (ps_set (i := 1) sc__law_names.nd rfl (.inl rfl) (pe_op op_add_str (pv 1) pe_str)))
    pss_nil)
  (pss_cons (ps_if (pt_val (pe_callB (call_isX (K := K) (a := a) (oe := oe) rfl List.mem_cons_self hz hf) (by rfl) T.n_isinstance (by decide +kernel) (pa_cons (pv 0) (pa_cons (pe_glob (v := .ref T.a_BadPieces) (by rfl) T.g_BadPieces rfl) pa_nil))))
    (pss_one (ps_set (i := 1) sc__law_names.nd rfl (.inl rfl) (pe_op op_add_str (pv 1) pe_str)))
    pss_nil)
  (pss_cons (ps_if (pt_val (pe_callB (call_isX (K := K) (a := a) (oe := oe) rfl List.mem_cons_self hz hf) (by rfl) T.n_isinstance (by decide +kernel) (pa_cons (pv 0) (pa_cons (pe_glob (v := .ref T.a_Uneven) (by rfl) T.g_Uneven rfl) pa_nil))))
    (pss_one (ps_set (i := 1) sc__law_names.nd rfl (.inl rfl) (pe_op op_add_str (pv 1) pe_str)))
    pss_nil)
  (pss_cons (ps_if (pt_val (pe_callB (call_isX (K := K) (a := a) (oe := oe) rfl List.mem_cons_self hz hf) (by rfl) T.n_isinstance (by decide +kernel) (pa_cons (pv 0) (pa_cons (pe_glob (v := .ref T.a_NoSuch) (by rfl) T.g_NoSuch rfl) pa_nil))))
    (pss_one (ps_set (i := 1) sc__law_names.nd rfl (.inl rfl) (pe_op op_add_str (pv 1) pe_str)))
    pss_nil)
  (pss_cons (ps_if (pt_val (pe_callB (call_isX (K := K) (a := a) (oe := oe) rfl List.mem_cons_self hz hf) (by rfl) T.n_isinstance (by decide +kernel) (pa_cons (pv 0) (pa_cons (pe_glob (v := .ref T.a_Unread) (by rfl) T.g_Unread rfl) pa_nil))))
    (pss_one (ps_set (i := 1) sc__law_names.nd rfl (.inl rfl) (pe_op op_add_str (pv 1) pe_str)))
    pss_nil)
  (pss_cons (ps_if (pt_not (pt_val (pe_callB (call_isX (K := K) (a := a) (oe := oe) rfl List.mem_cons_self hz hf) (by rfl) T.n_isinstance (by decide +kernel) (pa_cons (pv 0) (pa_cons (pe_bltn (v := .ty "ValueError") (by rfl) T.n_ValueError (by decide +kernel) rfl) pa_nil)))))
    (pss_one (ps_set (i := 1) sc__law_names.nd rfl (.inl rfl) pe_str))
    pss_nil)
  (pss_one (ps_ret (pv 1)))))))))))) (pa_cons (pv 3) pa_nil)) (pv 1) (nomark _))))))))
  (pss_one (ps_ret (pe_and (pe_callB call_isi (by rfl) T.n_isinstance (by decide +kernel) (pa_cons (pv 1) (pa_cons (pe_bltn (v := .ty "tuple") (by rfl) T.n_tuple (by decide +kernel) rfl) pa_nil))) (pe_one (pe_call G__law_alike (hr.mono (by decide)) (by rfl) T.D__law_alike.g T.D__law_alike.F.kp T.D__law_alike.b .nil pass0 (pa_cons (pv 2) (pa_cons (pv 1) pa_nil))))))))), ?_⟩
    try dsimp only [cxOf, Cx.nox, Cx.wish]
    refine qs_setP (P := fun v H' => DueV K (Txt.split a sBlank) v H') (evp_call (evl_cons (ev_var rfl) evl_nil) fun H1 S1 Q k => ⟨a, rfl, hz, k⟩) fun v H1 S1 hv => ?_
    refine qs_tryCall (evl_cons (ev_var rfl) evl_nil) fun H2 S2 => ⟨a, rfl, hz, ?_⟩
    rcases hv with ⟨rfl, hb⟩ | ⟨rfl, hb⟩ | ⟨w, ⟨t, rfl, ht⟩, hgd⟩
    · refine .inl ⟨hb, fun H3 S3 => ⟨true, T.X_Unread_BidError, fun _ x nx => ?_, fun z => nomatch z⟩⟩
      refine q_ret (v := .bl true) ((ev_and (b := true) (ev_isi (x := .str (PySem.Str.ofString "unread ")) (u := .type "str") (t := .type "str") (ev_var rfl) ev_c (.ty "str") (fun H' S' => .base (.str _)) (kit_ty (by decide +kernel))) fun _ => ev_eqS (i := (PySem.Str.ofString "unread ")) (ev_callE (evl_cons (ev_var rfl) evl_nil) rfl fun H1 S1 Q q => ?_) (ev_var rfl)).to (by decide +kernel)) fun H14 S14 => ?_
      · refine qs_set ev_c fun H2 S2 => ?_
        refine qs_ifsetS (evt_b (ev_isX T.R_Unread.c (ev_var rfl) ev_c (.own _) T.I_Unread_BadWish)) rfl (fun _ => ev_addS (ev_var rfl) ev_c (by decide +kernel)) fun H3 S3 => ?_
        refine qs_ifsetS (evt_b (ev_isX T.R_Unread.c (ev_var rfl) ev_c (.own _) T.I_Unread_BadPrice)) rfl (fun _ => ev_addS (ev_var rfl) ev_c (by decide +kernel)) fun H4 S4 => ?_
        refine qs_ifsetS (evt_b (ev_isX T.R_Unread.c (ev_var rfl) ev_c (.own _) T.I_Unread_BadPieces)) rfl (fun _ => ev_addS (ev_var rfl) ev_c (by decide +kernel)) fun H5 S5 => ?_
        refine qs_ifsetS (evt_b (ev_isX T.R_Unread.c (ev_var rfl) ev_c (.own _) T.I_Unread_Uneven)) rfl (fun _ => ev_addS (ev_var rfl) ev_c (by decide +kernel)) fun H6 S6 => ?_
        refine qs_ifsetS (evt_b (ev_isX T.R_Unread.c (ev_var rfl) ev_c (.own _) T.I_Unread_NoSuch)) rfl (fun _ => ev_addS (ev_var rfl) ev_c (by decide +kernel)) fun H7 S7 => ?_
        refine qs_ifsetS (evt_b (ev_isX T.R_Unread.c (ev_var rfl) ev_c (.own _) T.I_Unread_Unread)) rfl (fun _ => ev_addS (ev_var rfl) ev_c (by decide +kernel)) fun H8 S8 => ?_
        refine qs_ifsetS (evt_not (evt_b (ev_isX T.R_Unread.c (ev_var rfl) ev_c (.ty _) T.V_Unread))) rfl (fun _ => ev_c) fun H9 S9 => ?_
        refine q_ret (v := .str (PySem.Str.ofString "unread ")) ((ev_var rfl).to (by decide +kernel)) fun H10 S10 => ?_
        exact q H10 (S2.trans (S3.trans (S4.trans (S5.trans (S6.trans (S7.trans (S8.trans (S9.trans S10))))))))
      · exact q H14 (S1.trans (S2.trans (S3.trans S14)))
    · refine .inr (.inl ⟨hb, fun H3 S3 => ⟨true, T.X_BadWish_BidError, fun _ x nx => ?_, fun z => nomatch z⟩⟩)
      refine q_ret (v := .bl true) ((ev_and (b := true) (ev_isi (x := .str (PySem.Str.ofString "wish ")) (u := .type "str") (t := .type "str") (ev_var rfl) ev_c (.ty "str") (fun H' S' => .base (.str _)) (kit_ty (by decide +kernel))) fun _ => ev_eqS (i := (PySem.Str.ofString "wish ")) (ev_callE (evl_cons (ev_var rfl) evl_nil) rfl fun H1 S1 Q q => ?_) (ev_var rfl)).to (by decide +kernel)) fun H14 S14 => ?_
      · refine qs_set ev_c fun H2 S2 => ?_
        refine qs_ifsetS (evt_b (ev_isX T.R_BadWish.c (ev_var rfl) ev_c (.own _) T.I_BadWish_BadWish)) rfl (fun _ => ev_addS (ev_var rfl) ev_c (by decide +kernel)) fun H3 S3 => ?_
        refine qs_ifsetS (evt_b (ev_isX T.R_BadWish.c (ev_var rfl) ev_c (.own _) T.I_BadWish_BadPrice)) rfl (fun _ => ev_addS (ev_var rfl) ev_c (by decide +kernel)) fun H4 S4 => ?_
        refine qs_ifsetS (evt_b (ev_isX T.R_BadWish.c (ev_var rfl) ev_c (.own _) T.I_BadWish_BadPieces)) rfl (fun _ => ev_addS (ev_var rfl) ev_c (by decide +kernel)) fun H5 S5 => ?_
        refine qs_ifsetS (evt_b (ev_isX T.R_BadWish.c (ev_var rfl) ev_c (.own _) T.I_BadWish_Uneven)) rfl (fun _ => ev_addS (ev_var rfl) ev_c (by decide +kernel)) fun H6 S6 => ?_
        refine qs_ifsetS (evt_b (ev_isX T.R_BadWish.c (ev_var rfl) ev_c (.own _) T.I_BadWish_NoSuch)) rfl (fun _ => ev_addS (ev_var rfl) ev_c (by decide +kernel)) fun H7 S7 => ?_
        refine qs_ifsetS (evt_b (ev_isX T.R_BadWish.c (ev_var rfl) ev_c (.own _) T.I_BadWish_Unread)) rfl (fun _ => ev_addS (ev_var rfl) ev_c (by decide +kernel)) fun H8 S8 => ?_
        refine qs_ifsetS (evt_not (evt_b (ev_isX T.R_BadWish.c (ev_var rfl) ev_c (.ty _) T.V_BadWish))) rfl (fun _ => ev_c) fun H9 S9 => ?_
        refine q_ret (v := .str (PySem.Str.ofString "wish ")) ((ev_var rfl).to (by decide +kernel)) fun H10 S10 => ?_
        exact q H10 (S2.trans (S3.trans (S4.trans (S5.trans (S6.trans (S7.trans (S8.trans (S9.trans S10))))))))
      · exact q H14 (S1.trans (S2.trans (S3.trans S14)))
    · refine .inr (.inr ⟨w, hgd, fun t2 H3 S3 ht2 => ?_⟩)
      have S13 := S2.trans S3
      refine q_ret (v := .bl true) ((ev_and (b := true) (ev_isi (x := .ref t) (u := .type "tuple") (t := .type "tuple") (ev_var rfl) ev_c (.ty "tuple") (fun H' S' => .base (.tup ((S13.trans S').tup ht))) (kit_ty (by decide +kernel))) fun _ => ev_call (evl_cons (ev_var rfl) (evl_cons (ev_var rfl) evl_nil)) fun H4 S4 Q k => ⟨.ref t2, .ref t, w, rfl, ⟨t2, rfl, S4.tup ht2⟩, ⟨t, rfl, (S13.trans S4).tup ht⟩, k⟩).to rfl) fun H4 S4 => q H4 (S1.trans (S13.trans S4))
/-! ### _law_odd_line -/
/-- a short text -/
def Short (v : V) (_ : Hp) : Prop := ∃ z : Str, v = .str z ∧ z.length ≤ 100
theorem short_stab : Stab Short := fun v H H' S h => h
def spOdd (K : PySem.W.Frag) : Sp := fun vs H Q _ => ∃ c : Int, vs = [.int c] ∧ ∀ (z : Str) H', Sm H H' → z.length ≤ 100 → Q (.str z) H'
theorem catS {K : PySem.W.Frag} {σ : L2.St} {H : Hp} {ta : TE} {tl : TA} {n m : Nat} (ha : EvP ta σ H fun v H' => ∃ a xs, v = .ref a ∧ H' a = some (.lst xs) ∧ (xs.length = n ∧ ∀ v ∈ xs, Short v H')) (hb : EvPs tl σ H Short m) (hz : n + m ≤ 1000) :
    EvP (tOp rCat ta (tLst tl)) σ H fun v H' => ∃ a xs, v = .ref a ∧ H' a = some (.lst xs) ∧ (xs.length = n + m ∧ ∀ v ∈ xs, Short v H') := by
  have zz : 1000 ≤ sizeLine := by decide
  refine (evp_cat (Pa := fun xs H' => xs.length = n ∧ ∀ v ∈ xs, Short v H') (Pb := fun xs H' => xs.length = m ∧ ∀ v ∈ xs, Short v H') (fun _ _ _ _ e => e) (fun _ _ _ _ e => e) (fun xs ys H' e e' => by rw [e.1, e'.1]; omega) ha
    ((evp_lst (P := fun vs H' => vs.length = m ∧ ∀ v ∈ vs, Short v H') K hb (fun vs H' e => by rw [e.1]; omega) (fun _ _ _ _ e => e)).to fun v H' S h => h)).to fun v H' S ⟨a, xs, e, h, ys, zs, e1, e2, e3⟩ => ⟨a, xs, e, h, by rw [e1, List.length_append, e2.1, e3.1], fun v hv => ?_⟩
  rw [e1] at hv
  rcases List.mem_append.mp hv with z | z
  · exact e2.2 v z
  · exact e3.2 v z
theorem ok__law_odd_line (T : Txt K mg) : FnOk P w K mg base CX0 1 T.f__law_odd_line T.d__law_odd_line ["_law_cell"] (spOdd K) := by
  refine T.D__law_odd_line.F.ok sc__law_odd_line (fun vs H Q E h => ?_) (fun cdv A outer s H vs Q E hr h => ?_)
  · obtain ⟨c, rfl, _⟩ := h
    rfl
  · obtain ⟨c, rfl, q⟩ := h
    refine ⟨_, (pss_cons (ps_set (i := 1) sc__law_odd_line.nd rfl (.inl rfl) (pe_lst (pa_cons pe_str (pa_cons pe_str (pa_cons pe_str (pa_cons pe_str (pa_cons pe_str (pa_cons pe_str (pa_cons pe_str (pa_cons pe_str (pa_cons pe_str pa_nil)))))))))))
  (pss_cons (ps_set (i := 1) sc__law_odd_line.nd rfl (.inl rfl) (pe_op op_cat (pv 1) (pe_lst (pa_cons pe_str (pa_cons pe_str (pa_cons pe_str (pa_cons pe_str (pa_cons pe_str (pa_cons pe_str pa_nil)))))))))
  (pss_cons (ps_set (i := 1) sc__law_odd_line.nd rfl (.inl rfl) (pe_op op_cat (pv 1) (pe_lst (pa_cons pe_str (pa_cons pe_str (pa_cons pe_str (pa_cons pe_str pa_nil)))))))
  (pss_cons (ps_set (i := 1) sc__law_odd_line.nd rfl (.inl rfl) (pe_op op_cat (pv 1) (pe_lst (pa_cons pe_str (pa_cons pe_str (pa_cons pe_str (pa_cons pe_str (pa_cons pe_str pa_nil))))))))
  (pss_cons (ps_set (i := 1) sc__law_odd_line.nd rfl (.inl rfl) (pe_op op_cat (pv 1) (pe_lst (pa_cons pe_str (pa_cons pe_str (pa_cons pe_str (pa_cons pe_str (pa_cons pe_str pa_nil))))))))
  (pss_cons (ps_set (i := 1) sc__law_odd_line.nd rfl (.inl rfl) (pe_op op_cat (pv 1) (pe_lst (pa_cons pe_str pa_nil))))
  (pss_one (ps_ret (pe_ix (r := rIxL K) ix_list (pv 1) (pe_op op_mod (pv 0) pe_int) (fun _ _ => rfl)))))))))), ?_⟩
    try dsimp only [cxOf, Cx.nox, Cx.wish]
    refine qs_setP (evp_lst (P := fun vs H' => vs.length = 9 ∧ ∀ v ∈ vs, Short v H') K ?_ (fun vs H' e => by rw [e.1]; show 9 ≤ sizeLine; decide) (fun _ _ _ _ e => e)) fun v H1 S1 hv => ?_
    · repeat (refine evps_cons short_stab (ev_c.pp fun _ _ => ⟨_, rfl, by decide +kernel⟩) ?_)
      exact evps_nil
    obtain ⟨l1, x1, rfl, h1, p1⟩ := hv
    refine qs_setP (catS (K := K) (n := 9) (m := 6) ((ev_var (v := .ref l1) rfl).pp fun H' S => ⟨l1, x1, rfl, S.lst h1, p1⟩) ?_ (by decide)) fun v H2 S2 hv => ?_
    · repeat (refine evps_cons short_stab (ev_c.pp fun _ _ => ⟨_, rfl, by decide +kernel⟩) ?_)
      exact evps_nil
    obtain ⟨l2, x2, rfl, h2, p2⟩ := hv
    refine qs_setP (catS (K := K) (n := 15) (m := 4) ((ev_var (v := .ref l2) rfl).pp fun H' S => ⟨l2, x2, rfl, S.lst h2, p2⟩) ?_ (by decide)) fun v H3 S3 hv => ?_
    · repeat (refine evps_cons short_stab (ev_c.pp fun _ _ => ⟨_, rfl, by decide +kernel⟩) ?_)
      exact evps_nil
    obtain ⟨l3, x3, rfl, h3, p3⟩ := hv
    refine qs_setP (catS (K := K) (n := 19) (m := 5) ((ev_var (v := .ref l3) rfl).pp fun H' S => ⟨l3, x3, rfl, S.lst h3, p3⟩) ?_ (by decide)) fun v H4 S4 hv => ?_
    · repeat (refine evps_cons short_stab (ev_c.pp fun _ _ => ⟨_, rfl, by decide +kernel⟩) ?_)
      exact evps_nil
    obtain ⟨l4, x4, rfl, h4, p4⟩ := hv
    refine qs_setP (catS (K := K) (n := 24) (m := 5) ((ev_var (v := .ref l4) rfl).pp fun H' S => ⟨l4, x4, rfl, S.lst h4, p4⟩) ?_ (by decide)) fun v H5 S5 hv => ?_
    · repeat (refine evps_cons short_stab (ev_c.pp fun _ _ => ⟨_, rfl, by decide +kernel⟩) ?_)
      exact evps_nil
    obtain ⟨l5, x5, rfl, h5, p5⟩ := hv
    refine qs_setP (catS (K := K) (n := 29) (m := 1) ((ev_var (v := .ref l5) rfl).pp fun H' S => ⟨l5, x5, rfl, S.lst h5, p5⟩) ?_ (by decide)) fun v H6 S6 hv => ?_
    · repeat (refine evps_cons short_stab (ev_c.pp fun _ _ => ⟨_, rfl, by decide +kernel⟩) ?_)
      exact evps_nil
    obtain ⟨l6, x6, rfl, h6, p6⟩ := hv
    have c0 := Int.emod_nonneg c (show (30 : Int) ≠ 0 by decide)
    have c1 := Int.emod_lt_of_pos c (show (0 : Int) < 30 by decide)
    have hj : (c % 30).toNat < x6.length := by
      rw [p6.1]
      omega
    obtain ⟨z, ez, hz⟩ := p6.2 _ (List.getElem_mem hj)
    refine q_ret (v := .str z) (ev_ixL (i := c % 30) (ev_var rfl) (ev_opI (ev_var rfl) ev_c (by show (0 : Int) < 30; decide)) (.inl (.inl h6)) (at_of (j := (c % 30).toNat) (by omega) (by rw [List.getElem?_eq_getElem hj, ez]))) fun H7 S7 => q z H7 (S1.trans (S2.trans (S3.trans (S4.trans (S5.trans (S6.trans S7)))))) hz
/-! ### law -/
theorem two_sides {i : Int} (h0 : 0 ≤ i) (h1 : i < 2) : atI [V.str (PySem.Str.ofString "buy"), V.str (PySem.Str.ofString "sell")] i = some (.str (sideS (decide (i = 0)))) := by
  have h : i = 0 ∨ i = 1 := by omega
  rcases h with rfl | rfl <;> rfl
theorem sevens (n : Nat) (h : n < 62) : MulOk (PySem.Str.ofString "7") (n : Int) ∧ (Txt.mul (PySem.Str.ofString "7") (n : Int)).length ≤ 62 := by
  have : ∀ k : Fin 62, MulOk (PySem.Str.ofString "7") (k.val : Int) ∧ (Txt.mul (PySem.Str.ofString "7") (k.val : Int)).length ≤ 62 := by
    unfold MulOk
    decide +kernel
  exact this ⟨n, h⟩
theorem lensE {a b : Str} {n m k : Nat} (h1 : a.length ≤ n) (h2 : b.length ≤ m) (h : n + m ≤ k) : (a ++ b).length ≤ k := Nat.le_trans (lens h1 h2) h
theorem ev_addE {σ : L2.St} {H : Hp} {ta tb : TE} {i j : Str} (ha : Ev ta σ H (.str i)) (hb : Ev tb σ H (.str j)) (hi : i.length ≤ 1000) (hj : j.length ≤ 1000) : Ev (tOp (fun x y H Q => ∃ i j, x = .str i ∧ y = .str j ∧ i.length + j.length ≤ sizeLine ∧ Q (.str (i ++ j)) H) ta tb) σ H (.str (i ++ j)) :=
  ev_addS ha hb (by have : 2000 ≤ sizeLine := by decide
                    omega)
set_option maxHeartbeats 40000000 in
theorem ok_law (T : Txt K mg) : FnOk P w K mg base CX0 20 T.f_law T.d_law ["_law_script"] (SpLaw K []) := by
  have G__law_cell_at : FnOk P w K mg base CX0 1 T.f__law_cell_at T.d__law_cell_at ["_law_script", "_law_k"] (spCell K) := ok__law_cell_at T
  have G__law_sign_by : FnOk P w K mg base CX0 1 T.f__law_sign_by T.d__law_sign_by ["_law_cell"] (spSign K) := ok__law_sign_by T
  have G__law_good : FnOk P w K mg base CX0 8 T.f__law_good T.d__law_good ["_law_line"] (spLine K) := ok__law_good T
  have G__law_odd_line : FnOk P w K mg base CX0 1 T.f__law_odd_line T.d__law_odd_line ["_law_cell"] (spOdd K) := ok__law_odd_line T
  have G_shown : FnOk P w K mg base CX0 1 T.f_shown T.d_shown ["wish"] (spShown K) := ok_shown T
  refine T.D_law.F.ok sc_law (fun vs H Q E h => ?_) (fun cdv A outer s H vs Q E hr h => ?_)
  · obtain ⟨a, ns, rfl, _⟩ := h
    rfl
  · obtain ⟨a, ns, rfl, hS, hlen, hT, q⟩ := h
    refine ⟨_, (pss_cons (ps_set (i := 1) sc_law.nd rfl (.inl rfl) (pe_call G__law_cell_at (hr.mono (by decide)) (by rfl) T.D__law_cell_at.g T.D__law_cell_at.F.kp T.D__law_cell_at.b .nil pass0 (pa_cons (pv 0) (pa_cons pe_int pa_nil))))
  (pss_cons (ps_set (i := 2) sc_law.nd rfl (.inl rfl) (pe_ix (r := rIxL K) ix_list (pe_lst (pa_cons pe_str (pa_cons pe_str pa_nil))) (pe_op op_mod (pe_call G__law_cell_at (hr.mono (by decide)) (by rfl) T.D__law_cell_at.g T.D__law_cell_at.F.kp T.D__law_cell_at.b .nil pass0 (pa_cons (pv 0) (pa_cons pe_int pa_nil))) pe_int) (fun _ _ => rfl)))
  (pss_cons (ps_set (i := 3) sc_law.nd rfl (.inl rfl) (pe_op op_mod (pv 1) pe_int))
  (pss_cons (ps_set (i := 4) sc_law.nd rfl (.inl rfl) (pe_op op_add pe_int (pe_op op_mod (pe_call G__law_cell_at (hr.mono (by decide)) (by rfl) T.D__law_cell_at.g T.D__law_cell_at.F.kp T.D__law_cell_at.b .nil pass0 (pa_cons (pv 0) (pa_cons pe_int pa_nil))) pe_int)))
  (pss_cons (ps_if (pt_cmpR op_eq (pe_op op_mod (pe_call G__law_cell_at (hr.mono (by decide)) (by rfl) T.D__law_cell_at.g T.D__law_cell_at.F.kp T.D__law_cell_at.b .nil pass0 (pa_cons (pv 0) (pa_cons pe_int pa_nil))) pe_int) pe_int (nomark _))
    (pss_one (ps_set (i := 3) sc_law.nd rfl (.inl rfl) (pe_ix (r := rIxL K) ix_list (pe_lst (pa_cons pe_int (pa_cons pe_int (pa_cons pe_int (pa_cons pe_int pa_nil))))) (pe_op op_mod (pe_op op_fdiv (pe_call G__law_cell_at (hr.mono (by decide)) (by rfl) T.D__law_cell_at.g T.D__law_cell_at.F.kp T.D__law_cell_at.b .nil pass0 (pa_cons (pv 0) (pa_cons pe_int pa_nil))) pe_int) pe_int) (fun _ _ => rfl))))
    pss_nil)
  (pss_cons (ps_if (pt_cmpR op_eq (pe_op op_mod (pe_call G__law_cell_at (hr.mono (by decide)) (by rfl) T.D__law_cell_at.g T.D__law_cell_at.F.kp T.D__law_cell_at.b .nil pass0 (pa_cons (pv 0) (pa_cons pe_int pa_nil))) pe_int) pe_int (nomark _))
    (pss_one (ps_set (i := 4) sc_law.nd rfl (.inl rfl) (pe_ix (r := rIxL K) ix_list (pe_lst (pa_cons pe_int (pa_cons pe_int (pa_cons pe_int (pa_cons pe_int pa_nil))))) (pe_op op_mod (pe_op op_fdiv (pe_call G__law_cell_at (hr.mono (by decide)) (by rfl) T.D__law_cell_at.g T.D__law_cell_at.F.kp T.D__law_cell_at.b .nil pass0 (pa_cons (pv 0) (pa_cons pe_int pa_nil))) pe_int) pe_int) (fun _ _ => rfl))))
    pss_nil)
  (pss_cons (ps_set (i := 5) sc_law.nd rfl (.inl rfl) (pe_op op_add_str (pe_op op_add_str (pe_op op_add_str (pe_op op_add_str (pv 2) pe_str) (pe_callTy call_str_int (by rfl) T.n_str (by decide +kernel) (pa_cons (pv 4) pa_nil))) pe_str) (pe_callTy call_str_int (by rfl) T.n_str (by decide +kernel) (pa_cons (pv 3) pa_nil))))
  (pss_cons (ps_set (i := 6) sc_law.nd rfl (.inl rfl) (pe_call G_shown (hr.mono (by decide)) (by rfl) T.D_shown.g T.D_shown.F.kp T.D_shown.b .nil pass0 (pa_cons (pe_tup (pa_cons (pv 2) (pa_cons (pv 3) (pa_cons (pv 4) pa_nil)))) pa_nil)))
  (pss_cons (ps_if (PW.pt (pw_or (pt_not (pt_val (pe_callB call_isi (by rfl) T.n_isinstance (by decide +kernel) (pa_cons (pv 6) (pa_cons (pe_bltn (v := .ty "str") (by rfl) T.n_str (by decide +kernel) rfl) pa_nil))))) (pw_or (pt_cmpR op_ne (pv 6) (pv 5) (nomark _)) (pw_or1 (pt_not (pt_val (pe_call G__law_good (hr.mono (by decide)) (by rfl) T.D__law_good.g T.D__law_good.F.kp T.D__law_good.b .nil pass0 (pa_cons (pv 5) pa_nil))))))))
    (pss_one (ps_ret pe_bl))
    pss_nil)
  (pss_cons (ps_set (i := 7) sc_law.nd rfl (.inl rfl) (pe_op op_mod (pe_call G__law_cell_at (hr.mono (by decide)) (by rfl) T.D__law_cell_at.g T.D__law_cell_at.F.kp T.D__law_cell_at.b .nil pass0 (pa_cons (pv 0) (pa_cons pe_int pa_nil))) pe_int))
  (pss_cons (ps_set (i := 8) sc_law.nd rfl (.inl rfl) (pe_op op_mod (pe_call G__law_cell_at (hr.mono (by decide)) (by rfl) T.D__law_cell_at.g T.D__law_cell_at.F.kp T.D__law_cell_at.b .nil pass0 (pa_cons (pv 0) (pa_cons pe_int pa_nil))) (pe_op op_add (pe_callB call_len_str (by rfl) T.n_len PySem.boot_len (pa_cons (pv 5) pa_nil)) pe_int)))
  (pss_cons (ps_set (i := 9) sc_law.nd rfl (.inl rfl) (pe_call G__law_sign_by (hr.mono (by decide)) (by rfl) T.D__law_sign_by.g T.D__law_sign_by.F.kp T.D__law_sign_by.b .nil pass0 (pa_cons (pe_call G__law_cell_at (hr.mono (by decide)) (by rfl) T.D__law_cell_at.g T.D__law_cell_at.F.kp T.D__law_cell_at.b .nil pass0 (pa_cons (pv 0) (pa_cons pe_int pa_nil))) pa_nil)))
  (pss_cons (ps_if (pt_cmpR op_eq (pv 7) pe_int (nomark _))
    (pss_one (ps_set (i := 5) sc_law.nd rfl (.inl rfl) (pe_op op_add_str (pe_op op_add_str (pe_slice sl_str (pv 5) po_none (po_some (pv 8))) (pv 9)) (pe_slice sl_str (pv 5) (po_some (pv 8)) po_none))))
    pss_nil)
  (pss_cons (ps_if (pt_cmpR op_eq (pv 7) pe_int (nomark _))
    (pss_one (ps_set (i := 5) sc_law.nd rfl (.inl rfl) (pe_op op_add_str (pe_slice sl_str (pv 5) po_none (po_some (pv 8))) (pe_slice sl_str (pv 5) (po_some (pe_op op_add (pv 8) pe_int)) po_none))))
    pss_nil)
  (pss_cons (ps_if (pt_cmpR op_eq (pv 7) pe_int (nomark _))
    (pss_one (ps_set (i := 5) sc_law.nd rfl (.inl rfl) (pe_call G__law_odd_line (hr.mono (by decide)) (by rfl) T.D__law_odd_line.g T.D__law_odd_line.F.kp T.D__law_odd_line.b .nil pass0 (pa_cons (pe_call G__law_cell_at (hr.mono (by decide)) (by rfl) T.D__law_cell_at.g T.D__law_cell_at.F.kp T.D__law_cell_at.b .nil pass0 (pa_cons (pv 0) (pa_cons pe_int pa_nil))) pa_nil))))
    pss_nil)
  (pss_cons (ps_if (pt_cmpR op_eq (pv 7) pe_int (nomark _))
    (pss_cons (ps_set (i := 10) sc_law.nd rfl (.inl rfl) (pe_op op_add_str (pe_ix ix_str pe_str (pe_op op_mod (pe_call G__law_cell_at (hr.mono (by decide)) (by rfl) T.D__law_cell_at.g T.D__law_cell_at.F.kp T.D__law_cell_at.b .nil pass0 (pa_cons (pv 0) (pa_cons pe_int pa_nil))) pe_int) (fun _ _ => rfl)) (pe_op op_mulS pe_str (pe_op op_mod (pe_call G__law_cell_at (hr.mono (by decide)) (by rfl) T.D__law_cell_at.g T.D__law_cell_at.F.kp T.D__law_cell_at.b .nil pass0 (pa_cons (pv 0) (pa_cons pe_int pa_nil))) pe_int))))
  (pss_cons (ps_set (i := 5) sc_law.nd rfl (.inl rfl) (pe_op op_add_str (pe_op op_add_str (pe_op op_add_str (pe_op op_add_str (pv 2) pe_str) (pv 10)) pe_str) (pe_callTy call_str_int (by rfl) T.n_str (by decide +kernel) (pa_cons (pv 3) pa_nil))))
  (pss_cons (ps_if (pt_cmpR op_eq (pe_op op_mod (pe_call G__law_cell_at (hr.mono (by decide)) (by rfl) T.D__law_cell_at.g T.D__law_cell_at.F.kp T.D__law_cell_at.b .nil pass0 (pa_cons (pv 0) (pa_cons pe_int pa_nil))) pe_int) pe_int (nomark _))
    (pss_one (ps_set (i := 5) sc_law.nd rfl (.inl rfl) (pe_op op_add_str (pe_op op_add_str (pe_op op_add_str (pe_op op_add_str (pv 2) pe_str) (pe_callTy call_str_int (by rfl) T.n_str (by decide +kernel) (pa_cons (pv 4) pa_nil))) pe_str) (pv 10))))
    pss_nil)
  (pss_one (ps_if (pt_cmpR op_eq (pe_op op_mod (pe_call G__law_cell_at (hr.mono (by decide)) (by rfl) T.D__law_cell_at.g T.D__law_cell_at.F.kp T.D__law_cell_at.b .nil pass0 (pa_cons (pv 0) (pa_cons pe_int pa_nil))) pe_int) pe_int (nomark _))
    (pss_one (ps_set (i := 5) sc_law.nd rfl (.inl rfl) (pe_op op_add_str (pe_op op_add_str (pe_op op_add_str (pe_op op_add_str (pv 2) pe_str) (pv 10)) pe_str) (pv 10))))
    pss_nil)))))
    pss_nil)
  (pss_one (ps_ret (pe_call G__law_good (hr.mono (by decide)) (by rfl) T.D__law_good.g T.D__law_good.F.kp T.D__law_good.b .nil pass0 (pa_cons (pv 5) pa_nil)))))))))))))))))))), ?_⟩
    try dsimp only [cxOf, Cx.nox, Cx.wish]
    have zz : 2000 ≤ sizeLine := by decide
    refine qs_setI (by walk_at "ev") fun c hc H1 S1 => ?_
    refine qs_set (ev_ixLP (evp_lstV (K := K) (evl_cons ev_c (evl_cons ev_c evl_nil)) (by decide)) (by walk_at "ev") (two_sides (by omega) (by omega))) fun H2 S2 => ?_
    generalize hbb : decide (ns.getD (2 : Int).toNat 0 % 2 = 0) = b
    refine qs_setI (by walk_at "ev") fun l1 hl1 H3 S3 => ?_
    refine qs_setI (by walk_at "ev") fun m1 hm1 H4 S4 => ?_
    refine qs_ifsetI (by walk_at "et") rfl (fun _ => by walk_at "ev") fun l hl H5 S5 => ?_
    refine qs_ifsetI (by walk_at "et") rfl (fun _ => by walk_at "ev") fun m hm H6 S6 => ?_
    have hl0 : 0 ≤ l ∧ l ≤ 1000000000 := by
      have k := fun z : Int => menu_all (P := fun z => 0 ≤ z ∧ z ≤ 1000000000) (ns := [(0 : Int), 1000000000, 9, 10]) (by decide) (by decide) z.toNat
      rw [hl]
      split
      · exact k _
      · omega
    have hm0 : 1 ≤ m ∧ m ≤ 1000000 := by
      rw [hm]
      split
      · rename_i e
        have k : ∀ j : Nat, j < 4 → 1 ≤ [(1 : Int), 1000000, 9, 10].getD j 0 ∧ [(1 : Int), 1000000, 9, 10].getD j 0 ≤ 1000000 := by decide
        exact k _ (by omega)
      · omega
    have S06 := S1.trans (S2.trans (S3.trans (S4.trans (S5.trans S6))))
    clear hc hl1 hm1 hl hm hbb
    have h1 := side_len b
    have h2 : (toString m : Str).length ≤ 10 := text_len (by omega) (by omega)
    have h3 : (toString l : Str).length ≤ 10 := text_len hl0.1 hl0.2
    have e1 : sBlank.length ≤ 1 := by decide +kernel
    have e2 : (PySem.Str.ofString " at ").length ≤ 4 := by decide +kernel
    have k2 := lens h1 e1
    have k3 := lens k2 h2
    have k4 := lens k3 e2
    have k5 := lens k4 h3
    -- side, a number's text, at, another
    have mk : ∀ {σ : L2.St} {H' : Hp} {ta tb tc : TE} {x y : Str}, Ev ta σ H' (.str (sideS b)) → Ev tb σ H' (.str x) → Ev tc σ H' (.str y) → x.length ≤ 100 → y.length ≤ 100 → Ev (tOp (fun x y H Q => ∃ i j, x = .str i ∧ y = .str j ∧ i.length + j.length ≤ sizeLine ∧ Q (.str (i ++ j)) H) (tOp (fun x y H Q => ∃ i j, x = .str i ∧ y = .str j ∧ i.length + j.length ≤ sizeLine ∧ Q (.str (i ++ j)) H) (tOp (fun x y H Q => ∃ i j, x = .str i ∧ y = .str j ∧ i.length + j.length ≤ sizeLine ∧ Q (.str (i ++ j)) H) (tOp (fun x y H Q => ∃ i j, x = .str i ∧ y = .str j ∧ i.length + j.length ≤ sizeLine ∧ Q (.str (i ++ j)) H) ta (tC (.str sBlank))) tb) (tC (.str (PySem.Str.ofString " at ")))) tc) σ H' (.str ((((sideS b ++ sBlank) ++ x) ++ (PySem.Str.ofString " at ")) ++ y)) ∧ ((((sideS b ++ sBlank) ++ x) ++ (PySem.Str.ofString " at ")) ++ y).length ≤ 1000 := by
      intro σ H' ta tb tc x y ea eb ec hx hy
      have j3 := lens k2 hx
      have j4 := lens j3 e2
      have j5 := lens j4 hy
      exact ⟨ev_addE (ev_addE (ev_addE (ev_addE ea ev_c (by omega) (by omega)) eb (by omega) (by omega)) ev_c (by omega) (by omega)) ec (by omega) (by omega), by omega⟩
    show tSeq _ _ _ [some (.ref a), some (.int c), some (.str (sideS b)), some (.int l), some (.int m), none, none, none, none, none, none] H6
    refine qs_set (mk (ev_var rfl) (ev_strI (ev_var rfl) (log_small (by omega) (by omega))) (ev_strI (ev_var rfl) (log_small hl0.1 hl0.2)) (by omega) (by omega)).1 fun H7 S7 => ?_
    have hline : ((((sideS b ++ sBlank) ++ (toString m : Str)) ++ (PySem.Str.ofString " at ")) ++ (toString l : Str)).length ≤ 100 := by omega
    generalize hLL : (((sideS b ++ sBlank) ++ (toString m : Str)) ++ (PySem.Str.ofString " at ")) ++ (toString l : Str) = line at hline
    refine qs_set (v := .str line) (ev_callA (eva_consP (evp_tupV (K := K) (vs := [V.str (sideS b), V.int l, V.int m]) (evl_cons (ev_var rfl) (evl_cons (ev_var rfl) (evl_cons (ev_var rfl) evl_nil))) (by show 3 ≤ sizeLine; decide)) (fun v H H' S ⟨t, e, h⟩ => ⟨t, e, S.sqt h⟩) eva_nil) fun us H8 S8 hu Q k => ?_) fun H8 S8 => ?_
    · obtain ⟨v, r, rfl, ⟨t, rfl, ht⟩, rfl⟩ := hu
      refine ⟨.ref t, ⟨b, l, m⟩, rfl, ⟨t, rfl, ht⟩, ⟨hl0.1, hl0.2, hm0.1, hm0.2⟩, ?_⟩
      have e : (((((Str.empty ++ sideS b) ++ sBlank) ++ (toString m : Str)) ++ (PySem.Str.ofString " at ")) ++ (toString l : Str)) = line := by
        rw [← hLL]
        congr 4
        cases b <;> decide +kernel
      show ∀ H', Sm H8 H' → Q (.str (((((Str.empty ++ sideS b) ++ sBlank) ++ (toString m : Str)) ++ (PySem.Str.ofString " at ")) ++ (toString l : Str))) H'
      rw [e]
      exact k
    · have S78 := S7.trans S8
      show tSeq _ _ _ [some (.ref a), some (.int c), some (.str (sideS b)), some (.int l), some (.int m), some (.str line), some (.str line), none, none, none, none] H8
      refine qs_if (b := false) (EvT.to (evt_or (b := false) (c := false) (EvT.to (evt_not (evt_b (b := true) (ev_isi (x := .str line) (u := .type "str") (t := .type "str") (ev_var rfl) ev_c (.ty "str") (fun H' S' => .base (.str _)) (kit_ty (by decide +kernel))))) rfl) fun _ => EvT.to (evt_or (b := false) (c := false) (EvT.to (evt_test (ev_ne (ev_var rfl) (ev_var rfl) rfl)) (by rw [decide_eq_true rfl]; rfl)) fun _ => EvT.to (evt_not (evt_b (ev_good (ev_var rfl) (by omega)))) rfl) rfl) rfl) (fun e => by cases e) (fun e H9 S9 => ?_)
      have S09 := S06.trans (S78.trans S9)
      have hS9 := S09.sql hS
      refine qs_setI (by walk_at "ev") fun way hway H10 S10 => ?_
      refine qs_setI (ev_opI (ev_cell (ev_var rfl) ev_c (S10.sql hS9) (by decide)) (ev_opI0 (ev_lenS (ev_var rfl) (by omega)) ev_c) (by show (0 : Int) < (line.length : Int) + 1; omega)) fun at_ hat H11 S11 => ?_
      have a0 := Int.emod_nonneg (ns.getD (5 : Int).toNat 0) (show ((line.length : Int) + 1) ≠ 0 by omega)
      have S911 := S10.trans S11
      refine qs_setP (P := fun v _ => ∃ x : Nat, v = .str ⟨#[x]⟩) (evp_call (evl_cons (ev_cell (ev_var rfl) ev_c (S911.sql hS9) (by decide)) evl_nil) fun H12 S12 Q k => ⟨_, rfl, fun x H' S' => k _ H' S' ⟨x, rfl⟩⟩) fun v H12 S12 hv => ?_
      obtain ⟨x, rfl⟩ := hv
      clear hway hat a0
      show tSeq _ _ _ [some (.ref a), some (.int c), some (.str (sideS b)), some (.int l), some (.int m), some (.str line), some (.str line), some (.int way), some (.int at_), some (.str ⟨#[x]⟩), none] H12
      have S912 := S911.trans S12
      have hx1 : (⟨#[x]⟩ : Str).length ≤ 1 := Nat.le_refl _
      have c1 : ∀ (z : Str) (lo hi : Option Int), (cutS z lo hi).length ≤ z.length := cutS_length
      -- whichever way, some line
      refine qs_ifsetP (P := fun v _ => ∃ z : Str, v = .str z ∧ z.length ≤ 300) (evt_test (ev_eqI (ev_var rfl) ev_c)) rfl
        (fun _ => (ev_addE (ev_addE (ev_cutS (lo := none) (hi := some at_) (ev_var rfl) evo_no (evo_some (ev_var rfl)) (by omega)) (ev_var rfl) (by have := c1 line none (some at_); omega) (by omega)) (ev_cutS (lo := some at_) (hi := none) (ev_var rfl) (evo_some (ev_var rfl)) evo_no (by omega)) (lensE (c1 _ _ _) hx1 (by omega)) (by have := c1 line (some at_) none; omega)).pp fun _ _ => ⟨_, rfl, ?_⟩)
        (fun _ _ _ => ⟨line, rfl, ?_⟩) fun v H13 S13 hv => ?_
      · have q1 := lens (c1 line none (some at_)) hx1
        exact lensE q1 (c1 line (some at_) none) (by omega)
      · omega
      obtain ⟨line1, rfl, hz1⟩ := hv
      show tSeq _ _ _ [some (.ref a), some (.int c), some (.str (sideS b)), some (.int l), some (.int m), some (.str line1), some (.str line), some (.int way), some (.int at_), some (.str ⟨#[x]⟩), none] H13
      refine qs_ifsetP (P := fun v _ => ∃ z : Str, v = .str z ∧ z.length ≤ 600) (evt_test (ev_eqI (ev_var rfl) ev_c)) rfl
        (fun _ => (ev_addE (ev_cutS (lo := none) (hi := some at_) (ev_var rfl) evo_no (evo_some (ev_var rfl)) (by omega)) (ev_cutS (lo := some (at_ + 1)) (hi := none) (ev_var rfl) (evo_some (ev_opI0 (ev_var rfl) ev_c)) evo_no (by omega)) (by have := c1 line1 none (some at_); omega) (by have := c1 line1 (some (at_ + 1)) none; omega)).pp fun _ _ => ⟨_, rfl, lensE (c1 _ _ _) (c1 _ _ _) (by omega)⟩)
        (fun _ _ _ => ⟨line1, rfl, by omega⟩) fun v H14 S14 hv => ?_
      obtain ⟨line2, rfl, hz2⟩ := hv
      show tSeq _ _ _ [some (.ref a), some (.int c), some (.str (sideS b)), some (.int l), some (.int m), some (.str line2), some (.str line), some (.int way), some (.int at_), some (.str ⟨#[x]⟩), none] H14
      have S914 := S912.trans (S13.trans S14)
      refine qs_ifsetP (P := fun v _ => ∃ z : Str, v = .str z ∧ z.length ≤ 600) (evt_test (ev_eqI (ev_var rfl) ev_c)) rfl
        (fun _ => evp_call (evl_cons (ev_cell (ev_var rfl) ev_c (S914.sql hS9) (by decide)) evl_nil) fun H15 S15 Q k => ⟨_, rfl, fun z H' S' h => k _ H' S' ⟨z, rfl, by omega⟩⟩)
        (fun _ _ _ => ⟨line2, rfl, hz2⟩) fun v H15 S15 hv => ?_
      obtain ⟨line3, rfl, hz3⟩ := hv
      show tSeq _ _ _ [some (.ref a), some (.int c), some (.str (sideS b)), some (.int l), some (.int m), some (.str line3), some (.str line), some (.int way), some (.int at_), some (.str ⟨#[x]⟩), none] H15
      have S915 := S914.trans S15
      refine qs_ifQ (fun σ2 H2 => ∃ (z : Str) (y10 : Option V), σ2 = [some (.ref a), some (.int c), some (.str (sideS b)), some (.int l), some (.int m), some (.str z), some (.str line), some (.int way), some (.int at_), some (.str ⟨#[x]⟩), y10] ∧ z.length ≤ 1000) (evt_test (ev_eqI (ev_var rfl) ev_c)) (fun e H16 S16 D' hD' _ => ?_) (fun _ _ _ => ⟨line3, none, rfl, by omega⟩) fun σ2 H16 hv => ?_
      · have hS16 := (S915.trans S16).sql hS9
        have f0 := Int.emod_nonneg (ns.getD (6 : Int).toNat 0) (show (10 : Int) ≠ 0 by decide)
        have f1 := Int.emod_lt_of_pos (ns.getD (6 : Int).toNat 0) (show (0 : Int) < 10 by decide)
        have g0 := Int.emod_nonneg (ns.getD (5 : Int).toNat 0) (show (62 : Int) ≠ 0 by decide)
        have g1 := Int.emod_lt_of_pos (ns.getD (5 : Int).toNat 0) (show (0 : Int) < 62 by decide)
        obtain ⟨n7, hn7⟩ : ∃ n : Nat, ns.getD (5 : Int).toNat 0 % 62 = (n : Int) := ⟨(ns.getD (5 : Int).toNat 0 % 62).toNat, by omega⟩
        have h7 := sevens n7 (by omega)
        have hfl : (ns.getD (6 : Int).toNat 0 % 10).toNat < figs.cps.toList.length := by
          rw [figs_list]
          show _ < 10
          omega
        refine qs_set (ev_addE (ev_ixS (z := figs) (i := ns.getD (6 : Int).toNat 0 % 10) ev_c (ev_opI (ev_cell (ev_var rfl) ev_c hS16 (by decide)) ev_c (by show (0 : Int) < 10; decide)) (by decide +kernel) (atS_of (j := (ns.getD (6 : Int).toNat 0 % 10).toNat) (by omega) (List.getElem?_eq_getElem hfl)))
          (ev_mulS (n := (n7 : Int)) ev_c (Ev.to (ev_opI (ev_cell (ev_var rfl) ev_c hS16 (by decide)) ev_c (by show (0 : Int) < 62; decide)) (by rw [hn7])) h7.1) (show (1 : Nat) ≤ 1000 by decide) (by have := h7.2; omega)) fun H17 S17 => ?_
        have hfg := lens (a := (⟨#[figs.cps.toList[(ns.getD (6 : Int).toNat 0 % 10).toNat]]⟩ : Str)) (Nat.le_refl 1) h7.2
        generalize (⟨#[figs.cps.toList[(ns.getD (6 : Int).toNat 0 % 10).toNat]]⟩ : Str) ++ Txt.mul (PySem.Str.ofString "7") (n7 : Int) = fg at hfg
        show tSeq _ _ _ [some (.ref a), some (.int c), some (.str (sideS b)), some (.int l), some (.int m), some (.str line3), some (.str line), some (.int way), some (.int at_), some (.str ⟨#[x]⟩), some (.str fg)] H17
        have m1' := mk (σ := []) (H' := H) (ta := tC (.str (sideS b))) (tb := tC (.str fg)) (tc := tC (.str (toString l : Str))) ev_c ev_c ev_c (by omega) (by omega)
        refine qs_set (mk (ev_var rfl) (ev_var rfl) (ev_strI (ev_var rfl) (log_small hl0.1 hl0.2)) (by omega) (by omega)).1 fun H18 S18 => ?_
        have hz4 := m1'.2
        generalize (((sideS b ++ sBlank) ++ fg) ++ (PySem.Str.ofString " at ")) ++ (toString l : Str) = line4 at hz4
        show tSeq _ _ _ [some (.ref a), some (.int c), some (.str (sideS b)), some (.int l), some (.int m), some (.str line4), some (.str line), some (.int way), some (.int at_), some (.str ⟨#[x]⟩), some (.str fg)] H18
        have S1618 := S17.trans S18
        refine qs_ifsetP (P := fun v _ => ∃ z : Str, v = .str z ∧ z.length ≤ 1000) (evt_test (ev_eqI (ev_opI (ev_cell (ev_var rfl) ev_c (S1618.sql hS16) (by decide)) ev_c (by show (0 : Int) < 3; decide)) ev_c)) rfl
          (fun _ => (mk (ev_var rfl) (ev_strI (ev_var rfl) (log_small (by omega) (by omega))) (ev_var rfl) (by omega) (by omega)).1.pp fun _ _ => ⟨_, rfl, (mk (σ := []) (H' := H) (ta := tC (.str (sideS b))) (tb := tC (.str (toString m : Str))) (tc := tC (.str fg)) ev_c ev_c ev_c (by omega) (by omega)).2⟩)
          (fun _ _ _ => ⟨line4, rfl, hz4⟩) fun v H19 S19 hv => ?_
        obtain ⟨line5, rfl, hz5⟩ := hv
        show tIfS _ _ _ _ [some (.ref a), some (.int c), some (.str (sideS b)), some (.int l), some (.int m), some (.str line5), some (.str line), some (.int way), some (.int at_), some (.str ⟨#[x]⟩), some (.str fg)] H19
        have e0 : (PySem.Str.ofString " at 0").length ≤ 5 := by decide +kernel
        have i1 : (PySem.Str.ofString " ").length ≤ 1 := e1
        have i2 : (sideS b ++ (PySem.Str.ofString " ")).length ≤ 4 + 1 := k2
        have j3 := lens i2 hfg
        have j4 := lens j3 e0
        have j5 := lens j4 hfg
        refine q_ifsetP (P := fun v _ => ∃ z : Str, v = .str z ∧ z.length ≤ 1000) (evt_test (ev_eqI (ev_opI (ev_cell (ev_var rfl) ev_c (S19.sql (S1618.sql hS16)) (by decide)) ev_c (by show (0 : Int) < 3; decide)) ev_c)) rfl
          (fun _ => (ev_addE (ev_addE (ev_addE (ev_addE (ev_var rfl) ev_c (by omega) (by omega)) (ev_var rfl) (by omega) (by omega)) ev_c (by omega) (by omega)) (ev_var rfl) (by omega) (by omega)).pp fun _ _ => ⟨_, rfl, by omega⟩)
          (fun _ _ _ => ⟨line5, rfl, hz5⟩) fun v H20 S20 hv => ?_
        obtain ⟨z, rfl, hz⟩ := hv
        exact hD' _ H20 ⟨z, _, rfl, hz⟩
      · obtain ⟨line6, y10, rfl, hz6⟩ := hv
        exact q_ret (ev_good (ev_var rfl) hz6) fun H17 S17 => q H17

end
def mkTxt {K : PySem.W.Frag} {h : Heap} {mg : Str → Option Value} (X : K.In h) (G : h.Ns mainGlobals mg)
    {f0 : Addr} {od0 an0 : Option Addr} {sl0 : Array (Option Value)} {oc0 kV0 dc0 pm0 ct0 : Value} {cd0 : Value}
    {f1 : Addr} {od1 an1 : Option Addr} {sl1 : Array (Option Value)} {oc1 kV1 dc1 pm1 ct1 : Value} {cd1 : Value}
    {f2 : Addr} {od2 an2 : Option Addr} {sl2 : Array (Option Value)} {oc2 kV2 dc2 pm2 ct2 : Value} {cd2 : Value}
    {f3 : Addr} {od3 an3 : Option Addr} {sl3 : Array (Option Value)} {oc3 kV3 dc3 pm3 ct3 : Value} {cd3 : Value}
    {f4 : Addr} {od4 an4 : Option Addr} {sl4 : Array (Option Value)} {oc4 kV4 dc4 pm4 ct4 : Value} {cd4 : Value}
    {f5 : Addr} {od5 an5 : Option Addr} {sl5 : Array (Option Value)} {oc5 kV5 dc5 pm5 ct5 : Value} {cd5 : Value}
    {f6 : Addr} {od6 an6 : Option Addr} {sl6 : Array (Option Value)} {oc6 kV6 dc6 pm6 ct6 : Value} {cd6 : Value}
    {f7 : Addr} {od7 an7 : Option Addr} {sl7 : Array (Option Value)} {oc7 kV7 dc7 pm7 ct7 : Value} {cd7 : Value}
    {f8 : Addr} {od8 an8 : Option Addr} {sl8 : Array (Option Value)} {oc8 kV8 dc8 pm8 ct8 : Value} {cd8 : Value}
    {f9 : Addr} {od9 an9 : Option Addr} {sl9 : Array (Option Value)} {oc9 kV9 dc9 pm9 ct9 : Value} {cd9 : Value}
    {f10 : Addr} {od10 an10 : Option Addr} {sl10 : Array (Option Value)} {oc10 kV10 dc10 pm10 ct10 : Value} {cd10 : Value}
    {f11 : Addr} {od11 an11 : Option Addr} {sl11 : Array (Option Value)} {oc11 kV11 dc11 pm11 ct11 : Value} {cd11 : Value}
    {f12 : Addr} {od12 an12 : Option Addr} {sl12 : Array (Option Value)} {oc12 kV12 dc12 pm12 ct12 : Value} {cd12 : Value}
    {f13 : Addr} {od13 an13 : Option Addr} {sl13 : Array (Option Value)} {oc13 kV13 dc13 pm13 ct13 : Value} {cd13 : Value}
    {f14 : Addr} {od14 an14 : Option Addr} {sl14 : Array (Option Value)} {oc14 kV14 dc14 pm14 ct14 : Value} {cd14 : Value}
    {f15 : Addr} {od15 an15 : Option Addr} {sl15 : Array (Option Value)} {oc15 kV15 dc15 pm15 ct15 : Value} {cd15 : Value}
    {tTOP : Tok}
    {tMOST : Tok}
    {tFIGURES : Tok}
    {tMOST_FIGURES : Tok}
    {C0 : Addr}
    {C1 : Addr}
    {C2 : Addr}
    {C3 : Addr}
    {C4 : Addr}
    {C5 : Addr}
    {C6 : Addr}
    (a0 : PySem.W.nsIn K mainGlobals "is_number" = some (some (.ref f0)))
    (l0 : K.lookup f0 = some ⟨oc0, od0, .func (PySem.W.fnOf "is_number" "is_number" (defArgs s_is_number) (defBody s_is_number) (defScope s_is_number) .none kV0 dc0 pm0 an0 cd0 ct0), sl0⟩)
    (c0 : PySem.W.codeIn K cd0 "is_number" = true) (k0 : PySem.W.keepIn K (.ref f0) = true)
    (a1 : PySem.W.nsIn K mainGlobals "is_side" = some (some (.ref f1)))
    (l1 : K.lookup f1 = some ⟨oc1, od1, .func (PySem.W.fnOf "is_side" "is_side" (defArgs s_is_side) (defBody s_is_side) (defScope s_is_side) .none kV1 dc1 pm1 an1 cd1 ct1), sl1⟩)
    (c1 : PySem.W.codeIn K cd1 "is_side" = true) (k1 : PySem.W.keepIn K (.ref f1) = true)
    (a2 : PySem.W.nsIn K mainGlobals "checked" = some (some (.ref f2)))
    (l2 : K.lookup f2 = some ⟨oc2, od2, .func (PySem.W.fnOf "checked" "checked" (defArgs s_checked) (defBody s_checked) (defScope s_checked) .none kV2 dc2 pm2 an2 cd2 ct2), sl2⟩)
    (c2 : PySem.W.codeIn K cd2 "checked" = true) (k2 : PySem.W.keepIn K (.ref f2) = true)
    (a3 : PySem.W.nsIn K mainGlobals "shown" = some (some (.ref f3)))
    (l3 : K.lookup f3 = some ⟨oc3, od3, .func (PySem.W.fnOf "shown" "shown" (defArgs s_shown) (defBody s_shown) (defScope s_shown) .none kV3 dc3 pm3 an3 cd3 ct3), sl3⟩)
    (c3 : PySem.W.codeIn K cd3 "shown" = true) (k3 : PySem.W.keepIn K (.ref f3) = true)
    (a4 : PySem.W.nsIn K mainGlobals "is_written_number" = some (some (.ref f4)))
    (l4 : K.lookup f4 = some ⟨oc4, od4, .func (PySem.W.fnOf "is_written_number" "is_written_number" (defArgs s_is_written_number) (defBody s_is_written_number) (defScope s_is_written_number) .none kV4 dc4 pm4 an4 cd4 ct4), sl4⟩)
    (c4 : PySem.W.codeIn K cd4 "is_written_number" = true) (k4 : PySem.W.keepIn K (.ref f4) = true)
    (a5 : PySem.W.nsIn K mainGlobals "read" = some (some (.ref f5)))
    (l5 : K.lookup f5 = some ⟨oc5, od5, .func (PySem.W.fnOf "read" "read" (defArgs s_read) (defBody s_read) (defScope s_read) .none kV5 dc5 pm5 an5 cd5 ct5), sl5⟩)
    (c5 : PySem.W.codeIn K cd5 "read" = true) (k5 : PySem.W.keepIn K (.ref f5) = true)
    (a6 : PySem.W.nsIn K mainGlobals "_law_cell_at" = some (some (.ref f6)))
    (l6 : K.lookup f6 = some ⟨oc6, od6, .func (PySem.W.fnOf "_law_cell_at" "_law_cell_at" (defArgs s__law_cell_at) (defBody s__law_cell_at) (defScope s__law_cell_at) .none kV6 dc6 pm6 an6 cd6 ct6), sl6⟩)
    (c6 : PySem.W.codeIn K cd6 "_law_cell_at" = true) (k6 : PySem.W.keepIn K (.ref f6) = true)
    (a7 : PySem.W.nsIn K mainGlobals "_law_whole" = some (some (.ref f7)))
    (l7 : K.lookup f7 = some ⟨oc7, od7, .func (PySem.W.fnOf "_law_whole" "_law_whole" (defArgs s__law_whole) (defBody s__law_whole) (defScope s__law_whole) .none kV7 dc7 pm7 an7 cd7 ct7), sl7⟩)
    (c7 : PySem.W.codeIn K cd7 "_law_whole" = true) (k7 : PySem.W.keepIn K (.ref f7) = true)
    (a8 : PySem.W.nsIn K mainGlobals "_law_sign_by" = some (some (.ref f8)))
    (l8 : K.lookup f8 = some ⟨oc8, od8, .func (PySem.W.fnOf "_law_sign_by" "_law_sign_by" (defArgs s__law_sign_by) (defBody s__law_sign_by) (defScope s__law_sign_by) .none kV8 dc8 pm8 an8 cd8 ct8), sl8⟩)
    (c8 : PySem.W.codeIn K cd8 "_law_sign_by" = true) (k8 : PySem.W.keepIn K (.ref f8) = true)
    (a9 : PySem.W.nsIn K mainGlobals "_law_figures" = some (some (.ref f9)))
    (l9 : K.lookup f9 = some ⟨oc9, od9, .func (PySem.W.fnOf "_law_figures" "_law_figures" (defArgs s__law_figures) (defBody s__law_figures) (defScope s__law_figures) .none kV9 dc9 pm9 an9 cd9 ct9), sl9⟩)
    (c9 : PySem.W.codeIn K cd9 "_law_figures" = true) (k9 : PySem.W.keepIn K (.ref f9) = true)
    (a10 : PySem.W.nsIn K mainGlobals "_law_due_of" = some (some (.ref f10)))
    (l10 : K.lookup f10 = some ⟨oc10, od10, .func (PySem.W.fnOf "_law_due_of" "_law_due_of" (defArgs s__law_due_of) (defBody s__law_due_of) (defScope s__law_due_of) .none kV10 dc10 pm10 an10 cd10 ct10), sl10⟩)
    (c10 : PySem.W.codeIn K cd10 "_law_due_of" = true) (k10 : PySem.W.keepIn K (.ref f10) = true)
    (a11 : PySem.W.nsIn K mainGlobals "_law_names" = some (some (.ref f11)))
    (l11 : K.lookup f11 = some ⟨oc11, od11, .func (PySem.W.fnOf "_law_names" "_law_names" (defArgs s__law_names) (defBody s__law_names) (defScope s__law_names) .none kV11 dc11 pm11 an11 cd11 ct11), sl11⟩)
    (c11 : PySem.W.codeIn K cd11 "_law_names" = true) (k11 : PySem.W.keepIn K (.ref f11) = true)
    (a12 : PySem.W.nsIn K mainGlobals "_law_alike" = some (some (.ref f12)))
    (l12 : K.lookup f12 = some ⟨oc12, od12, .func (PySem.W.fnOf "_law_alike" "_law_alike" (defArgs s__law_alike) (defBody s__law_alike) (defScope s__law_alike) .none kV12 dc12 pm12 an12 cd12 ct12), sl12⟩)
    (c12 : PySem.W.codeIn K cd12 "_law_alike" = true) (k12 : PySem.W.keepIn K (.ref f12) = true)
    (a13 : PySem.W.nsIn K mainGlobals "_law_good" = some (some (.ref f13)))
    (l13 : K.lookup f13 = some ⟨oc13, od13, .func (PySem.W.fnOf "_law_good" "_law_good" (defArgs s__law_good) (defBody s__law_good) (defScope s__law_good) .none kV13 dc13 pm13 an13 cd13 ct13), sl13⟩)
    (c13 : PySem.W.codeIn K cd13 "_law_good" = true) (k13 : PySem.W.keepIn K (.ref f13) = true)
    (a14 : PySem.W.nsIn K mainGlobals "_law_odd_line" = some (some (.ref f14)))
    (l14 : K.lookup f14 = some ⟨oc14, od14, .func (PySem.W.fnOf "_law_odd_line" "_law_odd_line" (defArgs s__law_odd_line) (defBody s__law_odd_line) (defScope s__law_odd_line) .none kV14 dc14 pm14 an14 cd14 ct14), sl14⟩)
    (c14 : PySem.W.codeIn K cd14 "_law_odd_line" = true) (k14 : PySem.W.keepIn K (.ref f14) = true)
    (a15 : PySem.W.nsIn K mainGlobals "law" = some (some (.ref f15)))
    (l15 : K.lookup f15 = some ⟨oc15, od15, .func (PySem.W.fnOf "law" "law" (defArgs s_law) (defBody s_law) (defScope s_law) .none kV15 dc15 pm15 an15 cd15 ct15), sl15⟩)
    (c15 : PySem.W.codeIn K cd15 "law" = true) (k15 : PySem.W.keepIn K (.ref f15) = true)
    (vTOP : PySem.W.nsIn K mainGlobals "TOP" = some (some (.int 1000000000 tTOP)))
    (vMOST : PySem.W.nsIn K mainGlobals "MOST" = some (some (.int 1000000 tMOST)))
    (vFIGURES : PySem.W.nsIn K mainGlobals "FIGURES" = some (some (.str (PySem.Str.ofString "0123456789") tFIGURES)))
    (vMOST_FIGURES : PySem.W.nsIn K mainGlobals "MOST_FIGURES" = some (some (.int 60 tMOST_FIGURES)))
    (zlen : PySem.W.nsIn K mainGlobals "len" = some none)
    (zisinstance : PySem.W.nsIn K mainGlobals "isinstance" = some none)
    (ztuple : PySem.W.nsIn K mainGlobals "tuple" = some none)
    (zint : PySem.W.nsIn K mainGlobals "int" = some none)
    (zbool : PySem.W.nsIn K mainGlobals "bool" = some none)
    (zstr : PySem.W.nsIn K mainGlobals "str" = some none)
    (ztype : PySem.W.nsIn K mainGlobals "type" = some none)
    (zall : PySem.W.nsIn K mainGlobals "all" = some none)
    (zValueError : PySem.W.nsIn K mainGlobals "ValueError" = some none)
    (ggC0 : PySem.W.nsIn K mainGlobals "BidError" = some (some (.ref C0)))
    (ggC1 : PySem.W.nsIn K mainGlobals "BadWish" = some (some (.ref C1)))
    (ggC2 : PySem.W.nsIn K mainGlobals "BadPrice" = some (some (.ref C2)))
    (ggC3 : PySem.W.nsIn K mainGlobals "BadPieces" = some (some (.ref C3)))
    (ggC4 : PySem.W.nsIn K mainGlobals "Uneven" = some (some (.ref C4)))
    (ggC5 : PySem.W.nsIn K mainGlobals "NoSuch" = some (some (.ref C5)))
    (ggC6 : PySem.W.nsIn K mainGlobals "Unread" = some (some (.ref C6)))
    (kpC1 : PySem.W.keepIn K (.ref C1) = true)
    (exC1 : PySem.W.excIn K C1 [.type "ValueError", .type "Exception", .type "BaseException", .type "object"] "ValueError.__new__" = true)
    (beC1 : PySem.W.subIn K (.ref C1) (.type "BaseException") = some true)
    (tyC1 : PySem.W.typeIn K (.ref C1) = some (.type "type"))
    (hgC1 : PySem.W.findIn K (.ref C1) "__getattribute__" = some (some (.builtin "BaseException.__getattribute__")))
    (hkC1 : PySem.W.findIn K (.ref C1) "__getattr__" = some none)
    (hdC1 : PySem.W.hasDictIn K C1 = true)
    (haC1 : PySem.W.findIn K (.ref C1) "__class__" = some (some (.builtin "object.__class__")))
    (hnC1 : PySem.W.specialIn K (.builtin "object.__class__") "__get__" = some (some (.builtin "getset_descriptor.__get__")))
    (htC1 : PySem.W.takesIn K (.builtin "object.__class__") = some true)
    (hmC1 : PySem.W.mroIn K C1 (.type "object") = some true)
    (vvC1 : PySem.W.kitOne K (.ref C1) (.type "ValueError") = some true)
    (iC1C0 : PySem.W.kitOne K (.ref C1) (.ref C0) = some true)
    (iC1C1 : PySem.W.kitOne K (.ref C1) (.ref C1) = some true)
    (iC1C2 : PySem.W.kitOne K (.ref C1) (.ref C2) = some false)
    (iC1C3 : PySem.W.kitOne K (.ref C1) (.ref C3) = some false)
    (iC1C4 : PySem.W.kitOne K (.ref C1) (.ref C4) = some false)
    (iC1C5 : PySem.W.kitOne K (.ref C1) (.ref C5) = some false)
    (iC1C6 : PySem.W.kitOne K (.ref C1) (.ref C6) = some false)
    (xC1C0 : PySem.W.exmOne K (.ref C1) (.ref C0) = some true)
    (kpC6 : PySem.W.keepIn K (.ref C6) = true)
    (exC6 : PySem.W.excIn K C6 [.type "ValueError", .type "Exception", .type "BaseException", .type "object"] "ValueError.__new__" = true)
    (beC6 : PySem.W.subIn K (.ref C6) (.type "BaseException") = some true)
    (tyC6 : PySem.W.typeIn K (.ref C6) = some (.type "type"))
    (hgC6 : PySem.W.findIn K (.ref C6) "__getattribute__" = some (some (.builtin "BaseException.__getattribute__")))
    (hkC6 : PySem.W.findIn K (.ref C6) "__getattr__" = some none)
    (hdC6 : PySem.W.hasDictIn K C6 = true)
    (haC6 : PySem.W.findIn K (.ref C6) "__class__" = some (some (.builtin "object.__class__")))
    (hnC6 : PySem.W.specialIn K (.builtin "object.__class__") "__get__" = some (some (.builtin "getset_descriptor.__get__")))
    (htC6 : PySem.W.takesIn K (.builtin "object.__class__") = some true)
    (hmC6 : PySem.W.mroIn K C6 (.type "object") = some true)
    (vvC6 : PySem.W.kitOne K (.ref C6) (.type "ValueError") = some true)
    (iC6C0 : PySem.W.kitOne K (.ref C6) (.ref C0) = some true)
    (iC6C1 : PySem.W.kitOne K (.ref C6) (.ref C1) = some false)
    (iC6C2 : PySem.W.kitOne K (.ref C6) (.ref C2) = some false)
    (iC6C3 : PySem.W.kitOne K (.ref C6) (.ref C3) = some false)
    (iC6C4 : PySem.W.kitOne K (.ref C6) (.ref C4) = some false)
    (iC6C5 : PySem.W.kitOne K (.ref C6) (.ref C5) = some false)
    (iC6C6 : PySem.W.kitOne K (.ref C6) (.ref C6) = some true)
    (xC6C0 : PySem.W.exmOne K (.ref C6) (.ref C0) = some true) : Txt K mg :=
  { f_is_number := f0, d_is_number := (PySem.W.fnOf "is_number" "is_number" (defArgs s_is_number) (defBody s_is_number) (defScope s_is_number) .none kV0 dc0 pm0 an0 cd0 ct0), D_is_number := ⟨fun_mk (st := s_is_number) l0 c0 k0, (fun_mk (st := s_is_number) l0 c0 k0).binds (ps := ["thing", "least", "most"]) fun _ _ _ _ _ _ us hl => match us, hl with | [_, _, _], _ => rfl, PySem.W.mg_of X G a0⟩,
    f_is_side := f1, d_is_side := (PySem.W.fnOf "is_side" "is_side" (defArgs s_is_side) (defBody s_is_side) (defScope s_is_side) .none kV1 dc1 pm1 an1 cd1 ct1), D_is_side := ⟨fun_mk (st := s_is_side) l1 c1 k1, (fun_mk (st := s_is_side) l1 c1 k1).binds (ps := ["thing"]) fun _ _ _ _ _ _ us hl => match us, hl with | [_], _ => rfl, PySem.W.mg_of X G a1⟩,
    f_checked := f2, d_checked := (PySem.W.fnOf "checked" "checked" (defArgs s_checked) (defBody s_checked) (defScope s_checked) .none kV2 dc2 pm2 an2 cd2 ct2), D_checked := ⟨fun_mk (st := s_checked) l2 c2 k2, (fun_mk (st := s_checked) l2 c2 k2).binds (ps := ["thing"]) fun _ _ _ _ _ _ us hl => match us, hl with | [_], _ => rfl, PySem.W.mg_of X G a2⟩,
    f_shown := f3, d_shown := (PySem.W.fnOf "shown" "shown" (defArgs s_shown) (defBody s_shown) (defScope s_shown) .none kV3 dc3 pm3 an3 cd3 ct3), D_shown := ⟨fun_mk (st := s_shown) l3 c3 k3, (fun_mk (st := s_shown) l3 c3 k3).binds (ps := ["wish"]) fun _ _ _ _ _ _ us hl => match us, hl with | [_], _ => rfl, PySem.W.mg_of X G a3⟩,
    f_is_written_number := f4, d_is_written_number := (PySem.W.fnOf "is_written_number" "is_written_number" (defArgs s_is_written_number) (defBody s_is_written_number) (defScope s_is_written_number) .none kV4 dc4 pm4 an4 cd4 ct4), D_is_written_number := ⟨fun_mk (st := s_is_written_number) l4 c4 k4, (fun_mk (st := s_is_written_number) l4 c4 k4).binds (ps := ["word"]) fun _ _ _ _ _ _ us hl => match us, hl with | [_], _ => rfl, PySem.W.mg_of X G a4⟩,
    f_read := f5, d_read := (PySem.W.fnOf "read" "read" (defArgs s_read) (defBody s_read) (defScope s_read) .none kV5 dc5 pm5 an5 cd5 ct5), D_read := ⟨fun_mk (st := s_read) l5 c5 k5, (fun_mk (st := s_read) l5 c5 k5).binds (ps := ["line"]) fun _ _ _ _ _ _ us hl => match us, hl with | [_], _ => rfl, PySem.W.mg_of X G a5⟩,
    f__law_cell_at := f6, d__law_cell_at := (PySem.W.fnOf "_law_cell_at" "_law_cell_at" (defArgs s__law_cell_at) (defBody s__law_cell_at) (defScope s__law_cell_at) .none kV6 dc6 pm6 an6 cd6 ct6), D__law_cell_at := ⟨fun_mk (st := s__law_cell_at) l6 c6 k6, (fun_mk (st := s__law_cell_at) l6 c6 k6).binds (ps := ["_law_script", "_law_k"]) fun _ _ _ _ _ _ us hl => match us, hl with | [_, _], _ => rfl, PySem.W.mg_of X G a6⟩,
    f__law_whole := f7, d__law_whole := (PySem.W.fnOf "_law_whole" "_law_whole" (defArgs s__law_whole) (defBody s__law_whole) (defScope s__law_whole) .none kV7 dc7 pm7 an7 cd7 ct7), D__law_whole := ⟨fun_mk (st := s__law_whole) l7 c7 k7, (fun_mk (st := s__law_whole) l7 c7 k7).binds (ps := ["_law_thing"]) fun _ _ _ _ _ _ us hl => match us, hl with | [_], _ => rfl, PySem.W.mg_of X G a7⟩,
    f__law_sign_by := f8, d__law_sign_by := (PySem.W.fnOf "_law_sign_by" "_law_sign_by" (defArgs s__law_sign_by) (defBody s__law_sign_by) (defScope s__law_sign_by) .none kV8 dc8 pm8 an8 cd8 ct8), D__law_sign_by := ⟨fun_mk (st := s__law_sign_by) l8 c8 k8, (fun_mk (st := s__law_sign_by) l8 c8 k8).binds (ps := ["_law_cell"]) fun _ _ _ _ _ _ us hl => match us, hl with | [_], _ => rfl, PySem.W.mg_of X G a8⟩,
    f__law_figures := f9, d__law_figures := (PySem.W.fnOf "_law_figures" "_law_figures" (defArgs s__law_figures) (defBody s__law_figures) (defScope s__law_figures) .none kV9 dc9 pm9 an9 cd9 ct9), D__law_figures := ⟨fun_mk (st := s__law_figures) l9 c9 k9, (fun_mk (st := s__law_figures) l9 c9 k9).binds (ps := ["_law_word"]) fun _ _ _ _ _ _ us hl => match us, hl with | [_], _ => rfl, PySem.W.mg_of X G a9⟩,
    f__law_due_of := f10, d__law_due_of := (PySem.W.fnOf "_law_due_of" "_law_due_of" (defArgs s__law_due_of) (defBody s__law_due_of) (defScope s__law_due_of) .none kV10 dc10 pm10 an10 cd10 ct10), D__law_due_of := ⟨fun_mk (st := s__law_due_of) l10 c10 k10, (fun_mk (st := s__law_due_of) l10 c10 k10).binds (ps := ["_law_line"]) fun _ _ _ _ _ _ us hl => match us, hl with | [_], _ => rfl, PySem.W.mg_of X G a10⟩,
    f__law_names := f11, d__law_names := (PySem.W.fnOf "_law_names" "_law_names" (defArgs s__law_names) (defBody s__law_names) (defScope s__law_names) .none kV11 dc11 pm11 an11 cd11 ct11), D__law_names := ⟨fun_mk (st := s__law_names) l11 c11 k11, (fun_mk (st := s__law_names) l11 c11 k11).binds (ps := ["_law_e"]) fun _ _ _ _ _ _ us hl => match us, hl with | [_], _ => rfl, PySem.W.mg_of X G a11⟩,
    f__law_alike := f12, d__law_alike := (PySem.W.fnOf "_law_alike" "_law_alike" (defArgs s__law_alike) (defBody s__law_alike) (defScope s__law_alike) .none kV12 dc12 pm12 an12 cd12 ct12), D__law_alike := ⟨fun_mk (st := s__law_alike) l12 c12 k12, (fun_mk (st := s__law_alike) l12 c12 k12).binds (ps := ["_law_found", "_law_due"]) fun _ _ _ _ _ _ us hl => match us, hl with | [_, _], _ => rfl, PySem.W.mg_of X G a12⟩,
    f__law_good := f13, d__law_good := (PySem.W.fnOf "_law_good" "_law_good" (defArgs s__law_good) (defBody s__law_good) (defScope s__law_good) .none kV13 dc13 pm13 an13 cd13 ct13), D__law_good := ⟨fun_mk (st := s__law_good) l13 c13 k13, (fun_mk (st := s__law_good) l13 c13 k13).binds (ps := ["_law_line"]) fun _ _ _ _ _ _ us hl => match us, hl with | [_], _ => rfl, PySem.W.mg_of X G a13⟩,
    f__law_odd_line := f14, d__law_odd_line := (PySem.W.fnOf "_law_odd_line" "_law_odd_line" (defArgs s__law_odd_line) (defBody s__law_odd_line) (defScope s__law_odd_line) .none kV14 dc14 pm14 an14 cd14 ct14), D__law_odd_line := ⟨fun_mk (st := s__law_odd_line) l14 c14 k14, (fun_mk (st := s__law_odd_line) l14 c14 k14).binds (ps := ["_law_cell"]) fun _ _ _ _ _ _ us hl => match us, hl with | [_], _ => rfl, PySem.W.mg_of X G a14⟩,
    f_law := f15, d_law := (PySem.W.fnOf "law" "law" (defArgs s_law) (defBody s_law) (defScope s_law) .none kV15 dc15 pm15 an15 cd15 ct15), D_law := ⟨fun_mk (st := s_law) l15 c15 k15, (fun_mk (st := s_law) l15 c15 k15).binds (ps := ["_law_script"]) fun _ _ _ _ _ _ us hl => match us, hl with | [_], _ => rfl, PySem.W.mg_of X G a15⟩,
    t_TOP := tTOP, c_TOP := PySem.W.mg_of X G vTOP,
    t_MOST := tMOST, c_MOST := PySem.W.mg_of X G vMOST,
    t_FIGURES := tFIGURES, c_FIGURES := PySem.W.mg_of X G vFIGURES,
    t_MOST_FIGURES := tMOST_FIGURES, c_MOST_FIGURES := PySem.W.mg_of X G vMOST_FIGURES,
    n_len := PySem.W.mg_none_of X G zlen,
    n_isinstance := PySem.W.mg_none_of X G zisinstance,
    n_tuple := PySem.W.mg_none_of X G ztuple,
    n_int := PySem.W.mg_none_of X G zint,
    n_bool := PySem.W.mg_none_of X G zbool,
    n_str := PySem.W.mg_none_of X G zstr,
    n_type := PySem.W.mg_none_of X G ztype,
    n_all := PySem.W.mg_none_of X G zall,
    n_ValueError := PySem.W.mg_none_of X G zValueError,
    a_BidError := C0, g_BidError := PySem.W.mg_of X G ggC0,
    a_BadWish := C1, g_BadWish := PySem.W.mg_of X G ggC1,
    a_BadPrice := C2, g_BadPrice := PySem.W.mg_of X G ggC2,
    a_BadPieces := C3, g_BadPieces := PySem.W.mg_of X G ggC3,
    a_Uneven := C4, g_Uneven := PySem.W.mg_of X G ggC4,
    a_NoSuch := C5, g_NoSuch := PySem.W.mg_of X G ggC5,
    a_Unread := C6, g_Unread := PySem.W.mg_of X G ggC6,
    R_BadWish := ⟨kpC1, exC1, beC1, tyC1, ⟨hgC1, hkC1, beC1, hdC1, haC1, hnC1, htC1, hmC1⟩⟩, V_BadWish := vvC1,
    I_BadWish_BidError := iC1C0,
    I_BadWish_BadWish := iC1C1,
    I_BadWish_BadPrice := iC1C2,
    I_BadWish_BadPieces := iC1C3,
    I_BadWish_Uneven := iC1C4,
    I_BadWish_NoSuch := iC1C5,
    I_BadWish_Unread := iC1C6,
    X_BadWish_BidError := xC1C0,
    R_Unread := ⟨kpC6, exC6, beC6, tyC6, ⟨hgC6, hkC6, beC6, hdC6, haC6, hnC6, htC6, hmC6⟩⟩, V_Unread := vvC6,
    I_Unread_BidError := iC6C0,
    I_Unread_BadWish := iC6C1,
    I_Unread_BadPrice := iC6C2,
    I_Unread_BadPieces := iC6C3,
    I_Unread_Uneven := iC6C4,
    I_Unread_NoSuch := iC6C5,
    I_Unread_Unread := iC6C6,
    X_Unread_BidError := xC6C0 }
theorem all_mk {l : PySem.W.OpenLaw} {w : World} {K : PySem.W.Frag} {h : Heap} {mg : Str → Option Value} {fa : Addr} (X : K.In h) (G : h.Ns mainGlobals mg) (hfa : mg "law" = some (.ref fa))
    {f0 : Addr} {od0 an0 : Option Addr} {sl0 : Array (Option Value)} {oc0 kV0 dc0 pm0 ct0 : Value} {cd0 : Value}
    {f1 : Addr} {od1 an1 : Option Addr} {sl1 : Array (Option Value)} {oc1 kV1 dc1 pm1 ct1 : Value} {cd1 : Value}
    {f2 : Addr} {od2 an2 : Option Addr} {sl2 : Array (Option Value)} {oc2 kV2 dc2 pm2 ct2 : Value} {cd2 : Value}
    {f3 : Addr} {od3 an3 : Option Addr} {sl3 : Array (Option Value)} {oc3 kV3 dc3 pm3 ct3 : Value} {cd3 : Value}
    {f4 : Addr} {od4 an4 : Option Addr} {sl4 : Array (Option Value)} {oc4 kV4 dc4 pm4 ct4 : Value} {cd4 : Value}
    {f5 : Addr} {od5 an5 : Option Addr} {sl5 : Array (Option Value)} {oc5 kV5 dc5 pm5 ct5 : Value} {cd5 : Value}
    {f6 : Addr} {od6 an6 : Option Addr} {sl6 : Array (Option Value)} {oc6 kV6 dc6 pm6 ct6 : Value} {cd6 : Value}
    {f7 : Addr} {od7 an7 : Option Addr} {sl7 : Array (Option Value)} {oc7 kV7 dc7 pm7 ct7 : Value} {cd7 : Value}
    {f8 : Addr} {od8 an8 : Option Addr} {sl8 : Array (Option Value)} {oc8 kV8 dc8 pm8 ct8 : Value} {cd8 : Value}
    {f9 : Addr} {od9 an9 : Option Addr} {sl9 : Array (Option Value)} {oc9 kV9 dc9 pm9 ct9 : Value} {cd9 : Value}
    {f10 : Addr} {od10 an10 : Option Addr} {sl10 : Array (Option Value)} {oc10 kV10 dc10 pm10 ct10 : Value} {cd10 : Value}
    {f11 : Addr} {od11 an11 : Option Addr} {sl11 : Array (Option Value)} {oc11 kV11 dc11 pm11 ct11 : Value} {cd11 : Value}
    {f12 : Addr} {od12 an12 : Option Addr} {sl12 : Array (Option Value)} {oc12 kV12 dc12 pm12 ct12 : Value} {cd12 : Value}
    {f13 : Addr} {od13 an13 : Option Addr} {sl13 : Array (Option Value)} {oc13 kV13 dc13 pm13 ct13 : Value} {cd13 : Value}
    {f14 : Addr} {od14 an14 : Option Addr} {sl14 : Array (Option Value)} {oc14 kV14 dc14 pm14 ct14 : Value} {cd14 : Value}
    {f15 : Addr} {od15 an15 : Option Addr} {sl15 : Array (Option Value)} {oc15 kV15 dc15 pm15 ct15 : Value} {cd15 : Value}
    {tTOP : Tok}
    {tMOST : Tok}
    {tFIGURES : Tok}
    {tMOST_FIGURES : Tok}
    {C0 : Addr}
    {C1 : Addr}
    {C2 : Addr}
    {C3 : Addr}
    {C4 : Addr}
    {C5 : Addr}
    {C6 : Addr}
    (a0 : PySem.W.nsIn K mainGlobals "is_number" = some (some (.ref f0)))
    (l0 : K.lookup f0 = some ⟨oc0, od0, .func (PySem.W.fnOf "is_number" "is_number" (defArgs s_is_number) (defBody s_is_number) (defScope s_is_number) .none kV0 dc0 pm0 an0 cd0 ct0), sl0⟩)
    (c0 : PySem.W.codeIn K cd0 "is_number" = true) (k0 : PySem.W.keepIn K (.ref f0) = true)
    (a1 : PySem.W.nsIn K mainGlobals "is_side" = some (some (.ref f1)))
    (l1 : K.lookup f1 = some ⟨oc1, od1, .func (PySem.W.fnOf "is_side" "is_side" (defArgs s_is_side) (defBody s_is_side) (defScope s_is_side) .none kV1 dc1 pm1 an1 cd1 ct1), sl1⟩)
    (c1 : PySem.W.codeIn K cd1 "is_side" = true) (k1 : PySem.W.keepIn K (.ref f1) = true)
    (a2 : PySem.W.nsIn K mainGlobals "checked" = some (some (.ref f2)))
    (l2 : K.lookup f2 = some ⟨oc2, od2, .func (PySem.W.fnOf "checked" "checked" (defArgs s_checked) (defBody s_checked) (defScope s_checked) .none kV2 dc2 pm2 an2 cd2 ct2), sl2⟩)
    (c2 : PySem.W.codeIn K cd2 "checked" = true) (k2 : PySem.W.keepIn K (.ref f2) = true)
    (a3 : PySem.W.nsIn K mainGlobals "shown" = some (some (.ref f3)))
    (l3 : K.lookup f3 = some ⟨oc3, od3, .func (PySem.W.fnOf "shown" "shown" (defArgs s_shown) (defBody s_shown) (defScope s_shown) .none kV3 dc3 pm3 an3 cd3 ct3), sl3⟩)
    (c3 : PySem.W.codeIn K cd3 "shown" = true) (k3 : PySem.W.keepIn K (.ref f3) = true)
    (a4 : PySem.W.nsIn K mainGlobals "is_written_number" = some (some (.ref f4)))
    (l4 : K.lookup f4 = some ⟨oc4, od4, .func (PySem.W.fnOf "is_written_number" "is_written_number" (defArgs s_is_written_number) (defBody s_is_written_number) (defScope s_is_written_number) .none kV4 dc4 pm4 an4 cd4 ct4), sl4⟩)
    (c4 : PySem.W.codeIn K cd4 "is_written_number" = true) (k4 : PySem.W.keepIn K (.ref f4) = true)
    (a5 : PySem.W.nsIn K mainGlobals "read" = some (some (.ref f5)))
    (l5 : K.lookup f5 = some ⟨oc5, od5, .func (PySem.W.fnOf "read" "read" (defArgs s_read) (defBody s_read) (defScope s_read) .none kV5 dc5 pm5 an5 cd5 ct5), sl5⟩)
    (c5 : PySem.W.codeIn K cd5 "read" = true) (k5 : PySem.W.keepIn K (.ref f5) = true)
    (a6 : PySem.W.nsIn K mainGlobals "_law_cell_at" = some (some (.ref f6)))
    (l6 : K.lookup f6 = some ⟨oc6, od6, .func (PySem.W.fnOf "_law_cell_at" "_law_cell_at" (defArgs s__law_cell_at) (defBody s__law_cell_at) (defScope s__law_cell_at) .none kV6 dc6 pm6 an6 cd6 ct6), sl6⟩)
    (c6 : PySem.W.codeIn K cd6 "_law_cell_at" = true) (k6 : PySem.W.keepIn K (.ref f6) = true)
    (a7 : PySem.W.nsIn K mainGlobals "_law_whole" = some (some (.ref f7)))
    (l7 : K.lookup f7 = some ⟨oc7, od7, .func (PySem.W.fnOf "_law_whole" "_law_whole" (defArgs s__law_whole) (defBody s__law_whole) (defScope s__law_whole) .none kV7 dc7 pm7 an7 cd7 ct7), sl7⟩)
    (c7 : PySem.W.codeIn K cd7 "_law_whole" = true) (k7 : PySem.W.keepIn K (.ref f7) = true)
    (a8 : PySem.W.nsIn K mainGlobals "_law_sign_by" = some (some (.ref f8)))
    (l8 : K.lookup f8 = some ⟨oc8, od8, .func (PySem.W.fnOf "_law_sign_by" "_law_sign_by" (defArgs s__law_sign_by) (defBody s__law_sign_by) (defScope s__law_sign_by) .none kV8 dc8 pm8 an8 cd8 ct8), sl8⟩)
    (c8 : PySem.W.codeIn K cd8 "_law_sign_by" = true) (k8 : PySem.W.keepIn K (.ref f8) = true)
    (a9 : PySem.W.nsIn K mainGlobals "_law_figures" = some (some (.ref f9)))
    (l9 : K.lookup f9 = some ⟨oc9, od9, .func (PySem.W.fnOf "_law_figures" "_law_figures" (defArgs s__law_figures) (defBody s__law_figures) (defScope s__law_figures) .none kV9 dc9 pm9 an9 cd9 ct9), sl9⟩)
    (c9 : PySem.W.codeIn K cd9 "_law_figures" = true) (k9 : PySem.W.keepIn K (.ref f9) = true)
    (a10 : PySem.W.nsIn K mainGlobals "_law_due_of" = some (some (.ref f10)))
    (l10 : K.lookup f10 = some ⟨oc10, od10, .func (PySem.W.fnOf "_law_due_of" "_law_due_of" (defArgs s__law_due_of) (defBody s__law_due_of) (defScope s__law_due_of) .none kV10 dc10 pm10 an10 cd10 ct10), sl10⟩)
    (c10 : PySem.W.codeIn K cd10 "_law_due_of" = true) (k10 : PySem.W.keepIn K (.ref f10) = true)
    (a11 : PySem.W.nsIn K mainGlobals "_law_names" = some (some (.ref f11)))
    (l11 : K.lookup f11 = some ⟨oc11, od11, .func (PySem.W.fnOf "_law_names" "_law_names" (defArgs s__law_names) (defBody s__law_names) (defScope s__law_names) .none kV11 dc11 pm11 an11 cd11 ct11), sl11⟩)
    (c11 : PySem.W.codeIn K cd11 "_law_names" = true) (k11 : PySem.W.keepIn K (.ref f11) = true)
    (a12 : PySem.W.nsIn K mainGlobals "_law_alike" = some (some (.ref f12)))
    (l12 : K.lookup f12 = some ⟨oc12, od12, .func (PySem.W.fnOf "_law_alike" "_law_alike" (defArgs s__law_alike) (defBody s__law_alike) (defScope s__law_alike) .none kV12 dc12 pm12 an12 cd12 ct12), sl12⟩)
    (c12 : PySem.W.codeIn K cd12 "_law_alike" = true) (k12 : PySem.W.keepIn K (.ref f12) = true)
    (a13 : PySem.W.nsIn K mainGlobals "_law_good" = some (some (.ref f13)))
    (l13 : K.lookup f13 = some ⟨oc13, od13, .func (PySem.W.fnOf "_law_good" "_law_good" (defArgs s__law_good) (defBody s__law_good) (defScope s__law_good) .none kV13 dc13 pm13 an13 cd13 ct13), sl13⟩)
    (c13 : PySem.W.codeIn K cd13 "_law_good" = true) (k13 : PySem.W.keepIn K (.ref f13) = true)
    (a14 : PySem.W.nsIn K mainGlobals "_law_odd_line" = some (some (.ref f14)))
    (l14 : K.lookup f14 = some ⟨oc14, od14, .func (PySem.W.fnOf "_law_odd_line" "_law_odd_line" (defArgs s__law_odd_line) (defBody s__law_odd_line) (defScope s__law_odd_line) .none kV14 dc14 pm14 an14 cd14 ct14), sl14⟩)
    (c14 : PySem.W.codeIn K cd14 "_law_odd_line" = true) (k14 : PySem.W.keepIn K (.ref f14) = true)
    (a15 : PySem.W.nsIn K mainGlobals "law" = some (some (.ref f15)))
    (l15 : K.lookup f15 = some ⟨oc15, od15, .func (PySem.W.fnOf "law" "law" (defArgs s_law) (defBody s_law) (defScope s_law) .none kV15 dc15 pm15 an15 cd15 ct15), sl15⟩)
    (c15 : PySem.W.codeIn K cd15 "law" = true) (k15 : PySem.W.keepIn K (.ref f15) = true)
    (vTOP : PySem.W.nsIn K mainGlobals "TOP" = some (some (.int 1000000000 tTOP)))
    (vMOST : PySem.W.nsIn K mainGlobals "MOST" = some (some (.int 1000000 tMOST)))
    (vFIGURES : PySem.W.nsIn K mainGlobals "FIGURES" = some (some (.str (PySem.Str.ofString "0123456789") tFIGURES)))
    (vMOST_FIGURES : PySem.W.nsIn K mainGlobals "MOST_FIGURES" = some (some (.int 60 tMOST_FIGURES)))
    (zlen : PySem.W.nsIn K mainGlobals "len" = some none)
    (zisinstance : PySem.W.nsIn K mainGlobals "isinstance" = some none)
    (ztuple : PySem.W.nsIn K mainGlobals "tuple" = some none)
    (zint : PySem.W.nsIn K mainGlobals "int" = some none)
    (zbool : PySem.W.nsIn K mainGlobals "bool" = some none)
    (zstr : PySem.W.nsIn K mainGlobals "str" = some none)
    (ztype : PySem.W.nsIn K mainGlobals "type" = some none)
    (zall : PySem.W.nsIn K mainGlobals "all" = some none)
    (zValueError : PySem.W.nsIn K mainGlobals "ValueError" = some none)
    (ggC0 : PySem.W.nsIn K mainGlobals "BidError" = some (some (.ref C0)))
    (ggC1 : PySem.W.nsIn K mainGlobals "BadWish" = some (some (.ref C1)))
    (ggC2 : PySem.W.nsIn K mainGlobals "BadPrice" = some (some (.ref C2)))
    (ggC3 : PySem.W.nsIn K mainGlobals "BadPieces" = some (some (.ref C3)))
    (ggC4 : PySem.W.nsIn K mainGlobals "Uneven" = some (some (.ref C4)))
    (ggC5 : PySem.W.nsIn K mainGlobals "NoSuch" = some (some (.ref C5)))
    (ggC6 : PySem.W.nsIn K mainGlobals "Unread" = some (some (.ref C6)))
    (kpC1 : PySem.W.keepIn K (.ref C1) = true)
    (exC1 : PySem.W.excIn K C1 [.type "ValueError", .type "Exception", .type "BaseException", .type "object"] "ValueError.__new__" = true)
    (beC1 : PySem.W.subIn K (.ref C1) (.type "BaseException") = some true)
    (tyC1 : PySem.W.typeIn K (.ref C1) = some (.type "type"))
    (hgC1 : PySem.W.findIn K (.ref C1) "__getattribute__" = some (some (.builtin "BaseException.__getattribute__")))
    (hkC1 : PySem.W.findIn K (.ref C1) "__getattr__" = some none)
    (hdC1 : PySem.W.hasDictIn K C1 = true)
    (haC1 : PySem.W.findIn K (.ref C1) "__class__" = some (some (.builtin "object.__class__")))
    (hnC1 : PySem.W.specialIn K (.builtin "object.__class__") "__get__" = some (some (.builtin "getset_descriptor.__get__")))
    (htC1 : PySem.W.takesIn K (.builtin "object.__class__") = some true)
    (hmC1 : PySem.W.mroIn K C1 (.type "object") = some true)
    (vvC1 : PySem.W.kitOne K (.ref C1) (.type "ValueError") = some true)
    (iC1C0 : PySem.W.kitOne K (.ref C1) (.ref C0) = some true)
    (iC1C1 : PySem.W.kitOne K (.ref C1) (.ref C1) = some true)
    (iC1C2 : PySem.W.kitOne K (.ref C1) (.ref C2) = some false)
    (iC1C3 : PySem.W.kitOne K (.ref C1) (.ref C3) = some false)
    (iC1C4 : PySem.W.kitOne K (.ref C1) (.ref C4) = some false)
    (iC1C5 : PySem.W.kitOne K (.ref C1) (.ref C5) = some false)
    (iC1C6 : PySem.W.kitOne K (.ref C1) (.ref C6) = some false)
    (xC1C0 : PySem.W.exmOne K (.ref C1) (.ref C0) = some true)
    (kpC6 : PySem.W.keepIn K (.ref C6) = true)
    (exC6 : PySem.W.excIn K C6 [.type "ValueError", .type "Exception", .type "BaseException", .type "object"] "ValueError.__new__" = true)
    (beC6 : PySem.W.subIn K (.ref C6) (.type "BaseException") = some true)
    (tyC6 : PySem.W.typeIn K (.ref C6) = some (.type "type"))
    (hgC6 : PySem.W.findIn K (.ref C6) "__getattribute__" = some (some (.builtin "BaseException.__getattribute__")))
    (hkC6 : PySem.W.findIn K (.ref C6) "__getattr__" = some none)
    (hdC6 : PySem.W.hasDictIn K C6 = true)
    (haC6 : PySem.W.findIn K (.ref C6) "__class__" = some (some (.builtin "object.__class__")))
    (hnC6 : PySem.W.specialIn K (.builtin "object.__class__") "__get__" = some (some (.builtin "getset_descriptor.__get__")))
    (htC6 : PySem.W.takesIn K (.builtin "object.__class__") = some true)
    (hmC6 : PySem.W.mroIn K C6 (.type "object") = some true)
    (vvC6 : PySem.W.kitOne K (.ref C6) (.type "ValueError") = some true)
    (iC6C0 : PySem.W.kitOne K (.ref C6) (.ref C0) = some true)
    (iC6C1 : PySem.W.kitOne K (.ref C6) (.ref C1) = some false)
    (iC6C2 : PySem.W.kitOne K (.ref C6) (.ref C2) = some false)
    (iC6C3 : PySem.W.kitOne K (.ref C6) (.ref C3) = some false)
    (iC6C4 : PySem.W.kitOne K (.ref C6) (.ref C4) = some false)
    (iC6C5 : PySem.W.kitOne K (.ref C6) (.ref C5) = some false)
    (iC6C6 : PySem.W.kitOne K (.ref C6) (.ref C6) = some true)
    (xC6C0 : PySem.W.exmOne K (.ref C6) (.ref C0) = some true) : LawG l w K CX0 20 63 "_law_script" mg fa h [] := by
  have e := hfa.symm.trans (PySem.W.mg_of X G a15)
  cases e
  refine ⟨_, SpLaw K [], fun s v => .of_eq rfl, fun H a ns hl hb hT hS => ⟨a, ns, rfl, hS, hl, fun P hP => ?_, fun _ => rfl⟩, fun base h1 h2 h3 => ok_law (mkTxt X G a0 l0 c0 k0 a1 l1 c1 k1 a2 l2 c2 k2 a3 l3 c3 k3 a4 l4 c4 k4 a5 l5 c5 k5 a6 l6 c6 k6 a7 l7 c7 k7 a8 l8 c8 k8 a9 l9 c9 k9 a10 l10 c10 k10 a11 l11 c11 k11 a12 l12 c12 k12 a13 l13 c13 k13 a14 l14 c14 k14 a15 l15 c15 k15 vTOP vMOST vFIGURES vMOST_FIGURES zlen zisinstance ztuple zint zbool zstr ztype zall zValueError ggC0 ggC1 ggC2 ggC3 ggC4 ggC5 ggC6 kpC1 exC1 beC1 tyC1 hgC1 hkC1 hdC1 haC1 hnC1 htC1 hmC1 vvC1 iC1C0 iC1C1 iC1C2 iC1C3 iC1C4 iC1C5 iC1C6 xC1C0 kpC6 exC6 beC6 tyC6 hgC6 hkC6 hdC6 haC6 hnC6 htC6 hmC6 vvC6 iC6C0 iC6C1 iC6C2 iC6C3 iC6C4 iC6C5 iC6C6 xC6C0 ) ⟩
  obtain ⟨p, hp, e⟩ : ∃ p ∈ ([] : List (Addr × Addr)), p.2 = P := by simpa [eq_comm] using hP
  exact ⟨#[], by rw [← e]; exact hT p hp, True.intro⟩
end My
open PySem PySem.W PyProof.Rows
set_option maxHeartbeats 8000000 in
theorem PySem.Challenge.cw_bidclear_k10_written_and_read_holds : PySem.Challenge.rw_bidclear_k10_written_and_read.Holds := by
  w_on; o_law; k_head; (case hw => w_witness2)
  k_fill
  refine' My.walk_gen (l := PySem.Challenge.rw_bidclear_k10_written_and_read) (n := 63) (k := 20) (x := "_law_script") (CX := fun _ => L2.CX0) [] [] rfl (by decide) rfl ⟨rfl, by decide, by decide⟩ (fun w h Y => PySem.W.kIn_of Y) (by decide +kernel) ?tab ?nl ?F (fun _ _ _ _ _ h => h)
  case tab =>
    intro w
    exact fun _ h => nomatch h
  case nl =>
    intro w
    exact fun _ h => nomatch h
  case F =>
    intro w mg fa h Y KX G hmg
    refine' My.all_mk KX G hmg ?a0 ?l0 ?c0 ?k0 ?a1 ?l1 ?c1 ?k1 ?a2 ?l2 ?c2 ?k2 ?a3 ?l3 ?c3 ?k3 ?a4 ?l4 ?c4 ?k4 ?a5 ?l5 ?c5 ?k5 ?a6 ?l6 ?c6 ?k6 ?a7 ?l7 ?c7 ?k7 ?a8 ?l8 ?c8 ?k8 ?a9 ?l9 ?c9 ?k9 ?a10 ?l10 ?c10 ?k10 ?a11 ?l11 ?c11 ?k11 ?a12 ?l12 ?c12 ?k12 ?a13 ?l13 ?c13 ?k13 ?a14 ?l14 ?c14 ?k14 ?a15 ?l15 ?c15 ?k15 ?vTOP ?vMOST ?vFIGURES ?vMOST_FIGURES ?zlen ?zisinstance ?ztuple ?zint ?zbool ?zstr ?ztype ?zall ?zValueError ?ggC0 ?ggC1 ?ggC2 ?ggC3 ?ggC4 ?ggC5 ?ggC6 ?kpC1 ?exC1 ?beC1 ?tyC1 ?hgC1 ?hkC1 ?hdC1 ?haC1 ?hnC1 ?htC1 ?hmC1 ?vvC1 ?iC1C0 ?iC1C1 ?iC1C2 ?iC1C3 ?iC1C4 ?iC1C5 ?iC1C6 ?xC1C0 ?kpC6 ?exC6 ?beC6 ?tyC6 ?hgC6 ?hkC6 ?hdC6 ?haC6 ?hnC6 ?htC6 ?hmC6 ?vvC6 ?iC6C0 ?iC6C1 ?iC6C2 ?iC6C3 ?iC6C4 ?iC6C5 ?iC6C6 ?xC6C0
    (case a0 => first | k_is | k_exc | kit_is | kernel_rfl); (case l0 => first | k_is | k_exc | kit_is | kernel_rfl); (case c0 => first | k_is | k_exc | kit_is | kernel_rfl); (case k0 => first | k_is | k_exc | kit_is | kernel_rfl); (case a1 => first | k_is | k_exc | kit_is | kernel_rfl); (case l1 => first | k_is | k_exc | kit_is | kernel_rfl); (case c1 => first | k_is | k_exc | kit_is | kernel_rfl); (case k1 => first | k_is | k_exc | kit_is | kernel_rfl); (case a2 => first | k_is | k_exc | kit_is | kernel_rfl); (case l2 => first | k_is | k_exc | kit_is | kernel_rfl); (case c2 => first | k_is | k_exc | kit_is | kernel_rfl); (case k2 => first | k_is | k_exc | kit_is | kernel_rfl); (case a3 => first | k_is | k_exc | kit_is | kernel_rfl); (case l3 => first | k_is | k_exc | kit_is | kernel_rfl); (case c3 => first | k_is | k_exc | kit_is | kernel_rfl); (case k3 => first | k_is | k_exc | kit_is | kernel_rfl); (case a4 => first | k_is | k_exc | kit_is | kernel_rfl); (case l4 => first | k_is | k_exc | kit_is | kernel_rfl); (case c4 => first | k_is | k_exc | kit_is | kernel_rfl); (case k4 => first | k_is | k_exc | kit_is | kernel_rfl); (case a5 => first | k_is | k_exc | kit_is | kernel_rfl); (case l5 => first | k_is | k_exc | kit_is | kernel_rfl); (case c5 => first | k_is | k_exc | kit_is | kernel_rfl); (case k5 => first | k_is | k_exc | kit_is | kernel_rfl); (case a6 => first | k_is | k_exc | kit_is | kernel_rfl); (case l6 => first | k_is | k_exc | kit_is | kernel_rfl); (case c6 => first | k_is | k_exc | kit_is | kernel_rfl); (case k6 => first | k_is | k_exc | kit_is | kernel_rfl); (case a7 => first | k_is | k_exc | kit_is | kernel_rfl); (case l7 => first | k_is | k_exc | kit_is | kernel_rfl); (case c7 => first | k_is | k_exc | kit_is | kernel_rfl); (case k7 => first | k_is | k_exc | kit_is | kernel_rfl); (case a8 => first | k_is | k_exc | kit_is | kernel_rfl); (case l8 => first | k_is | k_exc | kit_is | kernel_rfl); (case c8 => first | k_is | k_exc | kit_is | kernel_rfl); (case k8 => first | k_is | k_exc | kit_is | kernel_rfl); (case a9 => first | k_is | k_exc | kit_is | kernel_rfl); (case l9 => first | k_is | k_exc | kit_is | kernel_rfl); (case c9 => first | k_is | k_exc | kit_is | kernel_rfl); (case k9 => first | k_is | k_exc | kit_is | kernel_rfl); (case a10 => first | k_is | k_exc | kit_is | kernel_rfl); (case l10 => first | k_is | k_exc | kit_is | kernel_rfl); (case c10 => first | k_is | k_exc | kit_is | kernel_rfl); (case k10 => first | k_is | k_exc | kit_is | kernel_rfl); (case a11 => first | k_is | k_exc | kit_is | kernel_rfl); (case l11 => first | k_is | k_exc | kit_is | kernel_rfl); (case c11 => first | k_is | k_exc | kit_is | kernel_rfl); (case k11 => first | k_is | k_exc | kit_is | kernel_rfl); (case a12 => first | k_is | k_exc | kit_is | kernel_rfl); (case l12 => first | k_is | k_exc | kit_is | kernel_rfl); (case c12 => first | k_is | k_exc | kit_is | kernel_rfl); (case k12 => first | k_is | k_exc | kit_is | kernel_rfl); (case a13 => first | k_is | k_exc | kit_is | kernel_rfl); (case l13 => first | k_is | k_exc | kit_is | kernel_rfl); (case c13 => first | k_is | k_exc | kit_is | kernel_rfl); (case k13 => first | k_is | k_exc | kit_is | kernel_rfl); (case a14 => first | k_is | k_exc | kit_is | kernel_rfl); (case l14 => first | k_is | k_exc | kit_is | kernel_rfl); (case c14 => first | k_is | k_exc | kit_is | kernel_rfl); (case k14 => first | k_is | k_exc | kit_is | kernel_rfl); (case a15 => first | k_is | k_exc | kit_is | kernel_rfl); (case l15 => first | k_is | k_exc | kit_is | kernel_rfl); (case c15 => first | k_is | k_exc | kit_is | kernel_rfl); (case k15 => first | k_is | k_exc | kit_is | kernel_rfl); (case vTOP => first | k_is | k_exc | kit_is | kernel_rfl); (case vMOST => first | k_is | k_exc | kit_is | kernel_rfl); (case vFIGURES => first | k_is | k_exc | kit_is | kernel_rfl); (case vMOST_FIGURES => first | k_is | k_exc | kit_is | kernel_rfl); (case zlen => first | k_is | k_exc | kit_is | kernel_rfl); (case zisinstance => first | k_is | k_exc | kit_is | kernel_rfl); (case ztuple => first | k_is | k_exc | kit_is | kernel_rfl); (case zint => first | k_is | k_exc | kit_is | kernel_rfl); (case zbool => first | k_is | k_exc | kit_is | kernel_rfl); (case zstr => first | k_is | k_exc | kit_is | kernel_rfl); (case ztype => first | k_is | k_exc | kit_is | kernel_rfl); (case zall => first | k_is | k_exc | kit_is | kernel_rfl); (case zValueError => first | k_is | k_exc | kit_is | kernel_rfl); (case ggC0 => first | k_is | k_exc | kit_is | kernel_rfl); (case ggC1 => first | k_is | k_exc | kit_is | kernel_rfl); (case ggC2 => first | k_is | k_exc | kit_is | kernel_rfl); (case ggC3 => first | k_is | k_exc | kit_is | kernel_rfl); (case ggC4 => first | k_is | k_exc | kit_is | kernel_rfl); (case ggC5 => first | k_is | k_exc | kit_is | kernel_rfl); (case ggC6 => first | k_is | k_exc | kit_is | kernel_rfl); (case kpC1 => first | k_is | k_exc | kit_is | kernel_rfl); (case exC1 => first | k_is | k_exc | kit_is | kernel_rfl); (case beC1 => first | k_is | k_exc | kit_is | kernel_rfl); (case tyC1 => first | k_is | k_exc | kit_is | kernel_rfl); (case hgC1 => first | k_is | k_exc | kit_is | kernel_rfl); (case hkC1 => first | k_is | k_exc | kit_is | kernel_rfl); (case hdC1 => first | k_is | k_exc | kit_is | kernel_rfl); (case haC1 => first | k_is | k_exc | kit_is | kernel_rfl); (case hnC1 => first | k_is | k_exc | kit_is | kernel_rfl); (case htC1 => first | k_is | k_exc | kit_is | kernel_rfl); (case hmC1 => first | k_is | k_exc | kit_is | kernel_rfl); (case vvC1 => first | k_is | k_exc | kit_is | kernel_rfl); (case iC1C0 => first | k_is | k_exc | kit_is | kernel_rfl); (case iC1C1 => first | k_is | k_exc | kit_is | kernel_rfl); (case iC1C2 => first | k_is | k_exc | kit_is | kernel_rfl); (case iC1C3 => first | k_is | k_exc | kit_is | kernel_rfl); (case iC1C4 => first | k_is | k_exc | kit_is | kernel_rfl); (case iC1C5 => first | k_is | k_exc | kit_is | kernel_rfl); (case iC1C6 => first | k_is | k_exc | kit_is | kernel_rfl); (case xC1C0 => first | k_is | k_exc | kit_is | kernel_rfl); (case kpC6 => first | k_is | k_exc | kit_is | kernel_rfl); (case exC6 => first | k_is | k_exc | kit_is | kernel_rfl); (case beC6 => first | k_is | k_exc | kit_is | kernel_rfl); (case tyC6 => first | k_is | k_exc | kit_is | kernel_rfl); (case hgC6 => first | k_is | k_exc | kit_is | kernel_rfl); (case hkC6 => first | k_is | k_exc | kit_is | kernel_rfl); (case hdC6 => first | k_is | k_exc | kit_is | kernel_rfl); (case haC6 => first | k_is | k_exc | kit_is | kernel_rfl); (case hnC6 => first | k_is | k_exc | kit_is | kernel_rfl); (case htC6 => first | k_is | k_exc | kit_is | kernel_rfl); (case hmC6 => first | k_is | k_exc | kit_is | kernel_rfl); (case vvC6 => first | k_is | k_exc | kit_is | kernel_rfl); (case iC6C0 => first | k_is | k_exc | kit_is | kernel_rfl); (case iC6C1 => first | k_is | k_exc | kit_is | kernel_rfl); (case iC6C2 => first | k_is | k_exc | kit_is | kernel_rfl); (case iC6C3 => first | k_is | k_exc | kit_is | kernel_rfl); (case iC6C4 => first | k_is | k_exc | kit_is | kernel_rfl); (case iC6C5 => first | k_is | k_exc | kit_is | kernel_rfl); (case iC6C6 => first | k_is | k_exc | kit_is | kernel_rfl); (case xC6C0 => first | k_is | k_exc | kit_is | kernel_rfl)
