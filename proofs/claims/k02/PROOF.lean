import PyProof.Rows.All
import Wide.All
import OpenK.AllK
import Wide.FinOn
import PySem.Challenge.RW_bidclear_k02_wishes_checked
import HandS.ForMost
import HandS.AnyAll
import HandS.IsInst
import HandS.EndTab
import KE.KNest
import KE.KNestM
import PyProof.TypeEq
import PyProof.InstEq
import HandS.ForExc
import HandS.ExcIs
import HandS.HotCalls
import HandS.RaiseMore
import HandS.FStr
import HandS.More
set_option Elab.async false
set_option linter.all false
set_option maxRecDepth 100000
set_option maxHeartbeats 2000000
/-! a generator expression with any target over a list, inside sum -/
namespace G3
open PySem PySem.Spec PyProof.Rows L2
open Sem (wp)
section
variable {prog : Program} {w : World} {A : Around}
/-- what a target, the tests and the element do, item by item; Lc i m: the names as they stand behind the i-th store -/
structure Body (prog : Program) (w : World) (cenv : Env) (tg : Expr) (ifs : List Expr) (elt : Expr) (fp wr : List Addr) (P : Nat → Value → Prop) (pz : Nat → Bool) (F : Nat → Value → Prop) (Lc : Nat → (Str → Option Value) → Prop) (h0 : Heap) : Prop where
  put : ∀ (A' : Around) E' i v (s : Shared) m (Q : Unit → Shared → Prop), A'.handled = none → P i v → s.heap.Ns cenv.locals m → (∀ b ∈ fp, b ∉ wr → ∀ o, h0.get? b = some o → s.heap.get? b = some o) →
    (∀ h' m' tk, h'.Ns cenv.locals m' → Lc i m' → (∀ b o, b ≠ cenv.locals → s.heap.get? b = some o → h'.get? b = some o) → Q () { s with heap := h', toks := tk }) → wpAny (model prog w) A' (assign tg cenv v) Q E' s
  test : ∀ (A' : Around) E' i (s : Shared) m, A'.handled = none → s.heap.Ns cenv.locals m → Lc i m → (∀ b ∈ fp, b ∉ wr → ∀ o, h0.get? b = some o → s.heap.get? b = some o) →
    wpAny (model prog w) A' (forIn ifs true fun c r => if r = true then do let ok ← isTrue c cenv (eval c cenv); pure (ForInStep.yield ok) else pure (ForInStep.yield r)) (fun ok s' => ok = pz i ∧ Keeps s s') E' s
  val : ∀ (A' : Around) E' i (s : Shared) m, A'.handled = none → pz i = true → s.heap.Ns cenv.locals m → Lc i m → (∀ b ∈ fp, b ∉ wr → ∀ o, h0.get? b = some o → s.heap.get? b = some o) →
    wpAny (model prog w) A' (eval elt cenv) (fun y s' => F i y ∧ Keeps s s') E' s

/-- the iterator's own step ahead of the store does nothing -/
def Still (prog : Program) (w : World) (tg : Expr) (I : Addr) (St : Nat → Heap → Prop) : Prop :=
  ∀ (A : Around) (i : Nat) (v : Value) (s : Shared) (Q : Unit → Shared → Prop) (E : Value → Shared → Prop), St i s.heap → Q () s → wpAny (model prog w) A (letOwnedTupleGo tg (.ref I) v) Q E s

theorem turns {elt iter tg : Expr} {ifs : List Expr} {scope : Scope} {pos : Pos} {I : Addr} {fp wr : List Addr} {n : Nat} {P : Nat → Value → Prop} {St : Nat → Heap → Prop} {cenv : Env} {pz : Nat → Bool} {F : Nat → Value → Prop} {Lc : Nat → (Str → Option Value) → Prop} {h0 : Heap}
    (hh : A.handled = none) (W : ∀ A' : Around, A'.handled = none → Walks prog w A' I fp wr n P St) (hgo : Still prog w tg I St)
    (hco : cenv.scope.isCoroutine = false) (hC : cenv.locals ∉ fp) (B : Body prog w cenv tg ifs elt fp wr P pz F Lc h0) :
    ∀ (k i : Nat) (s0 s : Shared) (m : Str → Option Value), n - i = k → i ≤ n → St i s.heap → s.heap.Ns cenv.locals m → GenSince cenv.locals wr s0 s →
      (∀ b ∈ fp, b ∉ wr → ∀ o, h0.get? b = some o → s.heap.get? b = some o) →
      Seg (model prog w) A (fun n s₀ r s₁ => r = .ok .next ∧ (n = 0 ∧ GenSince cenv.locals wr s₀ s₁)) (genProto cenv.locals fp wr pz n F) (passing pz n i).length s0
        (.compLoop (.GeneratorExp elt [⟨tg, iter, ifs, 0⟩] scope pos) 0 (.ref I) .none cenv)
        ((model prog w).den (.compLoop (.GeneratorExp elt [⟨tg, iter, ifs, 0⟩] scope pos) 0 (.ref I) .none cenv)) [] s := by
  have hh2 : (A.over (.compLoop (.GeneratorExp elt [⟨tg, iter, ifs, 0⟩] scope pos) 0 (.ref I) .none cenv) []).handled = none := hh
  have hCw : cenv.locals ∉ wr := fun q => hC ((W A hh).sub _ q)
  have neC : ∀ {b : Addr}, b ∈ fp → b ≠ cenv.locals := fun hb e => hC (e ▸ hb)
  intro k
  induction k with
  | zero =>
    intro i s0 s m hk hi hst hn hsn hkp
    obtain rfl : i = n := by omega
    show Seg _ A _ _ _ s0 _ ((compTurn (.GeneratorExp elt [⟨tg, iter, ifs, 0⟩] scope pos) 0 (.ref I) .none cenv).onRaise (leaving cenv)) [] s
    rw [compTurn_gen, Sem.onRaise_eq_wrap]
    refine seg_bind_wrap (wpAny_standAt (seg_bind_wrap ((W _ hh2).done s _ _ hst fun h' tk kp => ?_)))
    exact seg_end (.ok .next) ⟨rfl, by rw [passing_end] <;> rfl, hsn.step fun b o _ hw e => kp b o hw e⟩
  | succ k ih =>
    intro i s0 s m hk hi hst hn hsn hkp
    have hlt : i < n := by omega
    show Seg _ A _ _ _ s0 _ ((compTurn (.GeneratorExp elt [⟨tg, iter, ifs, 0⟩] scope pos) 0 (.ref I) .none cenv).onRaise (leaving cenv)) [] s
    rw [compTurn_gen, Sem.onRaise_eq_wrap]
    refine seg_bind_wrap (wpAny_standAt (seg_bind_wrap ((W _ hh2).item i s _ _ hlt hst fun v h1 tk1 hP st1 k1 => ?_)))
    refine seg_bind_wrap (hgo _ _ _ _ _ _ st1 ?_)
    have kp1 : ∀ b ∈ fp, b ∉ wr → ∀ o, h0.get? b = some o → h1.get? b = some o := fun b hb hw o e => k1 b o hw (hkp b hb hw o e)
    refine seg_bind_wrap (B.put _ _ i v _ m _ hh2 hP (hn.at' fun o e => k1 _ o hCw e) kp1 fun h2 m2 tk2 hn2 lc2 k2 => ?_)
    have kp2 : ∀ b ∈ fp, b ∉ wr → ∀ o, h0.get? b = some o → h2.get? b = some o := fun b hb hw o e => k2 b o (neC hb) (kp1 b hb hw o e)
    have st2 : St (i + 1) h2 := (W A hh).frame _ _ _ st1 fun b hb o e => k2 b o (neC hb) e
    refine seg_bind_wrap (wpAny_mono (B.test _ _ i _ m2 hh2 hn2 lc2 kp2) (fun ok s3 q3 => ?_) fun _ _ e => e)
    obtain ⟨rfl, h3, tk3, rfl, k3⟩ := q3
    have st3 : St (i + 1) h3 := (W A hh).frame _ _ _ st2 fun b _ o e => k3 b o e
    have hn3 := hn2.keeps k3
    have kp3 : ∀ b ∈ fp, b ∉ wr → ∀ o, h0.get? b = some o → h3.get? b = some o := fun b hb hw o e => k3 b o (kp2 b hb hw o e)
    have hsn3 : GenSince cenv.locals wr s0 { s with heap := h3, toks := tk3 } := hsn.step fun b o hbC hw e => k3 b o (k2 b o hbC (k1 b o hw e))
    cases hz : pz i with
    | false =>
      rw [passing_false hlt hz]
      simp only [Bool.false_eq_true, if_false]
      exact seg_again rfl (ih (i + 1) s0 _ m2 (by omega) hlt st3 hn3 hsn3 kp3)
    | true =>
      rw [passing_true hlt hz, List.length_cons]
      simp only [if_true]
      have hy : ∀ u, yieldOut cenv u = yieldValue u := fun u => by simp only [yieldOut, hco, Bool.false_eq_true, if_false]
      simp only [hy]
      rw [Sem.bind_eq_wrap', Sem.bind_eq_wrap', Sem.wrap_wrap, Sem.wrap_wrap]
      refine seg_wrap (wpAny_mono (B.val _ _ i _ m2 hh2 hz hn3 lc2 kp3) (fun y s4 q4 => ?_) fun _ _ e => e)
      obtain ⟨hF, h4, tk4, rfl, k4⟩ := q4
      refine seg_at (seg_yield rfl rfl rfl ⟨⟨i, passing_here hlt hz, hF⟩, hsn3.step fun b o _ _ e => k4 b o e, fun s5 al => ?_⟩)
      refine seg_again rfl (ih (i + 1) s5 s5 m2 (by omega) hlt ?_ ?_ (GenSince.refl _ _ _) ?_)
      · exact (W A hh).frame _ _ _ st3 fun b hb o e => al b (List.mem_cons_of_mem _ hb) o (k4 b o e)
      · exact (hn3.keeps k4).at' fun o e => al _ List.mem_cons_self o e
      · exact fun b hb hw o e => al b (List.mem_cons_of_mem _ hb) o (k4 b o (kp3 b hb hw o e))

theorem begins {elt iter tg : Expr} {ifs : List Expr} {scope : Scope} {pos : Pos} {I : Addr} {fp wr : List Addr} {n : Nat} {P : Nat → Value → Prop} {St : Nat → Heap → Prop} {cenv : Env} {pz : Nat → Bool} {F : Nat → Value → Prop} {Lc : Nat → (Str → Option Value) → Prop} {h0 : Heap}
    (hh : A.handled = none) (W : ∀ A' : Around, A'.handled = none → Walks prog w A' I fp wr n P St) (hgo : Still prog w tg I St)
    (hco : cenv.scope.isCoroutine = false) (hC : cenv.locals ∉ fp) (B : Body prog w cenv tg ifs elt fp wr P pz F Lc h0)
    (s0 s : Shared) (m : Str → Option Value) (hst : St 0 s.heap) (hn : s.heap.Ns cenv.locals m) (hsn : GenSince cenv.locals wr s0 s)
    (hkp : ∀ b ∈ fp, b ∉ wr → ∀ o, h0.get? b = some o → s.heap.get? b = some o) :
    Seg (model prog w) A (fun n s₀ r s₁ => r = .ok .next ∧ (n = 0 ∧ GenSince cenv.locals wr s₀ s₁)) (genProto cenv.locals fp wr pz n F) (passing pz n 0).length s0
      (.compStart (.GeneratorExp elt [⟨tg, iter, ifs, 0⟩] scope pos) 0 (.ref I) .none cenv)
      ((model prog w).den (.compStart (.GeneratorExp elt [⟨tg, iter, ifs, 0⟩] scope pos) 0 (.ref I) .none cenv)) [] s := by
  have hh2 : (A.over (.compStart (.GeneratorExp elt [⟨tg, iter, ifs, 0⟩] scope pos) 0 (.ref I) .none cenv) []).handled = none := hh
  have loop := turns (iter := iter) (scope := scope) (pos := pos) hh W hgo hco hC B n 0 s0 s m (Nat.sub_zero _) (Nat.zero_le _) hst hn hsn hkp
  show Seg _ A _ _ _ s0 _ ((compStart (.GeneratorExp elt [⟨tg, iter, ifs, 0⟩] scope pos) 0 (.ref I) .none cenv).onRaise (leaving cenv)) [] s
  unfold compStart
  rw [Sem.onRaise_eq_wrap]
  show Seg _ A _ _ _ s0 _ ((ask >>= _).wrap _ _ _ _) [] s
  refine seg_bind_wrap (wpAny_askSetting ?_)
  split
  · exact seg_again rfl loop
  · first
      | exact seg_bind_wrap (wpAny_rule (seg_bind_wrap (wpAny_standAt (seg_bind_wrap ((W _ hh2).self 0 s _ _ hst (seg_again rfl loop))))))
      | (refine seg_bind_wrap (wpAny_rule ?_)
         show Seg _ A _ _ _ s0 _ ((standAt iter.pos >>= _).wrap _ _ _ _) [] s
         exact seg_bind_wrap (wpAny_standAt (seg_bind_wrap ((W _ hh2).self 0 s _ _ hst (seg_again rfl loop)))))

theorem fresh_at {elt iter tg : Expr} {ifs : List Expr} {scope : Scope} {pos : Pos} {I a : Addr} {g : Nat} {fp wr : List Addr} {n : Nat} {P : Nat → Value → Prop} {St : Nat → Heap → Prop} {cenv : Env} {pz : Nat → Bool} {F : Nat → Value → Prop} {Lc : Nat → (Str → Option Value) → Prop}
    (hh : A.handled = none) (W : ∀ A' : Around, A'.handled = none → Walks prog w A' I fp wr n P St) (hgo : Still prog w tg I St)
    (hco : cenv.scope.isCoroutine = false) (hC : cenv.locals ∉ fp) {s : Shared} {m : Str → Option Value} (B : Body prog w cenv tg ifs elt fp wr P pz F Lc s.heap)
    (hg : s.heap.IsGen a g) (hgs : s.gens[g]? = some (.fresh (.compStart (.GeneratorExp elt [⟨tg, iter, ifs, 0⟩] scope pos) 0 (.ref I) .none cenv)))
    (hst : St 0 s.heap) (hn : s.heap.Ns cenv.locals m) (hl : s.heap.NoLimit) : GenAt prog w A a g cenv.locals fp wr pz n F 0 s := by
  refine ⟨hg, hl, _, hgs, fun s2 al => ⟨rfl, begins (A := A.in1) hh W hgo hco hC B s2 s2 m ?_ ?_ (GenSince.refl _ _ _) ?_⟩⟩
  · exact (W A hh).frame _ _ _ hst fun b hb o e => al b (List.mem_cons_of_mem _ hb) o e
  · exact hn.at' fun o e => al _ List.mem_cons_self o e
  · exact fun b hb _ o e => al b (List.mem_cons_of_mem _ hb) o e
end

section
variable {prog : Program} {w : World} {A : Around} {E : Value → Shared → Prop} {s : Shared}
theorem made {env : Env} {elt iter tg : Expr} {ifs : List Expr} {scope : Scope} {cl : List (Str × Addr)} {pos : Pos} {Q : Value → Shared → Prop}
    (hh : A.handled = none) (hco : scope.isCoroutine = false) (hclos : closureFor scope env = pure cl) (hcell : ∀ y ∈ scope.names, y.2 ≠ .cell) (h0 : scope.names.lookup (".0" : Str) = some NameKind.local)
    (hkind : scope.kind = .function) (hroom : A.depth < recursionLimit)
    (h : wpAny (model prog w) A (eval iter env) (fun xv s1 => wpAny (model prog w) A (pyIter xv) (fun it s2 => s2.heap.NoLimit ∧
      wpAny (model prog w) A (genexprCode env pos (env.qual ++ "<genexpr>") scope) (fun code s3 => wpAny (model prog w) A (builtinsFor env.globals env.builtins) (fun bi s4 =>
        ∃ I fp wr n P St pz F Lc, it = .ref I ∧ (∀ A' : Around, A'.handled = none → Walks prog w A' I fp wr n P St) ∧ Still prog w tg I St ∧ St 0 s4.heap ∧ (∀ b ∈ fp, b < s4.heap.objs.size) ∧ s4.heap.NoLimit ∧ cStatics ∉ wr ∧
          (∀ hr : Heap, (∀ b o, s4.heap.get? b = some o → hr.get? b = some o) →
            Body prog w (genEnv scope cl s4.heap.objs.size code bi env) tg ifs elt (List.range s4.heap.objs.size) wr P pz F Lc hr) ∧
          (∀ a h5 tk gs, gs.bare = true → s4.heap.objs.size < a → h5.objs.size = a + 1 → (∀ b o, s4.heap.get? b = some o → h5.get? b = some o) →
            WalksS prog w A.in4 a (a :: s4.heap.objs.size :: List.range s4.heap.objs.size) (s4.heap.objs.size :: wr) (GenOnlyQ s4.gens.size) (passing pz n 0).length
              (fun j y => ∃ i, (passing pz n 0)[j]? = some i ∧ F i y) (GenAt prog w A.in4 a s4.gens.size s4.heap.objs.size (List.range s4.heap.objs.size) wr pz n F) →
            GenAt prog w A.in4 a s4.gens.size s4.heap.objs.size (List.range s4.heap.objs.size) wr pz n F 0 { s4 with gens := s4.gens.push gs, toks := tk, heap := h5 } →
            Q (.ref a) { s4 with gens := s4.gens.push gs, toks := tk, heap := h5 })) E s3) E s2) E s1) E s)
    (hs : ∀ x, genFold iter env x = pure x) :
    wpAny (model prog w) A (eval (.GeneratorExp elt [⟨tg, iter, ifs, 0⟩] scope pos) env) Q E s := by
  refine wpAny_GeneratorExp_make hco hclos hcell h0 hkind hroom (wpAny_mono h (fun xv s1 q1 => wpAny_mono q1 (fun it s2 q2 => ⟨q2.1, wpAny_mono q2.2 (fun code s3 q3 => wpAny_mono q3 (fun bi s4 q4 => ?_)
    fun _ _ e => e) fun _ _ e => e⟩) fun _ _ e => e) fun _ _ e => e) hs
  obtain ⟨I, fp, wr, n, P, St, pz, F, Lc, rfl, W, hgo, hst, hfp, hl4, hcw, hq, hQ⟩ := q4
  have hclt : cStatics < s4.heap.objs.size := let ⟨_, z, _⟩ := hl4; z.lt
  intro h2 hn2 hs2
  have hsz : h2.objs.size = s4.heap.objs.size + 1 := by rw [hs2.1, Heap.size_push]
  have keep2 : ∀ b o, s4.heap.get? b = some o → h2.get? b = some o := fun b o e => hs2.extBut b o (Nat.ne_of_lt (Heap.lt_size e)) (Heap.get?_push_of_some _ e)
  have hsub : ∀ b ∈ wr, b ∈ List.range s4.heap.objs.size := fun b hb => List.mem_range.mpr (hfp b ((W A hh).sub b hb))
  have haC : h2.objs.size ≠ s4.heap.objs.size := by rw [hsz]; exact Nat.succ_ne_self _
  have haf : h2.objs.size ∉ List.range s4.heap.objs.size := fun z => by have := List.mem_range.mp z; omega
  refine hQ _ _ _ _ rfl (by omega) (by rw [Heap.size_push]) (fun b o e => Heap.get?_push_of_some _ (keep2 b o e)) (WalksS.genexpQ (A := A.in4) hh _ _ _ _ wr pz n F haC haf hsub hroom (List.mem_range.mpr hclt) (Nat.ne_of_lt hclt) hcw) ?_
  refine fresh_at (A := A.in4) (cenv := genEnv scope cl s4.heap.objs.size code bi env) (m := fun y => if y = ".0" then some (.ref I) else none) hh (fun A2 hA => (W A2 hA).mono_fp fun b hb => List.mem_range.mpr (hfp b hb)) hgo hco (fun z => Nat.lt_irrefl _ (List.mem_range.mp z))
    (hq _ fun b o e => Heap.get?_push_of_some _ (keep2 b o e)) ⟨_, _, _, Heap.get?_push_size _ rfl, rfl, rfl, rfl⟩ (Array.getElem?_push_size ..) ((W A hh).frame _ _ _ hst fun b _ o e => Heap.get?_push_of_some _ (keep2 b o e)) (hn2.push _) (hl4.keeps fun b o e => Heap.get?_push_of_some _ (keep2 b o e))
end
end G3

set_option Elab.async false
set_option linter.all false
set_option maxRecDepth 100000
set_option maxHeartbeats 2000000
namespace G3
open PySem PySem.Spec PyProof.Rows L2
open GxR (TabB TabG Tabbed)
/-! ### plain expressions over the names lo (locals) and ce (captured) -/
abbrev Nm := List (Str × V)
def LoOk (m : Str → Option Value) (lo : Nm) : Prop := ∀ p ∈ lo, ∃ u, RelV p.2 u ∧ m p.1 = some u
def CeOk (cells : List (Str × Addr)) (h : Heap) (ce : Nm) : Prop := ∀ p ∈ ce, ∃ c u, cells.lookup p.1 = some c ∧ h.IsCell c (some u) ∧ RelV p.2 u
theorem CeOk.tok {cells : List (Str × Addr)} {h : Heap} {ce : Nm} (x : CeOk cells h ce) : CeOk cells h ce := x
/-- e gives v -/
def GV (prog : Program) (w : World) (scope : Scope) (lo ce : Nm) (e : Expr) (v : V) : Prop :=
  ∀ (cenv : Env) (A : Around) (E : Value → Shared → Prop) (s : Shared) (m : Str → Option Value) (Q : Value → Shared → Prop), cenv.scope = scope → s.heap.Ns cenv.locals m → LoOk m lo → CeOk cenv.cells s.heap ce →
    (∀ u k, RelV v u → Q u { s with toks := k }) → wpAny (model prog w) A (eval e cenv) Q E s
/-- the test e gives b -/
def GT (prog : Program) (w : World) (scope : Scope) (lo ce : Nm) (e : Expr) (b : Bool) : Prop :=
  ∀ (whole : Sem Value) (cenv : Env) (A : Around) (E : Value → Shared → Prop) (s : Shared) (m : Str → Option Value) (Q : Bool → Shared → Prop), cenv.scope = scope → s.heap.Ns cenv.locals m → LoOk m lo → CeOk cenv.cells s.heap ce →
    (∀ k, Q b { s with toks := k }) → wpAny (model prog w) A (isTrue e cenv whole) Q E s
/-- the same where e's own value is what is tested -/
def GT0 (prog : Program) (w : World) (scope : Scope) (lo ce : Nm) (e : Expr) (b : Bool) : Prop :=
  ∀ (cenv : Env) (A : Around) (E : Value → Shared → Prop) (s : Shared) (m : Str → Option Value) (Q : Bool → Shared → Prop), cenv.scope = scope → s.heap.Ns cenv.locals m → LoOk m lo → CeOk cenv.cells s.heap ce →
    (∀ k, Q b { s with toks := k }) → wpAny (model prog w) A (isTrue e cenv (eval e cenv)) Q E s
section
variable {prog : Program} {w : World} {scope : Scope} {lo ce : Nm} {a b : Expr} {pos : Pos}
theorem GT.plain {e : Expr} {c : Bool} (h : GT prog w scope lo ce e c) : GT0 prog w scope lo ce e c := fun cenv => h _ cenv
theorem gv_loc {x : Str} {v : V} (hk : scope.kind = .function) (hl : scope.names.lookup x = some .local) (hm : (x, v) ∈ lo) (hd : (x == ("__debug__" : Str)) = false := by decide) : GV prog w scope lo ce (.Name x pos) v := by
  intro cenv A E s m Q hs hn h1 h2 hQ
  obtain ⟨u, r, e⟩ := h1 _ hm
  have q : Q u s := hQ u s.toks r
  exact wpAny_Name (wpAny_loadName_local (by rw [hs]; exact hk) (show cenv.scope.names.lookup x = some .local by rw [hs]; exact hl) hn e q) hd
theorem gv_free {x : Str} {v : V} (hk : scope.kind = .function) (hl : scope.names.lookup x = some .free) (hm : (x, v) ∈ ce) (hd : (x == ("__debug__" : Str)) = false := by decide) (hcd : (x == ("__classdict__" : Str)) = false := by decide) :
    GV prog w scope lo ce (.Name x pos) v := by
  intro cenv A E s m Q hs hn h1 h2 hQ
  obtain ⟨c, u, e1, e2, r⟩ := h2 _ hm
  have q : Q u s := hQ u s.toks r
  exact wpAny_Name (wpAny_loadName_free (by rw [hs]; exact hk) (show cenv.scope.names.lookup x = some .free by rw [hs]; exact hl) e1 e2 q hcd) hd
theorem gv_str {x : Str} {j : Nat} : GV prog w scope lo ce (.Constant (.str x) j pos) (.str x) := fun cenv A E s m Q hs hn h1 h2 hQ => Calls.Constant_str (hQ _ _ ⟨_, rfl⟩)
theorem gv_int {x : Int} {j : Nat} : GV prog w scope lo ce (.Constant (.int x) j pos) (.int x) := fun cenv A E s m Q hs hn h1 h2 hQ => wpAny_Constant_int (hQ _ _ ⟨_, rfl⟩)
theorem gt_cmp {op : CmpOp} {x y : V} {c : Bool} (ha : GV prog w scope lo ce a x) (hb : GV prog w scope lo ce b y) (h1 : behindInMarks op b = false)
    (rule : ∀ (A : Around) (E : Value → Shared → Prop) (u v : Value) (s : Shared) (Q : Value → Shared → Prop), RelV x u → RelV y v → Q (.bool c) s → wpAny (model prog w) A (compareOp op u v) Q E s) : GT prog w scope lo ce (.Compare a [op] [b] pos) c := by
  intro whole cenv A E s m Q hs hn l1 l2 hQ
  refine wpAny_isTrue_Compare1 (ha cenv A E s m _ hs hn l1 l2 fun u k ru => hb cenv A E _ m _ hs hn l1 l2 fun v k2 rv => ?_) h1
  exact rule A E u v _ _ ru rv (wpAny_truthy_bool (hQ k2))
theorem gt_eqS {x y : Str} (ha : GV prog w scope lo ce a (.str x)) (hb : GV prog w scope lo ce b (.str y)) : GT prog w scope lo ce (.Compare a [.Eq] [b] pos) (decide (x = y)) :=
  gt_cmp ha hb (nobehind _ (by decide) (by decide)) fun A E u v s Q ru rv q => by
    obtain ⟨t, rfl⟩ := ru
    obtain ⟨t2, rfl⟩ := rv
    refine PySem.P.eq_str ?_
    have e : (x.cps.toList == y.cps.toList) = decide (x = y) := by
      by_cases h : x = y
      · subst h
        simp
      · rw [decide_eq_false h, beq_eq_false_iff_ne]
        exact fun z => h (by cases x; cases y; simp only [Str.mk.injEq]; exact Array.toList_inj.mp z)
    rw [e]
    exact q
theorem gt_ge {x y : Int} (ha : GV prog w scope lo ce a (.int x)) (hb : GV prog w scope lo ce b (.int y)) : GT prog w scope lo ce (.Compare a [.GtE] [b] pos) (decide (y ≤ x)) :=
  gt_cmp ha hb (nobehind _ (by decide) (by decide)) fun A E u v s Q ru rv q => by
    obtain ⟨t, rfl⟩ := ru
    obtain ⟨t2, rfl⟩ := rv
    exact PyProof.Rows.ge_int q
theorem gt_le {x y : Int} (ha : GV prog w scope lo ce a (.int x)) (hb : GV prog w scope lo ce b (.int y)) : GT prog w scope lo ce (.Compare a [.LtE] [b] pos) (decide (x ≤ y)) :=
  gt_cmp ha hb (nobehind _ (by decide) (by decide)) fun A E u v s Q ru rv q => by
    obtain ⟨t, rfl⟩ := ru
    obtain ⟨t2, rfl⟩ := rv
    exact PyProof.Rows.le_int q
theorem gt_and2 {c d : Bool} (ha : GT prog w scope lo ce a c) (hb : GT prog w scope lo ce b d) : GT prog w scope lo ce (.BoolOp .And [a, b] pos) (c && d) := by
  intro whole cenv A E s m Q hs hn l1 l2 hQ
  refine isTrue_and (ha.plain cenv A E s m _ hs hn l1 l2 fun k => ?_)
  cases c with
  | false => exact hQ k
  | true =>
    refine isTrue_and (hb.plain cenv A E _ m _ hs hn l1 l2 fun k2 => ?_)
    cases d with
    | false => exact hQ k2
    | true => exact isTrue_and_nil (hQ k2)
end
/-! ### the rows that are walked -/
/-- xs: the addresses of tuples that hold the rows -/
def Rows (K : PySem.W.Frag) (H : Hp) (xs : List V) (rows : List (List V)) : Prop := Paired (fun x r => ∃ t, x = .ref t ∧ SqT K H t r) xs rows
theorem Rows.get {K : PySem.W.Frag} {H : Hp} : ∀ {xs : List V} {rows : List (List V)} {i : Nat} {x : V}, Rows K H xs rows → xs[i]? = some x → ∃ t r, x = .ref t ∧ rows[i]? = some r ∧ SqT K H t r
  | _, _, _, _, .nil, e => by simp at e
  | _, _, 0, _, .cons r _, e => by
    have e2 := Option.some.inj e
    subst e2
    obtain ⟨t, h1, h2⟩ := r
    exact ⟨t, _, h1, rfl, h2⟩
  | _, _, i + 1, x, .cons _ t, e => by
    obtain ⟨t2, r, h1, h2, h3⟩ := Rows.get (i := i) (x := x) t (by simpa using e)
    exact ⟨t2, r, h1, by simpa using h2, h3⟩
theorem Rows.length {K : PySem.W.Frag} {H : Hp} {xs : List V} {rows : List (List V)} (h : Rows K H xs rows) : xs.length = rows.length := Paired.length h
/-! ### sums -/
theorem preSum_of {α : Type} (l : List α) (g : α → Int) (f : Nat → Int) (hf : ∀ j a, l[j]? = some a → f j = g a) : ∀ k, k ≤ l.length → preSum f k = ((l.take k).map g).sum
  | 0, _ => by simp [preSum]
  | k + 1, h => by
    have hk : k < l.length := h
    rw [preSum, preSum_of l g f hf k (Nat.le_of_lt hk), hf k _ (List.getElem?_eq_getElem hk), List.take_add_one, List.getElem?_eq_getElem hk, Option.toList_some, List.map_append, List.sum_append]
    simp
theorem preSum_all {α : Type} (l : List α) (g : α → Int) (f : Nat → Int) (hf : ∀ j a, l[j]? = some a → f j = g a) : preSum f l.length = (l.map g).sum := by
  rw [preSum_of l g f hf _ (Nat.le_refl _), List.take_length]
theorem range_rows {α : Type} (l : List α) (d : α) : l = (List.range l.length).map fun i => l.getD i d := by
  refine List.ext_getElem? fun i => ?_
  rw [List.getElem?_map]
  by_cases h : i < l.length
  · rw [List.getElem?_range h, List.getElem?_eq_getElem h]
    simp [List.getD, h]
  · rw [List.getElem?_eq_none (by omega), List.getElem?_eq_none (by simp; omega)]
    rfl
theorem passing_rows {α : Type} (l : List α) (d : α) (p : α → Bool) : (passing (fun i => p (l.getD i d)) l.length 0).map (fun i => l.getD i d) = l.filter p := by
  unfold passing
  rw [List.drop_zero]
  conv => rhs; rw [range_rows l d, List.filter_map]
  rfl
end G3

set_option Elab.async false
set_option linter.all false
set_option maxRecDepth 100000
set_option maxHeartbeats 400000
namespace G3
open PySem PySem.Spec PyProof.Rows L2
open GxR (TabB TabG Tabbed)
/-- the generator expression's own scope -/
structure GS (env : Env) (scope : Scope) : Prop where
  kind : scope.kind = .function
  co : scope.isCoroutine = false
  cell : ∀ y ∈ scope.names, y.2 ≠ .cell
  dot : scope.names.lookup (".0" : Str) = some NameKind.local
  free : (scope.names.all fun y => (y.2 != .free) || (env.kindOf y.1 == some .cell)) = true
/-- the captured names with their slots, as they stand -/
def Caught (X : Cx) (scope : Scope) (ces : List (Str × Nat)) : Prop :=
  ∀ p ∈ ces, X.N[p.2]? = some p.1 ∧ X.env.kindOf p.1 = some .cell ∧ (cloFrom X.env.cells scope.names []).lookup p.1 = some ((X.env.cells.lookup p.1).getD 0)
def slots (σ : L2.St) (ces : List (Str × Nat)) (cvs : List V) : Prop := ces.map (fun p => σ[p.2]?) = cvs.map fun v => some (some v)
def nmOf (ces : List (Str × Nat)) (cvs : List V) : Nm := (ces.map (·.1)).zip cvs
section
variable {X : Cx} {pins : List (Addr × Obj)} {σ : L2.St} {H : Hp} {s : Shared}
theorem caught_ok {scope : Scope} : ∀ {ces : List (Str × Nat)} {cvs : List V}, Caught X scope ces → slots σ ces cvs → Inv X pins σ H s → CeOk (cloFrom X.env.cells scope.names []) s.heap (nmOf ces cvs)
  | [], _, _, _, _ => fun p hp => by simp [nmOf] at hp
  | c :: ces, [], _, hs, _ => by simp [slots] at hs
  | c :: ces, v :: cvs, hc, hs, I => fun p hp => by
    simp only [slots, List.map_cons, List.cons.injEq] at hs
    rcases List.mem_cons.mp (show p ∈ (c.1, v) :: nmOf ces cvs from hp) with e | e
    · subst e
      obtain ⟨h1, h2, h3⟩ := hc c List.mem_cons_self
      obtain ⟨m, _, hl⟩ := I.loc
      obtain ⟨u, r, l⟩ := hl c.2 c.1 v h1 hs.1 (.inr (.inl h2))
      rcases l with ⟨k, _⟩ | ⟨_, a, e1, e2⟩
      · rw [h2] at k
        cases k
      · exact ⟨a, u, by rw [h3, e1] <;> rfl, e2, r⟩
    · exact caught_ok (fun q hq => hc q (List.mem_cons_of_mem _ hq)) hs.2 I p e

/-- the generator g over the rows, ready to be walked -/
def Ready (X : Cx) (pins : List (Addr × Obj)) (σ : L2.St) (H1 : Hp) (P : Addr) (vals : List V) (g : Addr) (s5 : Shared) : Prop :=
  ∃ (fp wr : List Addr) (G : Array GenState → Array GenState → Prop) (F : Nat → Value → Prop) (St : Nat → Shared → Prop),
    WalksS X.prog X.w X.A.in1 g fp wr G vals.length F St ∧ St 0 s5 ∧ (∀ b ∈ fp, b < s5.heap.objs.size) ∧
    (∀ j u, F j u → ∃ v, vals[j]? = some v ∧ RelV v u) ∧
    ∀ s', Moved wr G s5 s' → ∃ H2, Tabbed P H1 H2 ∧ Inv X pins σ H2 s'

theorem put3 {prog : Program} {w : World} {A : Around} {E : Value → Shared → Prop} {s : Shared} {cenv : Env} {xa xb xc : Str} {pa pb pc pt : Pos} {kt : Nat} {T : Addr} {va vb vc : Value} {m : Str → Option Value} {Q : Unit → Shared → Prop}
    (hh : A.handled = none) (hT : s.heap.IsTuple T #[va, vb, vc]) (ha : cenv.kindOf xa = some .local) (hb : cenv.kindOf xb = some .local) (hc : cenv.kindOf xc = some .local) (hab : xa ≠ xb) (hac : xa ≠ xc) (hbc : xb ≠ xc)
    (hp : (cenv.scope.kind == .class || (cenv.scope.kind == .module && cenv.locals != cenv.globals)) = false) (hn : s.heap.Ns cenv.locals m)
    (h : ∀ h' m' tk, h'.Ns cenv.locals m' → (m' xa = some va ∧ m' xb = some vb ∧ m' xc = some vc) → (∀ b o, b ≠ cenv.locals → s.heap.get? b = some o → h'.get? b = some o) → Q () { s with heap := h', toks := tk }) :
    wpAny (model prog w) A (assign (.Tuple [.Name xa pa, .Name xb pb, .Name xc pc] kt pt) cenv (.ref T)) Q E s := by
  refine wpAny_assign_Tuple hh hT rfl rfl fun h1 hx => ?_
  have old : ∀ b o, s.heap.get? b = some o → h1.get? b = some o := fun b o e => hx b o (Nat.ne_of_lt (Heap.lt_size e)) e
  show wpAny _ _ (do holding [vb, vc] (assign (.Name xa pa) cenv va); do holding [vc] (assign (.Name xb pb) cenv vb); do holding [] (assign (.Name xc pc) cenv vc); pure ()) _ _ _
  refine wpAny_bind (wpAny_holding (wpAny_assign_Name (wpAny_storeName_local ha (hn.keeps old) (fun h2 n2 b2 => ?_) hp)))
  refine wpAny_bind (wpAny_holding (wpAny_assign_Name (wpAny_storeName_local hb n2 (fun h3 n3 b3 => ?_) hp)))
  refine wpAny_bind (wpAny_holding (wpAny_assign_Name (wpAny_storeName_local hc n3 (fun h4 n4 b4 => ?_) hp)))
  refine wpAny_pure (h h4 _ _ n4 ⟨by simp [hab, hac], by simp [hbc], by simp⟩ fun b o hb e => ?_)
  exact b4.extBut b o hb (b3.extBut b o hb (b2.extBut b o hb (old b o e)))

theorem vals3 {r : List V} {vs : List Value} (h : Vals r vs) (h3 : r.length = 3) : ∃ ra rb rc va vb vc, r = [ra, rb, rc] ∧ vs = [va, vb, vc] ∧ RelV ra va ∧ RelV rb vb ∧ RelV rc vc := by
  cases h with
  | nil => cases h3
  | cons r1 h =>
    cases h with
    | nil => cases h3
    | cons r2 h =>
      cases h with
      | nil => cases h3
      | cons r3 h =>
        cases h with
        | nil => exact ⟨_, _, _, _, _, _, rfl, rfl, r1, r2, r3⟩
        | cons r4 h => simp at h3
theorem loOk3 {m : Str → Option Value} {xa xb xc : Str} {ra rb rc : V} {va vb vc : Value} (r1 : RelV ra va) (r2 : RelV rb vb) (r3 : RelV rc vc) (l1 : m xa = some va) (l2 : m xb = some vb) (l3 : m xc = some vc) : LoOk m ([xa, xb, xc].zip [ra, rb, rc]) := by
  show LoOk m [(xa, ra), (xb, rb), (xc, rc)]
  intro p hp
  rcases List.mem_cons.mp hp with z | hp
  · rw [z]
    exact ⟨va, r1, l1⟩
  rcases List.mem_cons.mp hp with z | hp
  · rw [z]
    exact ⟨vb, r2, l2⟩
  rcases List.mem_cons.mp hp with z | hp
  · rw [z]
    exact ⟨vc, r3, l3⟩
  · cases hp
theorem tup3 {h : Heap} {t : Addr} {r : List V} {vs : List Value} (hT : h.IsTuple t vs.toArray) (hv : Vals r vs) (h3 : r.length = 3) :
    ∃ va vb vc, h.IsTuple t #[va, vb, vc] ∧ ∀ (m : Str → Option Value) (xa xb xc : Str), m xa = some va → m xb = some vb → m xc = some vc → LoOk m ([xa, xb, xc].zip r) := by
  obtain ⟨ra, rb, rc, va, vb, vc, e1, e2, r1, r2, r3⟩ := vals3 hv h3
  rw [e2] at hT
  refine ⟨va, vb, vc, hT, fun m xa xb xc l1 l2 l3 => ?_⟩
  rw [e1]
  exact loOk3 r1 r2 r3 l1 l2 l3
theorem gen3 {c P : Addr} {elt iter : Expr} {xa xb xc : Str} {pa pb pc pt : Pos} {kt : Nat} {ifs : List Expr} {gpos : Pos} {scope : Scope} {ces : List (Str × Nat)} {Good : List V → List V → Prop} {pz : List V → List V → Bool} {val : List V → List V → V} {te : TE} {k : Nat}
    {Q' : Value → Shared → Prop} {R : List V → List (List V) → Hp → Prop}
    (hr : Room k X.A) (TB : TabB X.base X.mg c P) (hcode : X.env.code = .ref c) (S : GS X.env scope) (hi : PE X iter te) (hce : Caught X scope ces)
    (ha : scope.names.lookup xa = some .local) (hb : scope.names.lookup xb = some .local) (hc : scope.names.lookup xc = some .local) (hab : xa ≠ xb) (hac : xa ≠ xc) (hbc : xb ≠ xc)
    (h3 : ∀ cvs r, Good cvs r → r.length = 3)
    (ht : ∀ cvs r (cenv : Env) (A : Around) (E : Value → Shared → Prop) (s : Shared) (m : Str → Option Value) (Q : Bool → Shared → Prop), Good cvs r → cenv.scope = scope → s.heap.Ns cenv.locals m → LoOk m ([xa, xb, xc].zip r) → CeOk cenv.cells s.heap (nmOf ces cvs) →
      (∀ k, Q (pz cvs r) { s with toks := k }) → wpAny (model X.prog X.w) A (forIn ifs true fun c r => if r = true then do let ok ← isTrue c cenv (eval c cenv); pure (ForInStep.yield ok) else pure (ForInStep.yield r)) Q E s)
    (hv : ∀ cvs r, Good cvs r → pz cvs r = true → GV X.prog X.w scope ([xa, xb, xc].zip r) (nmOf ces cvs) elt (val cvs r))
    (hs : ∀ v, genFold iter X.env v = pure v) (I : Inv X pins σ H s)
    (h : te σ H fun v H1 => ∃ (yl : Addr) (xs : List V) (rows : List (List V)) (cvs : List V), v = .ref yl ∧ SqL X.K H1 yl xs ∧ Rows X.K H1 xs rows ∧ slots σ ces cvs ∧ (∀ r ∈ rows, Good cvs r) ∧ TabG H1 P ∧ R cvs rows H1)
    (hQ : ∀ cvs rows H1 g s5, R cvs rows H1 → Ready X pins σ H1 P ((rows.filter (pz cvs)).map (val cvs)) g s5 → Q' (.ref g) s5) :
    wpAny (model X.prog X.w) X.A (eval (.GeneratorExp elt [⟨.Tuple [.Name xa pa, .Name xb pb, .Name xc pc] kt pt, iter, ifs, 0⟩] scope gpos) X.env) Q' X.xe s := by
  have hfree : ∀ y ∈ scope.names, y.2 = .free → ∃ c, X.env.cells.lookup y.1 = some c := fun y hy e => by
    have h1 := List.all_eq_true.mp S.free y hy
    rw [e] at h1
    exact I.ok.has _ (.inl (by simpa using h1))
  refine made hr.hd S.co (closure_ok hfree) S.cell S.dot S.kind (by have := hr.dp; omega) ?_ hs
  refine thn (hi.run pins s σ H _ I h) fun xv s1 q => ?_
  obtain ⟨v, H1, I1, r1, yl, xs, rows, cvs, rfl, hyl, hrw, hsl, hgood, ⟨ps, hP, htr⟩, q1⟩ := q
  obtain rfl : xv = Value.ref yl := r1
  obtain ⟨its, rv, hl, hz⟩ := I1.list hyl
  have hIL := hl.isList
  have hlen : its.length = rows.length := by rw [← rv.length, hrw.length]
  have hlen2 : its.toArray.size = rows.length := by rw [List.size_toArray, hlen]
  have ce1 := caught_ok hce hsl I1
  have hat : ∀ (i : Nat) (v : Value), its.toArray[i]? = some v → ∃ t r, v = .ref t ∧ rows[i]? = some r ∧ SqT X.K H1 t r := fun i v hv => by
    have hv2 : its[i]? = some v := by simpa using hv
    have hi2 : i < its.length := (List.getElem?_eq_some_iff.mp hv2).1
    have hi3 : i < xs.length := by rw [rv.length]; exact hi2
    obtain ⟨u, hu, ru⟩ := rv.get (List.getElem?_eq_getElem hi3)
    obtain ⟨t, r, e1, e2, e3⟩ := hrw.get (List.getElem?_eq_getElem hi3)
    rw [hv2] at hu
    cases hu
    rw [e1] at ru
    exact ⟨t, r, ru, e2, e3⟩
  refine wpAny_pyIter_list hIL ?_
  generalize ho : ({ cls := .type "list_iterator", data := .fields #[.ref yl, .int 0 0] } : Obj) = o
  have hitr : (s1.heap.push o).IsListIter s1.heap.objs.size yl 0 := by
    subst ho
    exact ⟨_, Heap.get?_push_size _ rfl, rfl, rfl⟩
  have hylt : yl < s1.heap.objs.size := let ⟨_, e, _⟩ := _root_.id hIL; Heap.lt_size e
  have hPs : s1.heap.get? P = some { cls := .none, data := .fields ps } := I1.hok P _ hP
  have hPlt : P < s1.heap.objs.size := Heap.lt_size hPs
  have hP2 : (s1.heap.push o).get? P = some { cls := .none, data := .fields ps } := Heap.get?_push_of_some _ hPs
  have cd : PySem.W.CodeHd (s1.heap.push o) c P := TB.code.keeps fun b u e => Heap.get?_push_of_some _ (I1.bk b u e)
  have lim2 : (s1.heap.push o).NoLimit := I1.nolimit.push o
  have sz2 : (s1.heap.push o).objs.size = s1.heap.objs.size + 1 := Heap.size_push ..
  refine ⟨lim2, ?_⟩
  have hcP : cStatics ≠ P := fun e => by
    obtain ⟨_, hns, _⟩ := I1.nolimit
    obtain ⟨o', es, ep, ho, hd, _⟩ := hns
    rw [e, hPs] at ho
    cases ho
    cases hd
  have hcl : cStatics < s1.heap.objs.size := let ⟨_, hns, _⟩ := I1.nolimit; hns.lt
  have hylP : yl ≠ P := fun z => by
    obtain ⟨_, e, hc1, _, hd1⟩ := _root_.id hIL
    rw [z, hPs] at e
    cases e
    cases hd1
  -- what the code's coming leaves: h3, the table's entries ps'
  suffices cont : ∀ (code : Value) (h3 : Heap) (tk : Nat) (ps' : Array Value), Heap.ExtBut P (s1.heap.push o) h3 → (s1.heap.push o).objs.size ≤ h3.objs.size → h3.get? P = some { cls := .none, data := .fields ps' } → (∃ more, ps' = ps ++ more) → TriplesOk ps'.toList →
      wpAny (model X.prog X.w) X.A (builtinsFor X.env.globals X.env.builtins) (fun bi s4 => ∃ Ia fp wr n Pq St pq F Lc, Value.ref s1.heap.objs.size = .ref Ia ∧ (∀ A' : Around, A'.handled = none → Walks X.prog X.w A' Ia fp wr n Pq St) ∧ Still X.prog X.w (.Tuple [.Name xa pa, .Name xb pb, .Name xc pc] kt pt) Ia St ∧ St 0 s4.heap ∧ (∀ b ∈ fp, b < s4.heap.objs.size) ∧ s4.heap.NoLimit ∧ cStatics ∉ wr ∧
          (∀ href : Heap, (∀ b o, s4.heap.get? b = some o → href.get? b = some o) →
            Body X.prog X.w (genEnv scope (cloFrom X.env.cells scope.names []) s4.heap.objs.size code bi X.env) (.Tuple [.Name xa pa, .Name xb pb, .Name xc pc] kt pt) ifs elt (List.range s4.heap.objs.size) wr Pq pq F Lc href) ∧
          (∀ a h5 tk gs, gs.bare = true → s4.heap.objs.size < a → h5.objs.size = a + 1 → (∀ b o, s4.heap.get? b = some o → h5.get? b = some o) →
            WalksS X.prog X.w X.A.in4 a (a :: s4.heap.objs.size :: List.range s4.heap.objs.size) (s4.heap.objs.size :: wr) (GenOnlyQ s4.gens.size) (passing pq n 0).length
              (fun j y => ∃ i, (passing pq n 0)[j]? = some i ∧ F i y) (GenAt X.prog X.w X.A.in4 a s4.gens.size s4.heap.objs.size (List.range s4.heap.objs.size) wr pq n F) →
            GenAt X.prog X.w X.A.in4 a s4.gens.size s4.heap.objs.size (List.range s4.heap.objs.size) wr pq n F 0 { s4 with gens := s4.gens.push gs, toks := tk, heap := h5 } →
            Q' (.ref a) { s4 with gens := s4.gens.push gs, toks := tk, heap := h5 })) X.xe { s1 with heap := h3, toks := tk } by
    cases hf : codeAmong gpos ps.toList with
    | none =>
      refine wpAny_genexprCodeX hcode (cd.code hP2 htr) (cd.tab hP2) hf fun c' h' tk hx hge hlt hco' _ htab' _ => ?_
      obtain ⟨o1, vs, f1, tf, fl, tg, inF, tx, tt, op, _, _, _, _, _, _, _, _, _, htr2, _⟩ := hco'
      exact cont _ h' tk _ hx (Nat.le_trans hge (Nat.le_of_lt hlt)) htab'.2 ⟨_, rfl⟩ htr2
    | some cv =>
      refine wpAny_genexprCode_hit hcode (cd.code hP2 htr) hf ?_
      exact cont cv (s1.heap.push o) s1.toks ps (Heap.ExtBut.refl _ _) (Nat.le_refl _) hP2 ⟨#[], by simp⟩ htr
  intro code h3' tk ps' hx hsz hP3 hmore ht3
  obtain ⟨bm, ob, e1, e2, e3, e4, e5, e6, e7, e8⟩ := TB.bm
  have keep3 : ∀ b u, b ≠ P → s1.heap.get? b = some u → h3'.get? b = some u := fun b u hb e => hx b u hb (Heap.get?_push_of_some _ e)
  refine wpAny_builtinsFor (m := X.mg) (by rw [I1.ok.glob]; exact ((I1.mod.glob.keeps I1.bk).push o).extBut hx TB.gP) e1 e2 (keep3 _ _ e4 (I1.bk _ _ e5)) e6 e7 e8 ?_
  have hIL3 : h3'.IsList yl its.toArray := by
    obtain ⟨ob, e, r⟩ := _root_.id hIL
    exact ⟨ob, keep3 _ _ hylP e, r⟩
  have hItr3 : h3'.IsListIter s1.heap.objs.size yl 0 := hitr.at fun u e => hx _ u (Nat.ne_of_gt hPlt) e
  have tupP : ∀ {t : Addr} {r : List V}, SqT X.K H1 t r → ∃ vs : List Value, Vals r vs ∧ t < s1.heap.objs.size ∧ h3'.IsTuple t vs.toArray := fun {t r} q => by
    obtain ⟨vs, rvs, ht1, _⟩ := I1.tuple q
    obtain ⟨ob, g1, g2, g3⟩ := _root_.id ht1
    refine ⟨vs, rvs, Heap.lt_size g1, ob, keep3 _ _ (fun z => ?_) g1, g2, g3⟩
    rw [z, hPs] at g1
    cases g1
    cases g2
  have cellP : CeOk (cloFrom X.env.cells scope.names []) h3' (nmOf ces cvs) := fun p hp => by
    obtain ⟨a, u, f1, ⟨ob, f2, f3⟩, f4⟩ := ce1 p hp
    refine ⟨a, u, f1, ⟨ob, keep3 _ _ (fun z => ?_) f2, f3⟩, f4⟩
    rw [z, hPs] at f2
    cases f2
    cases f3
  refine ⟨s1.heap.objs.size, [s1.heap.objs.size, yl], [s1.heap.objs.size], its.toArray.size, (fun i v => its.toArray[i]? = some v), (fun i h => h.IsListIter s1.heap.objs.size yl i ∧ h.IsList yl its.toArray), (fun i => pz cvs (rows.getD i [])),
    (fun i y => ∃ r, rows[i]? = some r ∧ RelV (val cvs r) y), (fun i m => ∃ r, rows[i]? = some r ∧ LoOk m ([xa, xb, xc].zip r)), rfl, (fun A' hA => Walks.list hA _ _ (Nat.ne_of_lt hylt) _), ?_, ⟨hItr3, hIL3⟩, ?_, lim2.extBut hx hcP, ?_, ?_, ?_⟩
  · intro A' i v s Q E st hQ
    obtain ⟨⟨oi, g1, g2, g3⟩, _⟩ := st
    exact go_of g1 g2 g3 (by decide) hQ
  · intro b hb
    have e9 : s1.heap.objs.size + 1 ≤ h3'.objs.size := by rw [← sz2]; exact hsz
    have hb2 : b ≤ s1.heap.objs.size := by
      rcases List.mem_cons.mp hb with z | z
      · exact Nat.le_of_eq z
      · rcases List.mem_cons.mp z with z | z
        · rw [z]
          exact Nat.le_of_lt hylt
        · cases z
    exact Nat.lt_of_lt_of_le (Nat.lt_succ_of_le hb2) e9
  · intro z
    rcases List.mem_cons.mp z with z | z
    · exact Nat.ne_of_lt hcl z
    · cases z
  · intro href hhref
    have keepR : ∀ {s₂ : Shared} {b : Addr} {u : Obj}, (∀ b ∈ List.range h3'.objs.size, b ∉ [s1.heap.objs.size] → ∀ o, href.get? b = some o → s₂.heap.get? b = some o) → b < s1.heap.objs.size → h3'.get? b = some u → s₂.heap.get? b = some u := fun {s₂ b u} hk hb e =>
      hk b (List.mem_range.mpr (Heap.lt_size e)) (fun z => by rw [List.mem_singleton.mp z] at hb; exact Nat.lt_irrefl _ hb) u (hhref b u e)
    have gk : (genEnv scope (cloFrom X.env.cells scope.names []) h3'.objs.size code builtinsNs X.env).scope = scope := rfl
    have ceK : ∀ {s₂ : Shared}, (∀ b ∈ List.range h3'.objs.size, b ∉ [s1.heap.objs.size] → ∀ o, href.get? b = some o → s₂.heap.get? b = some o) → CeOk (cloFrom X.env.cells scope.names []) s₂.heap (nmOf ces cvs) := fun {s₂} hk p hp => by
      obtain ⟨a, u, f1, ⟨ob, f2, f3⟩, f4⟩ := ce1 p hp
      obtain ⟨a', u', f1', ⟨ob', f2', f3'⟩, f4'⟩ := cellP p hp
      rw [f1] at f1'
      cases f1'
      exact ⟨a, u', f1, ⟨ob', keepR hk (Heap.lt_size f2) f2', f3'⟩, f4'⟩
    refine ⟨fun A' E' i v s₂ m₂ Q hA hPv hn hk hQ => ?_, fun A' E' i s₂ m₂ hA hn hL hk => ?_, fun A' E' i s₂ m₂ hA hp hn hL hk => ?_⟩
    · obtain ⟨t, r, rfl, hri, hT⟩ := hat i v hPv
      obtain ⟨vs, rvs, htl, hTu⟩ := tupP hT
      have hl3 : r.length = 3 := h3 cvs r (hgood r (List.mem_of_getElem? hri))
      obtain ⟨va, vb, vc, ⟨ob, g1, g2⟩, hlo⟩ := tup3 hTu rvs hl3
      exact put3 hA ⟨ob, keepR hk htl g1, g2⟩ ha hb hc hab hac hbc (by rw [gk, S.kind] <;> rfl) hn fun h' m' tk n' lm kk => hQ h' m' tk n' ⟨r, hri, hlo m' _ _ _ lm.1 lm.2.1 lm.2.2⟩ kk
    · obtain ⟨r, hri, lo⟩ := hL
      have er : rows.getD i [] = r := by rw [List.getD_eq_getElem?_getD, hri] <;> rfl
      refine ht cvs r _ A' E' s₂ m₂ _ (hgood r (List.mem_of_getElem? hri)) gk hn lo (ceK hk) fun k' => ⟨by rw [er], GxR.keeps_tok _ _⟩
    · obtain ⟨r, hri, lo⟩ := hL
      have er : rows.getD i [] = r := by rw [List.getD_eq_getElem?_getD, hri] <;> rfl
      have hp2 : pz cvs r = true := by
        have hp' : pz cvs (rows.getD i []) = true := hp
        rw [er] at hp'
        exact hp'
      exact hv cvs r (hgood r (List.mem_of_getElem? hri)) hp2 _ A' E' s₂ m₂ _ gk hn lo (ceK hk) fun u k' ru => ⟨⟨r, hri, ru⟩, GxR.keeps_tok _ _⟩
  · intro g h5 tk5 gs hgb hag hsz5 hk5 W5 hgat
    have hn5 : its.toArray.size = rows.length := hlen2
    rw [hn5] at W5 hgat
    have hpl : (passing (fun i => pz cvs (rows.getD i [])) rows.length 0).map (fun i => rows.getD i []) = rows.filter (pz cvs) := passing_rows rows [] (pz cvs)
    have hpn : (passing (fun i => pz cvs (rows.getD i [])) rows.length 0).length = ((rows.filter (pz cvs)).map (val cvs)).length := by rw [List.length_map, ← hpl, List.length_map]
    rw [hpn] at W5
    refine hQ cvs rows H1 g _ q1 ⟨_, _, _, _, _, W5.in4_1, hgat, ?_, ?_, fun s' hm => ?_⟩
    · intro b hb
      show b < h5.objs.size
      have e5 : h5.objs.size = g + 1 := hsz5
      have h8 : h3'.objs.size < g := hag
      rw [e5]
      rcases List.mem_cons.mp hb with z | z
      · rw [z]
        exact Nat.lt_succ_self g
      · rcases List.mem_cons.mp z with z | z
        · rw [z]
          exact Nat.lt_succ_of_lt h8
        · exact Nat.lt_succ_of_lt (Nat.lt_trans (List.mem_range.mp z) h8)
    · intro j u hu
      obtain ⟨i, hij, r, hri, ru⟩ := hu
      refine ⟨val cvs r, ?_, ru⟩
      have e : ((passing (fun i => pz cvs (rows.getD i [])) rows.length 0).map (fun i => rows.getD i []))[j]? = some r := by
        rw [List.getElem?_map, hij]
        show some (rows.getD i []) = some r
        rw [List.getD_eq_getElem?_getD, hri] <;> rfl
      rw [hpl] at e
      rw [List.getElem?_map, e] <;> rfl
    · obtain ⟨more, em⟩ := hmore
      have nwr : ∀ b u, s1.heap.get? b = some u → b ∉ h3'.objs.size :: [s1.heap.objs.size] := fun b u e hb => by
        have hl := Heap.lt_size e
        rcases List.mem_cons.mp hb with z | z
        · rw [z] at hl
          have h9 : (h3'.objs.size : Nat) < s1.heap.objs.size := hl
          omega
        · rcases List.mem_cons.mp z with z | z
          · rw [z] at hl
            exact Nat.lt_irrefl _ hl
          · cases z
      have J := GxR.inv_tab (more := more) (h' := s'.heap) (g' := s'.gens) (d' := s'.drawn) (t' := s'.toks) I1 hP (fun b u hb e => hm.heap b u (nwr b u e) (hk5 b u (keep3 b u hb e)))
        (by rw [← em]; exact hm.heap P _ (nwr P _ hPs) (hk5 P _ hP3)) (AllBare.movedS (I1.bare.push hgb) hm)
      rw [GxR.sh_eta s1 s' hm.os] at J
      exact ⟨upd H1 P (.tbl (ps ++ more)), ⟨⟨ps ++ more, upd_same, by rw [← em]; exact ht3⟩, fun b hb => upd_ne hb⟩, J⟩
/-- sum(elt for xa, xb, xc in te if ..) -/
def tSumG (K : PySem.W.Frag) (P : Addr) (ces : List (Str × Nat)) (Good : List V → List V → Prop) (pz : List V → List V → Bool) (val : List V → List V → Int) (te : TE) : TE := fun σ H Q => te σ H fun v H1 =>
  ∃ (yl : Addr) (xs : List V) (rows : List (List V)) (cvs : List V), v = .ref yl ∧ SqL K H1 yl xs ∧ Rows K H1 xs rows ∧ slots σ ces cvs ∧ (∀ r ∈ rows, Good cvs r) ∧ TabG H1 P ∧
    ∀ H2, Tabbed P H1 H2 → Q (.int ((rows.filter (pz cvs)).map (val cvs)).sum) H2
theorem pe_sumG {c P : Addr} {elt iter : Expr} {xa xb xc : Str} {pa pb pc pt : Pos} {kt : Nat} {ifs : List Expr} {p pos gpos : Pos} {scope : Scope} {ces : List (Str × Nat)} {Good : List V → List V → Prop} {pz : List V → List V → Bool} {val : List V → List V → Int} {te : TE} {k : Nat}
    (hr : Room k X.A) (hg : Gl X "sum") (hm : X.mg "sum" = none) (TB : TabB X.base X.mg c P) (hcode : X.env.code = .ref c) (S : GS X.env scope) (hi : PE X iter te) (hce : Caught X scope ces)
    (ha : scope.names.lookup xa = some .local) (hb : scope.names.lookup xb = some .local) (hc : scope.names.lookup xc = some .local) (hab : xa ≠ xb) (hac : xa ≠ xc) (hbc : xb ≠ xc)
    (h3 : ∀ cvs r, Good cvs r → r.length = 3)
    (ht : ∀ cvs r (cenv : Env) (A : Around) (E : Value → Shared → Prop) (s : Shared) (m : Str → Option Value) (Q : Bool → Shared → Prop), Good cvs r → cenv.scope = scope → s.heap.Ns cenv.locals m → LoOk m ([xa, xb, xc].zip r) → CeOk cenv.cells s.heap (nmOf ces cvs) →
      (∀ k, Q (pz cvs r) { s with toks := k }) → wpAny (model X.prog X.w) A (forIn ifs true fun c r => if r = true then do let ok ← isTrue c cenv (eval c cenv); pure (ForInStep.yield ok) else pure (ForInStep.yield r)) Q E s)
    (hv : ∀ cvs r, Good cvs r → pz cvs r = true → GV X.prog X.w scope ([xa, xb, xc].zip r) (nmOf ces cvs) elt (.int (val cvs r)))
    (hs : ∀ v, genFold iter X.env v = pure v)
    (he : starEach [.GeneratorExp elt [⟨.Tuple [.Name xa pa, .Name xb pb, .Name xc pc] kt pt, iter, ifs, 0⟩] scope gpos] X.env = (false, eval (.GeneratorExp elt [⟨.Tuple [.Name xa pa, .Name xb pb, .Name xc pc] kt pt, iter, ifs, 0⟩] scope gpos) X.env) :: starEach [] X.env := by rfl) :
    PE X (.Call (.Name "sum" p) [.GeneratorExp elt [⟨.Tuple [.Name xa pa, .Name xb pb, .Name xc pc] kt pt, iter, ifs, 0⟩] scope gpos] [] pos) (tSumG X.K P ces Good pz val te) := by
  refine ⟨fun pins s σ H Q I h => ?_⟩
  refine wpAny_Call_Name_kw (ld_blt I hg hm boot_sum ?_)
  refine PyProof.Rows.callWith_builtin1 ?_ he (by rfl)
  rw [he]
  show wpAny _ _ (spliced ((false, eval (.GeneratorExp elt [⟨.Tuple [.Name xa pa, .Name xb pb, .Name xc pc] kt pt, iter, ifs, 0⟩] scope gpos) X.env) :: backTo pos (starEach [] X.env))) _ _ s
  refine Calls.spliced_cons (gen3 (val := fun cvs r => .int (val cvs r)) (R := fun cvs rows H1 => ∀ H2, Tabbed P H1 H2 → Q (.int ((rows.filter (pz cvs)).map (val cvs)).sum) H2) hr TB hcode S hi hce ha hb hc hab hac hbc h3 ht hv hs I h fun cvs rows H1 g s5 hR hG => ?_)
  obtain ⟨fp, wr, G, F, St, W, hst, hfp, hF, hI⟩ := hG
  refine Calls.spliced_nil ?_
  refine call_sum_walkAnyS (W.self 0 _ _ _ hst ⟨g, fp, wr, G, _, F, St, (fun j => ((rows.filter (pz cvs)).map (val cvs)).getD j 0), rfl, W, hst, hfp, fun j u hu => ?_, fun s' t' hmv => ?_⟩)
  · obtain ⟨v, e, r⟩ := hF j u hu
    rw [List.getElem?_map] at e
    obtain ⟨row, e1, e2⟩ := Option.map_eq_some_iff.mp e
    subst e2
    obtain ⟨t, rfl⟩ := r
    refine ⟨t, ?_⟩
    show Value.int _ _ = Value.int (((rows.filter (pz cvs)).map (val cvs)).getD j 0) t
    rw [List.getD_eq_getElem?_getD, List.getElem?_map, e1] <;> rfl
  · obtain ⟨H2, hT, J⟩ := hI s' hmv
    have es : preSum (fun j => ((rows.filter (pz cvs)).map (val cvs)).getD j 0) ((rows.filter (pz cvs)).map fun r => V.int (val cvs r)).length = ((rows.filter (pz cvs)).map (val cvs)).sum := by
      have e := preSum_all ((rows.filter (pz cvs)).map (val cvs)) (fun z => z) (fun j => ((rows.filter (pz cvs)).map (val cvs)).getD j 0) fun j a h => by
        show List.getD _ j 0 = a
        rw [List.getD_eq_getElem?_getD, h] <;> rfl
      rw [List.length_map] at e
      rw [List.length_map, e, List.map_id']
    rw [es]
    exact ⟨.int _, H2, J, ⟨t', rfl⟩, hR H2 hT⟩
end
end G3

set_option Elab.async false
set_option linter.all false
set_option maxRecDepth 100000
set_option maxHeartbeats 400000
namespace My
open PySem PySem.Spec PyProof.Rows L2
open GxR (TabB TabG Tabbed)
/-! ### heaps: all that is tracked stays, but tables may grow -/
def Sm (H H' : Hp) : Prop := ∀ b o, H b = some o → H' b = some o ∨ ∃ ps ps' : Array Value, o = .tbl ps ∧ H' b = some (.tbl ps') ∧ TriplesOk ps'.toList
theorem Sm.refl (H : Hp) : Sm H H := fun _ _ h => .inl h
theorem Sm.trans {H H1 H2 : Hp} (a : Sm H H1) (b : Sm H1 H2) : Sm H H2 := fun c o h => by
  rcases a c o h with e | ⟨ps, ps', e1, e2, e3⟩
  · exact b c o e
  · rcases b c _ e2 with e | ⟨qs, qs', f1, f2, f3⟩
    · exact .inr ⟨ps, ps', e1, e, e3⟩
    · exact .inr ⟨ps, qs', e1, f2, f3⟩
theorem Sm.new {H : Hp} {p : Addr} {o : HO} (h : H p = none) : Sm H (upd H p o) := fun b u e => .inl (by rw [upd_ne (ne_of_none e h)]; exact e)
theorem Sm.mut {H H' : Hp} {p : Addr} {o : HO} (S : Sm H H') (h : H p = none) : Sm H (upd H' p o) := fun b u e => by
  rw [upd_ne (ne_of_none e h)]
  exact S b u e
theorem Sm.tab {H H' : Hp} {P : Addr} (t : TabG H P) (h : Tabbed P H H') : Sm H H' := fun b o e => by
  by_cases hb : b = P
  · subst hb
    obtain ⟨ps, e1, _⟩ := t
    obtain ⟨⟨ps', e2, e3⟩, _⟩ := h
    rw [e1] at e
    exact .inr ⟨ps, ps', (Option.some.inj e).symm, e2, e3⟩
  · exact .inl (by rw [h.2 b hb]; exact e)
theorem Sm.at {H H' : Hp} (S : Sm H H') {b : Addr} {o : HO} (e : H b = some o) (n : ∀ ps, o ≠ .tbl ps) : H' b = some o := by
  rcases S b o e with h | ⟨ps, _, h, _⟩
  · exact h
  · exact (n ps h).elim
theorem Sm.lst {H H' : Hp} (S : Sm H H') {b : Addr} {xs : List V} (e : H b = some (.lst xs)) : H' b = some (.lst xs) := S.at e fun _ z => by cases z
theorem Sm.tup {H H' : Hp} (S : Sm H H') {b : Addr} {xs : List V} (e : H b = some (.tup xs)) : H' b = some (.tup xs) := S.at e fun _ z => by cases z
theorem Sm.free {H H' : Hp} (S : Sm H H') {p : Addr} (h : H' p = none) : H p = none := by
  cases e : H p with
  | none => rfl
  | some o =>
    rcases S p o e with z | ⟨ps, ps', _, z, _⟩ <;> (rw [h] at z; cases z)
theorem Sm.tabG {H H' : Hp} (S : Sm H H') {P : Addr} (t : TabG H P) : TabG H' P := by
  obtain ⟨ps, e, k⟩ := t
  rcases S P _ e with z | ⟨qs, qs', _, z, z2⟩
  · exact ⟨ps, z, k⟩
  · exact ⟨qs', z, z2⟩
theorem Sm.sql {K : PySem.W.Frag} {H H' : Hp} {a : Addr} {xs : List V} (S : Sm H H') (h : SqL K H a xs) : SqL K H' a xs := by
  rcases h with (h | ⟨o, h⟩) | h
  · exact .inl (.inl (S.lst h))
  · exact .inl (.inr ⟨o, S.at h fun _ z => by cases z⟩)
  · exact .inr h
theorem Sm.sqt {K : PySem.W.Frag} {H H' : Hp} {a : Addr} {xs : List V} (S : Sm H H') (h : SqT K H a xs) : SqT K H' a xs := by
  rcases h with (h | ⟨o, h⟩) | h
  · exact .inl (.inl (S.tup h))
  · exact .inl (.inr ⟨o, S.at h fun _ z => by cases z⟩)
  · exact .inr h
/-! ### what a reading evaluates to -/
section
variable {σ : L2.St} {H : Hp} {v x y : V} {ta tb te : TE}
/-- the value v, whatever else has come -/
def Ev (te : TE) (σ : L2.St) (H : Hp) (v : V) : Prop := ∀ H1, Sm H H1 → ∀ Q : VK, (∀ H2, Sm H1 H2 → Q v H2) → te σ H1 Q
/-- a value of which P holds -/
def EvP (te : TE) (σ : L2.St) (H : Hp) (P : V → Hp → Prop) : Prop := ∀ H1, Sm H H1 → ∀ Q : VK, (∀ v H2, Sm H1 H2 → P v H2 → Q v H2) → te σ H1 Q
def EvT (tt : TT) (σ : L2.St) (H : Hp) (b : Bool) : Prop := ∀ H1, Sm H H1 → ∀ Q : Bool → Hp → Prop, (∀ H2, Sm H1 H2 → Q b H2) → tt σ H1 Q
def EvA (ta : TA) (σ : L2.St) (H : Hp) (P : List V → Hp → Prop) : Prop := ∀ H1, Sm H H1 → ∀ Q : List V → Hp → Prop, (∀ vs H2, Sm H1 H2 → P vs H2 → Q vs H2) → ta σ H1 Q
def Stab (P : V → Hp → Prop) : Prop := ∀ v H H', Sm H H' → P v H → P v H'
theorem Ev.mono {H' : Hp} (h : Ev te σ H v) (S : Sm H H') : Ev te σ H' v := fun H1 S1 => h H1 (S.trans S1)
theorem EvP.mono {H' : Hp} {P : V → Hp → Prop} (h : EvP te σ H P) (S : Sm H H') : EvP te σ H' P := fun H1 S1 => h H1 (S.trans S1)
theorem EvT.mono {H' : Hp} {tt : TT} {b : Bool} (h : EvT tt σ H b) (S : Sm H H') : EvT tt σ H' b := fun H1 S1 => h H1 (S.trans S1)
theorem EvA.mono {H' : Hp} {ta : TA} {P : List V → Hp → Prop} (h : EvA ta σ H P) (S : Sm H H') : EvA ta σ H' P := fun H1 S1 => h H1 (S.trans S1)
theorem Ev.p (h : Ev te σ H v) : EvP te σ H fun u _ => u = v := fun H1 S Q q => h H1 S Q fun H2 S2 => q v H2 S2 rfl
theorem Ev.to {v' : V} (h : Ev te σ H v) (e : v = v') : Ev te σ H v' := e ▸ h
theorem EvT.to {tt : TT} {b b' : Bool} (h : EvT tt σ H b) (e : b = b') : EvT tt σ H b' := e ▸ h
theorem ev_var {i : Nat} (h : σ[i]? = some (some v)) : Ev (tVar i) σ H v := fun H1 S Q q => ⟨v, h, q H1 (Sm.refl _)⟩
theorem ev_c : Ev (tC v) σ H v := fun H1 S Q q => q H1 (Sm.refl _)
theorem ev_opI0 {g : Int → Int → V} {i j : Int} (ha : Ev ta σ H (.int i)) (hb : Ev tb σ H (.int j)) : Ev (tOp (rI0 g) ta tb) σ H (g i j) := fun H1 S Q q =>
  ha H1 S _ fun H2 S2 => hb H2 (S.trans S2) _ fun H3 S3 => ⟨i, j, rfl, rfl, q H3 (S2.trans S3)⟩
theorem ev_opI {C : Int → Int → Prop} {g : Int → Int → V} {i j : Int} (ha : Ev ta σ H (.int i)) (hb : Ev tb σ H (.int j)) (hc : C i j) : Ev (tOp (rI C g) ta tb) σ H (g i j) := fun H1 S Q q =>
  ha H1 S _ fun H2 S2 => hb H2 (S.trans S2) _ fun H3 S3 => ⟨i, j, rfl, rfl, hc, q H3 (S2.trans S3)⟩
theorem ev_un {g : Int → V} {i : Int} (ha : Ev ta σ H (.int i)) : Ev (tUn (rU g) ta) σ H (g i) := fun H1 S Q q => ha H1 S _ fun H2 S2 => ⟨i, rfl, q H2 S2⟩
theorem ev_eq (ha : Ev ta σ H x) (hb : Ev tb σ H y) (hs : scal x y = true) : Ev (tOp rEq ta tb) σ H (.bl (decide (x = y))) := fun H1 S Q q =>
  ha H1 S _ fun H2 S2 => hb H2 (S.trans S2) _ fun H3 S3 => ⟨hs, q H3 (S2.trans S3)⟩
theorem ev_ne (ha : Ev ta σ H x) (hb : Ev tb σ H y) (hs : scal x y = true) : Ev (tOp rNe ta tb) σ H (.bl (!decide (x = y))) := fun H1 S Q q =>
  ha H1 S _ fun H2 S2 => hb H2 (S.trans S2) _ fun H3 S3 => ⟨hs, q H3 (S2.trans S3)⟩
theorem ev_eqI {i j : Int} (ha : Ev ta σ H (.int i)) (hb : Ev tb σ H (.int j)) : Ev (tOp rEq ta tb) σ H (.bl (decide (i = j))) :=
  (ev_eq ha hb rfl).to (by rw [show decide (V.int i = V.int j) = decide (i = j) from decide_eq_decide.mpr ⟨fun z => V.int.inj z, fun z => by rw [z]⟩])
theorem ev_neI {i j : Int} (ha : Ev ta σ H (.int i)) (hb : Ev tb σ H (.int j)) : Ev (tOp rNe ta tb) σ H (.bl (!decide (i = j))) :=
  (ev_ne ha hb rfl).to (by rw [show decide (V.int i = V.int j) = decide (i = j) from decide_eq_decide.mpr ⟨fun z => V.int.inj z, fun z => by rw [z]⟩])
theorem ev_eqS {i j : Str} (ha : Ev ta σ H (.str i)) (hb : Ev tb σ H (.str j)) : Ev (tOp rEq ta tb) σ H (.bl (decide (i = j))) :=
  (ev_eq ha hb rfl).to (by rw [show decide (V.str i = V.str j) = decide (i = j) from decide_eq_decide.mpr ⟨fun z => V.str.inj z, fun z => by rw [z]⟩])
theorem ev_ixL {K : PySem.W.Frag} {a : Addr} {xs : List V} {i : Int} (ha : Ev ta σ H (.ref a)) (hb : Ev tb σ H (.int i)) (hx : SqL K H a xs) (hi : atI xs i = some v) : Ev (tOp (rIxL K) ta tb) σ H v := fun H1 S Q q =>
  ha H1 S _ fun H2 S2 => hb H2 (S.trans S2) _ fun H3 S3 => ⟨a, xs, i, v, rfl, rfl, (S.trans (S2.trans S3)).sql hx, hi, q H3 (S2.trans S3)⟩
theorem ev_ixT {K : PySem.W.Frag} {a : Addr} {xs : List V} {i : Int} (ha : Ev ta σ H (.ref a)) (hb : Ev tb σ H (.int i)) (hx : SqT K H a xs) (hi : atI xs i = some v) : Ev (tOp (rIxT K) ta tb) σ H v := fun H1 S Q q =>
  ha H1 S _ fun H2 S2 => hb H2 (S.trans S2) _ fun H3 S3 => ⟨a, xs, i, v, rfl, rfl, (S.trans (S2.trans S3)).sqt hx, hi, q H3 (S2.trans S3)⟩
/-- an item of what ta has just made -/
theorem ev_ixLP {K : PySem.W.Frag} {xs : List V} {i : Int} (ha : EvP ta σ H fun u H' => ∃ a, u = .ref a ∧ SqL K H' a xs) (hb : Ev tb σ H (.int i)) (hi : atI xs i = some v) : Ev (tOp (rIxL K) ta tb) σ H v := fun H1 S Q q =>
  ha H1 S _ fun u H2 S2 ⟨a, e, hx⟩ => hb H2 (S.trans S2) _ fun H3 S3 => ⟨a, xs, i, v, e, rfl, S3.sql hx, hi, q H3 (S2.trans S3)⟩
theorem ev_ixTP {K : PySem.W.Frag} {xs : List V} {i : Int} (ha : EvP ta σ H fun u H' => ∃ a, u = .ref a ∧ SqT K H' a xs) (hb : Ev tb σ H (.int i)) (hi : atI xs i = some v) : Ev (tOp (rIxT K) ta tb) σ H v := fun H1 S Q q =>
  ha H1 S _ fun u H2 S2 ⟨a, e, hx⟩ => hb H2 (S.trans S2) _ fun H3 S3 => ⟨a, xs, i, v, e, rfl, S3.sqt hx, hi, q H3 (S2.trans S3)⟩
/-- .. of which P holds -/
theorem evp_ixL {K : PySem.W.Frag} {a : Addr} {xs : List V} {i : Int} {P : V → Hp → Prop} (ha : Ev ta σ H (.ref a)) (hb : Ev tb σ H (.int i)) (hx : SqL K H a xs) (hi : atI xs i = some v) (hP : ∀ H', Sm H H' → P v H') : EvP (tOp (rIxL K) ta tb) σ H P := fun H1 S Q q =>
  ha H1 S _ fun H2 S2 => hb H2 (S.trans S2) _ fun H3 S3 => ⟨a, xs, i, v, rfl, rfl, (S.trans (S2.trans S3)).sql hx, hi, q v H3 (S2.trans S3) (hP _ (S.trans (S2.trans S3)))⟩
/-! arguments, displays -/
theorem eva_nil : EvA tNil σ H fun vs _ => vs = [] := fun H1 S Q q => q [] H1 (Sm.refl _) rfl
theorem eva_cons {tr : TA} {P : List V → Hp → Prop} (ha : Ev ta σ H v) (hr : EvA tr σ H P) : EvA (tCons ta tr) σ H fun vs H' => ∃ r, vs = v :: r ∧ P r H' := fun H1 S Q q =>
  ha H1 S _ fun H2 S2 => hr H2 (S.trans S2) _ fun r H3 S3 p => q (v :: r) H3 (S2.trans S3) ⟨r, rfl, p⟩
theorem eva_consP {tr : TA} {P : V → Hp → Prop} {R : List V → Hp → Prop} (ha : EvP ta σ H P) (st : Stab P) (hr : EvA tr σ H R) : EvA (tCons ta tr) σ H fun vs H' => ∃ v r, vs = v :: r ∧ P v H' ∧ R r H' := fun H1 S Q q =>
  ha H1 S _ fun v H2 S2 pv => hr H2 (S.trans S2) _ fun r H3 S3 p => q (v :: r) H3 (S2.trans S3) ⟨v, r, rfl, st _ _ _ S3 pv, p⟩
theorem evp_lst {t : TA} {P : List V → Hp → Prop} (K : PySem.W.Frag) (ha : EvA t σ H P) (hz : ∀ vs H', P vs H' → vs.length ≤ sizeLine) (st : ∀ vs H H', Sm H H' → P vs H → P vs H') : EvP (tLst t) σ H fun u H' => ∃ a vs, u = .ref a ∧ H' a = some (.lst vs) ∧ P vs H' := fun H1 S Q q =>
  ha H1 S _ fun vs H2 S2 p => ⟨hz _ _ p, fun l nl => q (.ref l) _ (S2.trans (Sm.new nl)) ⟨l, vs, rfl, upd_same, st _ _ _ (Sm.new nl) p⟩⟩
theorem evp_tup {t : TA} {P : List V → Hp → Prop} (K : PySem.W.Frag) (ha : EvA t σ H P) (hz : ∀ vs H', P vs H' → vs.length ≤ sizeLine) (st : ∀ vs H H', Sm H H' → P vs H → P vs H') : EvP (tTup t) σ H fun u H' => ∃ a vs, u = .ref a ∧ H' a = some (.tup vs) ∧ P vs H' := fun H1 S Q q =>
  ha H1 S _ fun vs H2 S2 p => ⟨hz _ _ p, fun l nl => q (.ref l) _ (S2.trans (Sm.new nl)) ⟨l, vs, rfl, upd_same, st _ _ _ (Sm.new nl) p⟩⟩
/-- a list of known values that are no objects, or of known ones -/
def EvL (t : TA) (σ : L2.St) (H : Hp) (vs : List V) : Prop := EvA t σ H fun us _ => us = vs
theorem evl_nil : EvL tNil σ H [] := eva_nil
theorem evl_cons {tr : TA} {vs : List V} (ha : Ev ta σ H v) (hr : EvL tr σ H vs) : EvL (tCons ta tr) σ H (v :: vs) := fun H1 S Q q =>
  ha H1 S _ fun H2 S2 => hr H2 (S.trans S2) _ fun r H3 S3 p => q (v :: r) H3 (S2.trans S3) (by rw [p])
theorem evp_lstV {t : TA} {vs : List V} {K : PySem.W.Frag} (ha : EvL t σ H vs) (hz : vs.length ≤ sizeLine) : EvP (tLst t) σ H fun u H' => ∃ a, u = .ref a ∧ SqL K H' a vs := fun H1 S Q q =>
  ha H1 S _ fun us H2 S2 p => ⟨by rw [p]; exact hz, fun l nl => q (.ref l) _ (S2.trans (Sm.new nl)) ⟨l, rfl, .inl (.inl (by rw [p, upd_same]))⟩⟩
theorem evp_tupV {t : TA} {vs : List V} {K : PySem.W.Frag} (ha : EvL t σ H vs) (hz : vs.length ≤ sizeLine) : EvP (tTup t) σ H fun u H' => ∃ a, u = .ref a ∧ SqT K H' a vs := fun H1 S Q q =>
  ha H1 S _ fun us H2 S2 p => ⟨by rw [p]; exact hz, fun l nl => q (.ref l) _ (S2.trans (Sm.new nl)) ⟨l, rfl, .inl (.inl (by rw [p, upd_same]))⟩⟩
/-! calls -/
theorem ev_cb {r : List V → Hp → VK → Prop} {t : TA} {vs : List V} (ha : EvL t σ H vs) (hr : ∀ H1, Sm H H1 → ∀ Q : VK, (∀ H2, Sm H1 H2 → Q v H2) → r vs H1 Q) : Ev (tCB r t) σ H v := fun H1 S Q q =>
  ha H1 S _ fun us H2 S2 p => by rw [p]; exact hr H2 (S.trans S2) Q fun H3 S3 => q H3 (S2.trans S3)
theorem evp_cb {r : List V → Hp → VK → Prop} {t : TA} {vs : List V} {P : V → Hp → Prop} (ha : EvL t σ H vs) (hr : ∀ H1, Sm H H1 → ∀ Q : VK, (∀ u H2, Sm H1 H2 → P u H2 → Q u H2) → r vs H1 Q) : EvP (tCB r t) σ H P := fun H1 S Q q =>
  ha H1 S _ fun us H2 S2 p => by rw [p]; exact hr H2 (S.trans S2) Q fun u H3 S3 => q u H3 (S2.trans S3)
theorem ev_call {sp : Sp} {E : XK} {t : TA} {vs : List V} (ha : EvL t σ H vs) (hr : ∀ H1, Sm H H1 → ∀ Q : VK, (∀ H2, Sm H1 H2 → Q v H2) → sp vs H1 Q E) : Ev (tCall sp [] E t) σ H v := fun H1 S Q q =>
  ha H1 S _ fun us H2 S2 p => by rw [p, List.append_nil]; exact hr H2 (S.trans S2) Q fun H3 S3 => q H3 (S2.trans S3)
theorem evp_call {sp : Sp} {E : XK} {t : TA} {vs : List V} {P : V → Hp → Prop} (ha : EvL t σ H vs) (hr : ∀ H1, Sm H H1 → ∀ Q : VK, (∀ u H2, Sm H1 H2 → P u H2 → Q u H2) → sp vs H1 Q E) : EvP (tCall sp [] E t) σ H P := fun H1 S Q q =>
  ha H1 S _ fun us H2 S2 p => by rw [p, List.append_nil]; exact hr H2 (S.trans S2) Q fun u H3 S3 => q u H3 (S2.trans S3)
theorem evp_callA {sp : Sp} {E : XK} {t : TA} {R : List V → Hp → Prop} {P : V → Hp → Prop} (ha : EvA t σ H R) (hr : ∀ vs H1, Sm H H1 → R vs H1 → ∀ Q : VK, (∀ u H2, Sm H1 H2 → P u H2 → Q u H2) → sp vs H1 Q E) : EvP (tCall sp [] E t) σ H P := fun H1 S Q q =>
  ha H1 S _ fun us H2 S2 p => by rw [List.append_nil]; exact hr us H2 (S.trans S2) p Q fun u H3 S3 => q u H3 (S2.trans S3)
theorem ev_len {K : PySem.W.Frag} {a : Addr} {xs : List V} (ha : Ev ta σ H (.ref a)) (hx : SqL K H a xs) : Ev (tCB (fun xs H Q => ∃ p ys, xs = [.ref p] ∧ (SqL K H p ys ∨ SqT K H p ys) ∧ Q (.int ys.length) H) (tCons ta tNil)) σ H (.int xs.length) :=
  ev_cb (evl_cons ha evl_nil) fun H1 S Q q => ⟨a, xs, rfl, .inl (S.sql hx), q H1 (Sm.refl _)⟩
theorem ev_lenT {K : PySem.W.Frag} {a : Addr} {xs : List V} (ha : Ev ta σ H (.ref a)) (hx : SqT K H a xs) : Ev (tCB (fun xs H Q => ∃ p ys, xs = [.ref p] ∧ (SqL K H p ys ∨ SqT K H p ys) ∧ Q (.int ys.length) H) (tCons ta tNil)) σ H (.int xs.length) :=
  ev_cb (evl_cons ha evl_nil) fun H1 S Q q => ⟨a, xs, rfl, .inr (S.sqt hx), q H1 (Sm.refl _)⟩
theorem evp_listOf {K : PySem.W.Frag} {a : Addr} {xs : List V} (ha : Ev ta σ H (.ref a)) (hx : SqL K H a xs) :
    EvP (tCB (fun xs H Q => ∃ p ys, xs = [.ref p] ∧ (SqL K H p ys ∨ SqT K H p ys) ∧ ∀ l, H l = none → Q (.ref l) (upd H l (.lst ys))) (tCons ta tNil)) σ H fun u H' => ∃ l, u = .ref l ∧ H' l = some (.lst xs) :=
  evp_cb (evl_cons ha evl_nil) fun H1 S Q q => ⟨a, xs, rfl, .inl (S.sql hx), fun l nl => q _ _ (Sm.new nl) ⟨l, rfl, upd_same⟩⟩
theorem ev_isi {K : PySem.W.Frag} {t u : Value} {b : Bool} (ha : Ev ta σ H x) (hb : Ev tb σ H y) (hc : ClsV y u) (ht : ∀ H', Sm H H' → TyX K H' x t) (hk : PySem.W.kitOne K t u = some b) : Ev (tCB (rIsi K) (tCons ta (tCons tb tNil))) σ H (.bl b) :=
  ev_cb (evl_cons ha (evl_cons hb evl_nil)) fun H1 S Q q => ⟨x, y, t, u, b, rfl, hc, ht _ S, hk, q H1 (Sm.refl _)⟩
/-! bools -/
theorem ev_and {b c : Bool} (ha : Ev ta σ H (.bl b)) (hb : b = true → Ev tb σ H (.bl c)) : Ev (tAndV ta tb) σ H (.bl (b && c)) := fun H1 S Q q =>
  ha H1 S _ fun H2 S2 => ⟨b, rfl, by
    cases b with
    | true => rw [if_pos rfl]; exact hb rfl H2 (S.trans S2) Q fun H3 S3 => q H3 (S2.trans S3)
    | false => rw [if_neg Bool.false_ne_true]; exact q H2 S2⟩
theorem ev_or {b c : Bool} (ha : Ev ta σ H (.bl b)) (hb : b = false → Ev tb σ H (.bl c)) : Ev (tOrV ta tb) σ H (.bl (b || c)) := fun H1 S Q q =>
  ha H1 S _ fun H2 S2 => ⟨b, rfl, by
    cases b with
    | true => rw [if_pos rfl]; exact q H2 S2
    | false => rw [if_neg Bool.false_ne_true]; exact hb rfl H2 (S.trans S2) Q fun H3 S3 => q H3 (S2.trans S3)⟩
theorem ev_not {b : Bool} (ha : Ev ta σ H (.bl b)) : Ev (tNotV ta) σ H (.bl !b) := fun H1 S Q q => ha H1 S _ fun H2 S2 => ⟨b, rfl, q H2 S2⟩
theorem ev_chain {g g' : Int → Int → Bool} {i j k : Int} {tc : TE} (ha : Ev ta σ H (.int i)) (hb : Ev tb σ H (.int j)) (hc : Ev tc σ H (.int k)) :
    Ev (tChain (rI0 fun i j => .bl (g i j)) (rI0 fun i j => .bl (g' i j)) ta tb tc) σ H (.bl (g i j && g' j k)) := fun H1 S Q q =>
  ha H1 S _ fun H2 S2 => hb H2 (S.trans S2) _ fun H3 S3 => ⟨i, j, rfl, rfl, g i j, rfl, by
    cases h : g i j with
    | true => rw [if_pos rfl]; exact hc H3 (S.trans (S2.trans S3)) _ fun H4 S4 => ⟨j, k, rfl, rfl, by rw [h] at q; exact q H4 (S2.trans (S3.trans S4))⟩
    | false => rw [if_neg Bool.false_ne_true]; rw [h] at q; exact q H3 (S2.trans S3)⟩
/-! tests -/
theorem evt_test {b : Bool} (h : Ev te σ H (.bl b)) : EvT (tTest te) σ H b := fun H1 S Q q => h H1 S _ fun H2 S2 => ⟨b, rfl, q H2 S2⟩
theorem evt_b {b : Bool} (h : Ev te σ H (.bl b)) : EvT (tB te) σ H b := fun H1 S Q q => h H1 S _ fun H2 S2 => ⟨b, rfl, q H2 S2⟩
variable {t u : TT}
theorem evt_and {b c : Bool} (ha : EvT t σ H b) (hb : b = true → EvT u σ H c) : EvT (tAnd t u) σ H (b && c) := fun H1 S Q q =>
  ha H1 S _ fun H2 S2 => by
    cases b with
    | true => rw [if_pos rfl]; exact hb rfl H2 (S.trans S2) Q fun H3 S3 => q H3 (S2.trans S3)
    | false => rw [if_neg Bool.false_ne_true]; exact q H2 S2
theorem evt_or {b c : Bool} (ha : EvT t σ H b) (hb : b = false → EvT u σ H c) : EvT (tOr t u) σ H (b || c) := fun H1 S Q q =>
  ha H1 S _ fun H2 S2 => by
    cases b with
    | true => rw [if_pos rfl]; exact q H2 S2
    | false => rw [if_neg Bool.false_ne_true]; exact hb rfl H2 (S.trans S2) Q fun H3 S3 => q H3 (S2.trans S3)
theorem evt_not {b : Bool} (ha : EvT t σ H b) : EvT (tNot t) σ H (!b) := fun H1 S Q q => ha H1 S _ q
end
/-! ### statements -/
section
variable {σ : L2.St} {H : Hp} {v : V} {te : TE} {t u : TS} {D : Ends} {i : Nat} {c : TT} {b : Bool}
theorem q_next (h : D.nx σ H) : tNext D σ H := h
theorem q_seq (h : t { D with nx := u D } σ H) : tSeq t u D σ H := h
theorem q_set (h : Ev te σ H v) (k : ∀ H', Sm H H' → D.nx (σ.set i (some v)) H') : tAsg te (gName i) D σ H := h H (Sm.refl _) _ fun H2 S2 => k H2 S2
theorem q_setP {P : V → Hp → Prop} (h : EvP te σ H P) (k : ∀ v H', Sm H H' → P v H' → D.nx (σ.set i (some v)) H') : tAsg te (gName i) D σ H := h H (Sm.refl _) _ fun v H2 S2 p => k v H2 S2 p
theorem q_ret (h : Ev te σ H v) (k : ∀ H', Sm H H' → D.rt v H') : tRet te D σ H := h H (Sm.refl _) _ k
theorem q_retP {P : V → Hp → Prop} (h : EvP te σ H P) (k : ∀ v H', Sm H H' → P v H' → D.rt v H') : tRet te D σ H := h H (Sm.refl _) _ k
theorem q_if (h : EvT c σ H b) (h1 : b = true → ∀ H', Sm H H' → t D σ H') (h2 : b = false → ∀ H', Sm H H' → u D σ H') : tIfS c t u D σ H := h H (Sm.refl _) _ fun H2 S2 => by
  cases b with
  | true => rw [if_pos rfl]; exact h1 rfl H2 S2
  | false => rw [if_neg Bool.false_ne_true]; exact h2 rfl H2 S2
/-- an if that stores one name anew, or nothing: one way -/
theorem q_ifset {old : V} (h : EvT c σ H b) (ho : σ[i]? = some (some old)) (hv : b = true → Ev te σ H v) (k : ∀ H', Sm H H' → D.nx (σ.set i (some (if b = true then v else old))) H') : tIfS c (tAsg te (gName i)) tNext D σ H :=
  q_if h (fun e H' S => (hv e).mono S H' (Sm.refl _) _ fun H2 S2 => by
      have q := k H2 (S.trans S2)
      rw [if_pos e] at q
      exact q) fun e H' S => by
    have q := k H' S
    rw [if_neg (by rw [e]; exact Bool.false_ne_true)] at q
    have es : σ.set i (some old) = σ := by
      refine List.ext_getElem? fun j => ?_
      by_cases hj : j = i
      · subst hj
        rw [List.getElem?_set_self (List.getElem?_eq_some_iff.mp ho).1, ho]
      · rw [List.getElem?_set_ne (Ne.symm hj)]
    rw [es] at q
    exact q
theorem q_drop (h : Ev te σ H v) (k : ∀ H', Sm H H' → D.nx σ H') : tDrop te D σ H := h H (Sm.refl _) _ k
end
/-! ints: by letters -/
section
variable {σ : L2.St} {H : Hp} {v : V} {ta tb te : TE} {t u : TS} {D : Ends} {i : Nat} {c : TT} {b : Bool}
def EvI (t : TA) (σ : L2.St) (H : Hp) (ns : List Int) : Prop := EvL t σ H (ns.map V.int)
theorem evi_nil : EvI tNil σ H [] := evl_nil
theorem evi_cons {n : Int} {ns : List Int} {tr : TA} (ha : Ev ta σ H (.int n)) (hr : EvI tr σ H ns) : EvI (tCons ta tr) σ H (n :: ns) := evl_cons ha hr
theorem ev_menu {K : PySem.W.Frag} {ns : List Int} {k : Int} {tl : TA} (ha : EvI tl σ H ns) (hb : Ev tb σ H (.int k)) (h0 : 0 ≤ k) (h1 : k < (ns.length : Int)) (hz : (ns.map V.int).length ≤ sizeLine) : Ev (tOp (rIxL K) (tLst tl) tb) σ H (.int (ns.getD k.toNat 0)) :=
  ev_ixLP (evp_lstV ha hz) hb (by
    have e : k.toNat < ns.length := by omega
    have e2 : k = (k.toNat : Int) := by omega
    rw [e2]
    refine atI_nat ?_
    rw [List.getElem?_map, List.getElem?_eq_getElem e, List.getD_eq_getElem?_getD, show ((k.toNat : Int)).toNat = k.toNat from rfl, List.getElem?_eq_getElem e]
    rfl)
theorem menu_all {P : Int → Prop} {ns : List Int} (h : ∀ z ∈ ns, P z) (h0 : P 0) (k : Nat) : P (ns.getD k 0) := by
  rw [List.getD_eq_getElem?_getD]
  cases e : ns[k]? with
  | none => exact h0
  | some z => exact h z (List.mem_of_getElem? e)
theorem q_setI {n : Int} (h : Ev te σ H (.int n)) (k : ∀ z : Int, z = n → ∀ H', Sm H H' → D.nx (σ.set i (some (.int z))) H') : tAsg te (gName i) D σ H := q_set h fun H' S => k n rfl H' S
theorem q_ifsetI {n o : Int} (h : EvT c σ H b) (ho : σ[i]? = some (some (.int o))) (hv : b = true → Ev te σ H (.int n)) (k : ∀ z : Int, z = (if b = true then n else o) → ∀ H', Sm H H' → D.nx (σ.set i (some (.int z))) H') : tIfS c (tAsg te (gName i)) tNext D σ H :=
  q_ifset h ho hv fun H' S => by
    have q := k _ rfl H' S
    cases b <;> exact q
theorem q_ifsetS {n o : Str} (h : EvT c σ H b) (ho : σ[i]? = some (some (.str o))) (hv : b = true → Ev te σ H (.str n)) (k : ∀ H', Sm H H' → D.nx (σ.set i (some (.str (if b = true then n else o)))) H') : tIfS c (tAsg te (gName i)) tNext D σ H :=
  q_ifset h ho hv fun H' S => by
    have q := k H' S
    cases b <;> exact q
end
/-! a statement, then the rest -/
section
variable {σ : L2.St} {H : Hp} {v : V} {ta tb te : TE} {t u : TS} {D : Ends} {i : Nat} {c : TT} {b : Bool}
theorem qs_set (h : Ev te σ H v) (k : ∀ H', Sm H H' → u D (σ.set i (some v)) H') : tSeq (tAsg te (gName i)) u D σ H := q_set (D := { D with nx := u D }) h k
theorem qs_setP {P : V → Hp → Prop} (h : EvP te σ H P) (k : ∀ v H', Sm H H' → P v H' → u D (σ.set i (some v)) H') : tSeq (tAsg te (gName i)) u D σ H := q_setP (D := { D with nx := u D }) h k
theorem qs_setI {n : Int} (h : Ev te σ H (.int n)) (k : ∀ z : Int, z = n → ∀ H', Sm H H' → u D (σ.set i (some (.int z))) H') : tSeq (tAsg te (gName i)) u D σ H := q_setI (D := { D with nx := u D }) h k
theorem qs_ifset {old : V} (h : EvT c σ H b) (ho : σ[i]? = some (some old)) (hv : b = true → Ev te σ H v) (k : ∀ H', Sm H H' → u D (σ.set i (some (if b = true then v else old))) H') : tSeq (tIfS c (tAsg te (gName i)) tNext) u D σ H := q_ifset (D := { D with nx := u D }) h ho hv k
theorem qs_ifsetI {n o : Int} (h : EvT c σ H b) (ho : σ[i]? = some (some (.int o))) (hv : b = true → Ev te σ H (.int n)) (k : ∀ z : Int, z = (if b = true then n else o) → ∀ H', Sm H H' → u D (σ.set i (some (.int z))) H') : tSeq (tIfS c (tAsg te (gName i)) tNext) u D σ H := q_ifsetI (D := { D with nx := u D }) h ho hv k
theorem qs_ifsetS {n o : Str} (h : EvT c σ H b) (ho : σ[i]? = some (some (.str o))) (hv : b = true → Ev te σ H (.str n)) (k : ∀ H', Sm H H' → u D (σ.set i (some (.str (if b = true then n else o)))) H') : tSeq (tIfS c (tAsg te (gName i)) tNext) u D σ H := q_ifsetS (D := { D with nx := u D }) h ho hv k
/-- an if without else, then the rest -/
theorem qs_if (h : EvT c σ H b) (h1 : b = true → ∀ H', Sm H H' → t { D with nx := u D } σ H') (h2 : b = false → ∀ H', Sm H H' → u D σ H') : tSeq (tIfS c t tNext) u D σ H := q_if (D := { D with nx := u D }) h h1 h2
theorem qs_drop (h : Ev te σ H v) (k : ∀ H', Sm H H' → u D σ H') : tSeq (tDrop te) u D σ H := q_drop (D := { D with nx := u D }) h k
end
section
variable {σ : L2.St} {H : Hp} {ta tb : TE}
theorem ev_max2 {i j : Int} (ha : Ev ta σ H (.int i)) (hb : Ev tb σ H (.int j)) : Ev (tCB (fun xs H Q => ∃ i j, xs = [.int i, .int j] ∧ Q (.int (if j > i then j else i)) H) (tCons ta (tCons tb tNil))) σ H (.int (if j > i then j else i)) :=
  ev_cb (evl_cons ha (evl_cons hb evl_nil)) fun H1 S Q q => ⟨i, j, rfl, q H1 (Sm.refl _)⟩
theorem ev_min2 {i j : Int} (ha : Ev ta σ H (.int i)) (hb : Ev tb σ H (.int j)) : Ev (tCB (fun xs H Q => ∃ i j, xs = [.int i, .int j] ∧ Q (.int (if j < i then j else i)) H) (tCons ta (tCons tb tNil))) σ H (.int (if j < i then j else i)) :=
  ev_cb (evl_cons ha (evl_cons hb evl_nil)) fun H1 S Q q => ⟨i, j, rfl, q H1 (Sm.refl _)⟩
theorem ev_eqB {i j : Bool} (ha : Ev ta σ H (.bl i)) (hb : Ev tb σ H (.bl j)) : Ev (tOp rEq ta tb) σ H (.bl (decide (i = j))) :=
  (ev_eq ha hb rfl).to (by rw [show decide (V.bl i = V.bl j) = decide (i = j) from decide_eq_decide.mpr ⟨fun z => V.bl.inj z, fun z => by rw [z]⟩])
theorem ev_isB {K : PySem.W.Frag} {b : Bool} (ha : Ev ta σ H (.bl b)) : Ev (tCB (rIsi K) (tCons ta (tCons (tC (.ty "bool")) tNil))) σ H (.bl true) :=
  ev_isi ha ev_c (.ty "bool") (fun _ _ => .base (.bl b)) (kit_ty (by decide +kernel))
theorem ev_isI {K : PySem.W.Frag} {b : Int} (ha : Ev ta σ H (.int b)) : Ev (tCB (rIsi K) (tCons ta (tCons (tC (.ty "int")) tNil))) σ H (.bl true) :=
  ev_isi ha ev_c (.ty "int") (fun _ _ => .base (.int b)) (kit_ty (by decide +kernel))
end
end My

set_option Elab.async false
set_option linter.all false
set_option maxRecDepth 100000
set_option maxHeartbeats 400000
namespace My
open PySem PySem.Spec PyProof.Rows L2
open GxR (TabB TabG Tabbed)
/-! ### a def as the top has left it -/
structure Dn (K : PySem.W.Frag) (mg : Str → Option Value) (x : Str) (st : Stmt) (ps : List Str) (f : Addr) (fd : FuncData) : Prop where
  F : Fun K x x st f fd
  b : Binds K fd ps []
  g : mg x = some (.ref f)
/-- .. whose code object is known -/
structure DnC (K : PySem.W.Frag) (mg : Str → Option Value) (x : Str) (st : Stmt) (ps : List Str) (f : Addr) (fd : FuncData) (c : Addr) : Prop extends Dn K mg x st ps f fd where
  exC : ∃ (oc : Value) (od : Option Addr) (kV doc pm : Value) (an : Option Addr) (ct : Value) (osl : Array (Option Value)),
    fd = PySem.W.fnOf x x (defArgs st) (defBody st) (defScope st) .none kV doc pm an (.ref c) ct ∧ K.lookup f = some ⟨oc, od, .func fd, osl⟩ ∧ PySem.W.codeIn K (.ref c) x = true
section
variable {P : Program} {w : World} {K : PySem.W.Frag} {mg : Str → Option Value} {base : Heap}
theorem DnC.ok {x : Str} {st : Stmt} {f c : Addr} {fd : FuncData} {N ps qs : List Str} {k : Nat} {sp : Sp} (F : DnC K mg x st qs f fd c) (S : FnScope N ps (defScope st)) (len : ∀ vs H Q E, sp vs H Q E → vs.length = ps.length)
    (hbody : ∀ (A : Around) (outer : List Env) (s : Shared) (H : Hp) (vs : List V) (Q : VK) (E : XK), Room k (A.deeper (envOfC x (defScope st) s.heap.objs.size f (.ref c))) → sp vs H Q E →
      ∃ t, PSs (cxOf CX0 P w K mg base N x (defScope st) f (.ref c) A outer s H E).nox (defBody st) t ∧ t { nx := fun _ H' => Q .non H', rt := Q } (start N vs) H) : FnOk P w K mg base CX0 (k + 1) f fd ps sp := by
  obtain ⟨oc, od, kV, doc, pm, an, ct, osl, rfl, lk, hcd⟩ := F.exC
  refine fn_of lk hcd S len fun A outer s H vs Q E hr hsp => ?_
  obtain ⟨t, h, q⟩ := hbody A outer s H vs Q E hr hsp
  exact ⟨t, h.nox, q⟩
end
/-! ### the end: tables of defs that hold generator expressions -/
/-- what is known of the law's promise at the head's heap h -/
def LawG (l : PySem.W.OpenLaw) (w : World) (K : PySem.W.Frag) (CX : CXT) (k n : Nat) (x : Str) (mg : Str → Option Value) (fa : Addr) (h : Heap) (cs : List (Addr × Addr)) : Prop :=
  ∃ (fd : FuncData) (sp : Sp), (∀ (s : Shared) (u : Value), BindsTo s fd ⟨[u], []⟩ [(x, u)]) ∧
    (∀ (H : Hp) (a : Addr) (ns : List Int), ns.length ≤ n → (∀ z ∈ ns, Builtin.Int.intBits z ≤ 1048576) → (∀ p ∈ cs, H p.2 = some (.tbl #[])) → SqL K H a (ns.map V.int) → sp [.ref a] H (fun v _ => v = .bl true) fun _ _ _ => False) ∧
    ∀ base : Heap, K.In base → base.Ns mainGlobals mg → (∀ p ∈ cs, TabB base mg p.1 p.2) → FnOk l.prog w K mg base CX k fa fd [x] sp
theorem walk_gen {l : PySem.W.OpenLaw} {n k : Nat} {q : Program} {loose : List Str} {XP : (Str → Option Value) → Heap → Prop} {YP : World → Heap → Prop} {d : DefRec} {K : PySem.Params → PySem.W.Frag} {CX : World → CXT} {x : Str} (xs : List Str) (cs : List (Addr × Addr))
    (hn : l.most = some n) (hn2 : n ≤ sizeLine) (hdf : d.params.defaults = []) (hr : Room k callerA) (hY : ∀ (w : World) (h : Heap), YP w h → (K w.params).In h)
    (hrec : ∀ x ∈ xs, ((recsOf q).find? (fun e => e.name == x)).isSome = true)
    (htab : ∀ (w : World), ∀ p ∈ cs, ∃ x ∈ xs, PySem.W.tabIn (K w.params) x = some p)
    (hnl : ∀ (w : World), ∀ p ∈ cs, (K w.params).lookup p.2 = none)
    (F : ∀ (w : World) (mg : Str → Option Value) (fa : Addr) (h : Heap), YP w h → (K w.params).In h → h.Ns mainGlobals mg → mg d.name = some (.ref fa) → LawG l w (K w.params) (CX w) k n x mg fa h cs)
    (hCX : ∀ (w : World) (H : Hp) (s : Shared) (e : Value) (s' : Shared), CX w [] H s (fun _ _ _ => False) e s' → False) :
    PySem.W.WalkO q loose XP YP l.row.toRowW d [] (fun f vs => PySem.call f vs) := by
  refine Att.attach_callB hn hdf fun w s₀ s₁ mg mb fa o pm cd doc a vs ns G Y ho hd hcd hmg hobj hints hlen hbits hg => ?_
  have KX := hY w _ Y
  obtain ⟨fd, sp, hb, hsp, hF⟩ := F w mg fa _ Y KX G.T.g hmg
  have T : ∀ p ∈ cs, PySem.W.CodeHd s₁.heap p.1 p.2 ∧ s₁.heap.get? p.2 = some (PySem.W.tabObj #[]) := fun p hp => by
    obtain ⟨y, hy, e⟩ := htab w p hp
    obtain ⟨dd, hdd⟩ := Option.isSome_iff_exists.mp (hrec y hy)
    exact PySem.W.tab_of G.T KX hdd e
  exact LamX.law_callTs KX G.T.g G.T.b G.T.builtins G.T.nolimit hg (fun p hp => (T p hp).2) (hnl w) (fun p hp => (T p hp).1) G.T.bmain hobj hints (Nat.le_trans hlen hn2) hr (fun base h1 h2 h3 => hF base h1 h2 fun p hp => ⟨(h3 p hp).code, (h3 p hp).bm, (h3 p hp).gP⟩) hb (fun H hH hS => hsp H a ns hlen hbits hH hS) fun H e s' => hCX w H s₁ e s'
/-- the law's own promise: tabs, the tables of the defs that hold generator expressions -/
def SpLaw (K : PySem.W.Frag) (tabs : List Addr) : Sp := fun vs H Q _ => ∃ (a : Addr) (ns : List Int), vs = [.ref a] ∧ SqL K H a (ns.map V.int) ∧ ns.length ≤ 63 ∧ (∀ P ∈ tabs, TabG H P) ∧ ∀ H', Q (.bl true) H'
/-! ### wishes -/
structure Wish where
  buy : Bool
  lim : Int
  amt : Int
def sideS (b : Bool) : Str := if b = true then "buy" else "sell"
def Wish.side (w : Wish) : Str := sideS w.buy
def Wish.row (w : Wish) : List V := [.str w.side, .int w.lim, .int w.amt]
structure Wish.Good (w : Wish) : Prop where
  l0 : 0 ≤ w.lim
  l1 : w.lim ≤ 1000000000
  a0 : 1 ≤ w.amt
  a1 : w.amt ≤ 1000000
def WishV (K : PySem.W.Frag) (H : Hp) (v : V) (w : Wish) : Prop := ∃ t, v = .ref t ∧ SqT K H t w.row
def Wishes (K : PySem.W.Frag) (H : Hp) (xs : List V) (ws : List Wish) : Prop := Paired (WishV K H) xs ws
/-- at a a list of the wishes ws -/
def WishL (K : PySem.W.Frag) (H : Hp) (a : Addr) (ws : List Wish) : Prop := ∃ xs, SqL K H a xs ∧ Wishes K H xs ws
theorem WishV.sm {K : PySem.W.Frag} {H H' : Hp} (S : Sm H H') {v : V} {w : Wish} (h : WishV K H v w) : WishV K H' v w := let ⟨t, e, q⟩ := h; ⟨t, e, S.sqt q⟩
theorem Wishes.sm {K : PySem.W.Frag} {H H' : Hp} (S : Sm H H') : ∀ {xs : List V} {ws : List Wish}, Wishes K H xs ws → Wishes K H' xs ws
  | _, _, .nil => .nil
  | _, _, .cons r t => .cons (r.sm S) (Wishes.sm S t)
theorem WishL.sm {K : PySem.W.Frag} {H H' : Hp} (S : Sm H H') {a : Addr} {ws : List Wish} (h : WishL K H a ws) : WishL K H' a ws := let ⟨xs, h1, h2⟩ := h; ⟨xs, S.sql h1, h2.sm S⟩
theorem Wishes.length {K : PySem.W.Frag} {H : Hp} {xs : List V} {ws : List Wish} (h : Wishes K H xs ws) : xs.length = ws.length := Paired.length h
theorem Wishes.get {K : PySem.W.Frag} {H : Hp} : ∀ {xs : List V} {ws : List Wish} {i : Nat} {w : Wish}, Wishes K H xs ws → ws[i]? = some w → ∃ v, xs[i]? = some v ∧ WishV K H v w
  | _, _, _, _, .nil, e => by simp at e
  | _, _, 0, _, .cons r _, e => by
    have e2 := Option.some.inj e
    subst e2
    exact ⟨_, rfl, r⟩
  | _, _, i + 1, w, .cons _ t, e => by
    obtain ⟨v, h1, h2⟩ := Wishes.get (i := i) (w := w) t (by simpa using e)
    exact ⟨v, by simpa using h1, h2⟩
theorem Wishes.getV {K : PySem.W.Frag} {H : Hp} : ∀ {xs : List V} {ws : List Wish} {i : Nat} {v : V}, Wishes K H xs ws → xs[i]? = some v → ∃ w, ws[i]? = some w ∧ WishV K H v w
  | _, _, _, _, .nil, e => by simp at e
  | _, _, 0, _, .cons r _, e => by
    have e2 := Option.some.inj e
    subst e2
    exact ⟨_, rfl, r⟩
  | _, _, i + 1, w, .cons _ t, e => by
    obtain ⟨v, h1, h2⟩ := Wishes.getV (i := i) (v := w) t (by simpa using e)
    exact ⟨v, by simpa using h1, h2⟩
theorem Wishes.snoc {K : PySem.W.Frag} {H : Hp} {v : V} {w : Wish} : ∀ {xs : List V} {ws : List Wish}, Wishes K H xs ws → WishV K H v w → Wishes K H (xs ++ [v]) (ws ++ [w])
  | _, _, .nil, h => .cons h .nil
  | _, _, .cons r t, h => .cons r (Wishes.snoc t h)
theorem Wishes.rows {K : PySem.W.Frag} {H : Hp} : ∀ {xs : List V} {ws : List Wish}, Wishes K H xs ws → G3.Rows K H xs (ws.map Wish.row)
  | _, _, .nil => .nil
  | _, _, .cons r t => .cons r (Wishes.rows t)
/-! data, for == -/
def Wish.data (w : Wish) : PyData := .tuple [.str w.side, .int w.lim, .int w.amt]
theorem WishV.dp {K : PySem.W.Frag} {H : Hp} {v : V} {w : Wish} (h : WishV K H v w) : Dp K H v w.data := by
  obtain ⟨t, e, q⟩ := h
  rw [e]
  exact .tup q (.cons (.str _) (.cons (.int _) (.cons (.int _) .nil)))
theorem Wishes.dp {K : PySem.W.Frag} {H : Hp} : ∀ {xs : List V} {ws : List Wish}, Wishes K H xs ws → DpAll K H xs (ws.map Wish.data)
  | _, _, .nil => .nil
  | _, _, .cons r t => .cons r.dp (Wishes.dp t)
theorem WishL.dp {K : PySem.W.Frag} {H : Hp} {a : Addr} {ws : List Wish} (h : WishL K H a ws) : Dp K H (.ref a) (.list (ws.map Wish.data)) := let ⟨xs, h1, h2⟩ := h; .lst h1 h2.dp
/-! what is wanted and offered -/
def wantedOf (ws : List Wish) (p : Int) : Int := ((ws.filter fun w => w.buy && decide (p ≤ w.lim)).map Wish.amt).sum
def offeredOf (ws : List Wish) (p : Int) : Int := ((ws.filter fun w => !w.buy && decide (w.lim ≤ p)).map Wish.amt).sum
def sumOf (b : Bool) (ws : List Wish) (p : Int) : Int := if b = true then wantedOf ws p else offeredOf ws p
theorem side_buy (b : Bool) : decide (sideS b = (PySem.Str.ofString "buy")) = b := by cases b <;> decide
theorem side_sell (b : Bool) : decide (sideS b = (PySem.Str.ofString "sell")) = !b := by cases b <;> decide
def GoodP (cvs r : List V) : Prop := ∃ (p : Int) (w : Wish), cvs = [.int p] ∧ r = w.row
def pzB (cvs r : List V) : Bool := match cvs, r with
  | [.int p], [.str s, .int l, .int _] => decide (s = (PySem.Str.ofString "buy")) && decide (p ≤ l)
  | _, _ => false
def pzS (cvs r : List V) : Bool := match cvs, r with
  | [.int p], [.str s, .int l, .int _] => decide (s = (PySem.Str.ofString "sell")) && decide (l ≤ p)
  | _, _ => false
def amtR (_ r : List V) : Int := match r with
  | [_, _, .int a] => a
  | _ => 0
theorem rows_buy (ws : List Wish) (p : Int) : (((ws.map Wish.row).filter (pzB [.int p])).map (amtR [.int p])).sum = wantedOf ws p := by
  unfold wantedOf
  rw [List.filter_map, List.map_map]
  have e : (pzB [V.int p] ∘ Wish.row) = fun w => w.buy && decide (p ≤ w.lim) := by
    funext w
    show (decide (sideS w.buy = (PySem.Str.ofString "buy")) && decide (p ≤ w.lim)) = _
    rw [side_buy]
  rw [e]
  rfl
theorem rows_sell (ws : List Wish) (p : Int) : (((ws.map Wish.row).filter (pzS [.int p])).map (amtR [.int p])).sum = offeredOf ws p := by
  unfold offeredOf
  rw [List.filter_map, List.map_map]
  have e : (pzS [V.int p] ∘ Wish.row) = fun w => !w.buy && decide (w.lim ≤ p) := by
    funext w
    show (decide (sideS w.buy = (PySem.Str.ofString "sell")) && decide (w.lim ≤ p)) = _
    rw [side_sell]
  rw [e]
  rfl
theorem take_snoc {α : Type} {l : List α} {i : Nat} {x : α} (h : l[i]? = some x) : l.take (i + 1) = l.take i ++ [x] := by
  rw [List.take_add_one, h]
  rfl
theorem sumOf_snoc (b : Bool) (ws : List Wish) (w : Wish) (p : Int) : sumOf b (ws ++ [w]) p = (if (if b = true then w.buy && decide (p ≤ w.lim) else !w.buy && decide (w.lim ≤ p)) = true then sumOf b ws p + w.amt else sumOf b ws p) := by
  cases b with
  | true =>
    show wantedOf _ p = _
    unfold sumOf wantedOf
    simp only [if_true, List.filter_append, List.map_append, List.sum_append]
    cases h : (w.buy && decide (p ≤ w.lim)) with
    | true => simp [List.filter_cons, h]
    | false => simp [List.filter_cons, h]
  | false =>
    show offeredOf _ p = _
    unfold sumOf offeredOf
    simp only [Bool.false_eq_true, if_false, List.filter_append, List.map_append, List.sum_append]
    cases h : (!w.buy && decide (w.lim ≤ p)) with
    | true => simp [List.filter_cons, h]
    | false => simp [List.filter_cons, h]
/-! lists of wishes, of ints -/
theorem cut_ints (ns : List Int) (lo hi : Option Int) : ∃ cs : List Int, cutV (ns.map V.int) lo hi = cs.map V.int ∧ cs.length ≤ ns.length := by
  refine ⟨(ns.drop (HT.sIx ns.length 0 lo)).take (HT.sIx ns.length ns.length hi - HT.sIx ns.length 0 lo), ?_, ?_⟩
  · unfold cutV
    rw [List.length_map, ← List.map_drop, ← List.map_take]
  · rw [List.length_take, List.length_drop]
    omega
/-! slices, comprehensions -/
/-- the tuples stay -/
def Tk (K : PySem.W.Frag) (H H' : Hp) : Prop := ∀ a r, SqT K H a r → SqT K H' a r
theorem Sm.tk {K : PySem.W.Frag} {H H' : Hp} (S : Sm H H') : Tk K H H' := fun a r h => S.sqt h
theorem tk_lst {K : PySem.W.Frag} {H : Hp} {D : Addr} {xs ys : List V} (h : H D = some (.lst xs)) : Tk K H (upd H D (.lst ys)) := fun a r q => by
  rcases q with (q | ⟨o, q⟩) | q
  · exact .inl (.inl (by rw [upd_ne (fun e => by rw [e, h] at q; cases q)]; exact q))
  · exact .inl (.inr ⟨o, by rw [upd_ne (fun e => by rw [e, h] at q; cases q)]; exact q⟩)
  · exact .inr q
theorem WishV.tk {K : PySem.W.Frag} {H H' : Hp} (S : Tk K H H') {v : V} {w : Wish} (h : WishV K H v w) : WishV K H' v w := let ⟨t, e, q⟩ := h; ⟨t, e, S _ _ q⟩
theorem Wishes.tk {K : PySem.W.Frag} {H H' : Hp} (S : Tk K H H') : ∀ {xs : List V} {ws : List Wish}, Wishes K H xs ws → Wishes K H' xs ws
  | _, _, .nil => .nil
  | _, _, .cons r t => .cons (r.tk S) (Wishes.tk S t)
section
variable {σ : L2.St} {H : Hp} {v : V} {ta tb te : TE} {K : PySem.W.Frag}
def EvO (to : TO) (σ : L2.St) (H : Hp) (o : Option Int) : Prop := ∀ H1, Sm H H1 → ∀ Q : Option Int → Hp → Prop, (∀ H2, Sm H1 H2 → Q o H2) → to σ H1 Q
theorem evo_no : EvO tNoPart σ H none := fun H1 S Q q => q H1 (Sm.refl _)
theorem evo_some {i : Int} (h : Ev te σ H (.int i)) : EvO (tPart te) σ H (some i) := fun H1 S Q q => h H1 S _ fun H2 S2 => ⟨i, rfl, q H2 S2⟩
theorem evp_slice {tl th : TO} {a : Addr} {xs : List V} {lo hi : Option Int} (ha : Ev te σ H (.ref a)) (hl : EvO tl σ H lo) (hh : EvO th σ H hi) (hx : SqL K H a xs) : EvP (tSl (rSlL K) te tl th) σ H fun u H' => ∃ l, u = .ref l ∧ SqL K H' l (cutV xs lo hi) := fun H1 S Q q =>
  ha H1 S _ fun H2 S2 => hl H2 (S.trans S2) _ fun H3 S3 => hh H3 (S.trans (S2.trans S3)) _ fun H4 S4 => ⟨a, xs, rfl, (S.trans (S2.trans (S3.trans S4))).sql hx, fun p np => q _ _ (S2.trans (S3.trans (S4.trans (Sm.new np)))) ⟨p, rfl, .inl (.inl upd_same)⟩⟩
theorem evp_sliceN {tl th : TO} {a : Addr} {xs : List V} {lo hi : Option Int} (ha : Ev te σ H (.ref a)) (hl : EvO tl σ H lo) (hh : EvO th σ H hi) (hx : SqL K H a xs) : EvP (tSl (rSlL K) te tl th) σ H fun u H' => ∃ l, u = .ref l ∧ H l = none ∧ H' l = some (.lst (cutV xs lo hi)) := fun H1 S Q q =>
  ha H1 S _ fun H2 S2 => hl H2 (S.trans S2) _ fun H3 S3 => hh H3 (S.trans (S2.trans S3)) _ fun H4 S4 => ⟨a, xs, rfl, (S.trans (S2.trans (S3.trans S4))).sql hx, fun p np => q _ _ (S2.trans (S3.trans (S4.trans (Sm.new np)))) ⟨p, rfl, S.free (S2.free (S3.free (S4.free np))), upd_same⟩⟩
theorem Wishes.drop {K : PySem.W.Frag} {H : Hp} : ∀ (n : Nat) {xs : List V} {ws : List Wish}, Wishes K H xs ws → Wishes K H (xs.drop n) (ws.drop n)
  | 0, _, _, h => h
  | n + 1, _, _, .nil => .nil
  | n + 1, _, _, .cons _ t => Wishes.drop n t
theorem Wishes.take {K : PySem.W.Frag} {H : Hp} : ∀ (n : Nat) {xs : List V} {ws : List Wish}, Wishes K H xs ws → Wishes K H (xs.take n) (ws.take n)
  | 0, _, _, _ => .nil
  | n + 1, _, _, .nil => .nil
  | n + 1, _, _, .cons r t => .cons r (Wishes.take n t)
theorem Wishes.cut {K : PySem.W.Frag} {H : Hp} {xs : List V} {ws : List Wish} (h : Wishes K H xs ws) (lo hi : Option Int) : ∃ ws', Wishes K H (cutV xs lo hi) ws' ∧ (∀ w ∈ ws', w ∈ ws) ∧ ws'.length ≤ ws.length :=
  ⟨_, (h.drop _).take _, fun w hw => List.mem_of_mem_drop (List.mem_of_mem_take hw), by rw [List.length_take, List.length_drop]; omega⟩
theorem cutV_to (xs : List V) (k : Nat) : (cutV xs none (some (k : Int))).length ≤ k := by
  unfold cutV
  rw [List.length_take, HT.sIx_nat, HT.sIx_none]
  omega
theorem Paired.snoc {α β : Type} {R : α → β → Prop} {a : α} {b : β} : ∀ {l : List α} {m : List β}, Paired R l m → R a b → Paired R (l ++ [a]) (m ++ [b])
  | _, _, .nil, h => .cons h .nil
  | _, _, .cons r t, h => .cons r (Paired.snoc t h)
theorem Paired.mapR {α β : Type} {R R' : α → β → Prop} (f : ∀ a b, R a b → R' a b) : ∀ {l : List α} {m : List β}, Paired R l m → Paired R' l m
  | _, _, .nil => .nil
  | _, _, .cons r t => .cons (f _ _ r) (Paired.mapR f t)
/-- [te for x in tl], x in slot j: each item x gives a y of which P x y holds -/
theorem evp_lc {tl : TE} {j : Nat} {vs : List Nat} {xs : List V} {P : V → V → Hp → Prop} (hl : EvP tl σ H fun u H' => ∃ a, u = .ref a ∧ SqL K H' a xs) (st : ∀ x y H H', Tk K H H' → P x y H → P x y H') (hz : xs.length ≤ 100000)
    (hw : ∀ x, wipe ((wipe σ vs).set j (some x)) vs = wipe σ vs) (he : ∀ x, x ∈ xs → EvP te ((wipe σ vs).set j (some x)) H fun y H' => P x y H') :
    EvP (tLc (iList K tl) (gName j) tYes te vs) σ H fun u H' => ∃ l ys, u = .ref l ∧ H l = none ∧ H' l = some (.lst ys) ∧ Paired (fun x y => P x y H') xs ys := fun H1 S Q q =>
  hl H1 S _ fun u H2 S2 ⟨a, e, hx⟩ => ⟨a, e, ⟨xs, hx⟩, fun D nD => by
    have ne : ∀ {H3 : Hp}, Sm H2 H3 → SqL K H3 a xs := fun S => S.sql hx
    refine lc_list (K := K) (a := a) (xs := xs) (fun i H3 => Sm H2 H3 ∧ ∃ acc, H3 D = some (.lst acc) ∧ Paired (fun x y => P x y H3) (xs.take i) acc) ⟨Sm.new nD, [], upd_same, .nil⟩ (fun i H3 _ h => ne h.1) (fun i x H3 hi ⟨S3, acc, hD, hp⟩ => ?_) (fun H3 ⟨S3, acc, hD, hp⟩ => ?_)
    · refine ⟨hw x, ?_⟩
      simp only [tYes, if_true]
      refine he x (List.mem_of_getElem? hi) H3 (S.trans (S2.trans S3)) _ fun y H4 S4 p => ⟨acc, S4.lst hD, ?_, (S3.trans S4).mut nD, acc ++ [y], upd_same, ?_⟩
      · have e1 := Paired.length hp
        have e2 : i < xs.length := (List.getElem?_eq_some_iff.mp hi).1
        rw [List.length_take] at e1
        exact Nat.lt_of_lt_of_le (show acc.length < 100000 by omega) (by decide)
      · have t1 : Tk K H3 (upd H4 D (.lst (acc ++ [y]))) := fun b r z => tk_lst (S4.lst hD) _ _ (S4.sqt z)
        rw [take_snoc hi]
        exact Paired.snoc (Paired.mapR (fun x y z => st x y _ _ t1 z) hp) (st _ _ _ _ (tk_lst (S4.lst hD)) p)
    · rw [List.take_length] at hp
      exact q (.ref D) H3 (S2.trans S3) ⟨D, acc, rfl, S.free (S2.free nD), hD, hp⟩⟩
theorem wishes_of {H : Hp} : ∀ {xs ys : List V}, Paired (fun (_ : V) y => ∃ w, WishV K H y w ∧ w.Good) xs ys → ∃ ws, Wishes K H ys ws ∧ (∀ w ∈ ws, w.Good) ∧ ws.length = xs.length
  | _, _, .nil => ⟨[], .nil, (fun w h => by cases h), rfl⟩
  | _, _, .cons r t => by
    obtain ⟨ws, h1, h2, h3⟩ := wishes_of t
    obtain ⟨w, g1, g2⟩ := r
    refine ⟨w :: ws, .cons g1 h1, fun z hz => ?_, by rw [List.length_cons, List.length_cons, h3]⟩
    rcases List.mem_cons.mp hz with e | e
    · rw [e]
      exact g2
    · exact h2 z e
end
/-! loops -/
section
variable {σ : L2.St} {H : Hp} {te : TE} {K : PySem.W.Frag} {D : Ends} {tb : TS} {k : Nat}
theorem q_forR {ta : TA} {j : Int} (Pv : Nat → L2.St → Hp → Prop) (h : EvL ta σ H [.int j]) (hj : -(2 ^ 62) ≤ j ∧ j < 2 ^ 62) (h0 : ∀ H', Sm H H' → Pv 0 σ H')
    (hs : ∀ i σ' H', i < j.toNat → Pv i σ' H' → tb { D with nx := Pv (i + 1), ct := Pv (i + 1), bk := D.nx } (σ'.set k (some (.int i))) H') (hd : ∀ σ' H', Pv j.toNat σ' H' → D.nx σ' H') : tFor (iRng1 ta) (gName k) tb D σ H :=
  h H (Sm.refl _) _ fun us H2 S2 p => ⟨j, p, hj.1, hj.2, for_range (lo := 0) (n := j.toNat) Pv (h0 H2 S2) (fun i σ' H' hi hp => by
    have q := hs i σ' H' hi hp
    have e : (0 : Int) + (i : Int) = (i : Int) := Int.zero_add _
    rw [e]
    exact q) hd⟩
theorem q_forL {a : Addr} {xs : List V} (Pv : Nat → L2.St → Hp → Prop) (h : Ev te σ H (.ref a)) (hx : SqL K H a xs) (h0 : ∀ H', Sm H H' → Pv 0 σ H') (hl : ∀ i σ' H', i ≤ xs.length → Pv i σ' H' → SqL K H' a xs)
    (hs : ∀ i x σ' H', xs[i]? = some x → Pv i σ' H' → tb { D with nx := Pv (i + 1), ct := Pv (i + 1), bk := D.nx } (σ'.set k (some x)) H') (hd : ∀ σ' H', Pv xs.length σ' H' → D.nx σ' H') : tFor (iList K te) (gName k) tb D σ H :=
  h H (Sm.refl _) _ fun H2 S2 => ⟨a, rfl, ⟨xs, S2.sql hx⟩, for_list (K := K) (a := a) (xs := xs) Pv (h0 H2 S2) hl hs hd⟩
/-- xs.append(e): the list is new since H0 -/
theorem q_app {to : TE} {l : Addr} {acc : List V} {P : V → Hp → Prop} (ho : Ev to σ H (.ref l)) (hl : H l = some (.lst acc)) (hz : acc.length < sizeLine) (he : EvP te σ H P) (kk : ∀ y H', Sm H H' → P y H' → H' l = some (.lst acc) → D.nx σ (upd H' l (.lst (acc ++ [y])))) :
    tDrop (tBM K "list" rAppend to (tCons te tNil)) D σ H :=
  ho H (Sm.refl _) _ fun H1 S1 => ⟨.inl ⟨rfl, acc, .inl (.inl (S1.lst hl))⟩, he H1 S1 _ fun y H2 S2 p => ⟨l, acc, y, rfl, rfl, (S1.trans S2).lst hl, hz, kk y H2 (S1.trans S2) p ((S1.trans S2).lst hl)⟩⟩
end
/-! data, compared -/
mutual
theorem dp_sm {K : PySem.W.Frag} {H H' : Hp} (S : Sm H H') : ∀ (d : PyData) (v : V), Dp K H v d → Dp K H' v d
  | .none, _, h => by cases h; exact .non
  | .bool _, _, h => by cases h; exact .bl _
  | .int _, _, h => by cases h; exact .int _
  | .str _, _, h => by cases h; exact .str _
  | .list ds, _, h => by cases h with | lst h1 h2 => exact .lst (S.sql h1) (dpAll_sm S ds _ h2)
  | .tuple ds, _, h => by cases h with | tup h1 h2 => exact .tup (S.sqt h1) (dpAll_sm S ds _ h2)
  | .dict _, _, h => by cases h
theorem dpAll_sm {K : PySem.W.Frag} {H H' : Hp} (S : Sm H H') : ∀ (ds : List PyData) (vs : List V), DpAll K H vs ds → DpAll K H' vs ds
  | [], _, h => by cases h; exact .nil
  | d :: ds, _, h => by cases h with | cons h1 h2 => exact .cons (dp_sm S d _ h1) (dpAll_sm S ds _ h2)
end
theorem dp_ints {K : PySem.W.Frag} {H : Hp} : ∀ ns : List Int, DpAll K H (ns.map V.int) (ns.map PyData.int)
  | [] => .nil
  | n :: ns => .cons (.int n) (dp_ints ns)
section
variable {σ : L2.St} {H : Hp} {v : V} {ta tb te : TE} {K : PySem.W.Frag}
/-- te gives what holds the data d -/
def EvD (K : PySem.W.Frag) (te : TE) (σ : L2.St) (H : Hp) (d : PyData) : Prop := EvP te σ H fun u H' => Dp K H' u d
theorem Ev.d {d : PyData} (h : Ev te σ H v) (hd : Dp K H v d) : EvD K te σ H d := fun H1 S Q q => h H1 S Q fun H2 S2 => q v H2 S2 (dp_sm (S.trans S2) d v hd)
theorem ev_eqD {d e : PyData} (ha : EvD K ta σ H d) (hb : EvD K tb σ H e) (sd : SeqAt.shaped d = true) (se : SeqAt.shaped e = true) : Ev (tOp (rEqD K) ta tb) σ H (.bl (PyData.eqv d e)) := fun H1 S Q q =>
  ha H1 S _ fun u H2 S2 p => hb H2 (S.trans S2) _ fun u' H3 S3 p' => ⟨d, e, dp_sm S3 d u p, p', sd, se, q H3 (S2.trans S3)⟩
theorem ev_neD {d e : PyData} (ha : EvD K ta σ H d) (hb : EvD K tb σ H e) (sd : SeqAt.shaped d = true) (se : SeqAt.shaped e = true) : Ev (tOp (rNeD K) ta tb) σ H (.bl (!PyData.eqv d e)) := fun H1 S Q q =>
  ha H1 S _ fun u H2 S2 p => hb H2 (S.trans S2) _ fun u' H3 S3 p' => ⟨d, e, dp_sm S3 d u p, p', sd, se, q H3 (S2.trans S3)⟩
theorem evp_lstI {t : TA} {ns : List Int} (ha : EvI t σ H ns) (hz : (ns.map V.int).length ≤ sizeLine) : EvP (tLst t) σ H fun u H' => ∃ a, u = .ref a ∧ SqL K H' a (ns.map V.int) := evp_lstV ha hz
theorem evd_lstI {t : TA} {ns : List Int} (ha : EvI t σ H ns) (hz : (ns.map V.int).length ≤ sizeLine) : EvD K (tLst t) σ H (.list (ns.map PyData.int)) := fun H1 S Q q =>
  evp_lstV (K := K) ha hz H1 S Q fun u H2 S2 ⟨a, e, h⟩ => q u H2 S2 (by rw [e]; exact .lst h (dp_ints ns))
theorem evd_tupI {t : TA} {ns : List Int} (ha : EvI t σ H ns) (hz : (ns.map V.int).length ≤ sizeLine) : EvD K (tTup t) σ H (.tuple (ns.map PyData.int)) := fun H1 S Q q =>
  evp_tupV (K := K) ha hz H1 S Q fun u H2 S2 ⟨a, e, h⟩ => q u H2 S2 (by rw [e]; exact .tup h (dp_ints ns))
theorem canLay_ints : ∀ ns : List Int, PyData.canLayAll0 (ns.map PyData.int) = true
  | [] => by simp [PyData.canLayAll0]
  | n :: ns => by simp [PyData.canLayAll0, PyData.canLay0, canLay_ints ns]
theorem depth_ints : ∀ ns : List Int, PyData.depthAll (ns.map PyData.int) = 0
  | [] => by simp [PyData.depthAll]
  | n :: ns => by simp [PyData.depthAll, PyData.depth, depth_ints ns]
theorem shaped_ints (ns : List Int) : SeqAt.shaped (.list (ns.map PyData.int)) = true := by
  simp [SeqAt.shaped, PyData.canLay0, PyData.depth, canLay_ints, depth_ints]
theorem shaped_intsT (ns : List Int) : SeqAt.shaped (.tuple (ns.map PyData.int)) = true := by
  simp [SeqAt.shaped, PyData.canLay0, PyData.depth, canLay_ints, depth_ints]
theorem side_ok (b : Bool) : PyData.canLay0 (.str (sideS b)) = true := by cases b <;> decide +kernel
theorem canLay_wish (w : Wish) : PyData.canLay0 w.data = true := by
  have h := side_ok w.buy
  unfold Wish.data Wish.side
  simp only [PyData.canLay0, PyData.canLayAll0] at h ⊢
  simp [h]
theorem canLay_wishes : ∀ ws : List Wish, PyData.canLayAll0 (ws.map Wish.data) = true
  | [] => by simp [PyData.canLayAll0]
  | w :: ws => by simp [PyData.canLayAll0, canLay_wish, canLay_wishes ws]
theorem depth_wish (w : Wish) : PyData.depth w.data = 1 := by
  unfold Wish.data
  simp [PyData.depth, PyData.depthAll]
theorem depth_wishes : ∀ ws : List Wish, PyData.depthAll (ws.map Wish.data) ≤ 1
  | [] => by simp [PyData.depthAll]
  | w :: ws => by
    have h := depth_wishes ws
    simp only [List.map_cons, PyData.depthAll, depth_wish]
    omega
theorem shaped_wishes (ws : List Wish) : SeqAt.shaped (.list (ws.map Wish.data)) = true := by
  have h := depth_wishes ws
  unfold SeqAt.shaped
  rw [Bool.and_eq_true, decide_eq_true_eq]
  refine ⟨by simp only [PyData.canLay0, canLay_wishes], ?_⟩
  simp only [PyData.depth]
  omega
theorem eqv_self {d : PyData} (h : SeqAt.shaped d = true) : PyData.eqv d d = true := SeqAt.eqv_refl d (SeqAt.canLay_of_shaped h)
end
/-! three comparisons in a row; while -/
def tCh3 (r1 r2 r3 : R2) (ta tb tc td : TE) : TT := fun σ H Q => ta σ H fun x H1 => tb σ H1 fun y H2 => r1 x y H2 fun z H3 => ∃ k, z = .bl k ∧
  (if k = true then tc σ H3 fun u H4 => r2 y u H4 fun z' H5 => ∃ k', z' = .bl k' ∧ (if k' = true then td σ H5 fun v H6 => r3 u v H6 fun z2 H7 => ∃ k2, z2 = .bl k2 ∧ Q k2 H7 else Q false H5) else Q false H3)
theorem pt_chain3 {X : Cx} {a b c d : Expr} {ta tb tc td : TE} {pos : Pos} {o1 o2 o3 : CmpOp} {r1 r2 r3 : R2} (h1 : OpR X (compareOp o1) r1) (h2 : OpR X (compareOp o2) r2) (h3 : OpR X (compareOp o3) r3) (ha : PE X a ta) (hb : PE X b tb) (hc : PE X c tc) (hd : PE X d td)
    (hm : lastMarks [o1, o2, o3] [b, c, d] = false := by with_unfolding_all rfl) : PT X (.Compare a [o1, o2, o3] [b, c, d] pos) (tCh3 r1 r2 r3 ta tb tc td) := by
  refine ⟨fun pins s σ H Q I h => ?_⟩
  refine isTrue_chain (thn (ha.run pins s σ H _ I h) fun v s1 ⟨x, H1, I1, e1, q1⟩ => test_link (thn (hb.run pins s1 σ H1 _ I1 q1) fun u s2 ⟨y, H2, I2, e2, q2⟩ =>
    thn (h1 pins s2 σ H2 x y v u _ I2 e1 e2 q2) fun w s3 ⟨z, H3, I3, e3, k, ek, q3⟩ => ?_)) hm
  subst ek
  cases e3
  refine wpAny_truthy_bool ?_
  cases k with
  | false => exact ite_ff ⟨H3, I3, q3⟩
  | true =>
    refine ite_tt (test_link (thn (hc.run pins s3 σ H3 _ I3 q3) fun u' s4 ⟨y', H4, I4, e4, q4⟩ => thn (h2 pins s4 σ H4 y y' u u' _ I4 e2 e4 q4) fun w' s5 ⟨z', H5, I5, e5, k', ek', q5⟩ => ?_))
    subst ek'
    cases e5
    refine wpAny_truthy_bool ?_
    cases k' with
    | false => exact ite_ff ⟨H5, I5, q5⟩
    | true =>
      refine ite_tt (test_last (thn (hd.run pins s5 σ H5 _ I5 q5) fun u2 s6 ⟨y2, H6, I6, e6, q6⟩ => thn (h3 pins s6 σ H6 y' y2 u' u2 _ I6 e4 e6 q6) fun w2 s7 ⟨z2, H7, I7, e7, k2, ek2, q7⟩ => ?_))
      subst ek2
      cases e7
      exact wpAny_truthy_bool ⟨H7, I7, q7⟩
section
variable {σ : L2.St} {H : Hp} {ta tb tc td : TE} {D : Ends} {tb' : TS} {c : TT}
theorem evt_ch3 {g1 g2 g3 : Int → Int → Bool} {i j k l : Int} (ha : Ev ta σ H (.int i)) (hb : Ev tb σ H (.int j)) (hc : Ev tc σ H (.int k)) (hd : Ev td σ H (.int l)) :
    EvT (tCh3 (rI0 fun i j => .bl (g1 i j)) (rI0 fun i j => .bl (g2 i j)) (rI0 fun i j => .bl (g3 i j)) ta tb tc td) σ H (g1 i j && (g2 j k && g3 k l)) := fun H1 S Q q =>
  ha H1 S _ fun H2 S2 => hb H2 (S.trans S2) _ fun H3 S3 => ⟨i, j, rfl, rfl, g1 i j, rfl, by
    cases h : g1 i j with
    | false => rw [if_neg Bool.false_ne_true]; rw [h] at q; exact q H3 (S2.trans S3)
    | true =>
      rw [if_pos rfl]
      refine hc H3 (S.trans (S2.trans S3)) _ fun H4 S4 => ⟨j, k, rfl, rfl, g2 j k, rfl, ?_⟩
      cases h' : g2 j k with
      | false => rw [if_neg Bool.false_ne_true]; rw [h, h'] at q; exact q H4 (S2.trans (S3.trans S4))
      | true =>
        rw [if_pos rfl]
        exact hd H4 (S.trans (S2.trans (S3.trans S4))) _ fun H5 S5 => ⟨k, l, rfl, rfl, _, rfl, by rw [h, h'] at q; exact q H5 (S2.trans (S3.trans (S4.trans S5)))⟩⟩
theorem q_while (W : Nat → L2.St → Hp → Prop) {m0 : Nat} (h0 : W m0 σ H)
    (hs : ∀ m σ' H', W m σ' H' → ∃ b, EvT c σ' H' b ∧ (b = true → ∀ H1, Sm H' H1 → tb' { D with nx := fun σ2 H2 => ∃ m', m' < m ∧ W m' σ2 H2, ct := fun σ2 H2 => ∃ m', m' < m ∧ W m' σ2 H2, bk := D.nx } σ' H1) ∧ (b = false → ∀ H1, Sm H' H1 → D.nx σ' H1)) : tWhile c tb' D σ H :=
  ⟨W, ⟨m0, h0⟩, fun m σ' H' hW => by
    obtain ⟨b, h1, h2, h3⟩ := hs m σ' H' hW
    refine h1 H' (Sm.refl _) _ fun H1 S1 => ?_
    cases b with
    | true => rw [if_pos rfl]; exact ⟨_, fun σ2 H2 z => z, h2 rfl H1 S1⟩
    | false => rw [if_neg Bool.false_ne_true]; exact h3 rfl H1 S1⟩
end
end My

set_option Elab.async false
set_option linter.all false
set_option maxHeartbeats 400000
namespace My
open PySem PySem.Spec PyProof.Rows L2
/-! ### the mathematics of what is wanted and offered -/
theorem wanted_nil (p : Int) : wantedOf [] p = 0 := rfl
theorem offered_nil (p : Int) : offeredOf [] p = 0 := rfl
theorem wanted_cons (w : Wish) (ws : List Wish) (p : Int) : wantedOf (w :: ws) p = (if (w.buy && decide (p ≤ w.lim)) = true then w.amt else 0) + wantedOf ws p := by
  unfold wantedOf
  rw [List.filter_cons]
  split <;> rename_i h
  · rw [List.map_cons, List.sum_cons]
  · omega
theorem offered_cons (w : Wish) (ws : List Wish) (p : Int) : offeredOf (w :: ws) p = (if (!w.buy && decide (w.lim ≤ p)) = true then w.amt else 0) + offeredOf ws p := by
  unfold offeredOf
  rw [List.filter_cons]
  split <;> rename_i h
  · rw [List.map_cons, List.sum_cons]
  · omega
def Goods (ws : List Wish) : Prop := ∀ w ∈ ws, w.Good
theorem Goods.tail {w : Wish} {ws : List Wish} (h : Goods (w :: ws)) : Goods ws := fun z hz => h z (List.mem_cons_of_mem _ hz)
theorem Goods.head {w : Wish} {ws : List Wish} (h : Goods (w :: ws)) : w.Good := h w List.mem_cons_self
theorem wanted_mono {p q : Int} (h : p ≤ q) : ∀ {ws : List Wish}, Goods ws → wantedOf ws q ≤ wantedOf ws p
  | [], _ => Int.le_refl _
  | w :: ws, hg => by
    have ih := wanted_mono h hg.tail
    have ha := hg.head.a0
    rw [wanted_cons, wanted_cons]
    cases w.buy with
    | false => simpa using ih
    | true =>
      by_cases h1 : q ≤ w.lim
      · have h2 : p ≤ w.lim := by omega
        simp only [h1, h2, decide_true, Bool.and_self, if_true]
        omega
      · by_cases h2 : p ≤ w.lim
        · simp only [h1, h2, decide_true, decide_false, Bool.and_true, Bool.and_false, Bool.false_eq_true, if_false, if_true]
          omega
        · simp only [h1, h2, decide_false, Bool.and_false, Bool.false_eq_true, if_false]
          omega
theorem offered_mono {p q : Int} (h : p ≤ q) : ∀ {ws : List Wish}, Goods ws → offeredOf ws p ≤ offeredOf ws q
  | [], _ => Int.le_refl _
  | w :: ws, hg => by
    have ih := offered_mono h hg.tail
    have ha := hg.head.a0
    rw [offered_cons, offered_cons]
    cases w.buy with
    | true => simpa using ih
    | false =>
      by_cases h1 : w.lim ≤ p
      · have h2 : w.lim ≤ q := by omega
        simp only [h1, h2, decide_true, Bool.not_false, Bool.and_self, if_true]
        omega
      · by_cases h2 : w.lim ≤ q
        · simp only [h1, h2, decide_true, decide_false, Bool.not_false, Bool.and_true, Bool.and_false, Bool.false_eq_true, if_false, if_true]
          omega
        · simp only [h1, h2, decide_false, Bool.and_false, Bool.false_eq_true, if_false]
          omega
theorem wanted_nn (p : Int) : ∀ {ws : List Wish}, Goods ws → 0 ≤ wantedOf ws p
  | [], _ => Int.le_refl _
  | w :: ws, hg => by
    have ih := wanted_nn p hg.tail
    have ha := hg.head.a0
    rw [wanted_cons]
    split <;> omega
theorem offered_nn (p : Int) : ∀ {ws : List Wish}, Goods ws → 0 ≤ offeredOf ws p
  | [], _ => Int.le_refl _
  | w :: ws, hg => by
    have ih := offered_nn p hg.tail
    have ha := hg.head.a0
    rw [offered_cons]
    split <;> omega
theorem wanted_top {p : Int} (h : 1000000000 < p) : ∀ {ws : List Wish}, Goods ws → wantedOf ws p = 0
  | [], _ => rfl
  | w :: ws, hg => by
    have ih := wanted_top h hg.tail
    have hl := hg.head.l1
    have h1 : ¬ p ≤ w.lim := by omega
    rw [wanted_cons, ih]
    simp [h1]
theorem offered_low {p : Int} (h : p < 0) : ∀ {ws : List Wish}, Goods ws → offeredOf ws p = 0
  | [], _ => rfl
  | w :: ws, hg => by
    have ih := offered_low h hg.tail
    have hl := hg.head.l0
    have h1 : ¬ w.lim ≤ p := by omega
    rw [offered_cons, ih]
    simp [h1]
/-! too low, too high -/
def lowB (ws : List Wish) (p : Int) : Bool := decide (offeredOf ws p < wantedOf ws (p + 1))
def highB (ws : List Wish) (p : Int) : Bool := decide (wantedOf ws p < offeredOf ws (p - 1))
def clearsB (ws : List Wish) (p : Int) : Bool := !lowB ws p && !highB ws p
theorem low_iff {ws : List Wish} {p : Int} : lowB ws p = true ↔ offeredOf ws p < wantedOf ws (p + 1) := decide_eq_true_iff
theorem high_iff {ws : List Wish} {p : Int} : highB ws p = true ↔ wantedOf ws p < offeredOf ws (p - 1) := decide_eq_true_iff
theorem low_down {ws : List Wish} {p q : Int} (hg : Goods ws) (h : p ≤ q) (hq : lowB ws q = true) : lowB ws p = true := by
  rw [low_iff] at hq ⊢
  have h1 := offered_mono h hg
  have h2 := wanted_mono (show p + 1 ≤ q + 1 by omega) hg
  omega
theorem high_up {ws : List Wish} {p q : Int} (hg : Goods ws) (h : p ≤ q) (hq : highB ws p = true) : highB ws q = true := by
  rw [high_iff] at hq ⊢
  have h1 := wanted_mono h hg
  have h2 := offered_mono (show p - 1 ≤ q - 1 by omega) hg
  omega
theorem low_top {ws : List Wish} (hg : Goods ws) : lowB ws 1000000000 = false := by
  cases e : lowB ws 1000000000 with
  | false => rfl
  | true =>
    rw [low_iff, wanted_top (by omega) hg] at e
    have := offered_nn 1000000000 hg
    omega
theorem high_zero {ws : List Wish} (hg : Goods ws) : highB ws 0 = false := by
  cases e : highB ws 0 with
  | false => rfl
  | true =>
    rw [high_iff, offered_low (by omega) hg] at e
    have := wanted_nn 0 hg
    omega
/-- the least price that is not too low -/
structure IsLow (ws : List Wish) (p : Int) : Prop where
  p0 : 0 ≤ p
  p1 : p ≤ 1000000000
  nl : lowB ws p = false
  bl : p = 0 ∨ lowB ws (p - 1) = true
/-- the greatest price that is not too high -/
structure IsHigh (ws : List Wish) (p : Int) : Prop where
  p0 : 0 ≤ p
  p1 : p ≤ 1000000000
  nh : highB ws p = false
  bh : p = 1000000000 ∨ highB ws (p + 1) = true
theorem clears_iff {ws : List Wish} {p : Int} : clearsB ws p = true ↔ lowB ws p = false ∧ highB ws p = false := by
  unfold clearsB
  cases lowB ws p <;> cases highB ws p <;> simp
theorem IsLow.notHigh {ws : List Wish} {p : Int} (hg : Goods ws) (h : IsLow ws p) : highB ws p = false := by
  rcases h.bl with e | e
  · rw [e]
    exact high_zero hg
  · cases k : highB ws p with
    | false => rfl
    | true =>
      rw [low_iff] at e
      rw [high_iff] at k
      rw [show p - 1 + 1 = p by omega] at e
      omega
theorem IsHigh.notLow {ws : List Wish} {p : Int} (hg : Goods ws) (h : IsHigh ws p) : lowB ws p = false := by
  rcases h.bh with e | e
  · rw [e]
    exact low_top hg
  · cases k : lowB ws p with
    | false => rfl
    | true =>
      rw [high_iff] at e
      rw [low_iff] at k
      rw [show p + 1 - 1 = p by omega] at e
      omega
theorem IsLow.clears {ws : List Wish} {p : Int} (hg : Goods ws) (h : IsLow ws p) : clearsB ws p = true := clears_iff.mpr ⟨h.nl, h.notHigh hg⟩
theorem IsHigh.clears {ws : List Wish} {p : Int} (hg : Goods ws) (h : IsHigh ws p) : clearsB ws p = true := clears_iff.mpr ⟨h.notLow hg, h.nh⟩
theorem IsHigh.ge {ws : List Wish} {p q : Int} (hg : Goods ws) (h : IsHigh ws p) (hq : highB ws q = false) (h1 : q ≤ 1000000000) : q ≤ p := by
  rcases Int.lt_or_le p q with k | k
  · rcases h.bh with e | e
    · omega
    · rw [high_up hg (show p + 1 ≤ q by omega) e] at hq
      cases hq
  · exact k
theorem IsLow.le {ws : List Wish} {p q : Int} (hg : Goods ws) (h : IsLow ws p) (hq : lowB ws q = false) (h0 : 0 ≤ q) : p ≤ q := by
  rcases Int.lt_or_le q p with k | k
  · rcases h.bl with e | e
    · omega
    · rw [low_down hg (show q ≤ p - 1 by omega) e] at hq
      cases hq
  · exact k
theorem low_le_high {ws : List Wish} {p q : Int} (hg : Goods ws) (hl : IsLow ws p) (hh : IsHigh ws q) : p ≤ q := hh.ge hg (hl.notHigh hg) hl.p1
/-- a price clears just between the two -/
theorem clears_between {ws : List Wish} {p q z : Int} (hg : Goods ws) (hl : IsLow ws p) (hh : IsHigh ws q) (h0 : 0 ≤ z) (h1 : z ≤ 1000000000) : clearsB ws z = decide (p ≤ z ∧ z ≤ q) := by
  rw [Bool.eq_iff_iff, clears_iff, decide_eq_true_iff]
  constructor
  · intro ⟨a, b⟩
    exact ⟨hl.le hg a h0, hh.ge hg b h1⟩
  · intro ⟨a, b⟩
    constructor
    · cases e : lowB ws z with
      | false => rfl
      | true =>
        exact absurd hl.nl (by simp [low_down hg a e])
    · cases e : highB ws z with
      | false => rfl
      | true => exact absurd hh.nh (by simp [high_up hg b e])
end My

set_option Elab.async false
set_option linter.all false
set_option maxRecDepth 100000
set_option maxHeartbeats 400000
namespace PySem.TyNe
open PySem PySem.TypeEq
theorem slot_ne : Slot "type" (cmpInfo .NotEq).2.1 "object.__ne__" :=
  .of (owner := "object") (n := "__ne__") (by rw [typeLookup_type, builtinLookup_eq_fast]; kernel_rfl) (by decide +kernel) (by decide +kernel) (by decide +kernel)
    (by first | exact .inl (by decide +kernel) | exact .inr (by decide +kernel)) (by rw [isSubtype_type]; kernel_rfl)
theorem slot_ne_refl : Slot "type" (cmpInfo .NotEq).2.2 "object.__ne__" :=
  .of (owner := "object") (n := "__ne__") (by rw [typeLookup_type, builtinLookup_eq_fast]; kernel_rfl) (by decide +kernel) (by decide +kernel) (by decide +kernel)
    (by first | exact .inl (by decide +kernel) | exact .inr (by decide +kernel)) (by rw [isSubtype_type]; kernel_rfl)
section
variable {prog : Program} {w : World} {A : Around} {E : Value → Shared → Prop} {s : Shared} {Q : Value → Shared → Prop}
theorem call_ne_same {X : String} (hX : ∀ s' : Shared, s'.TypeIs (.type X) "type") (h : Q (.bool false) s) : wpAny (model prog w) A (call (.builtin "object.__ne__") [.type X, .type X]) Q E s := by
  refine wpAny_call_entry slot_ne (hX s) F.cmpEntry_ne ?_ (F.cmpArgs_ne _ _)
  unfold Builtin.«object.__ne__»
  refine wpAny_bind (wpAny_of_eq (a := ((Value.type X : Value), [Value.type X])) (by first | rfl | (simp only [slotArgs]; rfl)) ?_)
  refine wpAny_bind (wpAny_cRoomFor_or (.inl rfl) ?_)
  refine wpAny_bind (wpAny_callSpecialIfBound?_slot (hX s) slot_type_eq (call_gives slot_type_eq (hX s) F.entry_object_eq (F.args_object_eq_2 _ _) (object_eq_same rfl (by simp)) ?_))
  refine wpAny_bind (m := truthy (.bool true)) (wpAny_pure ?_)
  exact wpAny_pure ⟨_, rfl, h⟩
theorem call_ne_other {X Y : String} (hX : ∀ s' : Shared, s'.TypeIs (.type X) "type") (hne : (Value.type X == Value.type Y) = false) (h : Q .notImplemented s) : wpAny (model prog w) A (call (.builtin "object.__ne__") [.type X, .type Y]) Q E s := by
  refine wpAny_call_entry slot_ne (hX s) F.cmpEntry_ne ?_ (F.cmpArgs_ne _ _)
  unfold Builtin.«object.__ne__»
  refine wpAny_bind (wpAny_of_eq (a := ((Value.type X : Value), [Value.type Y])) (by first | rfl | (simp only [slotArgs]; rfl)) ?_)
  refine wpAny_bind (wpAny_cRoomFor_or (.inl rfl) ?_)
  refine wpAny_bind (wpAny_callSpecialIfBound?_slot (hX s) slot_type_eq (call_gives slot_type_eq (hX s) F.entry_object_eq (F.args_object_eq_2 _ _) (object_eq_other rfl hne) ?_))
  exact wpAny_pure ⟨_, rfl, h⟩
theorem ne_same {X : String} (hX : ∀ s' : Shared, s'.TypeIs (.type X) "type") (h : Q (.bool false) s) : wpAny (model prog w) A (compareOp .NotEq (.type X) (.type X)) Q E s := by
  show wpAny _ A (richCompare .NotEq _ _) Q E s
  exact wpAny_richCompare_same (T := "type") (hX s) (hX s) slot_ne (call_ne_same hX ⟨(by intro e; cases e), h⟩)
theorem ne_other {X Y : String} (hX : ∀ s' : Shared, s'.TypeIs (.type X) "type") (hY : ∀ s' : Shared, s'.TypeIs (.type Y) "type") (hne : (Value.type X == Value.type Y) = false) (h : Q (.bool true) s) : wpAny (model prog w) A (compareOp .NotEq (.type X) (.type Y)) Q E s := by
  have hne' : (Value.type Y == Value.type X) = false := by
    rw [Bool.eq_false_iff] at hne ⊢
    intro e
    exact hne (by rw [beq_iff_eq] at e ⊢; exact e.symm)
  show wpAny _ A (richCompare .NotEq _ _) Q E s
  have h1 := slot_ne
  have h2 := slot_ne_refl
  rcases hi : cmpInfo CmpOp.NotEq with ⟨sym, f, r⟩
  rw [hi] at h1 h2
  simp only [richCompare, hi, (hX s).oneThing_none]
  try with_reducible refine wpAny_holding ?_
  refine wpAny_bind (wpAny_cRoomFor_or (.inl rfl) ?_)
  refine wpAny_bind (wpAny_typeOf (hX s) (wpAny_bind (wpAny_typeOf (hY s) ?_)))
  simp only [bne_self_eq_false, Bool.false_eq_true, if_false, pure_bind, Bool.not_false, if_true]
  refine wpAny_bind (m := tryCompare (.type X) _ (.type Y)) (wpAny_tryCompare_declines (hX s) h1 (call_ne_other hX hne ⟨rfl, ?_⟩))
  refine wpAny_bind (m := tryCompare (.type Y) _ (.type X)) (wpAny_tryCompare_declines (hY s) h2 (call_ne_other hY hne' ⟨rfl, ?_⟩))
  exact wpAny_bind (wpAny_rule (wpAny_bind (wpAny_of_eq (show isSame (Value.type X) (.type Y) = pure false by rw [isSame_plain rfl, hne]) (wpAny_pure h))))
end
end PySem.TyNe
namespace My
open PySem PySem.Spec PyProof.Rows L2
/-- the kinds whose own kind is known -/
def tyL : List String := ["int", "str", "bool", "NoneType", "list", "tuple", "dict"]
theorem meta_of {a : String} (h : a ∈ tyL) (s : Shared) : s.TypeIs (.type a) "type" := by
  have h' : a = "int" ∨ a = "str" ∨ a = "bool" ∨ a = "NoneType" ∨ a = "list" ∨ a = "tuple" ∨ a = "dict" := by simpa [tyL] using h
  rcases h' with rfl | rfl | rfl | rfl | rfl | rfl | rfl
  · exact TypeEq.meta_int s
  · exact TypeEq.meta_str s
  · exact TypeEq.meta_bool s
  · exact TypeEq.meta_NoneType s
  · exact TypeEq.meta_list s
  · exact TypeEq.meta_tuple s
  · exact TypeEq.meta_dict s
section
variable {X : Cx}
def rEqT : R2 := fun x y H Q => ∃ a b, x = .ty a ∧ y = .ty b ∧ a ∈ tyL ∧ b ∈ tyL ∧ Q (.bl (decide (a = b))) H
def rNeT : R2 := fun x y H Q => ∃ a b, x = .ty a ∧ y = .ty b ∧ a ∈ tyL ∧ b ∈ tyL ∧ Q (.bl (!decide (a = b))) H
theorem op_eqT : OpR X (compareOp .Eq) rEqT := by
  intro pins s σ H x y v u Q I rx ry h
  obtain ⟨a, b, rfl, rfl, ha, hb, q⟩ := h
  cases (show v = Value.type a from rx)
  cases (show u = Value.type b from ry)
  by_cases e : a = b
  · subst e
    exact TypeEq.eq_type_same (meta_of ha) (fin_bl I q (by simp))
  · exact TypeEq.eq_type_other (meta_of ha) (meta_of hb) (beq_eq_false_iff_ne.mpr fun z => e (Value.type.inj z)) (fin_bl I q (by simp [e]))
theorem op_neT : OpR X (compareOp .NotEq) rNeT := by
  intro pins s σ H x y v u Q I rx ry h
  obtain ⟨a, b, rfl, rfl, ha, hb, q⟩ := h
  cases (show v = Value.type a from rx)
  cases (show u = Value.type b from ry)
  by_cases e : a = b
  · subst e
    exact TyNe.ne_same (meta_of ha) (fin_bl I q (by simp))
  · exact TyNe.ne_other (meta_of ha) (meta_of hb) (beq_eq_false_iff_ne.mpr fun z => e (Value.type.inj z)) (fin_bl I q (by simp [e]))
end
end My

set_option Elab.async false
set_option linter.all false
set_option maxRecDepth 100000
set_option maxHeartbeats 400000
namespace My
open PySem PySem.Spec PyProof.Rows L2
/-! ### classes of errors -/
/-- an own class -/
structure ClsK (K : PySem.W.Frag) (mg : Str → Option Value) (x : Str) (C : Addr) : Prop where
  g : mg x = some (.ref C)
/-- .. that is raised -/
structure ClsR (K : PySem.W.Frag) (D : Addr) : Prop where
  kp : PySem.W.keepIn K (.ref D) = true
  ex : PySem.W.excIn K D [.type "ValueError", .type "Exception", .type "BaseException", .type "object"] "ValueError.__new__" = true
  be : PySem.W.subIn K (.ref D) (.type "BaseException") = some true
  ty : PySem.W.typeIn K (.ref D) = some (.type "type")
  c : L2.ExcC K D
/-! ### isinstance(e, C), e the error that the suite holds; nothing is asked of it ahead -/
def rIsX (K : PySem.W.Frag) (a : Addr) (cls : Value) (d : Option Addr) : List V → Hp → VK → Prop := fun xs H Q =>
  ∃ (D : Addr) (c : V) (u : Value) (b : Bool), cls = .ref D ∧ d = none ∧ L2.ExcC K D ∧ xs = [.ref a, c] ∧ ClsV c u ∧ PySem.W.kitOne K (.ref D) u = some b ∧ Q (.bl b) H
theorem call_isX {X : Cx} {K : PySem.W.Frag} {a : Addr} {oe : Obj} {cls : Value} {d : Option Addr} (hK : X.K = K) (hp : (a, oe) ∈ X.pn) (hz : Zc cls d oe) (hf : ∃ vs, oe.data = .fields vs) : CallR X (.builtin "isinstance") (rIsX K a cls d) := by
  subst hK
  intro pins s σ H xs us Q I r h
  obtain ⟨D, c, u, b, rfl, rfl, C, rfl, k, e, q⟩ := h
  cases r with
  | cons rx rr =>
    cases rr with
    | cons rt rr =>
      cases rr
      cases rx
      have ec := k.eq rt
      subst ec
      obtain ⟨hget, _⟩ := I.pin (a, oe) (List.mem_append.mpr (.inl hp))
      obtain ⟨vs, hv⟩ := hf
      have J : PySem.W.InstAt s.heap a oe D none := by
        obtain ⟨oc, od, oda, osl⟩ := oe
        obtain ⟨h1, h2⟩ := hz
        dsimp only at h1 h2 hv
        subst h1 h2 hv
        exact ⟨hget, rfl, rfl, trivial⟩
      exact PySem.W.kia_one (PySem.W.handS_kitx_exc C.hg C.hk C.hs C.hd C.ha C.hn C.ht C.hm) I.kIn J e (fun z => nomatch z) fun tk => ⟨.bl b, H, I.kept (t' := tk) fun _ _ z => z, rfl, q⟩
/-! ### f(e): a def called in an except suite, the error among its arguments -/
def tCallE (N : List Str) (n : Nat) (t : TS) (ta : TA) : TE := fun σ H Q => ta σ H fun vs H1 => vs.length = n ∧ t { nx := fun _ H' => Q .non H', rt := Q } (start N vs) H1
section
variable {X : Cx} {a : Addr} {oe : Obj} {pn : List (Addr × Obj)} {x : Str} {st : Stmt} {f : Addr} {fd : FuncData} {N ps : List Str} {t : TS} {ta : TA} {k : Nat} {q pos : Pos} {e : Expr} {es : List Expr}
theorem pe_callE (F : Fun X.K x x st f fd) (S : FnScope N ps (defScope st)) (hb : Binds X.K fd ps []) (hg : Gl X x) (hm : X.mg x = some (.ref f)) (hr : L2H.RoomH k X.A)
    (hbody : ∀ (cdv : Value) (A : Around) (outer : List Env) (s : Shared) (H : Hp), PSs (L2H.cxH CX0 X.prog X.w X.K X.mg X.base N x (defScope st) f cdv A outer s H E0 (a, oe)) (defBody st) t)
    (ha : PA (X.suite a ((a, oe) :: pn)) (e :: es) ta) (hdb : (x == ("__debug__" : Str)) = false := by decide) (he : starEach (e :: es) X.env = (false, eval e X.env) :: starEach es X.env := by rfl) (hpl : (backTo pos (starEach es X.env)).any (·.1) = false := by rfl) :
    PE (X.suite a ((a, oe) :: pn)) (.Call (.Name x q) (e :: es) [] pos) (tCallE N ps.length t ta) := by
  refine ⟨fun pins s σ H Q I h => ?_⟩
  refine wpAny_Call_Name_kw (ld_glob I hg hm ?_ hdb)
  refine PySem.W.callWith_K (h₀ := X.base) I.ok.mod.kin F.kp (thn (ha.run pos pins s σ H _ I h) fun us s1 ⟨vs, H1, I1, r, hl, hq⟩ => ⟨I1.kIn, ?_⟩) he hpl
  obtain ⟨oc, od, kV, doc, pm, an, cdv, ct, osl, rfl, lk, hcd⟩ := F.ex
  have b := hb s1 us I1.kIn (by rw [List.append_nil]; exact r.length.symm.trans hl)
  rw [List.append_nil] at b
  have P1 := I1.pin (a, oe) (List.mem_append_left _ List.mem_cons_self)
  have hpin : L2H.PinOk (X.suite a ((a, oe) :: pn)).stack H1 s1 (a, oe) := ⟨P1.1, P1.2.1, fun hm => (List.mem_cons.mp (I1.stkSub a hm)).elim P1.2.2.1 P1.2.2.2.1, P1.2.2.2.2⟩
  have e0 := I1.env0
  have KX : X.K.In s1.heap := I1.kIn
  refine wpAny_call (codeAny_mono (R := CR CX0 X.stack X.prog X.w H1 s1 Q E0) ?_ fun r s' hq => ?_)
  · have lim : s1.heap.NoLimit := I1.nolimit
    have hkind : ∀ y ∈ ps.zip us, (defScope st).names.lookup y.1 = some .local ∨ ((defScope st).names.lookup y.1 = some .cell ∧ ((cellsFrom (s1.heap.objs.size + 1) (defScope st).names []).lookup y.1).isSome = true) := fun ⟨n, v⟩ hy => by
      rcases S.par n (List.of_mem_zip hy).1 with z | z
      · exact .inl z
      · exact .inr ⟨z, PySem.W.cellsFrom_some _ _ _ (.inl z)⟩
    refine codeAny_call_function (show (X.suite a ((a, oe) :: pn)).A.depth < recursionLimit from hr.depth) (KX _ _ lk) rfl S.co S.gen rfl (PySem.W.codeRec_of KX hcd) (b _ _ _ _ ?_)
    refine wpAny_newFunctionEnv_cells S.kind hkind fun env he s2 x2 => ?_
    subst he
    refine ⟨lim.keeps x2.toInCall.keep, codeAny_func ?_⟩
    have I2 : Inv (L2H.cxH CX0 X.prog X.w X.K X.mg X.base N x (defScope st) f cdv (X.suite a ((a, oe) :: pn)).A X.stack s1 H1 E0 (a, oe)) [] (start N vs) H1 s2 := L2H.inv_startH S hpin e0 hl r x2
    refine wpAny_mono ((hbody cdv _ _ _ _).run [] s2 (start N vs) H1 _ I2 hq) (fun fl s' hs => ?_) fun e s' hs => hs
    cases fl with
    | ret u =>
      obtain ⟨v, σ', H', J, rv, z⟩ := hs
      exact ⟨v, H', J.os, J.bare, J.base, J.hok, rv, z⟩
    | next =>
      obtain ⟨σ', H', J, z⟩ := hs
      exact ⟨.non, H', J.os, J.bare, J.base, J.hok, rfl, z⟩
    | brk => exact hs.elim fun _ z => z.elim fun _ z => z.2.elim
    | cont => exact hs.elim fun _ z => z.elim fun _ z => z.2.elim
  · cases r with
    | error e => exact False.elim hq
    | ok fl =>
      cases fl with
      | ret u => exact I1.after hq
      | next => exact False.elim hq
      | brk => exact False.elim hq
      | cont => exact False.elim hq
end
/-! ### readings -/
section
variable {σ : L2.St} {H : Hp} {v x y : V} {ta tb te : TE} {K : PySem.W.Frag}
theorem ev_callE {N : List Str} {n : Nat} {t : TS} {tr : TA} {vs : List V} (ha : EvL tr σ H vs) (hl : vs.length = n) (ht : ∀ H1, Sm H H1 → ∀ Q : VK, (∀ H2, Sm H1 H2 → Q v H2) → t { nx := fun _ H' => Q .non H', rt := Q } (start N vs) H1) : Ev (tCallE N n t tr) σ H v := fun H1 S Q q =>
  ha H1 S _ fun us H2 S2 p => by subst p; exact ⟨hl, ht H2 (S.trans S2) Q fun H3 S3 => q H3 (S2.trans S3)⟩
theorem ev_isX {a D : Addr} {u : Value} {b : Bool} (C : L2.ExcC K D) (ha : Ev ta σ H (.ref a)) (hb : Ev tb σ H y) (hc : ClsV y u) (hk : PySem.W.kitOne K (.ref D) u = some b) : Ev (tCB (rIsX K a (.ref D) none) (tCons ta (tCons tb tNil))) σ H (.bl b) :=
  ev_cb (evl_cons ha (evl_cons hb evl_nil)) fun H1 S Q q => ⟨D, y, u, b, rfl, rfl, C, rfl, hc, hk, q H1 (Sm.refl _)⟩
theorem ev_eqT {a b : String} (ha : Ev ta σ H (.ty a)) (hb : Ev tb σ H (.ty b)) (h1 : a ∈ tyL) (h2 : b ∈ tyL) : Ev (tOp rEqT ta tb) σ H (.bl (decide (a = b))) := fun H1 S Q q =>
  ha H1 S _ fun H2 S2 => hb H2 (S.trans S2) _ fun H3 S3 => ⟨a, b, rfl, rfl, h1, h2, q H3 (S2.trans S3)⟩
theorem ev_neT {a b : String} (ha : Ev ta σ H (.ty a)) (hb : Ev tb σ H (.ty b)) (h1 : a ∈ tyL) (h2 : b ∈ tyL) : Ev (tOp rNeT ta tb) σ H (.bl (!decide (a = b))) := fun H1 S Q q =>
  ha H1 S _ fun H2 S2 => hb H2 (S.trans S2) _ fun H3 S3 => ⟨a, b, rfl, rfl, h1, h2, q H3 (S2.trans S3)⟩
theorem tyB_in {T : String} (h : L2.TyB K H x T) (hb : ∀ b, x ≠ .byt b) : T ∈ tyL := by
  cases h with
  | byt b => exact (hb b rfl).elim
  | _ => decide
end
/-! ### values whose kind is known -/
section
variable {σ : L2.St} {H H' : Hp} {v x y : V} {ta tb te : TE} {K : PySem.W.Frag}
theorem tyB_sm {T : String} (S : Sm H H') (h : L2.TyB K H v T) : L2.TyB K H' v T := by
  cases h with
  | non => exact .non
  | bl b => exact .bl b
  | int i => exact .int i
  | str s => exact .str s
  | byt b => exact .byt b
  | lst h => exact .lst (S.sql h)
  | tup h => exact .tup (S.sqt h)
  | dK h => exact .dK (S.at h fun _ z => by cases z)
/-- a value whose kind is known -/
def Kn (K : PySem.W.Frag) (v : V) (H : Hp) : Prop := ∃ T, L2.TyB K H v T ∧ T ∈ tyL
theorem Kn.sm (S : Sm H H') (h : Kn K v H) : Kn K v H' := let ⟨T, h1, h2⟩ := h; ⟨T, tyB_sm S h1, h2⟩
theorem kn_non : Kn K .non H := ⟨_, .non, by decide⟩
theorem kn_bl {b : Bool} : Kn K (.bl b) H := ⟨_, .bl b, by decide⟩
theorem kn_int {i : Int} : Kn K (.int i) H := ⟨_, .int i, by decide⟩
theorem kn_str {i : Str} : Kn K (.str i) H := ⟨_, .str i, by decide⟩
theorem kn_tup {a : Addr} {xs : List V} (h : SqT K H a xs) : Kn K (.ref a) H := ⟨_, .tup h, by decide⟩
theorem kn_lst {a : Addr} {xs : List V} (h : SqL K H a xs) : Kn K (.ref a) H := ⟨_, .lst h, by decide⟩
theorem kn_dK {a : Addr} {kvs : List (Key × V)} (h : H a = some (.dK kvs)) : Kn K (.ref a) H := ⟨_, .dK h, by decide⟩
def numV (lo hi : Int) : V → Bool
  | .int i => decide (lo ≤ i) && decide (i ≤ hi)
  | _ => false
def sideV : V → Bool
  | .str s => decide (s = (PySem.Str.ofString "buy")) || decide (s = (PySem.Str.ofString "sell"))
  | _ => false
theorem ev_type {T : String} (ha : Ev ta σ H v) (h : L2.TyB K H v T) : Ev (tCB (rTyp K) (tCons ta tNil)) σ H (.ty T) :=
  ev_cb (evl_cons ha evl_nil) fun H1 S Q q => ⟨v, T, rfl, tyB_sm S h, q H1 (Sm.refl _)⟩
theorem tyB_int {T : String} (h : L2.TyB K H v T) (e : T = "int") : ∃ i, v = .int i := by
  cases h with
  | int i => exact ⟨i, rfl⟩
  | _ => exact absurd e (by decide)
theorem tyB_str {T : String} (h : L2.TyB K H v T) (e : T = "str") : ∃ i, v = .str i := by
  cases h with
  | str i => exact ⟨i, rfl⟩
  | _ => exact absurd e (by decide)
theorem tyB_tup {T : String} (h : L2.TyB K H v T) (e : T = "tuple") : ∃ a xs, v = .ref a ∧ SqT K H a xs := by
  cases h with
  | tup h => exact ⟨_, _, rfl, h⟩
  | _ => exact absurd e (by decide)
theorem numV_no {lo hi : Int} {T : String} (h : L2.TyB K H v T) (e : T ≠ "int") : numV lo hi v = false := by
  cases h with
  | int i => exact absurd rfl e
  | _ => rfl
theorem sideV_no {T : String} (h : L2.TyB K H v T) (e : T ≠ "str") : sideV v = false := by
  cases h with
  | str i => exact absurd rfl e
  | _ => rfl
/-! an item of a list that is displayed -/
def EvPs (t : TA) (σ : L2.St) (H : Hp) (P : V → Hp → Prop) (n : Nat) : Prop := EvA t σ H fun vs H' => vs.length = n ∧ ∀ v ∈ vs, P v H'
theorem evps_nil {P : V → Hp → Prop} : EvPs tNil σ H P 0 := fun H1 S Q q => q [] H1 (Sm.refl _) ⟨rfl, fun _ h => nomatch h⟩
theorem evps_cons {tr : TA} {P : V → Hp → Prop} {n : Nat} (st : Stab P) (ha : EvP ta σ H P) (hr : EvPs tr σ H P n) : EvPs (tCons ta tr) σ H P (n + 1) := fun H1 S Q q =>
  ha H1 S _ fun v H2 S2 pv => hr H2 (S.trans S2) _ fun r H3 S3 ⟨hl, p⟩ => q (v :: r) H3 (S2.trans S3) ⟨by rw [List.length_cons, hl], fun u hu => by
    rcases List.mem_cons.mp hu with e | e
    · rw [e]; exact st _ _ _ S3 pv
    · exact p u e⟩
theorem evp_menu {P : V → Hp → Prop} {tl : TA} {n : Nat} {k : Int} (st : Stab P) (ha : EvPs tl σ H P n) (hb : Ev tb σ H (.int k)) (h0 : 0 ≤ k) (h1 : k < (n : Int)) (hz : n ≤ sizeLine) : EvP (tOp (rIxL K) (tLst tl) tb) σ H P := fun H1 S Q q =>
  ha H1 S _ fun vs H2 S2 ⟨hl, p⟩ => ⟨by rw [hl]; exact hz, fun l nl => hb _ ((S.trans S2).trans (Sm.new nl)) _ fun H3 S3 => by
    have hj : k.toNat < vs.length := by omega
    refine ⟨l, vs, k, vs[k.toNat], rfl, rfl, S3.sql (.inl (.inl upd_same)), at_of (j := k.toNat) (by omega) (List.getElem?_eq_getElem hj), ?_⟩
    exact q _ H3 ((S2.trans (Sm.new nl)).trans S3) (st _ _ _ ((Sm.new nl).trans S3) (p _ (List.getElem_mem hj)))⟩
theorem Ev.pp {P : V → Hp → Prop} (h : Ev te σ H v) (hP : ∀ H', Sm H H' → P v H') : EvP te σ H P := fun H1 S Q q => h H1 S Q fun H2 S2 => q v H2 S2 (hP H2 (S.trans S2))
theorem evp_dnew : EvP tDNewK σ H fun u H' => ∃ a, u = .ref a ∧ H' a = some (.dK []) := fun H1 S Q q p np => q _ _ (Sm.new np) ⟨p, rfl, upd_same⟩
theorem EvP.to {P R : V → Hp → Prop} (h : EvP te σ H P) (k : ∀ v H', Sm H H' → P v H' → R v H') : EvP te σ H R := fun H1 S Q q => h H1 S Q fun v H2 S2 p => q v H2 S2 (k v H2 (S.trans S2) p)
theorem ev_addS {i j : Str} (ha : Ev ta σ H (.str i)) (hb : Ev tb σ H (.str j)) (hz : i.length + j.length ≤ sizeLine) : Ev (tOp (fun x y H Q => ∃ i j, x = .str i ∧ y = .str j ∧ i.length + j.length ≤ sizeLine ∧ Q (.str (i ++ j)) H) ta tb) σ H (.str (i ++ j)) := fun H1 S Q q =>
  ha H1 S _ fun H2 S2 => hb H2 (S.trans S2) _ fun H3 S3 => ⟨i, j, rfl, rfl, hz, q H3 (S2.trans S3)⟩
/-- x in (y, ..), flat -/
theorem ev_inT {t : TA} {vs : List V} (ha : Ev ta σ H x) (hb : EvL t σ H vs) (fx : flatV x = true) (fs : vs.all flatV = true) (hz : vs.length ≤ sizeLine) : Ev (tOp (rIn K false) ta (tTup t)) σ H (.bl (inV x vs)) := fun H1 S Q q =>
  ha H1 S _ fun H2 S2 => hb H2 (S.trans S2) _ fun us H3 S3 p => by
    subst p
    exact ⟨hz, fun l nl => ⟨l, us, rfl, .inr (.inl (.inl upd_same)), fx, fs, q _ (S2.trans (S3.trans (Sm.new nl)))⟩⟩
/-- a text and an int behind it -/
theorem js2 {s : Str} {i : Int} {C : Addr} {E : XK} (tb : TE) (hb : Ev tb σ H (.int i)) (hi : i.natAbs.log2 < 1920) (hs : (Str.empty ++ s).length ≤ sizeLine) (hz : ((Str.empty ++ s) ++ toString i).length ≤ sizeLine) (q : ∀ H', Sm H H' → E (.ref C) none H') :
    tJs [tC (.str s), tFmt tb] Str.empty σ H fun _ H1 => E (.ref C) none H1 :=
  ⟨s, rfl, hs, hb H (Sm.refl _) _ fun H2 S2 => .inr ⟨i, rfl, hi, ⟨_, rfl, hz, q H2 S2⟩⟩⟩
theorem qs_tup {D : Ends} {u : TS} {a : Addr} {xs : List V} {n : Nat} {t : TGs} (h : Ev te σ H (.ref a)) (hS : SqT K H a xs) (hl : xs.length = n) (k : ∀ H', Sm H H' → t xs σ H' (u D)) : tSeq (tAsg te (gTup K n t)) u D σ H :=
  h H (Sm.refl _) _ fun H2 S2 => ⟨a, xs, rfl, S2.sqt hS, hl, k H2 S2⟩
theorem evp_tup1 {tc : TE} {P : V → Hp → Prop} {z : V} (st : Stab P) (ha : EvP ta σ H P) (hb : Ev tb σ H y) (hc : Ev tc σ H z) : EvP (tTup (tCons ta (tCons tb (tCons tc tNil)))) σ H fun u H' => ∃ a x, u = .ref a ∧ SqT K H' a [x, y, z] ∧ P x H' := fun H1 S Q q =>
  ha H1 S _ fun x H2 S2 px => hb H2 (S.trans S2) _ fun H3 S3 => hc H3 (S.trans (S2.trans S3)) _ fun H4 S4 => ⟨by show 3 ≤ sizeLine; decide, fun l nl =>
    q (.ref l) _ (S2.trans (S3.trans (S4.trans (Sm.new nl)))) ⟨l, x, rfl, .inl (.inl upd_same), st _ _ _ (S3.trans (S4.trans (Sm.new nl))) px⟩⟩
theorem evp_tup2 {tc : TE} {P : V → Hp → Prop} {z : V} (st : Stab P) (ha : Ev ta σ H x) (hb : EvP tb σ H P) (hc : Ev tc σ H z) : EvP (tTup (tCons ta (tCons tb (tCons tc tNil)))) σ H fun u H' => ∃ a y, u = .ref a ∧ SqT K H' a [x, y, z] ∧ P y H' := fun H1 S Q q =>
  ha H1 S _ fun H2 S2 => hb H2 (S.trans S2) _ fun y H3 S3 py => hc H3 (S.trans (S2.trans S3)) _ fun H4 S4 => ⟨by show 3 ≤ sizeLine; decide, fun l nl =>
    q (.ref l) _ (S2.trans (S3.trans (S4.trans (Sm.new nl)))) ⟨l, y, rfl, .inl (.inl upd_same), st _ _ _ (S4.trans (Sm.new nl)) py⟩⟩
theorem evp_tup3 {tc : TE} {P : V → Hp → Prop} (st : Stab P) (ha : Ev ta σ H x) (hb : Ev tb σ H y) (hc : EvP tc σ H P) : EvP (tTup (tCons ta (tCons tb (tCons tc tNil)))) σ H fun u H' => ∃ a z, u = .ref a ∧ SqT K H' a [x, y, z] ∧ P z H' := fun H1 S Q q =>
  ha H1 S _ fun H2 S2 => hb H2 (S.trans S2) _ fun H3 S3 => hc H3 (S.trans (S2.trans S3)) _ fun z H4 S4 pz => ⟨by show 3 ≤ sizeLine; decide, fun l nl =>
    q (.ref l) _ (S2.trans (S3.trans (S4.trans (Sm.new nl)))) ⟨l, z, rfl, .inl (.inl upd_same), st _ _ _ (Sm.new nl) pz⟩⟩
theorem numV_lt {lo hi i : Int} (h : i < lo) : numV lo hi (.int i) = false := by
  show (decide (lo ≤ i) && decide (i ≤ hi)) = false
  rw [decide_eq_false (by omega)]
  rfl
theorem numV_gt {lo hi i : Int} (h : hi < i) : numV lo hi (.int i) = false := by
  show (decide (lo ≤ i) && decide (i ≤ hi)) = false
  rw [decide_eq_false (show ¬ i ≤ hi by omega), Bool.and_false]
theorem numV_in {lo hi i : Int} (h1 : lo ≤ i) (h2 : i ≤ hi) : numV lo hi (.int i) = true := by
  show (decide (lo ≤ i) && decide (i ≤ hi)) = true
  rw [decide_eq_true h1, decide_eq_true h2]
  rfl
/-- of a known kind, and c says no -/
def KnNo (K : PySem.W.Frag) (c : V → Bool) (v : V) (H : Hp) : Prop := Kn K v H ∧ c v = false
theorem KnNo.stab {c : V → Bool} : Stab (KnNo K c) := fun v H H' S h => ⟨h.1.sm S, h.2⟩
/-- a tuple that is displayed, of which c says no -/
theorem evp_tupNo {t : TA} {vs : List V} {c : V → Bool} (ha : EvL t σ H vs) (hz : vs.length ≤ sizeLine) (hc : ∀ a, c (.ref a) = false) : EvP (tTup t) σ H (KnNo K c) :=
  (evp_tupV (K := K) ha hz).to fun v H' S ⟨a, e, h⟩ => ⟨by rw [e]; exact kn_tup h, by rw [e]; exact hc a⟩
/-- an if that stores one name anew, of which P holds either way -/
theorem qs_ifsetP {D : Ends} {u : TS} {c : TT} {b : Bool} {i : Nat} {old : V} {P : V → Hp → Prop} (h : EvT c σ H b) (ho : σ[i]? = some (some old)) (hv : b = true → EvP te σ H P) (hn : b = false → ∀ H', Sm H H' → P old H') (k : ∀ v H', Sm H H' → P v H' → u D (σ.set i (some v)) H') :
    tSeq (tIfS c (tAsg te (gName i)) tNext) u D σ H :=
  qs_if h (fun e H' S => (hv e) H' S _ fun v H2 S2 p => k v H2 (S.trans S2) p) fun e H' S => by
    have q := k old H' S (hn e H' S)
    have es : σ.set i (some old) = σ := by
      refine List.ext_getElem? fun j => ?_
      by_cases hj : j = i
      · subst hj
        rw [List.getElem?_set_self (List.getElem?_eq_some_iff.mp ho).1, ho]
      · rw [List.getElem?_set_ne (Ne.symm hj)]
    rw [es] at q
    exact q
/-- try: x = f(..) except C as e: suite -/
theorem qs_tryCall {D : Ends} {u : TS} {c : Value} {i j : Nat} {sp : Sp} {tr : TA} {vs : List V} {ts : Addr → Value → Option Addr → TS} {Wout : WX} (ha : EvL tr σ H vs)
    (h : ∀ H1, Sm H H1 → sp vs H1 (fun v H2 => u D (σ.set j (some v)) H2) (fun cls d H2 => wAs K c i ts Wout { D with nx := u D } cls d σ H2)) :
    tSeq (fun D σ H => tAsg (tCallS sp (WE (wAs K c i ts Wout D)) tr) (gName j) D σ H) u D σ H :=
  ha H (Sm.refl _) _ fun us H2 S2 p => by subst p; exact h H2 S2
/-- try: f(..) except C as e: suite -/
theorem qs_tryDrop {D : Ends} {u : TS} {c : Value} {i : Nat} {sp : Sp} {tr : TA} {vs : List V} {ts : Addr → Value → Option Addr → TS} {Wout : WX} (ha : EvL tr σ H vs)
    (h : ∀ H1, Sm H H1 → sp vs H1 (fun _ H2 => u D σ H2) (fun cls d H2 => wAs K c i ts Wout { D with nx := u D } cls d σ H2)) :
    tSeq (fun D σ H => tDrop (tCallS sp (WE (wAs K c i ts Wout D)) tr) D σ H) u D σ H :=
  ha H (Sm.refl _) _ fun us H2 S2 p => by subst p; exact h H2 S2
/-- f(..) that may raise, its answer dropped -/
theorem qs_dropS {D : Ends} {u : TS} {sp : Sp} {tr : TA} {vs : List V} {E : L2.St → XK} (ha : EvL tr σ H vs) (h : ∀ H1, Sm H H1 → sp vs H1 (fun _ H2 => u D σ H2) (E σ)) : tSeq (tDrop (tCallS sp E tr)) u D σ H :=
  ha H (Sm.refl _) _ fun us H2 S2 p => by subst p; exact h H2 S2
theorem ev_abs {i : Int} (ha : Ev ta σ H (.int i)) : Ev (tCB (fun xs H Q => ∃ i, xs = [.int i] ∧ Q (.int (if i < 0 then -i else i)) H) (tCons ta tNil)) σ H (.int (if i < 0 then -i else i)) :=
  ev_cb (evl_cons ha evl_nil) fun H1 S Q q => ⟨i, rfl, q H1 (Sm.refl _)⟩
theorem evp_maxmin {tc : TE} {o : Int} {P R : Int → Prop} (ha : EvP ta σ H fun v _ => ∃ p, v = .int p ∧ P p) (hb : Ev tb σ H (.int o)) (hc : EvP tc σ H fun v _ => ∃ p, v = .int p ∧ R p) :
    EvP (tCB (fun xs H Q => ∃ i j, xs = [.int i, .int j] ∧ Q (.int (if j > i then j else i)) H) (tCons ta (tCons (tCB (fun xs H Q => ∃ i j, xs = [.int i, .int j] ∧ Q (.int (if j < i then j else i)) H) (tCons tb (tCons tc tNil))) tNil))) σ H
      fun v _ => ∃ lo hi, P lo ∧ R hi ∧ v = .int (if (if hi < o then hi else o) > lo then (if hi < o then hi else o) else lo) := fun H1 S Q q =>
  ha H1 S _ fun v H2 S2 ⟨lo, e, hp⟩ => hb H2 (S.trans S2) _ fun H3 S3 => hc H3 (S.trans (S2.trans S3)) _ fun v' H4 S4 ⟨hi, e', hr⟩ => by
    subst e e'
    exact ⟨o, hi, rfl, lo, _, rfl, q _ H4 (S2.trans (S3.trans S4)) ⟨lo, hi, hp, hr, rfl⟩⟩
end
end My

set_option Elab.async false
set_option linter.all false
set_option maxRecDepth 100000
set_option maxHeartbeats 400000
namespace My
open PySem PySem.Spec PyProof.Rows L2
open GxR (TabB TabG Tabbed)
def topS (i : Nat) : Stmt := PySem.Challenge.pw_bidclear_k02_wishes_checked.main.body.getD i (.Pass ⟨0, 0, 0, 0⟩)
abbrev s_is_number : Stmt := topS 11
abbrev names_is_number : List Str := ["thing", "least", "most"]
theorem sc_is_number : FnScope ["thing", "least", "most"] ["thing", "least", "most"] (defScope s_is_number) := ⟨rfl, rfl, rfl, by decide +kernel, rfl, by decide +kernel, by decide +kernel⟩
abbrev s_is_side : Stmt := topS 12
abbrev names_is_side : List Str := ["thing"]
theorem sc_is_side : FnScope ["thing"] ["thing"] (defScope s_is_side) := ⟨rfl, rfl, rfl, by decide +kernel, rfl, by decide +kernel, by decide +kernel⟩
abbrev s_checked : Stmt := topS 13
abbrev names_checked : List Str := ["thing", "side", "limit", "amount"]
theorem sc_checked : FnScope ["thing", "side", "limit", "amount"] ["thing"] (defScope s_checked) := ⟨rfl, rfl, rfl, by decide +kernel, rfl, by decide +kernel, by decide +kernel⟩
abbrev s__law_cell_at : Stmt := topS 15
abbrev names__law_cell_at : List Str := ["_law_script", "_law_k"]
theorem sc__law_cell_at : FnScope ["_law_script", "_law_k"] ["_law_script", "_law_k"] (defScope s__law_cell_at) := ⟨rfl, rfl, rfl, by decide +kernel, rfl, by decide +kernel, by decide +kernel⟩
abbrev s__law_whole : Stmt := topS 16
abbrev names__law_whole : List Str := ["_law_thing"]
theorem sc__law_whole : FnScope ["_law_thing"] ["_law_thing"] (defScope s__law_whole) := ⟨rfl, rfl, rfl, by decide +kernel, rfl, by decide +kernel, by decide +kernel⟩
abbrev s__law_names : Stmt := topS 17
abbrev names__law_names : List Str := ["_law_e", "_law_found"]
theorem sc__law_names : FnScope ["_law_e", "_law_found"] ["_law_e"] (defScope s__law_names) := ⟨rfl, rfl, rfl, by decide +kernel, rfl, by decide +kernel, by decide +kernel⟩
abbrev s__law_spoilt : Stmt := topS 18
abbrev names__law_spoilt : List Str := ["_law_side", "_law_limit", "_law_amount", "_law_way", "_law_cell"]
theorem sc__law_spoilt : FnScope ["_law_side", "_law_limit", "_law_amount", "_law_way", "_law_cell"] ["_law_side", "_law_limit", "_law_amount", "_law_way", "_law_cell"] (defScope s__law_spoilt) := ⟨rfl, rfl, rfl, by decide +kernel, rfl, by decide +kernel, by decide +kernel⟩
abbrev s_law : Stmt := topS 19
abbrev names_law : List Str := ["_law_script", "_law_cell", "_law_side", "_law_limit", "_law_amount", "_law_way", "_law_thing", "_law_found", "_law_refused", "_law_e"]
theorem sc_law : FnScope ["_law_script", "_law_cell", "_law_side", "_law_limit", "_law_amount", "_law_way", "_law_thing", "_law_found", "_law_refused", "_law_e"] ["_law_script"] (defScope s_law) := ⟨rfl, rfl, rfl, by decide +kernel, rfl, by decide +kernel, by decide +kernel⟩
structure Txt (K : PySem.W.Frag) (mg : Str → Option Value) where
  f_is_number : Addr
  d_is_number : FuncData
  D_is_number : Dn K mg "is_number" s_is_number ["thing", "least", "most"] f_is_number d_is_number
  f_is_side : Addr
  d_is_side : FuncData
  D_is_side : Dn K mg "is_side" s_is_side ["thing"] f_is_side d_is_side
  f_checked : Addr
  d_checked : FuncData
  D_checked : Dn K mg "checked" s_checked ["thing"] f_checked d_checked
  f__law_cell_at : Addr
  d__law_cell_at : FuncData
  D__law_cell_at : Dn K mg "_law_cell_at" s__law_cell_at ["_law_script", "_law_k"] f__law_cell_at d__law_cell_at
  f__law_whole : Addr
  d__law_whole : FuncData
  D__law_whole : Dn K mg "_law_whole" s__law_whole ["_law_thing"] f__law_whole d__law_whole
  f__law_names : Addr
  d__law_names : FuncData
  D__law_names : Dn K mg "_law_names" s__law_names ["_law_e"] f__law_names d__law_names
  f__law_spoilt : Addr
  d__law_spoilt : FuncData
  D__law_spoilt : Dn K mg "_law_spoilt" s__law_spoilt ["_law_side", "_law_limit", "_law_amount", "_law_way", "_law_cell"] f__law_spoilt d__law_spoilt
  f_law : Addr
  d_law : FuncData
  D_law : Dn K mg "law" s_law ["_law_script"] f_law d_law
  t_TOP : Tok
  c_TOP : mg "TOP" = some (.int 1000000000 t_TOP)
  t_MOST : Tok
  c_MOST : mg "MOST" = some (.int 1000000 t_MOST)
  n_len : mg "len" = none
  n_isinstance : mg "isinstance" = none
  n_tuple : mg "tuple" = none
  n_int : mg "int" = none
  n_bool : mg "bool" = none
  n_str : mg "str" = none
  n_type : mg "type" = none
  n_ValueError : mg "ValueError" = none
  a_BidError : Addr
  g_BidError : mg "BidError" = some (.ref a_BidError)
  a_BadWish : Addr
  g_BadWish : mg "BadWish" = some (.ref a_BadWish)
  a_BadPrice : Addr
  g_BadPrice : mg "BadPrice" = some (.ref a_BadPrice)
  a_BadPieces : Addr
  g_BadPieces : mg "BadPieces" = some (.ref a_BadPieces)
  a_Uneven : Addr
  g_Uneven : mg "Uneven" = some (.ref a_Uneven)
  a_NoSuch : Addr
  g_NoSuch : mg "NoSuch" = some (.ref a_NoSuch)
  a_Unread : Addr
  g_Unread : mg "Unread" = some (.ref a_Unread)
  R_BadWish : ClsR K a_BadWish
  V_BadWish : PySem.W.kitOne K (.ref a_BadWish) (.type "ValueError") = some true
  I_BadWish_BidError : PySem.W.kitOne K (.ref a_BadWish) (.ref a_BidError) = some true
  I_BadWish_BadWish : PySem.W.kitOne K (.ref a_BadWish) (.ref a_BadWish) = some true
  I_BadWish_BadPrice : PySem.W.kitOne K (.ref a_BadWish) (.ref a_BadPrice) = some false
  I_BadWish_BadPieces : PySem.W.kitOne K (.ref a_BadWish) (.ref a_BadPieces) = some false
  I_BadWish_Uneven : PySem.W.kitOne K (.ref a_BadWish) (.ref a_Uneven) = some false
  I_BadWish_NoSuch : PySem.W.kitOne K (.ref a_BadWish) (.ref a_NoSuch) = some false
  I_BadWish_Unread : PySem.W.kitOne K (.ref a_BadWish) (.ref a_Unread) = some false
  X_BadWish_BidError : PySem.W.exmOne K (.ref a_BadWish) (.ref a_BidError) = some true
local macro_rules | `(tactic| walk_at "sq") => `(tactic| first
  | (with_reducible assumption)
  | ((with_reducible refine' Sm.sql ?a ?b); (case a => (with_reducible assumption)); (case b => walk_at "sq"))
  | ((with_reducible refine' Sm.sqt ?a ?b); (case a => (with_reducible assumption)); (case b => walk_at "sq"))
  | ((with_reducible refine' WishL.sm ?a ?b); (case a => (with_reducible assumption)); (case b => walk_at "sq"))
  | ((with_reducible refine' WishV.sm ?a ?b); (case a => (with_reducible assumption)); (case b => walk_at "sq"))
  | ((with_reducible refine' Sm.tabG ?a ?b); (case a => (with_reducible assumption)); (case b => walk_at "sq")))
local macro_rules | `(tactic| walk_at "ar") => `(tactic| first
  | decide
  | exact .inr ⟨by decide, by decide⟩
  | exact .inl ⟨by decide, by decide⟩
  | exact ⟨by decide, by decide⟩
  | omega
  | (simp only [List.length_cons, List.length_nil]; omega))
local macro_rules | `(tactic| walk_at "il") => `(tactic| first
  | exact evi_nil
  | ((with_reducible refine' evi_cons ?a ?b); (case a => walk_at "ev"); (case b => walk_at "il")))
local macro_rules | `(tactic| walk_at "el") => `(tactic| first
  | exact evl_nil
  | ((with_reducible refine' evl_cons ?a ?b); (case a => walk_at "ev"); (case b => walk_at "el")))
local macro_rules | `(tactic| walk_at "ev") => `(tactic| first
  | exact ev_c
  | exact ev_var rfl
  | ((with_reducible refine' ev_opI0 ?a ?b); (case a => walk_at "ev"); (case b => walk_at "ev"))
  | ((with_reducible refine' ev_opI ?a ?b ?c); (case a => walk_at "ev"); (case b => walk_at "ev"); (case c => walk_at "ar"))
  | ((with_reducible refine' ev_un ?a); (case a => walk_at "ev"))
  | ((with_reducible refine' ev_eqI ?a ?b); (case a => walk_at "ev"); (case b => walk_at "ev"))
  | ((with_reducible refine' ev_eqS ?a ?b); (case a => walk_at "ev"); (case b => walk_at "ev"))
  | ((with_reducible refine' ev_neI ?a ?b); (case a => walk_at "ev"); (case b => walk_at "ev"))
  | ((with_reducible refine' ev_eqB ?a ?b); (case a => walk_at "ev"); (case b => walk_at "ev"))
  | ((with_reducible refine' ev_max2 ?a ?b); (case a => walk_at "ev"); (case b => walk_at "ev"))
  | ((with_reducible refine' ev_min2 ?a ?b); (case a => walk_at "ev"); (case b => walk_at "ev"))
  | ((with_reducible refine' ev_isB ?a); (case a => walk_at "ev"))
  | ((with_reducible refine' ev_isI ?a); (case a => walk_at "ev"))
  | ((with_reducible refine' ev_menu ?a ?b ?c ?d ?e); (case a => walk_at "il"); (case b => walk_at "ev"); (case c => walk_at "ar"); (case d => walk_at "ar"); (case e => decide))
  | ((with_reducible refine' ev_len ?a ?b); (case a => walk_at "ev"); (case b => walk_at "sq"))
  | ((with_reducible refine' ev_lenT ?a ?b); (case a => walk_at "ev"); (case b => walk_at "sq"))
  | ((with_reducible refine' ev_and ?a ?b); (case a => walk_at "ev"); (case b => intro _; walk_at "ev"))
  | ((with_reducible refine' ev_or ?a ?b); (case a => walk_at "ev"); (case b => intro _; walk_at "ev"))
  | ((with_reducible refine' ev_chain ?a ?b ?c); (case a => walk_at "ev"); (case b => walk_at "ev"); (case c => walk_at "ev"))
  | ((with_reducible refine' ev_not ?a); (case a => walk_at "ev")))
local macro_rules | `(tactic| walk_at "et") => `(tactic| first
  | ((with_reducible refine' evt_test ?a); (case a => walk_at "ev"))
  | ((with_reducible refine' evt_ch3 ?a ?b ?c ?d); (case a => walk_at "ev"); (case b => walk_at "ev"); (case c => walk_at "ev"); (case d => walk_at "ev"))
  | ((with_reducible refine' evt_b ?a); (case a => walk_at "ev"))
  | ((with_reducible refine' evt_and ?a ?b); (case a => walk_at "et"); (case b => intro _; walk_at "et"))
  | ((with_reducible refine' evt_or ?a ?b); (case a => walk_at "et"); (case b => intro _; walk_at "et"))
  | ((with_reducible refine' evt_not ?a); (case a => walk_at "et")))

section
variable {P : Program} {w : World} {K : PySem.W.Frag} {mg : Str → Option Value} {base : Heap}
/-! ### _law_cell_at -/
def spCell (K : PySem.W.Frag) : Sp := fun vs H Q _ => ∃ (a : Addr) (ns : List Int) (k : Int), vs = [.ref a, .int k] ∧ SqL K H a (ns.map V.int) ∧ 0 ≤ k ∧ ∀ H', Sm H H' → Q (.int (ns.getD k.toNat 0)) H'
theorem ev_cell {K : PySem.W.Frag} {σ : L2.St} {H : Hp} {ta tb : TE} {E : XK} {a : Addr} {ns : List Int} {k : Int} (ha : Ev ta σ H (.ref a)) (hb : Ev tb σ H (.int k)) (hS : SqL K H a (ns.map V.int)) (hk : 0 ≤ k) :
    Ev (tCall (spCell K) [] E (tCons ta (tCons tb tNil))) σ H (.int (ns.getD k.toNat 0)) :=
  ev_call (evl_cons ha (evl_cons hb evl_nil)) fun H1 S Q q => ⟨a, ns, k, rfl, S.sql hS, hk, q⟩
local macro_rules | `(tactic| walk_at "ev") => `(tactic| ((with_reducible refine' ev_cell ?a ?b ?c ?d); (case a => walk_at "ev"); (case b => walk_at "ev"); (case c => walk_at "sq"); (case d => walk_at "ar")))
theorem ok__law_cell_at (T : Txt K mg) : FnOk P w K mg base CX0 1 T.f__law_cell_at T.d__law_cell_at ["_law_script", "_law_k"] (spCell K) := by
  refine T.D__law_cell_at.F.ok sc__law_cell_at (fun vs H Q E h => ?_) (fun cdv A outer s H vs Q E hr h => ?_)
  · obtain ⟨a, ns, k, rfl, _⟩ := h
    rfl
  · obtain ⟨a, ns, k, rfl, hS, hk, q⟩ := h
    refine ⟨_, (pss_cons (ps_if (pt_cmpR op_lt (pv 1) (pe_callB call_len_seq (by rfl) T.n_len PySem.boot_len (pa_cons (pv 0) pa_nil)) (nomark _))
    (pss_one (ps_ret (pe_ix ix_list (pv 0) (pv 1) (fun _ _ => rfl))))
    pss_nil)
  (pss_one (ps_ret pe_int))), ?_⟩
    try dsimp only [cxOf, Cx.nox, Cx.wish]
    refine qs_if (by walk_at "et") (fun e H1 S1 => ?_) (fun e H1 S1 => ?_)
    · rw [List.length_map] at e
      have e1 : k < (ns.length : Int) := of_decide_eq_true e
      have e2 : k.toNat < ns.length := by omega
      refine q_ret (v := .int (ns.getD k.toNat 0)) (ev_ixL (by walk_at "ev") (by walk_at "ev") (by walk_at "sq") (at_of (j := k.toNat) (by omega) ?_)) fun H2 S2 => ?_
      · rw [List.getElem?_map, List.getElem?_eq_getElem e2, List.getD_eq_getElem?_getD, List.getElem?_eq_getElem e2]
        rfl
      · exact q H2 (S1.trans S2)
    · rw [List.length_map] at e
      have e1 : ¬ k < (ns.length : Int) := of_decide_eq_false e
      refine q_ret ev_c fun H2 S2 => ?_
      have q2 := q H2 (S1.trans S2)
      rw [List.getD_eq_getElem?_getD, List.getElem?_eq_none (by omega)] at q2
      exact q2

/-! ### _law_whole -/
/-- whether a value is a whole number, of those that occur -/
def wholeV : V → Bool
  | .int _ => true
  | _ => false
/-- a value whose kind is known -/
def KindV (K : PySem.W.Frag) (v : V) (H : Hp) : Prop := ∃ t : String, (∀ H', Sm H H' → TyX K H' v (.type t)) ∧ (kitB t "int" = some (wholeV v || t == "bool")) ∧ kitB t "bool" = some (t == "bool") ∧ (wholeV v = true → t ≠ "bool")
theorem kind_int {K : PySem.W.Frag} {i : Int} {H : Hp} : KindV K (.int i) H := ⟨"int", fun H' _ => .base (.int i), (by show kitB "int" "int" = some true; decide +kernel), by decide +kernel, fun _ => by decide⟩
def spWhole (K : PySem.W.Frag) : Sp := fun vs H Q _ => ∃ v, vs = [v] ∧ KindV K v H ∧ ∀ H', Sm H H' → Q (.bl (wholeV v)) H'
theorem ev_whole {K : PySem.W.Frag} {σ : L2.St} {H : Hp} {ta : TE} {E : XK} {v : V} (ha : Ev ta σ H v) (hk : ∀ H', Sm H H' → KindV K v H') : Ev (tCall (spWhole K) [] E (tCons ta tNil)) σ H (.bl (wholeV v)) :=
  ev_call (evl_cons ha evl_nil) fun H1 S Q q => ⟨v, rfl, hk H1 S, q⟩
theorem ev_wholeI {K : PySem.W.Frag} {σ : L2.St} {H : Hp} {ta : TE} {E : XK} {i : Int} (ha : Ev ta σ H (.int i)) : Ev (tCall (spWhole K) [] E (tCons ta tNil)) σ H (.bl true) :=
  ev_whole ha fun _ _ => kind_int
local macro_rules | `(tactic| walk_at "ev") => `(tactic| ((with_reducible refine' ev_wholeI ?a); (case a => walk_at "ev")))
theorem ok__law_whole (T : Txt K mg) : FnOk P w K mg base CX0 1 T.f__law_whole T.d__law_whole ["_law_thing"] (spWhole K) := by
  refine T.D__law_whole.F.ok sc__law_whole (fun vs H Q E h => ?_) (fun cdv A outer s H vs Q E hr h => ?_)
  · obtain ⟨v, rfl, _⟩ := h
    rfl
  · obtain ⟨v, rfl, ⟨t, ht, k1, k2, k3⟩, q⟩ := h
    refine ⟨_, (pss_one (ps_ret (pe_and (pe_callB call_isi (by rfl) T.n_isinstance (by decide +kernel) (pa_cons (pv 0) (pa_cons (pe_bltn (v := .ty "int") (by rfl) T.n_int (by decide +kernel) rfl) pa_nil))) (pe_one (pe_not (pe_callB call_isi (by rfl) T.n_isinstance (by decide +kernel) (pa_cons (pv 0) (pa_cons (pe_bltn (v := .ty "bool") (by rfl) T.n_bool (by decide +kernel) rfl) pa_nil)))))))), ?_⟩
    try dsimp only [cxOf, Cx.nox, Cx.wish]
    refine q_ret (ev_and (ev_isi (ev_var rfl) ev_c (.ty "int") ht (kit_ty k1)) fun _ => ev_not (ev_isi (ev_var rfl) ev_c (.ty "bool") ht (kit_ty k2))) fun H1 S1 => ?_
    have q1 := q H1 S1
    have e : ((wholeV v || t == "bool") && !(t == "bool")) = wholeV v := by
      cases h : wholeV v with
      | false => cases t == "bool" <;> rfl
      | true =>
        have h2 := k3 h
        rw [beq_eq_false_iff_ne.mpr h2]
        rfl
    rw [e]
    exact q1

/-! ### is_number -/
def spNum (K : PySem.W.Frag) : Sp := fun vs H Q _ => ∃ (v : V) (lo hi : Int), vs = [v, .int lo, .int hi] ∧ Kn K v H ∧ ∀ H', Sm H H' → Q (.bl (numV lo hi v)) H'
theorem ev_num {K : PySem.W.Frag} {σ : L2.St} {H : Hp} {ta tb tc : TE} {E : XK} {v : V} {lo hi : Int} (ha : Ev ta σ H v) (hb : Ev tb σ H (.int lo)) (hc : Ev tc σ H (.int hi)) (hk : Kn K v H) : Ev (tCall (spNum K) [] E (tCons ta (tCons tb (tCons tc tNil)))) σ H (.bl (numV lo hi v)) :=
  ev_call (evl_cons ha (evl_cons hb (evl_cons hc evl_nil))) fun H1 S Q q => ⟨v, lo, hi, rfl, hk.sm S, q⟩
theorem ok_is_number (T : Txt K mg) : FnOk P w K mg base CX0 1 T.f_is_number T.d_is_number ["thing", "least", "most"] (spNum K) := by
  refine T.D_is_number.F.ok sc_is_number (fun vs H Q E h => ?_) (fun cdv A outer s H vs Q E hr h => ?_)
  · obtain ⟨v, lo, hi, rfl, _⟩ := h
    rfl
  · obtain ⟨v, lo, hi, rfl, ⟨k, hk, hm⟩, q⟩ := h
    refine ⟨_, (pss_one (ps_ret (pe_and (pe_cmpR op_eqT (pe_callTy call_type1 (by rfl) T.n_type (by decide +kernel) (pa_cons (pv 0) pa_nil)) (pe_bltn (v := .ty "int") (by rfl) T.n_int (by decide +kernel) rfl) (nomark _)) (pe_one (pe_chain op_le op_le (pv 1) (pv 0) (pv 2)))))), ?_⟩
    try dsimp only [cxOf, Cx.nox, Cx.wish]
    by_cases e : k = "int"
    · obtain ⟨i, rfl⟩ := tyB_int hk e
      refine q_ret (v := .bl (numV lo hi (.int i))) ((ev_and (ev_eqT (ev_type (ev_var rfl) hk) ev_c hm (by decide)) fun _ => ev_chain (ev_var rfl) (ev_var rfl) (ev_var rfl)).to ?_) fun H1 S1 => q H1 S1
      rw [decide_eq_true e]
      rfl
    · refine q_ret (v := .bl (numV lo hi v)) ((ev_and (c := false) (ev_eqT (ev_type (ev_var rfl) hk) ev_c hm (by decide)) fun z => absurd (of_decide_eq_true z) e).to ?_) fun H1 S1 => q H1 S1
      rw [decide_eq_false e, numV_no hk e]
      rfl

/-! ### is_side -/
def spSide (K : PySem.W.Frag) : Sp := fun vs H Q _ => ∃ v : V, vs = [v] ∧ Kn K v H ∧ ∀ H', Sm H H' → Q (.bl (sideV v)) H'
theorem ev_side {K : PySem.W.Frag} {σ : L2.St} {H : Hp} {ta : TE} {E : XK} {v : V} (ha : Ev ta σ H v) (hk : Kn K v H) : Ev (tCall (spSide K) [] E (tCons ta tNil)) σ H (.bl (sideV v)) :=
  ev_call (evl_cons ha evl_nil) fun H1 S Q q => ⟨v, rfl, hk.sm S, q⟩
theorem in_side (s : Str) : inV (.str s) [.str (PySem.Str.ofString "buy"), .str (PySem.Str.ofString "sell")] = sideV (.str s) := by
  show ((PySem.Str.ofString "buy" == s) || ((PySem.Str.ofString "sell" == s) || false)) = (decide (s = (PySem.Str.ofString "buy")) || decide (s = (PySem.Str.ofString "sell")))
  rw [Bool.or_false]
  congr 1
  · rw [Bool.eq_iff_iff]
    simp only [beq_iff_eq, decide_eq_true_iff]
    exact eq_comm
  · rw [Bool.eq_iff_iff]
    simp only [beq_iff_eq, decide_eq_true_iff]
    exact eq_comm
theorem ok_is_side (T : Txt K mg) : FnOk P w K mg base CX0 1 T.f_is_side T.d_is_side ["thing"] (spSide K) := by
  refine T.D_is_side.F.ok sc_is_side (fun vs H Q E h => ?_) (fun cdv A outer s H vs Q E hr h => ?_)
  · obtain ⟨v, rfl, _⟩ := h
    rfl
  · obtain ⟨v, rfl, ⟨k, hk, hm⟩, q⟩ := h
    refine ⟨_, (pss_one (ps_ret (pe_and (pe_cmpR op_eqT (pe_callTy call_type1 (by rfl) T.n_type (by decide +kernel) (pa_cons (pv 0) pa_nil)) (pe_bltn (v := .ty "str") (by rfl) T.n_str (by decide +kernel) rfl) (nomark _)) (pe_one (pe_cmpR op_in_seq (pv 0) (pe_tup (pa_cons pe_str (pa_cons pe_str pa_nil))) (by rfl)))))), ?_⟩
    try dsimp only [cxOf, Cx.nox, Cx.wish]
    by_cases e : k = "str"
    · obtain ⟨i, rfl⟩ := tyB_str hk e
      refine q_ret (v := .bl (sideV (.str i))) ((ev_and (ev_eqT (ev_type (ev_var rfl) hk) ev_c hm (by decide)) fun _ => ev_inT (ev_var rfl) (evl_cons ev_c (evl_cons ev_c evl_nil)) rfl rfl (by decide)).to ?_) fun H1 S1 => q H1 S1
      rw [decide_eq_true e, in_side]
      rfl
    · refine q_ret (v := .bl (sideV v)) ((ev_and (c := false) (ev_eqT (ev_type (ev_var rfl) hk) ev_c hm (by decide)) fun z => absurd (of_decide_eq_true z) e).to ?_) fun H1 S1 => q H1 S1
      rw [decide_eq_false e, sideV_no hk e]
      rfl

/-! ### checked -/
def goodV (x y z : V) : Bool := sideV x && (numV 0 1000000000 y && numV 1 1000000 z)
/-- what is no wish -/
def BadV (K : PySem.W.Frag) (v : V) (H : Hp) : Prop :=
  (∃ T, L2.TyB K H v T ∧ T ∈ tyL ∧ T ≠ "tuple") ∨ ∃ a xs, v = .ref a ∧ SqT K H a xs ∧ (xs.length ≠ 3 ∨ ∃ x y z, xs = [x, y, z] ∧ Kn K x H ∧ Kn K y H ∧ Kn K z H ∧ goodV x y z = false)
theorem BadV.sm {K : PySem.W.Frag} {v : V} {H H' : Hp} (S : Sm H H') (h : BadV K v H) : BadV K v H' := by
  rcases h with ⟨T, h1, h2, h3⟩ | ⟨a, xs, e, h, z⟩
  · exact .inl ⟨T, tyB_sm S h1, h2, h3⟩
  · refine .inr ⟨a, xs, e, S.sqt h, ?_⟩
    rcases z with z | ⟨x, y, z, e, k1, k2, k3, g⟩
    · exact .inl z
    · exact .inr ⟨x, y, z, e, k1.sm S, k2.sm S, k3.sm S, g⟩
def spChecked (K : PySem.W.Frag) (C : Addr) : Sp := fun vs H Q E => ∃ v : V, vs = [v] ∧
  ((BadV K v H ∧ ∀ H', Sm H H' → E (.ref C) none H') ∨ ∃ a x y z, v = .ref a ∧ SqT K H a [x, y, z] ∧ Kn K x H ∧ Kn K y H ∧ Kn K z H ∧ goodV x y z = true ∧ ∀ H', Sm H H' → Q v H')
theorem ok_checked (T : Txt K mg) : FnOk P w K mg base (L2.CX P w) 3 T.f_checked T.d_checked ["thing"] (spChecked K T.a_BadWish) := by
  have G_is_number : FnOk P w K mg base CX0 1 T.f_is_number T.d_is_number ["thing", "least", "most"] (spNum K) := ok_is_number T
  have G_is_side : FnOk P w K mg base CX0 1 T.f_is_side T.d_is_side ["thing"] (spSide K) := ok_is_side T
  refine T.D_checked.F.okX sc_checked (fun vs H Q E h => ?_) (fun cdv A outer s H vs Q E hr h => ?_)
  · obtain ⟨v, rfl, _⟩ := h
    rfl
  · obtain ⟨v, rfl, h⟩ := h
    refine ⟨_, (pss_cons (ps_if (PW.pt (pw_or (pt_cmpR op_neT (pe_callTy call_type1 (by rfl) T.n_type (by decide +kernel) (pa_cons (pv 0) pa_nil)) (pe_bltn (v := .ty "tuple") (by rfl) T.n_tuple (by decide +kernel) rfl) (nomark _)) (pw_or1 (pt_cmpR op_ne (pe_callB call_len_seq (by rfl) T.n_len PySem.boot_len (pa_cons (pv 0) pa_nil)) pe_int (nomark _)))))
    (pss_one (ps_raise rfl (takes_of rfl rfl rfl rfl) (pmk_own PySem.F.excBase_ValueError T.R_BadWish.ex T.g_BadWish T.R_BadWish.kp (raises_own T.R_BadWish.be T.R_BadWish.ty) (by rfl))))
    pss_nil)
  (pss_cons (ps_asg (pv 0) (pg_tup (by rfl) (pgs_cons (pg_name (i := 1) sc_checked.nd rfl (.inl rfl)) (pgs_cons (pg_name (i := 2) sc_checked.nd rfl (.inl rfl)) (pgs_cons (pg_name (i := 3) sc_checked.nd rfl (.inl rfl)) pgs_nil)))))
  (pss_cons (ps_if (pt_not (pt_val (pe_call G_is_side (hr.mono (by decide)) (by rfl) T.D_is_side.g T.D_is_side.F.kp T.D_is_side.b .nil pass0 (pa_cons (pv 1) pa_nil))))
    (pss_one (ps_raise rfl (takes_of rfl rfl rfl rfl) (pmk_own PySem.F.excBase_ValueError T.R_BadWish.ex T.g_BadWish T.R_BadWish.kp (raises_own T.R_BadWish.be T.R_BadWish.ty) (by rfl))))
    pss_nil)
  (pss_cons (ps_if (pt_not (pt_val (pe_call G_is_number (hr.mono (by decide)) (by rfl) T.D_is_number.g T.D_is_number.F.kp T.D_is_number.b .nil pass0 (pa_cons (pv 2) (pa_cons pe_int (pa_cons (pe_glob (v := .int 1000000000) (by rfl) T.c_TOP ⟨_, rfl⟩) pa_nil))))))
    (pss_one (ps_raise rfl (takes_of rfl rfl rfl rfl) (SkE.pmk_own1 PySem.F.excBase_ValueError T.R_BadWish.ex T.g_BadWish T.R_BadWish.kp (raises_own T.R_BadWish.be T.R_BadWish.ty) (by rfl) (pe_joined (.cons pe_str (.cons (pe_fmt (pe_glob (v := .int 1000000000) (by rfl) T.c_TOP ⟨_, rfl⟩)) .nil))))))
    pss_nil)
  (pss_cons (ps_if (pt_not (pt_val (pe_call G_is_number (hr.mono (by decide)) (by rfl) T.D_is_number.g T.D_is_number.F.kp T.D_is_number.b .nil pass0 (pa_cons (pv 3) (pa_cons pe_int (pa_cons (pe_glob (v := .int 1000000) (by rfl) T.c_MOST ⟨_, rfl⟩) pa_nil))))))
    (pss_one (ps_raise rfl (takes_of rfl rfl rfl rfl) (SkE.pmk_own1 PySem.F.excBase_ValueError T.R_BadWish.ex T.g_BadWish T.R_BadWish.kp (raises_own T.R_BadWish.be T.R_BadWish.ty) (by rfl) (pe_joined (.cons pe_str (.cons (pe_fmt (pe_glob (v := .int 1000000) (by rfl) T.c_MOST ⟨_, rfl⟩)) .nil))))))
    pss_nil)
  (pss_one (ps_ret (pv 0)))))))), ?_⟩
    try dsimp only [cxOf, Cx.wish]
    -- the three parts, of their kinds
    have h2 : ((∃ k, L2.TyB K H v k ∧ k ∈ tyL ∧ k ≠ "tuple") ∨ (∃ a xs, v = .ref a ∧ SqT K H a xs ∧ xs.length ≠ 3)) ∧ (∀ H', Sm H H' → E (.ref T.a_BadWish) none H') ∨
        ∃ a x y z, v = .ref a ∧ SqT K H a [x, y, z] ∧ Kn K x H ∧ Kn K y H ∧ Kn K z H ∧ (goodV x y z = false → ∀ H', Sm H H' → E (.ref T.a_BadWish) none H') ∧ (goodV x y z = true → ∀ H', Sm H H' → Q v H') := by
      rcases h with ⟨hbad, hE⟩ | ⟨a, x, y, z, ev, hS, kx, ky, kz, g, hQ⟩
      · rcases hbad with hh | ⟨a, xs, ev, hS, hl | ⟨x, y, z, exs, kx, ky, kz, g⟩⟩
        · exact .inl ⟨.inl hh, hE⟩
        · exact .inl ⟨.inr ⟨a, xs, ev, hS, hl⟩, hE⟩
        · rw [exs] at hS
          exact .inr ⟨a, x, y, z, ev, hS, kx, ky, kz, fun _ => hE, fun z => by rw [g] at z; cases z⟩
      · exact .inr ⟨a, x, y, z, ev, hS, kx, ky, kz, (fun z => by rw [g] at z; cases z), fun _ => hQ⟩
    rcases h2 with ⟨⟨k, hk, hm, hn⟩ | ⟨a, xs, ev, hS, hl⟩, hE⟩ | ⟨a, x, y, z, ev, hS, kx, ky, kz, hb, hg⟩
    · refine qs_if (b := true) ((evt_or (c := false) (evt_b (ev_neT (ev_type (ev_var rfl) hk) ev_c hm (by decide))) fun z => ?_).to ?_) (fun e H1 S1 => ?_) (fun e => by cases e)
      · rw [decide_eq_false hn] at z
        cases z
      · rw [decide_eq_false hn]
        rfl
      · exact hE H1 S1
    · subst ev
      refine qs_if (b := true) ((evt_or (evt_b (ev_neT (ev_type (ev_var rfl) (.tup hS)) ev_c (by decide) (by decide))) fun _ => evt_b (ev_neI (ev_lenT (ev_var rfl) hS) ev_c)).to ?_) (fun e H1 S1 => ?_) (fun e => by cases e)
      · rw [decide_eq_false (show ¬ ((xs.length : Int) = 3) by omega)]
        rfl
      · exact hE H1 S1
    · subst ev
      refine qs_if (evt_or (evt_b (ev_neT (ev_type (ev_var rfl) (.tup hS)) ev_c (by decide) (by decide))) fun _ => evt_b (ev_neI (ev_lenT (ev_var rfl) hS) ev_c)) (fun e H1 S1 => ?_) (fun e H1 S1 => ?_)
      · exact absurd e (by simp)
      · refine qs_tup (ev_var rfl) (S1.sqt hS) rfl fun H2 S2 => ?_
        have S02 := S1.trans S2
        refine ⟨x, _, rfl, y, _, rfl, z, _, rfl, rfl, ?_⟩
        show tSeq _ _ _ (some (.ref a) :: some x :: some y :: some z :: []) H2
        refine qs_if (evt_not (evt_b (ev_side (ev_var rfl) (kx.sm S02)))) (fun e H3 S3 => ?_) (fun e H3 S3 => ?_)
        · exact hb (by unfold goodV; rw [show sideV x = false by simpa using e]; rfl) H3 (S02.trans S3)
        · have gx : sideV x = true := by simpa using e
          have S03 := S02.trans S3
          refine qs_if (evt_not (evt_b (ev_num (ev_var rfl) ev_c ev_c (ky.sm S03)))) (fun e H4 S4 => ?_) (fun e H4 S4 => ?_)
          · exact js2 _ ev_c (by decide) (by decide) (by decide +kernel) fun H5 S5 => hb (by unfold goodV; rw [gx, show numV 0 1000000000 y = false by simpa using e]; rfl) H5 (S03.trans (S4.trans S5))
          · have gy : numV 0 1000000000 y = true := by simpa using e
            have S04 := S03.trans S4
            refine qs_if (evt_not (evt_b (ev_num (ev_var rfl) ev_c ev_c (kz.sm S04)))) (fun e H5 S5 => ?_) (fun e H5 S5 => ?_)
            · exact js2 _ ev_c (by decide) (by decide) (by decide +kernel) fun H6 S6 => hb (by unfold goodV; rw [gx, gy, show numV 1 1000000 z = false by simpa using e]; rfl) H6 (S04.trans (S5.trans S6))
            · have gz : numV 1 1000000 z = true := by simpa using e
              refine q_ret (ev_var rfl) fun H6 S6 => ?_
              exact hg (by unfold goodV; rw [gx, gy, gz]; rfl) H6 (S04.trans (S5.trans S6))

/-! ### _law_spoilt -/
theorem side_good (b : Bool) : sideV (.str (sideS b)) = true := by cases b <;> decide
theorem bad3 {K : PySem.W.Frag} {H : Hp} {a : Addr} {x y z : V} (h : SqT K H a [x, y, z]) (kx : Kn K x H) (ky : Kn K y H) (kz : Kn K z H) (g : sideV x = false ∨ numV 0 1000000000 y = false ∨ numV 1 1000000 z = false) : BadV K (.ref a) H := by
  refine .inr ⟨a, [x, y, z], rfl, h, .inr ⟨x, y, z, rfl, kx, ky, kz, ?_⟩⟩
  unfold goodV
  rcases g with g | g | g
  · rw [g]; rfl
  · rw [g]; cases sideV x <;> rfl
  · rw [g, Bool.and_false, Bool.and_false]
theorem bad_stab {K : PySem.W.Frag} : Stab (BadV K) := fun v H H' S h => h.sm S
def spSpoilt (K : PySem.W.Frag) : Sp := fun vs H Q _ => ∃ (b : Bool) (l m way c : Int), vs = [.str (sideS b), .int l, .int m, .int way, .int c] ∧ 6 ≤ way ∧ ∀ v H', Sm H H' → BadV K v H' → Q v H'
theorem evp_spoilt {K : PySem.W.Frag} {σ : L2.St} {H : Hp} {ta tb tc td te : TE} {E : XK} {b : Bool} {l m way c : Int} (h1 : Ev ta σ H (.str (sideS b))) (h2 : Ev tb σ H (.int l)) (h3 : Ev tc σ H (.int m)) (h4 : Ev td σ H (.int way)) (h5 : Ev te σ H (.int c)) (h6 : 6 ≤ way) :
    EvP (tCall (spSpoilt K) [] E (tCons ta (tCons tb (tCons tc (tCons td (tCons te tNil)))))) σ H (BadV K) :=
  evp_call (evl_cons h1 (evl_cons h2 (evl_cons h3 (evl_cons h4 (evl_cons h5 evl_nil))))) fun H1 S Q q => ⟨b, l, m, way, c, rfl, h6, fun v H' S' h => q v H' S' h⟩
local macro_rules | `(tactic| walk_at "mn") => `(tactic| first
  | exact evps_nil
  | (refine evps_cons KnNo.stab (ev_c.pp fun _ _ => ⟨by first | exact kn_non | exact kn_bl | exact kn_int | exact kn_str, by decide +kernel⟩) ?_; walk_at "mn")
  | (refine evps_cons KnNo.stab (evp_tupNo (evl_cons ev_c evl_nil) (by decide) fun _ => rfl) ?_; walk_at "mn"))
theorem ok__law_spoilt (T : Txt K mg) : FnOk P w K mg base CX0 1 T.f__law_spoilt T.d__law_spoilt ["_law_side", "_law_limit", "_law_amount", "_law_way", "_law_cell"] (spSpoilt K) := by
  refine T.D__law_spoilt.F.ok sc__law_spoilt (fun vs H Q E h => ?_) (fun cdv A outer s H vs Q E hr h => ?_)
  · obtain ⟨b, l, m, way, c, rfl, _⟩ := h
    rfl
  · obtain ⟨b, l, m, way, c, rfl, hw, q⟩ := h
    refine ⟨_, (pss_cons (ps_if (pt_cmpR op_eq (pv 3) pe_int (nomark _))
    (pss_one (ps_ret (pe_lst (pa_cons (pv 0) (pa_cons (pv 1) (pa_cons (pv 2) pa_nil))))))
    pss_nil)
  (pss_cons (ps_if (pt_cmpR op_eq (pv 3) pe_int (nomark _))
    (pss_one (ps_ret (pe_tup (pa_cons (pv 0) (pa_cons (pv 1) pa_nil)))))
    pss_nil)
  (pss_cons (ps_if (pt_cmpR op_eq (pv 3) pe_int (nomark _))
    (pss_one (ps_ret (pe_tup (pa_cons (pv 0) (pa_cons (pv 1) (pa_cons (pv 2) (pa_cons (pv 2) pa_nil)))))))
    pss_nil)
  (pss_cons (ps_if (pt_cmpR op_eq (pv 3) pe_int (nomark _))
    (pss_one (ps_ret (pe_tup (pa_cons (pe_ix ix_list (pe_lst (pa_cons pe_str (pa_cons pe_str (pa_cons pe_str (pa_cons pe_str (pa_cons pe_str (pa_cons pe_str pa_nil))))))) (pe_op op_mod (pv 4) pe_int) (fun _ _ => rfl)) (pa_cons (pv 1) (pa_cons (pv 2) pa_nil))))))
    pss_nil)
  (pss_cons (ps_if (pt_cmpR op_eq (pv 3) pe_int (nomark _))
    (pss_one (ps_ret (pe_tup (pa_cons (pe_ix ix_list (pe_lst (pa_cons pe_non (pa_cons pe_int (pa_cons pe_bl (pa_cons (pe_tup (pa_cons pe_str pa_nil)) pa_nil))))) (pe_op op_mod (pv 4) pe_int) (fun _ _ => rfl)) (pa_cons (pv 1) (pa_cons (pv 2) pa_nil))))))
    pss_nil)
  (pss_cons (ps_if (pt_cmpR op_eq (pv 3) pe_int (nomark _))
    (pss_one (ps_ret (pe_tup (pa_cons (pv 0) (pa_cons (pe_op op_sub (pe_un un_neg pe_int) (pe_op op_mod (pv 4) pe_int)) (pa_cons (pv 2) pa_nil))))))
    pss_nil)
  (pss_cons (ps_if (pt_cmpR op_eq (pv 3) pe_int (nomark _))
    (pss_one (ps_ret (pe_tup (pa_cons (pv 0) (pa_cons (pe_op op_add pe_int (pe_op op_mod (pv 4) pe_int)) (pa_cons (pv 2) pa_nil))))))
    pss_nil)
  (pss_cons (ps_if (pt_cmpR op_eq (pv 3) pe_int (nomark _))
    (pss_one (ps_ret (pe_tup (pa_cons (pv 0) (pa_cons (pe_ix ix_list (pe_lst (pa_cons pe_bl (pa_cons pe_bl (pa_cons pe_non (pa_cons pe_str (pa_cons (pe_tup (pa_cons pe_int pa_nil)) pa_nil)))))) (pe_op op_mod (pv 4) pe_int) (fun _ _ => rfl)) (pa_cons (pv 2) pa_nil))))))
    pss_nil)
  (pss_cons (ps_if (pt_cmpR op_eq (pv 3) pe_int (nomark _))
    (pss_one (ps_ret (pe_tup (pa_cons (pv 0) (pa_cons (pv 1) (pa_cons (pe_op op_sub pe_int (pe_op op_mod (pv 4) pe_int)) pa_nil))))))
    pss_nil)
  (pss_cons (ps_if (pt_cmpR op_eq (pv 3) pe_int (nomark _))
    (pss_one (ps_ret (pe_tup (pa_cons (pv 0) (pa_cons (pv 1) (pa_cons (pe_op op_add pe_int (pe_op op_mod (pv 4) pe_int)) pa_nil))))))
    pss_nil)
  (pss_cons (ps_if (pt_cmpR op_eq (pv 3) pe_int (nomark _))
    (pss_one (ps_ret (pe_tup (pa_cons (pv 0) (pa_cons (pv 1) (pa_cons (pe_ix ix_list (pe_lst (pa_cons pe_bl (pa_cons pe_non (pa_cons pe_str (pa_cons pe_bl pa_nil))))) (pe_op op_mod (pv 4) pe_int) (fun _ _ => rfl)) pa_nil))))))
    pss_nil)
  (pss_cons (ps_if (pt_cmpR op_eq (pv 3) pe_int (nomark _))
    (pss_one (ps_ret (pe_tup (pa_cons (pv 0) (pa_cons pe_int (pa_cons (pv 2) pa_nil))))))
    pss_nil)
  (pss_cons (ps_if (pt_cmpR op_eq (pv 3) pe_int (nomark _))
    (pss_one (ps_ret (pe_tup (pa_cons (pv 0) (pa_cons (pv 1) (pa_cons pe_int pa_nil))))))
    pss_nil)
  (pss_cons (ps_if (pt_cmpR op_eq (pv 3) pe_int (nomark _))
    (pss_one (ps_ret (pe_tup (pa_cons (pv 0) (pa_cons (pe_un un_neg pe_int) (pa_cons (pv 2) pa_nil))))))
    pss_nil)
  (pss_cons (ps_if (pt_cmpR op_eq (pv 3) pe_int (nomark _))
    (pss_one (ps_ret (pe_ix ix_list (pe_lst (pa_cons pe_non (pa_cons pe_str (pa_cons pe_int (pa_cons pe_bl (pa_cons pe_dnewK (pa_cons (pe_tup pa_nil) pa_nil))))))) (pe_op op_mod (pv 4) pe_int) (fun _ _ => rfl))))
    pss_nil)
  (pss_one (ps_ret (pe_tup (pa_cons (pv 1) (pa_cons (pv 0) (pa_cons (pv 2) pa_nil))))))))))))))))))))), ?_⟩
    try dsimp only [cxOf, Cx.nox, Cx.wish]
    have S0 : Sm H H := Sm.refl H
    refine qs_if (by walk_at "et") (fun e H6 S6 => ?_) (fun e H6 S6 => ?_)
    · have T0 := S0.trans S6
      refine q_retP (evp_lstV (K := K) (evl_cons (ev_var rfl) (evl_cons (ev_var rfl) (evl_cons (ev_var rfl) evl_nil))) (by show 3 ≤ sizeLine; decide)) fun v H2 S2 hv => ?_
      obtain ⟨a, rfl, h⟩ := hv
      exact q _ H2 (T0.trans S2) (.inl ⟨_, .lst h, by decide, by decide⟩)
    have S0 := S0.trans S6
    refine qs_if (by walk_at "et") (fun e H7 S7 => ?_) (fun e H7 S7 => ?_)
    · have T0 := S0.trans S7
      refine q_retP (evp_tupV (K := K) (evl_cons (ev_var rfl) (evl_cons (ev_var rfl) evl_nil)) (by show 2 ≤ sizeLine; decide)) fun v H2 S2 hv => ?_
      obtain ⟨a, rfl, h⟩ := hv
      exact q _ H2 (T0.trans S2) (.inr ⟨_, _, rfl, h, .inl (by simp)⟩)
    have S0 := S0.trans S7
    refine qs_if (by walk_at "et") (fun e H8 S8 => ?_) (fun e H8 S8 => ?_)
    · have T0 := S0.trans S8
      refine q_retP (evp_tupV (K := K) (evl_cons (ev_var rfl) (evl_cons (ev_var rfl) (evl_cons (ev_var rfl) (evl_cons (ev_var rfl) evl_nil)))) (by show 4 ≤ sizeLine; decide)) fun v H2 S2 hv => ?_
      obtain ⟨a, rfl, h⟩ := hv
      exact q _ H2 (T0.trans S2) (.inr ⟨_, _, rfl, h, .inl (by simp)⟩)
    have S0 := S0.trans S8
    refine qs_if (by walk_at "et") (fun e H9 S9 => ?_) (fun e H9 S9 => ?_)
    · have T0 := S0.trans S9
      refine q_retP (evp_tup1 (K := K) (P := KnNo K sideV) KnNo.stab (evp_menu (n := 6) KnNo.stab (by walk_at "mn") (by walk_at "ev") (by omega) (by omega) (by decide)) (ev_var rfl) (ev_var rfl)) fun v H2 S2 hv => ?_
      obtain ⟨a, x, rfl, h, hx⟩ := hv
      exact q _ H2 (T0.trans S2) (bad3 h hx.1 kn_int kn_int (.inl hx.2))
    have S0 := S0.trans S9
    refine qs_if (by walk_at "et") (fun e H10 S10 => ?_) (fun e H10 S10 => ?_)
    · have T0 := S0.trans S10
      refine q_retP (evp_tup1 (K := K) (P := KnNo K sideV) KnNo.stab (evp_menu (n := 4) KnNo.stab (by walk_at "mn") (by walk_at "ev") (by omega) (by omega) (by decide)) (ev_var rfl) (ev_var rfl)) fun v H2 S2 hv => ?_
      obtain ⟨a, x, rfl, h, hx⟩ := hv
      exact q _ H2 (T0.trans S2) (bad3 h hx.1 kn_int kn_int (.inl hx.2))
    have S0 := S0.trans S10
    refine qs_if (by walk_at "et") (fun e H11 S11 => ?_) (fun e H11 S11 => ?_)
    · have T0 := S0.trans S11
      refine q_retP (evp_tupV (K := K) (evl_cons (ev_var rfl) (evl_cons (by walk_at "ev") (evl_cons (ev_var rfl) evl_nil))) (by show 3 ≤ sizeLine; decide)) fun v H2 S2 hv => ?_
      obtain ⟨a, rfl, h⟩ := hv
      exact q _ H2 (T0.trans S2) (bad3 h kn_str kn_int kn_int (.inr (.inl (numV_lt (by omega)))))
    have S0 := S0.trans S11
    refine qs_if (by walk_at "et") (fun e H12 S12 => ?_) (fun e H12 S12 => ?_)
    · have T0 := S0.trans S12
      refine q_retP (evp_tupV (K := K) (evl_cons (ev_var rfl) (evl_cons (by walk_at "ev") (evl_cons (ev_var rfl) evl_nil))) (by show 3 ≤ sizeLine; decide)) fun v H2 S2 hv => ?_
      obtain ⟨a, rfl, h⟩ := hv
      exact q _ H2 (T0.trans S2) (bad3 h kn_str kn_int kn_int (.inr (.inl (numV_gt (by omega)))))
    have S0 := S0.trans S12
    refine qs_if (by walk_at "et") (fun e H13 S13 => ?_) (fun e H13 S13 => ?_)
    · have T0 := S0.trans S13
      refine q_retP (evp_tup2 (K := K) (P := KnNo K (numV 0 1000000000)) KnNo.stab (ev_var rfl) (evp_menu (n := 5) KnNo.stab (by walk_at "mn") (by walk_at "ev") (by omega) (by omega) (by decide)) (ev_var rfl)) fun v H2 S2 hv => ?_
      obtain ⟨a, x, rfl, h, hx⟩ := hv
      exact q _ H2 (T0.trans S2) (bad3 h kn_str hx.1 kn_int (.inr (.inl hx.2)))
    have S0 := S0.trans S13
    refine qs_if (by walk_at "et") (fun e H14 S14 => ?_) (fun e H14 S14 => ?_)
    · have T0 := S0.trans S14
      refine q_retP (evp_tupV (K := K) (evl_cons (ev_var rfl) (evl_cons (ev_var rfl) (evl_cons (by walk_at "ev") evl_nil))) (by show 3 ≤ sizeLine; decide)) fun v H2 S2 hv => ?_
      obtain ⟨a, rfl, h⟩ := hv
      exact q _ H2 (T0.trans S2) (bad3 h kn_str kn_int kn_int (.inr (.inr (numV_lt (by omega)))))
    have S0 := S0.trans S14
    refine qs_if (by walk_at "et") (fun e H15 S15 => ?_) (fun e H15 S15 => ?_)
    · have T0 := S0.trans S15
      refine q_retP (evp_tupV (K := K) (evl_cons (ev_var rfl) (evl_cons (ev_var rfl) (evl_cons (by walk_at "ev") evl_nil))) (by show 3 ≤ sizeLine; decide)) fun v H2 S2 hv => ?_
      obtain ⟨a, rfl, h⟩ := hv
      exact q _ H2 (T0.trans S2) (bad3 h kn_str kn_int kn_int (.inr (.inr (numV_gt (by omega)))))
    have S0 := S0.trans S15
    refine qs_if (by walk_at "et") (fun e H16 S16 => ?_) (fun e H16 S16 => ?_)
    · have T0 := S0.trans S16
      refine q_retP (evp_tup3 (K := K) (P := KnNo K (numV 1 1000000)) KnNo.stab (ev_var rfl) (ev_var rfl) (evp_menu (n := 4) KnNo.stab (by walk_at "mn") (by walk_at "ev") (by omega) (by omega) (by decide))) fun v H2 S2 hv => ?_
      obtain ⟨a, x, rfl, h, hx⟩ := hv
      exact q _ H2 (T0.trans S2) (bad3 h kn_str kn_int hx.1 (.inr (.inr hx.2)))
    have S0 := S0.trans S16
    refine qs_if (by walk_at "et") (fun e H17 S17 => ?_) (fun e H17 S17 => ?_)
    · have T0 := S0.trans S17
      refine q_retP (evp_tupV (K := K) (evl_cons (ev_var rfl) (evl_cons (by walk_at "ev") (evl_cons (ev_var rfl) evl_nil))) (by show 3 ≤ sizeLine; decide)) fun v H2 S2 hv => ?_
      obtain ⟨a, rfl, h⟩ := hv
      exact q _ H2 (T0.trans S2) (bad3 h kn_str kn_int kn_int (.inr (.inl (numV_gt (by omega)))))
    have S0 := S0.trans S17
    refine qs_if (by walk_at "et") (fun e H18 S18 => ?_) (fun e H18 S18 => ?_)
    · have T0 := S0.trans S18
      refine q_retP (evp_tupV (K := K) (evl_cons (ev_var rfl) (evl_cons (ev_var rfl) (evl_cons (by walk_at "ev") evl_nil))) (by show 3 ≤ sizeLine; decide)) fun v H2 S2 hv => ?_
      obtain ⟨a, rfl, h⟩ := hv
      exact q _ H2 (T0.trans S2) (bad3 h kn_str kn_int kn_int (.inr (.inr (numV_gt (by omega)))))
    have S0 := S0.trans S18
    refine qs_if (by walk_at "et") (fun e H19 S19 => ?_) (fun e H19 S19 => ?_)
    · have T0 := S0.trans S19
      refine q_retP (evp_tupV (K := K) (evl_cons (ev_var rfl) (evl_cons (by walk_at "ev") (evl_cons (ev_var rfl) evl_nil))) (by show 3 ≤ sizeLine; decide)) fun v H2 S2 hv => ?_
      obtain ⟨a, rfl, h⟩ := hv
      exact q _ H2 (T0.trans S2) (bad3 h kn_str kn_int kn_int (.inr (.inl (numV_lt (by omega)))))
    have S0 := S0.trans S19
    refine qs_if (by walk_at "et") (fun e H20 S20 => ?_) (fun e H20 S20 => ?_)
    · have T0 := S0.trans S20
      refine q_retP (P := BadV K) (evp_menu (n := 6) bad_stab ?_ (by walk_at "ev") (by omega) (by omega) (by decide)) fun v H2 S2 hv => q v H2 (T0.trans S2) hv
      refine evps_cons bad_stab (ev_c.pp fun _ _ => .inl ⟨_, .non, by decide, by decide⟩) ?_
      refine evps_cons bad_stab (ev_c.pp fun _ _ => .inl ⟨_, .str _, by decide, by decide⟩) ?_
      refine evps_cons bad_stab (ev_c.pp fun _ _ => .inl ⟨_, .int _, by decide, by decide⟩) ?_
      refine evps_cons bad_stab (ev_c.pp fun _ _ => .inl ⟨_, .bl _, by decide, by decide⟩) ?_
      refine evps_cons bad_stab (evp_dnew.to fun v H' S ⟨a, e, h⟩ => .inl ⟨"dict", by rw [e]; exact .dK h, by decide, by decide⟩) ?_
      refine evps_cons bad_stab ((evp_tupV (K := K) evl_nil (by decide)).to fun v H' S ⟨a, e, h⟩ => .inr ⟨a, _, e, h, .inl (by simp)⟩) ?_
      exact evps_nil
    have S0 := S0.trans S20
    refine q_retP (evp_tupV (K := K) (evl_cons (ev_var rfl) (evl_cons (ev_var rfl) (evl_cons (ev_var rfl) evl_nil))) (by show 3 ≤ sizeLine; decide)) fun v H2 S2 hv => ?_
    obtain ⟨a, rfl, h⟩ := hv
    exact q _ H2 (S0.trans S2) (bad3 h kn_int kn_str kn_int (.inl rfl))

theorem side_at {i : Int} (h0 : 0 ≤ i) (h1 : i < 2) : atI [V.str (PySem.Str.ofString "buy"), V.str (PySem.Str.ofString "sell")] i = some (.str (sideS (decide (i = 0)))) := by
  have h : i = 0 ∨ i = 1 := by omega
  rcases h with rfl | rfl <;> rfl
theorem shaped_wish (w : Wish) : SeqAt.shaped w.data = true := by
  simp [SeqAt.shaped, canLay_wish, depth_wish]
set_option maxHeartbeats 4000000 in
theorem ok_law (T : Txt K mg) : FnOk P w K mg base CX0 20 T.f_law T.d_law ["_law_script"] (SpLaw K []) := by
  have G__law_cell_at : FnOk P w K mg base CX0 1 T.f__law_cell_at T.d__law_cell_at ["_law_script", "_law_k"] (spCell K) := ok__law_cell_at T
  have G__law_whole : FnOk P w K mg base CX0 1 T.f__law_whole T.d__law_whole ["_law_thing"] (spWhole K) := ok__law_whole T
  have G__law_spoilt : FnOk P w K mg base CX0 1 T.f__law_spoilt T.d__law_spoilt ["_law_side", "_law_limit", "_law_amount", "_law_way", "_law_cell"] (spSpoilt K) := ok__law_spoilt T
  have G_checked : FnOk P w K mg base (L2.CX P w) 3 T.f_checked T.d_checked ["thing"] (spChecked K T.a_BadWish) := ok_checked T
  refine T.D_law.F.ok sc_law (fun vs H Q E h => ?_) (fun cdv A outer s H vs Q E hr h => ?_)
  · obtain ⟨a, ns, rfl, _⟩ := h
    rfl
  · obtain ⟨a, ns, rfl, hS, hlen, hT, q⟩ := h
    refine ⟨_, (pss_cons (ps_set (i := 1) sc_law.nd rfl (.inl rfl) (pe_call G__law_cell_at (hr.mono (by decide)) (by rfl) T.D__law_cell_at.g T.D__law_cell_at.F.kp T.D__law_cell_at.b .nil pass0 (pa_cons (pv 0) (pa_cons pe_int pa_nil))))
  (pss_cons (ps_set (i := 2) sc_law.nd rfl (.inl rfl) (pe_ix ix_list (pe_lst (pa_cons pe_str (pa_cons pe_str pa_nil))) (pe_op op_mod (pe_call G__law_cell_at (hr.mono (by decide)) (by rfl) T.D__law_cell_at.g T.D__law_cell_at.F.kp T.D__law_cell_at.b .nil pass0 (pa_cons (pv 0) (pa_cons pe_int pa_nil))) pe_int) (fun _ _ => rfl)))
  (pss_cons (ps_set (i := 3) sc_law.nd rfl (.inl rfl) (pe_op op_mod (pv 1) pe_int))
  (pss_cons (ps_set (i := 4) sc_law.nd rfl (.inl rfl) (pe_op op_add pe_int (pe_op op_mod (pe_call G__law_cell_at (hr.mono (by decide)) (by rfl) T.D__law_cell_at.g T.D__law_cell_at.F.kp T.D__law_cell_at.b .nil pass0 (pa_cons (pv 0) (pa_cons pe_int pa_nil))) pe_int)))
  (pss_cons (ps_if (pt_cmpR op_eq (pe_op op_mod (pe_call G__law_cell_at (hr.mono (by decide)) (by rfl) T.D__law_cell_at.g T.D__law_cell_at.F.kp T.D__law_cell_at.b .nil pass0 (pa_cons (pv 0) (pa_cons pe_int pa_nil))) pe_int) pe_int (nomark _))
    (pss_one (ps_set (i := 3) sc_law.nd rfl (.inl rfl) (pe_ix ix_list (pe_lst (pa_cons pe_int (pa_cons pe_int (pa_cons pe_int (pa_cons pe_int pa_nil))))) (pe_op op_mod (pe_op op_fdiv (pe_call G__law_cell_at (hr.mono (by decide)) (by rfl) T.D__law_cell_at.g T.D__law_cell_at.F.kp T.D__law_cell_at.b .nil pass0 (pa_cons (pv 0) (pa_cons pe_int pa_nil))) pe_int) pe_int) (fun _ _ => rfl))))
    pss_nil)
  (pss_cons (ps_if (pt_cmpR op_eq (pe_op op_mod (pe_call G__law_cell_at (hr.mono (by decide)) (by rfl) T.D__law_cell_at.g T.D__law_cell_at.F.kp T.D__law_cell_at.b .nil pass0 (pa_cons (pv 0) (pa_cons pe_int pa_nil))) pe_int) pe_int (nomark _))
    (pss_one (ps_set (i := 4) sc_law.nd rfl (.inl rfl) (pe_ix ix_list (pe_lst (pa_cons pe_int (pa_cons pe_int (pa_cons pe_int (pa_cons pe_int pa_nil))))) (pe_op op_mod (pe_op op_fdiv (pe_call G__law_cell_at (hr.mono (by decide)) (by rfl) T.D__law_cell_at.g T.D__law_cell_at.F.kp T.D__law_cell_at.b .nil pass0 (pa_cons (pv 0) (pa_cons pe_int pa_nil))) pe_int) pe_int) (fun _ _ => rfl))))
    pss_nil)
  (pss_cons (ps_set (i := 5) sc_law.nd rfl (.inl rfl) (pe_op op_mod (pe_call G__law_cell_at (hr.mono (by decide)) (by rfl) T.D__law_cell_at.g T.D__law_cell_at.F.kp T.D__law_cell_at.b .nil pass0 (pa_cons (pv 0) (pa_cons pe_int pa_nil))) pe_int))
  (pss_cons (ps_set (i := 6) sc_law.nd rfl (.inl rfl) (pe_tup (pa_cons (pv 2) (pa_cons (pv 3) (pa_cons (pv 4) pa_nil)))))
  (pss_cons (ps_if (pt_cmpR op_ge (pv 5) pe_int (nomark _))
    (pss_one (ps_set (i := 6) sc_law.nd rfl (.inl rfl) (pe_call G__law_spoilt (hr.mono (by decide)) (by rfl) T.D__law_spoilt.g T.D__law_spoilt.F.kp T.D__law_spoilt.b .nil pass0 (pa_cons (pv 2) (pa_cons (pv 3) (pa_cons (pv 4) (pa_cons (pv 5) (pa_cons (pe_call G__law_cell_at (hr.mono (by decide)) (by rfl) T.D__law_cell_at.g T.D__law_cell_at.F.kp T.D__law_cell_at.b .nil pass0 (pa_cons (pv 0) (pa_cons pe_int pa_nil))) pa_nil))))))))
    pss_nil)
  (pss_cons (ps_set (i := 7) sc_law.nd rfl (.inl rfl) pe_non)
  (pss_cons (ps_set (i := 8) sc_law.nd rfl (.inl rfl) pe_bl)
  (pss_cons (ps_try_as (i := 9) (Wout := fun _ _ _ _ => False) rfl rfl sc_law.nd rfl rfl ⟨rfl, by decide, Or.inl T.g_BidError⟩ takes0
    (fun W pn xe tk _ => (pss_one (ps_set (i := 7) sc_law.nd rfl (.inl rfl) (pe_callS G_checked (hr.mono (by decide)) (by rfl) T.D_checked.g T.D_checked.F.kp T.D_checked.b (fun σ => passAt tk σ) (pa_cons (pv 6) pa_nil)))))
    (fun a oe cls d pn hz hf => (pss_cons (ps_set (i := 8) sc_law.nd rfl (.inl rfl) (pe_cmpR op_eq (pe_callE (a := a) (oe := oe) T.D__law_names.F sc__law_names T.D__law_names.b (by rfl) T.D__law_names.g (L2H.roomH_of (k := 1) (hr.mono (by decide))) (fun cdv A outer s H => (pss_cons (ps_set (i := 1) sc__law_names.nd rfl (.inl rfl) pe_str)
  (pss_cons (ps_if (pt_val (pe_callB (call_isX (K := K) (a := a) (oe := oe) rfl List.mem_cons_self hz hf) (by rfl) T.n_isinstance (by decide +kernel) (pa_cons (pv 0) (pa_cons (pe_glob (v := .ref T.a_BadWish) (by rfl) T.g_BadWish rfl) pa_nil))))
    (pss_one (ps_set (i := 1) sc__law_names.nd rfl (.inl rfl) (pe_op op_add_str (pv 1) pe_str)))
    pss_nil)
  (pss_cons (ps_if (pt_val (pe_callB (call_isX (K := K) (a := a) (oe := oe) rfl List.mem_cons_self hz hf) (by rfl) T.n_isinstance (by decide +kernel) (pa_cons (pv 0) (pa_cons (pe_glob (v := .ref T.a_BadPrice) (by rfl) T.g_BadPrice rfl) pa_nil))))
    (pss_one (ps_set (i := 1) sc__law_names.nd rfl (.inl rfl) (pe_op op_add_str (pv 1) pe_str)))
    pss_nil)
  (pss_cons (ps_if (pt_val (pe_callB (call_isX (K := K) (a := a) (oe := oe) rfl List.mem_cons_self hz hf) (by rfl) T.n_isinstance (by decide +kernel) (pa_cons (pv 0) (pa_cons (pe_glob (v := .ref T.a_BadPieces) (by rfl) T.g_BadPieces rfl) pa_nil))))
    (pss_one (ps_set (i := 1) sc__law_names.nd rfl (.inl rfl) (pe_op op_add_str (pv 1) pe_str)))
    pss_nil)
  (pss_cons (ps_if (pt_val (pe_callB (call_isX (K := K) (a := a) (oe := oe) rfl List.mem_cons_self hz hf) (by rfl) T.n_isinstance (by decide +kernel) (pa_cons (pv 0) (pa_cons (pe_glob (v := .ref T.a_Uneven) (by rfl) T.g_Uneven rfl) pa_nil))))
    (pss_one (ps_set (i := 1) sc__law_names.nd rfl (.inl rfl) (pe_op op_add_str (pv 1) pe_str)))
    pss_nil)
  (pss_cons (ps_if (pt_val (pe_callB (call_isX (K := K) (a := a) (oe := oe) rfl List.mem_cons_self hz hf) (by rfl) T.n_isinstance (by decide +kernel) (pa_cons (pv 0) (pa_cons (pe_glob (v := .ref T.a_NoSuch) (by rfl) T.g_NoSuch rfl) pa_nil))))
    (pss_one (ps_set (i := 1) sc__law_names.nd rfl (.inl rfl) (pe_op op_add_str (pv 1) pe_str)))
    pss_nil)
  (pss_cons (ps_if (pt_val (pe_callB (call_isX (K := K) (a := a) (oe := oe) rfl List.mem_cons_self hz hf) (by rfl) T.n_isinstance (by decide +kernel) (pa_cons (pv 0) (pa_cons (pe_glob (v := .ref T.a_Unread) (by rfl) T.g_Unread rfl) pa_nil))))
    (pss_one (ps_set (i := 1) sc__law_names.nd rfl (.inl rfl) (pe_op op_add_str (pv 1) pe_str)))
    pss_nil)
  (pss_cons (ps_if (pt_not (pt_val (pe_callB (call_isX (K := K) (a := a) (oe := oe) rfl List.mem_cons_self hz hf) (by rfl) T.n_isinstance (by decide +kernel) (pa_cons (pv 0) (pa_cons (pe_bltn (v := .ty "ValueError") (by rfl) T.n_ValueError (by decide +kernel) rfl) pa_nil)))))
    (pss_one (ps_set (i := 1) sc__law_names.nd rfl (.inl rfl) pe_str))
    pss_nil)
  (pss_one (ps_ret (pv 1)))))))))))) (pa_cons (pv 9) pa_nil)) pe_str (nomark _)))
  (pss_one (ps_if (pt_not (pt_val (pv 8)))
    (pss_one (ps_ret pe_bl))
    pss_nil)))))
  (pss_cons (ps_if (pt_cmpR op_ge (pv 5) pe_int (nomark _))
    (pss_one (ps_ret (pv 8)))
    pss_nil)
  (pss_cons (ps_if (PW.pt (pw_or (pt_val (pv 8)) (pw_or (pt_not (pt_val (pe_callB call_isi (by rfl) T.n_isinstance (by decide +kernel) (pa_cons (pv 7) (pa_cons (pe_bltn (v := .ty "tuple") (by rfl) T.n_tuple (by decide +kernel) rfl) pa_nil))))) (pw_or (pt_cmpR op_ne (pe_callB call_len_seq (by rfl) T.n_len PySem.boot_len (pa_cons (pv 7) pa_nil)) pe_int (nomark _)) (pw_or1 (pt_not (pt_val (pe_callB call_isi (by rfl) T.n_isinstance (by decide +kernel) (pa_cons (pe_ix ix_tup (pv 7) pe_int (fun _ _ => rfl)) (pa_cons (pe_bltn (v := .ty "str") (by rfl) T.n_str (by decide +kernel) rfl) pa_nil))))))))))
    (pss_one (ps_ret pe_bl))
    pss_nil)
  (pss_one (ps_ret (pe_and (pe_call G__law_whole (hr.mono (by decide)) (by rfl) T.D__law_whole.g T.D__law_whole.F.kp T.D__law_whole.b .nil pass0 (pa_cons (pe_ix ix_tup (pv 7) pe_int (fun _ _ => rfl)) pa_nil)) (pe_and (pe_call G__law_whole (hr.mono (by decide)) (by rfl) T.D__law_whole.g T.D__law_whole.F.kp T.D__law_whole.b .nil pass0 (pa_cons (pe_ix ix_tup (pv 7) pe_int (fun _ _ => rfl)) pa_nil)) (pe_one (pe_cmpR (op_eqD hr.units) (pv 7) (pv 6) (nomark _))))))))))))))))))))), ?_⟩
    try dsimp only [cxOf, Cx.nox, Cx.wish]
    refine qs_setI (by walk_at "ev") fun c hc H1 S1 => ?_
    refine qs_set (ev_ixLP (evp_lstV (K := K) (evl_cons ev_c (evl_cons ev_c evl_nil)) (by decide)) (by walk_at "ev") (side_at (by omega) (by omega))) fun H2 S2 => ?_
    refine qs_setI (by walk_at "ev") fun l1 hl1 H3 S3 => ?_
    refine qs_setI (by walk_at "ev") fun m1 hm1 H4 S4 => ?_
    refine qs_ifsetI (by walk_at "et") rfl (fun _ => by walk_at "ev") fun l hl H5 S5 => ?_
    refine qs_ifsetI (by walk_at "et") rfl (fun _ => by walk_at "ev") fun m hm H6 S6 => ?_
    have hl0 : 0 ≤ l ∧ l ≤ 1000000000 := by
      have k := fun z : Int => menu_all (P := fun z => 0 ≤ z ∧ z ≤ 1000000000) (ns := [(0 : Int), 1000000000, 1, 999999999]) (by decide) (by decide) z.toNat
      rw [hl]
      split
      · exact k _
      · omega
    have hm0 : 1 ≤ m ∧ m ≤ 1000000 := by
      rw [hm]
      split
      · rename_i e
        have k : ∀ j : Nat, j < 4 → 1 ≤ [(1 : Int), 1000000, 2, 999999].getD j 0 ∧ [(1 : Int), 1000000, 2, 999999].getD j 0 ≤ 1000000 := by decide
        exact k _ (by omega)
      · omega
    refine qs_setI (by walk_at "ev") fun way hway H7 S7 => ?_
    refine qs_setP (evp_tup (P := fun vs _ => vs = [.str (sideS (decide (ns.getD 2 0 % 2 = 0))), .int l, .int m]) K (evl_cons (ev_var rfl) (evl_cons (ev_var rfl) (evl_cons (ev_var rfl) evl_nil))) (fun vs H' e => by rw [e]; show 3 ≤ sizeLine; decide) (fun _ _ _ _ e => e)) fun v H8 S8 hv => ?_
    obtain ⟨t, vs, rfl, ht, rfl⟩ := hv
    refine qs_ifsetP (P := fun v H' => (BadV K v H' ∧ 6 ≤ way) ∨ (way < 6 ∧ ∃ t, v = .ref t ∧ H' t = some (.tup [.str (sideS (decide (ns.getD 2 0 % 2 = 0))), .int l, .int m]))) (by walk_at "et") rfl
      (fun e => (evp_spoilt (ev_var rfl) (ev_var rfl) (ev_var rfl) (ev_var rfl) (by walk_at "ev") (of_decide_eq_true e)).to fun v H' S h => .inl ⟨h, of_decide_eq_true e⟩)
      (fun e H' S => .inr ⟨by have := of_decide_eq_false e; omega, t, rfl, S.tup ht⟩) fun v H9 S9 hv => ?_
    refine qs_set ev_c fun H10 S10 => ?_
    refine qs_set ev_c fun H11 S11 => ?_
    refine qs_tryCall (evl_cons (ev_var rfl) evl_nil) fun H12 S12 => ?_
    have S := S10.trans (S11.trans S12)
    rcases hv with ⟨hb, hw⟩ | ⟨hw, t, rfl, ht⟩
    · refine ⟨_, rfl, .inl ⟨hb.sm S, fun H13 S13 => ⟨true, T.X_BadWish_BidError, fun _ x nx => ?_, fun z => nomatch z⟩⟩⟩
      refine qs_set ((ev_eqS (i := (PySem.Str.ofString "wish ")) (ev_callE (evl_cons (ev_var rfl) evl_nil) rfl fun H1 S1 Q q => ?_) ev_c).to (v' := .bl true) (by decide +kernel)) fun H14 S14 => ?_
      · refine qs_set ev_c fun H2 S2 => ?_
        refine qs_ifsetS (evt_b (ev_isX T.R_BadWish.c (ev_var rfl) ev_c (.own _) T.I_BadWish_BadWish)) rfl (fun _ => ev_addS (ev_var rfl) ev_c (by decide +kernel)) fun H3 S3 => ?_
        refine qs_ifsetS (evt_b (ev_isX T.R_BadWish.c (ev_var rfl) ev_c (.own _) T.I_BadWish_BadPrice)) rfl (fun _ => ev_addS (ev_var rfl) ev_c (by decide +kernel)) fun H4 S4 => ?_
        refine qs_ifsetS (evt_b (ev_isX T.R_BadWish.c (ev_var rfl) ev_c (.own _) T.I_BadWish_BadPieces)) rfl (fun _ => ev_addS (ev_var rfl) ev_c (by decide +kernel)) fun H5 S5 => ?_
        refine qs_ifsetS (evt_b (ev_isX T.R_BadWish.c (ev_var rfl) ev_c (.own _) T.I_BadWish_Uneven)) rfl (fun _ => ev_addS (ev_var rfl) ev_c (by decide +kernel)) fun H6 S6 => ?_
        refine qs_ifsetS (evt_b (ev_isX T.R_BadWish.c (ev_var rfl) ev_c (.own _) T.I_BadWish_NoSuch)) rfl (fun _ => ev_addS (ev_var rfl) ev_c (by decide +kernel)) fun H7 S7 => ?_
        refine qs_ifsetS (evt_b (ev_isX T.R_BadWish.c (ev_var rfl) ev_c (.own _) T.I_BadWish_Unread)) rfl (fun _ => ev_addS (ev_var rfl) ev_c (by decide +kernel)) fun H8 S8 => ?_
        refine qs_ifsetS (evt_not (evt_b (ev_isX T.R_BadWish.c (ev_var rfl) ev_c (.ty _) T.V_BadWish))) rfl (fun _ => ev_c) fun H9 S9 => ?_
        refine q_ret (v := .str (PySem.Str.ofString "wish ")) ((ev_var rfl).to (by decide +kernel)) fun H10 S10 => ?_
        exact q H10 (S2.trans (S3.trans (S4.trans (S5.trans (S6.trans (S7.trans (S8.trans (S9.trans S10))))))))
      · refine q_if (evt_not (evt_b (ev_var rfl))) (fun e => by cases e) (fun e H15 S15 => ?_)
        refine q_next ?_
        dsimp only
        refine qs_if (by walk_at "et") (fun e H16 S16 => ?_) (fun e H16 S16 => ?_)
        · refine q_ret (ev_var rfl) fun H17 S17 => q H17
        · have := of_decide_eq_false e
          omega
    · have ht12 := S.tup ht
      have hS12 : SqT K H12 t _ := .inl (.inl ht12)
      refine ⟨_, rfl, .inr ⟨t, _, _, _, rfl, hS12, kn_str, kn_int, kn_int, ?_, fun H13 S13 => ?_⟩⟩
      · unfold goodV
        rw [side_good, numV_in hl0.1 hl0.2, numV_in hm0.1 hm0.2]
        rfl
      · refine qs_if (by walk_at "et") (fun e H14 S14 => ?_) (fun e H14 S14 => ?_)
        · have := of_decide_eq_true e
          omega
        · have ht14 := (S13.trans S14).tup ht12
          have hS14 : SqT K H14 t _ := .inl (.inl ht14)
          refine qs_if (b := false) (EvT.to (evt_or (b := false) (c := false) ?t0 fun _ => EvT.to (evt_or (b := false) (c := false) ?t1 fun _ => EvT.to (evt_or (b := false) (c := false) ?t2 fun _ => ?t3) rfl) rfl) rfl) ?_ (fun e H15 S15 => ?_)
          case t0 => exact evt_b (ev_var rfl)
          case t1 => exact EvT.to (evt_not (evt_b (b := true) (ev_isi (x := .ref t) (u := .type "tuple") (t := .type "tuple") (ev_var rfl) ev_c (.ty "tuple") (fun H' S' => .base (.tup (S'.tup ht14))) (kit_ty (by decide +kernel))))) rfl
          case t2 => exact EvT.to (evt_test (ev_neI (ev_lenT (ev_var rfl) hS14) ev_c)) (by simp)
          case t3 => exact EvT.to (evt_not (evt_b (b := true) (ev_isi (x := .str (sideS (decide (ns.getD 2 0 % 2 = 0)))) (u := .type "str") (t := .type "str") (ev_ixT (ev_var rfl) ev_c hS14 rfl) ev_c (.ty "str") (fun H' S' => .base (.str _)) (kit_ty (by decide +kernel))))) rfl
          · exact fun e => by cases e
          · have hS15 : SqT K H15 t _ := S15.sqt hS14
            have hd : Dp K H15 (.ref t) (Wish.data ⟨decide (ns.getD 2 0 % 2 = 0), l, m⟩) := WishV.dp ⟨t, rfl, hS15⟩
            refine q_ret (ev_and (ev_wholeI (ev_ixT (ev_var rfl) ev_c hS15 rfl)) fun _ => ev_and (ev_wholeI (ev_ixT (ev_var rfl) ev_c hS15 rfl)) fun _ => ev_eqD ((ev_var rfl).d hd) ((ev_var rfl).d hd) (shaped_wish _) (shaped_wish _)) fun H16 S16 => ?_
            rw [eqv_self (shaped_wish _)]
            exact q H16

end
def mkTxt {K : PySem.W.Frag} {h : Heap} {mg : Str → Option Value} (X : K.In h) (G : h.Ns mainGlobals mg)
    {f0 : Addr} {od0 an0 : Option Addr} {sl0 : Array (Option Value)} {oc0 kV0 dc0 pm0 ct0 : Value} {cd0 : Value}
    {f1 : Addr} {od1 an1 : Option Addr} {sl1 : Array (Option Value)} {oc1 kV1 dc1 pm1 ct1 : Value} {cd1 : Value}
    {f2 : Addr} {od2 an2 : Option Addr} {sl2 : Array (Option Value)} {oc2 kV2 dc2 pm2 ct2 : Value} {cd2 : Value}
    {f3 : Addr} {od3 an3 : Option Addr} {sl3 : Array (Option Value)} {oc3 kV3 dc3 pm3 ct3 : Value} {cd3 : Value}
    {f4 : Addr} {od4 an4 : Option Addr} {sl4 : Array (Option Value)} {oc4 kV4 dc4 pm4 ct4 : Value} {cd4 : Value}
    {f5 : Addr} {od5 an5 : Option Addr} {sl5 : Array (Option Value)} {oc5 kV5 dc5 pm5 ct5 : Value} {cd5 : Value}
    {f6 : Addr} {od6 an6 : Option Addr} {sl6 : Array (Option Value)} {oc6 kV6 dc6 pm6 ct6 : Value} {cd6 : Value}
    {f7 : Addr} {od7 an7 : Option Addr} {sl7 : Array (Option Value)} {oc7 kV7 dc7 pm7 ct7 : Value} {cd7 : Value}
    {tTOP : Tok}
    {tMOST : Tok}
    {C0 : Addr}
    {C1 : Addr}
    {C2 : Addr}
    {C3 : Addr}
    {C4 : Addr}
    {C5 : Addr}
    {C6 : Addr}
    (a0 : PySem.W.nsIn K mainGlobals "is_number" = some (some (.ref f0)))
    (l0 : K.lookup f0 = some ⟨oc0, od0, .func (PySem.W.fnOf "is_number" "is_number" (defArgs s_is_number) (defBody s_is_number) (defScope s_is_number) .none kV0 dc0 pm0 an0 cd0 ct0), sl0⟩)
    (c0 : PySem.W.codeIn K cd0 "is_number" = true) (k0 : PySem.W.keepIn K (.ref f0) = true)
    (a1 : PySem.W.nsIn K mainGlobals "is_side" = some (some (.ref f1)))
    (l1 : K.lookup f1 = some ⟨oc1, od1, .func (PySem.W.fnOf "is_side" "is_side" (defArgs s_is_side) (defBody s_is_side) (defScope s_is_side) .none kV1 dc1 pm1 an1 cd1 ct1), sl1⟩)
    (c1 : PySem.W.codeIn K cd1 "is_side" = true) (k1 : PySem.W.keepIn K (.ref f1) = true)
    (a2 : PySem.W.nsIn K mainGlobals "checked" = some (some (.ref f2)))
    (l2 : K.lookup f2 = some ⟨oc2, od2, .func (PySem.W.fnOf "checked" "checked" (defArgs s_checked) (defBody s_checked) (defScope s_checked) .none kV2 dc2 pm2 an2 cd2 ct2), sl2⟩)
    (c2 : PySem.W.codeIn K cd2 "checked" = true) (k2 : PySem.W.keepIn K (.ref f2) = true)
    (a3 : PySem.W.nsIn K mainGlobals "_law_cell_at" = some (some (.ref f3)))
    (l3 : K.lookup f3 = some ⟨oc3, od3, .func (PySem.W.fnOf "_law_cell_at" "_law_cell_at" (defArgs s__law_cell_at) (defBody s__law_cell_at) (defScope s__law_cell_at) .none kV3 dc3 pm3 an3 cd3 ct3), sl3⟩)
    (c3 : PySem.W.codeIn K cd3 "_law_cell_at" = true) (k3 : PySem.W.keepIn K (.ref f3) = true)
    (a4 : PySem.W.nsIn K mainGlobals "_law_whole" = some (some (.ref f4)))
    (l4 : K.lookup f4 = some ⟨oc4, od4, .func (PySem.W.fnOf "_law_whole" "_law_whole" (defArgs s__law_whole) (defBody s__law_whole) (defScope s__law_whole) .none kV4 dc4 pm4 an4 cd4 ct4), sl4⟩)
    (c4 : PySem.W.codeIn K cd4 "_law_whole" = true) (k4 : PySem.W.keepIn K (.ref f4) = true)
    (a5 : PySem.W.nsIn K mainGlobals "_law_names" = some (some (.ref f5)))
    (l5 : K.lookup f5 = some ⟨oc5, od5, .func (PySem.W.fnOf "_law_names" "_law_names" (defArgs s__law_names) (defBody s__law_names) (defScope s__law_names) .none kV5 dc5 pm5 an5 cd5 ct5), sl5⟩)
    (c5 : PySem.W.codeIn K cd5 "_law_names" = true) (k5 : PySem.W.keepIn K (.ref f5) = true)
    (a6 : PySem.W.nsIn K mainGlobals "_law_spoilt" = some (some (.ref f6)))
    (l6 : K.lookup f6 = some ⟨oc6, od6, .func (PySem.W.fnOf "_law_spoilt" "_law_spoilt" (defArgs s__law_spoilt) (defBody s__law_spoilt) (defScope s__law_spoilt) .none kV6 dc6 pm6 an6 cd6 ct6), sl6⟩)
    (c6 : PySem.W.codeIn K cd6 "_law_spoilt" = true) (k6 : PySem.W.keepIn K (.ref f6) = true)
    (a7 : PySem.W.nsIn K mainGlobals "law" = some (some (.ref f7)))
    (l7 : K.lookup f7 = some ⟨oc7, od7, .func (PySem.W.fnOf "law" "law" (defArgs s_law) (defBody s_law) (defScope s_law) .none kV7 dc7 pm7 an7 cd7 ct7), sl7⟩)
    (c7 : PySem.W.codeIn K cd7 "law" = true) (k7 : PySem.W.keepIn K (.ref f7) = true)
    (vTOP : PySem.W.nsIn K mainGlobals "TOP" = some (some (.int 1000000000 tTOP)))
    (vMOST : PySem.W.nsIn K mainGlobals "MOST" = some (some (.int 1000000 tMOST)))
    (zlen : PySem.W.nsIn K mainGlobals "len" = some none)
    (zisinstance : PySem.W.nsIn K mainGlobals "isinstance" = some none)
    (ztuple : PySem.W.nsIn K mainGlobals "tuple" = some none)
    (zint : PySem.W.nsIn K mainGlobals "int" = some none)
    (zbool : PySem.W.nsIn K mainGlobals "bool" = some none)
    (zstr : PySem.W.nsIn K mainGlobals "str" = some none)
    (ztype : PySem.W.nsIn K mainGlobals "type" = some none)
    (zValueError : PySem.W.nsIn K mainGlobals "ValueError" = some none)
    (ggC0 : PySem.W.nsIn K mainGlobals "BidError" = some (some (.ref C0)))
    (ggC1 : PySem.W.nsIn K mainGlobals "BadWish" = some (some (.ref C1)))
    (ggC2 : PySem.W.nsIn K mainGlobals "BadPrice" = some (some (.ref C2)))
    (ggC3 : PySem.W.nsIn K mainGlobals "BadPieces" = some (some (.ref C3)))
    (ggC4 : PySem.W.nsIn K mainGlobals "Uneven" = some (some (.ref C4)))
    (ggC5 : PySem.W.nsIn K mainGlobals "NoSuch" = some (some (.ref C5)))
    (ggC6 : PySem.W.nsIn K mainGlobals "Unread" = some (some (.ref C6)))
    (kpC1 : PySem.W.keepIn K (.ref C1) = true)
    (exC1 : PySem.W.excIn K C1 [.type "ValueError", .type "Exception", .type "BaseException", .type "object"] "ValueError.__new__" = true)
    (beC1 : PySem.W.subIn K (.ref C1) (.type "BaseException") = some true)
    (tyC1 : PySem.W.typeIn K (.ref C1) = some (.type "type"))
    (hgC1 : PySem.W.findIn K (.ref C1) "__getattribute__" = some (some (.builtin "BaseException.__getattribute__")))
    (hkC1 : PySem.W.findIn K (.ref C1) "__getattr__" = some none)
    (hdC1 : PySem.W.hasDictIn K C1 = true)
    (haC1 : PySem.W.findIn K (.ref C1) "__class__" = some (some (.builtin "object.__class__")))
    (hnC1 : PySem.W.specialIn K (.builtin "object.__class__") "__get__" = some (some (.builtin "getset_descriptor.__get__")))
    (htC1 : PySem.W.takesIn K (.builtin "object.__class__") = some true)
    (hmC1 : PySem.W.mroIn K C1 (.type "object") = some true)
    (vvC1 : PySem.W.kitOne K (.ref C1) (.type "ValueError") = some true)
    (iC1C0 : PySem.W.kitOne K (.ref C1) (.ref C0) = some true)
    (iC1C1 : PySem.W.kitOne K (.ref C1) (.ref C1) = some true)
    (iC1C2 : PySem.W.kitOne K (.ref C1) (.ref C2) = some false)
    (iC1C3 : PySem.W.kitOne K (.ref C1) (.ref C3) = some false)
    (iC1C4 : PySem.W.kitOne K (.ref C1) (.ref C4) = some false)
    (iC1C5 : PySem.W.kitOne K (.ref C1) (.ref C5) = some false)
    (iC1C6 : PySem.W.kitOne K (.ref C1) (.ref C6) = some false)
    (xC1C0 : PySem.W.exmOne K (.ref C1) (.ref C0) = some true) : Txt K mg :=
  { f_is_number := f0, d_is_number := (PySem.W.fnOf "is_number" "is_number" (defArgs s_is_number) (defBody s_is_number) (defScope s_is_number) .none kV0 dc0 pm0 an0 cd0 ct0), D_is_number := ⟨fun_mk (st := s_is_number) l0 c0 k0, (fun_mk (st := s_is_number) l0 c0 k0).binds (ps := ["thing", "least", "most"]) fun _ _ _ _ _ _ us hl => match us, hl with | [_, _, _], _ => rfl, PySem.W.mg_of X G a0⟩,
    f_is_side := f1, d_is_side := (PySem.W.fnOf "is_side" "is_side" (defArgs s_is_side) (defBody s_is_side) (defScope s_is_side) .none kV1 dc1 pm1 an1 cd1 ct1), D_is_side := ⟨fun_mk (st := s_is_side) l1 c1 k1, (fun_mk (st := s_is_side) l1 c1 k1).binds (ps := ["thing"]) fun _ _ _ _ _ _ us hl => match us, hl with | [_], _ => rfl, PySem.W.mg_of X G a1⟩,
    f_checked := f2, d_checked := (PySem.W.fnOf "checked" "checked" (defArgs s_checked) (defBody s_checked) (defScope s_checked) .none kV2 dc2 pm2 an2 cd2 ct2), D_checked := ⟨fun_mk (st := s_checked) l2 c2 k2, (fun_mk (st := s_checked) l2 c2 k2).binds (ps := ["thing"]) fun _ _ _ _ _ _ us hl => match us, hl with | [_], _ => rfl, PySem.W.mg_of X G a2⟩,
    f__law_cell_at := f3, d__law_cell_at := (PySem.W.fnOf "_law_cell_at" "_law_cell_at" (defArgs s__law_cell_at) (defBody s__law_cell_at) (defScope s__law_cell_at) .none kV3 dc3 pm3 an3 cd3 ct3), D__law_cell_at := ⟨fun_mk (st := s__law_cell_at) l3 c3 k3, (fun_mk (st := s__law_cell_at) l3 c3 k3).binds (ps := ["_law_script", "_law_k"]) fun _ _ _ _ _ _ us hl => match us, hl with | [_, _], _ => rfl, PySem.W.mg_of X G a3⟩,
    f__law_whole := f4, d__law_whole := (PySem.W.fnOf "_law_whole" "_law_whole" (defArgs s__law_whole) (defBody s__law_whole) (defScope s__law_whole) .none kV4 dc4 pm4 an4 cd4 ct4), D__law_whole := ⟨fun_mk (st := s__law_whole) l4 c4 k4, (fun_mk (st := s__law_whole) l4 c4 k4).binds (ps := ["_law_thing"]) fun _ _ _ _ _ _ us hl => match us, hl with | [_], _ => rfl, PySem.W.mg_of X G a4⟩,
    f__law_names := f5, d__law_names := (PySem.W.fnOf "_law_names" "_law_names" (defArgs s__law_names) (defBody s__law_names) (defScope s__law_names) .none kV5 dc5 pm5 an5 cd5 ct5), D__law_names := ⟨fun_mk (st := s__law_names) l5 c5 k5, (fun_mk (st := s__law_names) l5 c5 k5).binds (ps := ["_law_e"]) fun _ _ _ _ _ _ us hl => match us, hl with | [_], _ => rfl, PySem.W.mg_of X G a5⟩,
    f__law_spoilt := f6, d__law_spoilt := (PySem.W.fnOf "_law_spoilt" "_law_spoilt" (defArgs s__law_spoilt) (defBody s__law_spoilt) (defScope s__law_spoilt) .none kV6 dc6 pm6 an6 cd6 ct6), D__law_spoilt := ⟨fun_mk (st := s__law_spoilt) l6 c6 k6, (fun_mk (st := s__law_spoilt) l6 c6 k6).binds (ps := ["_law_side", "_law_limit", "_law_amount", "_law_way", "_law_cell"]) fun _ _ _ _ _ _ us hl => match us, hl with | [_, _, _, _, _], _ => rfl, PySem.W.mg_of X G a6⟩,
    f_law := f7, d_law := (PySem.W.fnOf "law" "law" (defArgs s_law) (defBody s_law) (defScope s_law) .none kV7 dc7 pm7 an7 cd7 ct7), D_law := ⟨fun_mk (st := s_law) l7 c7 k7, (fun_mk (st := s_law) l7 c7 k7).binds (ps := ["_law_script"]) fun _ _ _ _ _ _ us hl => match us, hl with | [_], _ => rfl, PySem.W.mg_of X G a7⟩,
    t_TOP := tTOP, c_TOP := PySem.W.mg_of X G vTOP,
    t_MOST := tMOST, c_MOST := PySem.W.mg_of X G vMOST,
    n_len := PySem.W.mg_none_of X G zlen,
    n_isinstance := PySem.W.mg_none_of X G zisinstance,
    n_tuple := PySem.W.mg_none_of X G ztuple,
    n_int := PySem.W.mg_none_of X G zint,
    n_bool := PySem.W.mg_none_of X G zbool,
    n_str := PySem.W.mg_none_of X G zstr,
    n_type := PySem.W.mg_none_of X G ztype,
    n_ValueError := PySem.W.mg_none_of X G zValueError,
    a_BidError := C0, g_BidError := PySem.W.mg_of X G ggC0,
    a_BadWish := C1, g_BadWish := PySem.W.mg_of X G ggC1,
    a_BadPrice := C2, g_BadPrice := PySem.W.mg_of X G ggC2,
    a_BadPieces := C3, g_BadPieces := PySem.W.mg_of X G ggC3,
    a_Uneven := C4, g_Uneven := PySem.W.mg_of X G ggC4,
    a_NoSuch := C5, g_NoSuch := PySem.W.mg_of X G ggC5,
    a_Unread := C6, g_Unread := PySem.W.mg_of X G ggC6,
    R_BadWish := ⟨kpC1, exC1, beC1, tyC1, ⟨hgC1, hkC1, beC1, hdC1, haC1, hnC1, htC1, hmC1⟩⟩, V_BadWish := vvC1,
    I_BadWish_BidError := iC1C0,
    I_BadWish_BadWish := iC1C1,
    I_BadWish_BadPrice := iC1C2,
    I_BadWish_BadPieces := iC1C3,
    I_BadWish_Uneven := iC1C4,
    I_BadWish_NoSuch := iC1C5,
    I_BadWish_Unread := iC1C6,
    X_BadWish_BidError := xC1C0 }
theorem all_mk {l : PySem.W.OpenLaw} {w : World} {K : PySem.W.Frag} {h : Heap} {mg : Str → Option Value} {fa : Addr} (X : K.In h) (G : h.Ns mainGlobals mg) (hfa : mg "law" = some (.ref fa))
    {f0 : Addr} {od0 an0 : Option Addr} {sl0 : Array (Option Value)} {oc0 kV0 dc0 pm0 ct0 : Value} {cd0 : Value}
    {f1 : Addr} {od1 an1 : Option Addr} {sl1 : Array (Option Value)} {oc1 kV1 dc1 pm1 ct1 : Value} {cd1 : Value}
    {f2 : Addr} {od2 an2 : Option Addr} {sl2 : Array (Option Value)} {oc2 kV2 dc2 pm2 ct2 : Value} {cd2 : Value}
    {f3 : Addr} {od3 an3 : Option Addr} {sl3 : Array (Option Value)} {oc3 kV3 dc3 pm3 ct3 : Value} {cd3 : Value}
    {f4 : Addr} {od4 an4 : Option Addr} {sl4 : Array (Option Value)} {oc4 kV4 dc4 pm4 ct4 : Value} {cd4 : Value}
    {f5 : Addr} {od5 an5 : Option Addr} {sl5 : Array (Option Value)} {oc5 kV5 dc5 pm5 ct5 : Value} {cd5 : Value}
    {f6 : Addr} {od6 an6 : Option Addr} {sl6 : Array (Option Value)} {oc6 kV6 dc6 pm6 ct6 : Value} {cd6 : Value}
    {f7 : Addr} {od7 an7 : Option Addr} {sl7 : Array (Option Value)} {oc7 kV7 dc7 pm7 ct7 : Value} {cd7 : Value}
    {tTOP : Tok}
    {tMOST : Tok}
    {C0 : Addr}
    {C1 : Addr}
    {C2 : Addr}
    {C3 : Addr}
    {C4 : Addr}
    {C5 : Addr}
    {C6 : Addr}
    (a0 : PySem.W.nsIn K mainGlobals "is_number" = some (some (.ref f0)))
    (l0 : K.lookup f0 = some ⟨oc0, od0, .func (PySem.W.fnOf "is_number" "is_number" (defArgs s_is_number) (defBody s_is_number) (defScope s_is_number) .none kV0 dc0 pm0 an0 cd0 ct0), sl0⟩)
    (c0 : PySem.W.codeIn K cd0 "is_number" = true) (k0 : PySem.W.keepIn K (.ref f0) = true)
    (a1 : PySem.W.nsIn K mainGlobals "is_side" = some (some (.ref f1)))
    (l1 : K.lookup f1 = some ⟨oc1, od1, .func (PySem.W.fnOf "is_side" "is_side" (defArgs s_is_side) (defBody s_is_side) (defScope s_is_side) .none kV1 dc1 pm1 an1 cd1 ct1), sl1⟩)
    (c1 : PySem.W.codeIn K cd1 "is_side" = true) (k1 : PySem.W.keepIn K (.ref f1) = true)
    (a2 : PySem.W.nsIn K mainGlobals "checked" = some (some (.ref f2)))
    (l2 : K.lookup f2 = some ⟨oc2, od2, .func (PySem.W.fnOf "checked" "checked" (defArgs s_checked) (defBody s_checked) (defScope s_checked) .none kV2 dc2 pm2 an2 cd2 ct2), sl2⟩)
    (c2 : PySem.W.codeIn K cd2 "checked" = true) (k2 : PySem.W.keepIn K (.ref f2) = true)
    (a3 : PySem.W.nsIn K mainGlobals "_law_cell_at" = some (some (.ref f3)))
    (l3 : K.lookup f3 = some ⟨oc3, od3, .func (PySem.W.fnOf "_law_cell_at" "_law_cell_at" (defArgs s__law_cell_at) (defBody s__law_cell_at) (defScope s__law_cell_at) .none kV3 dc3 pm3 an3 cd3 ct3), sl3⟩)
    (c3 : PySem.W.codeIn K cd3 "_law_cell_at" = true) (k3 : PySem.W.keepIn K (.ref f3) = true)
    (a4 : PySem.W.nsIn K mainGlobals "_law_whole" = some (some (.ref f4)))
    (l4 : K.lookup f4 = some ⟨oc4, od4, .func (PySem.W.fnOf "_law_whole" "_law_whole" (defArgs s__law_whole) (defBody s__law_whole) (defScope s__law_whole) .none kV4 dc4 pm4 an4 cd4 ct4), sl4⟩)
    (c4 : PySem.W.codeIn K cd4 "_law_whole" = true) (k4 : PySem.W.keepIn K (.ref f4) = true)
    (a5 : PySem.W.nsIn K mainGlobals "_law_names" = some (some (.ref f5)))
    (l5 : K.lookup f5 = some ⟨oc5, od5, .func (PySem.W.fnOf "_law_names" "_law_names" (defArgs s__law_names) (defBody s__law_names) (defScope s__law_names) .none kV5 dc5 pm5 an5 cd5 ct5), sl5⟩)
    (c5 : PySem.W.codeIn K cd5 "_law_names" = true) (k5 : PySem.W.keepIn K (.ref f5) = true)
    (a6 : PySem.W.nsIn K mainGlobals "_law_spoilt" = some (some (.ref f6)))
    (l6 : K.lookup f6 = some ⟨oc6, od6, .func (PySem.W.fnOf "_law_spoilt" "_law_spoilt" (defArgs s__law_spoilt) (defBody s__law_spoilt) (defScope s__law_spoilt) .none kV6 dc6 pm6 an6 cd6 ct6), sl6⟩)
    (c6 : PySem.W.codeIn K cd6 "_law_spoilt" = true) (k6 : PySem.W.keepIn K (.ref f6) = true)
    (a7 : PySem.W.nsIn K mainGlobals "law" = some (some (.ref f7)))
    (l7 : K.lookup f7 = some ⟨oc7, od7, .func (PySem.W.fnOf "law" "law" (defArgs s_law) (defBody s_law) (defScope s_law) .none kV7 dc7 pm7 an7 cd7 ct7), sl7⟩)
    (c7 : PySem.W.codeIn K cd7 "law" = true) (k7 : PySem.W.keepIn K (.ref f7) = true)
    (vTOP : PySem.W.nsIn K mainGlobals "TOP" = some (some (.int 1000000000 tTOP)))
    (vMOST : PySem.W.nsIn K mainGlobals "MOST" = some (some (.int 1000000 tMOST)))
    (zlen : PySem.W.nsIn K mainGlobals "len" = some none)
    (zisinstance : PySem.W.nsIn K mainGlobals "isinstance" = some none)
    (ztuple : PySem.W.nsIn K mainGlobals "tuple" = some none)
    (zint : PySem.W.nsIn K mainGlobals "int" = some none)
    (zbool : PySem.W.nsIn K mainGlobals "bool" = some none)
    (zstr : PySem.W.nsIn K mainGlobals "str" = some none)
    (ztype : PySem.W.nsIn K mainGlobals "type" = some none)
    (zValueError : PySem.W.nsIn K mainGlobals "ValueError" = some none)
    (ggC0 : PySem.W.nsIn K mainGlobals "BidError" = some (some (.ref C0)))
    (ggC1 : PySem.W.nsIn K mainGlobals "BadWish" = some (some (.ref C1)))
    (ggC2 : PySem.W.nsIn K mainGlobals "BadPrice" = some (some (.ref C2)))
    (ggC3 : PySem.W.nsIn K mainGlobals "BadPieces" = some (some (.ref C3)))
    (ggC4 : PySem.W.nsIn K mainGlobals "Uneven" = some (some (.ref C4)))
    (ggC5 : PySem.W.nsIn K mainGlobals "NoSuch" = some (some (.ref C5)))
    (ggC6 : PySem.W.nsIn K mainGlobals "Unread" = some (some (.ref C6)))
    (kpC1 : PySem.W.keepIn K (.ref C1) = true)
    (exC1 : PySem.W.excIn K C1 [.type "ValueError", .type "Exception", .type "BaseException", .type "object"] "ValueError.__new__" = true)
    (beC1 : PySem.W.subIn K (.ref C1) (.type "BaseException") = some true)
    (tyC1 : PySem.W.typeIn K (.ref C1) = some (.type "type"))
    (hgC1 : PySem.W.findIn K (.ref C1) "__getattribute__" = some (some (.builtin "BaseException.__getattribute__")))
    (hkC1 : PySem.W.findIn K (.ref C1) "__getattr__" = some none)
    (hdC1 : PySem.W.hasDictIn K C1 = true)
    (haC1 : PySem.W.findIn K (.ref C1) "__class__" = some (some (.builtin "object.__class__")))
    (hnC1 : PySem.W.specialIn K (.builtin "object.__class__") "__get__" = some (some (.builtin "getset_descriptor.__get__")))
    (htC1 : PySem.W.takesIn K (.builtin "object.__class__") = some true)
    (hmC1 : PySem.W.mroIn K C1 (.type "object") = some true)
    (vvC1 : PySem.W.kitOne K (.ref C1) (.type "ValueError") = some true)
    (iC1C0 : PySem.W.kitOne K (.ref C1) (.ref C0) = some true)
    (iC1C1 : PySem.W.kitOne K (.ref C1) (.ref C1) = some true)
    (iC1C2 : PySem.W.kitOne K (.ref C1) (.ref C2) = some false)
    (iC1C3 : PySem.W.kitOne K (.ref C1) (.ref C3) = some false)
    (iC1C4 : PySem.W.kitOne K (.ref C1) (.ref C4) = some false)
    (iC1C5 : PySem.W.kitOne K (.ref C1) (.ref C5) = some false)
    (iC1C6 : PySem.W.kitOne K (.ref C1) (.ref C6) = some false)
    (xC1C0 : PySem.W.exmOne K (.ref C1) (.ref C0) = some true) : LawG l w K CX0 20 63 "_law_script" mg fa h [] := by
  have e := hfa.symm.trans (PySem.W.mg_of X G a7)
  cases e
  refine ⟨_, SpLaw K [], fun s v => .of_eq rfl, fun H a ns hl hb hT hS => ⟨a, ns, rfl, hS, hl, fun P hP => ?_, fun _ => rfl⟩, fun base h1 h2 h3 => ok_law (mkTxt X G a0 l0 c0 k0 a1 l1 c1 k1 a2 l2 c2 k2 a3 l3 c3 k3 a4 l4 c4 k4 a5 l5 c5 k5 a6 l6 c6 k6 a7 l7 c7 k7 vTOP vMOST zlen zisinstance ztuple zint zbool zstr ztype zValueError ggC0 ggC1 ggC2 ggC3 ggC4 ggC5 ggC6 kpC1 exC1 beC1 tyC1 hgC1 hkC1 hdC1 haC1 hnC1 htC1 hmC1 vvC1 iC1C0 iC1C1 iC1C2 iC1C3 iC1C4 iC1C5 iC1C6 xC1C0 ) ⟩
  obtain ⟨p, hp, e⟩ : ∃ p ∈ ([] : List (Addr × Addr)), p.2 = P := by simpa [eq_comm] using hP
  exact ⟨#[], by rw [← e]; exact hT p hp, True.intro⟩
end My
open PySem PySem.W PyProof.Rows
set_option maxHeartbeats 8000000 in
theorem PySem.Challenge.cw_bidclear_k02_wishes_checked_holds : PySem.Challenge.rw_bidclear_k02_wishes_checked.Holds := by
  w_on; o_law; k_head; (case hw => w_witness2)
  k_fill
  refine' My.walk_gen (l := PySem.Challenge.rw_bidclear_k02_wishes_checked) (n := 63) (k := 20) (x := "_law_script") (CX := fun _ => L2.CX0) [] [] rfl (by decide) rfl ⟨rfl, by decide, by decide⟩ (fun w h Y => PySem.W.kIn_of Y) (by decide +kernel) ?tab ?nl ?F (fun _ _ _ _ _ h => h)
  case tab =>
    intro w
    exact fun _ h => nomatch h
  case nl =>
    intro w
    exact fun _ h => nomatch h
  case F =>
    intro w mg fa h Y KX G hmg
    refine' My.all_mk KX G hmg ?a0 ?l0 ?c0 ?k0 ?a1 ?l1 ?c1 ?k1 ?a2 ?l2 ?c2 ?k2 ?a3 ?l3 ?c3 ?k3 ?a4 ?l4 ?c4 ?k4 ?a5 ?l5 ?c5 ?k5 ?a6 ?l6 ?c6 ?k6 ?a7 ?l7 ?c7 ?k7 ?vTOP ?vMOST ?zlen ?zisinstance ?ztuple ?zint ?zbool ?zstr ?ztype ?zValueError ?ggC0 ?ggC1 ?ggC2 ?ggC3 ?ggC4 ?ggC5 ?ggC6 ?kpC1 ?exC1 ?beC1 ?tyC1 ?hgC1 ?hkC1 ?hdC1 ?haC1 ?hnC1 ?htC1 ?hmC1 ?vvC1 ?iC1C0 ?iC1C1 ?iC1C2 ?iC1C3 ?iC1C4 ?iC1C5 ?iC1C6 ?xC1C0
    (case a0 => first | k_is | k_exc | kit_is | kernel_rfl); (case l0 => first | k_is | k_exc | kit_is | kernel_rfl); (case c0 => first | k_is | k_exc | kit_is | kernel_rfl); (case k0 => first | k_is | k_exc | kit_is | kernel_rfl); (case a1 => first | k_is | k_exc | kit_is | kernel_rfl); (case l1 => first | k_is | k_exc | kit_is | kernel_rfl); (case c1 => first | k_is | k_exc | kit_is | kernel_rfl); (case k1 => first | k_is | k_exc | kit_is | kernel_rfl); (case a2 => first | k_is | k_exc | kit_is | kernel_rfl); (case l2 => first | k_is | k_exc | kit_is | kernel_rfl); (case c2 => first | k_is | k_exc | kit_is | kernel_rfl); (case k2 => first | k_is | k_exc | kit_is | kernel_rfl); (case a3 => first | k_is | k_exc | kit_is | kernel_rfl); (case l3 => first | k_is | k_exc | kit_is | kernel_rfl); (case c3 => first | k_is | k_exc | kit_is | kernel_rfl); (case k3 => first | k_is | k_exc | kit_is | kernel_rfl); (case a4 => first | k_is | k_exc | kit_is | kernel_rfl); (case l4 => first | k_is | k_exc | kit_is | kernel_rfl); (case c4 => first | k_is | k_exc | kit_is | kernel_rfl); (case k4 => first | k_is | k_exc | kit_is | kernel_rfl); (case a5 => first | k_is | k_exc | kit_is | kernel_rfl); (case l5 => first | k_is | k_exc | kit_is | kernel_rfl); (case c5 => first | k_is | k_exc | kit_is | kernel_rfl); (case k5 => first | k_is | k_exc | kit_is | kernel_rfl); (case a6 => first | k_is | k_exc | kit_is | kernel_rfl); (case l6 => first | k_is | k_exc | kit_is | kernel_rfl); (case c6 => first | k_is | k_exc | kit_is | kernel_rfl); (case k6 => first | k_is | k_exc | kit_is | kernel_rfl); (case a7 => first | k_is | k_exc | kit_is | kernel_rfl); (case l7 => first | k_is | k_exc | kit_is | kernel_rfl); (case c7 => first | k_is | k_exc | kit_is | kernel_rfl); (case k7 => first | k_is | k_exc | kit_is | kernel_rfl); (case vTOP => first | k_is | k_exc | kit_is | kernel_rfl); (case vMOST => first | k_is | k_exc | kit_is | kernel_rfl); (case zlen => first | k_is | k_exc | kit_is | kernel_rfl); (case zisinstance => first | k_is | k_exc | kit_is | kernel_rfl); (case ztuple => first | k_is | k_exc | kit_is | kernel_rfl); (case zint => first | k_is | k_exc | kit_is | kernel_rfl); (case zbool => first | k_is | k_exc | kit_is | kernel_rfl); (case zstr => first | k_is | k_exc | kit_is | kernel_rfl); (case ztype => first | k_is | k_exc | kit_is | kernel_rfl); (case zValueError => first | k_is | k_exc | kit_is | kernel_rfl); (case ggC0 => first | k_is | k_exc | kit_is | kernel_rfl); (case ggC1 => first | k_is | k_exc | kit_is | kernel_rfl); (case ggC2 => first | k_is | k_exc | kit_is | kernel_rfl); (case ggC3 => first | k_is | k_exc | kit_is | kernel_rfl); (case ggC4 => first | k_is | k_exc | kit_is | kernel_rfl); (case ggC5 => first | k_is | k_exc | kit_is | kernel_rfl); (case ggC6 => first | k_is | k_exc | kit_is | kernel_rfl); (case kpC1 => first | k_is | k_exc | kit_is | kernel_rfl); (case exC1 => first | k_is | k_exc | kit_is | kernel_rfl); (case beC1 => first | k_is | k_exc | kit_is | kernel_rfl); (case tyC1 => first | k_is | k_exc | kit_is | kernel_rfl); (case hgC1 => first | k_is | k_exc | kit_is | kernel_rfl); (case hkC1 => first | k_is | k_exc | kit_is | kernel_rfl); (case hdC1 => first | k_is | k_exc | kit_is | kernel_rfl); (case haC1 => first | k_is | k_exc | kit_is | kernel_rfl); (case hnC1 => first | k_is | k_exc | kit_is | kernel_rfl); (case htC1 => first | k_is | k_exc | kit_is | kernel_rfl); (case hmC1 => first | k_is | k_exc | kit_is | kernel_rfl); (case vvC1 => first | k_is | k_exc | kit_is | kernel_rfl); (case iC1C0 => first | k_is | k_exc | kit_is | kernel_rfl); (case iC1C1 => first | k_is | k_exc | kit_is | kernel_rfl); (case iC1C2 => first | k_is | k_exc | kit_is | kernel_rfl); (case iC1C3 => first | k_is | k_exc | kit_is | kernel_rfl); (case iC1C4 => first | k_is | k_exc | kit_is | kernel_rfl); (case iC1C5 => first | k_is | k_exc | kit_is | kernel_rfl); (case iC1C6 => first | k_is | k_exc | kit_is | kernel_rfl); (case xC1C0 => first | k_is | k_exc | kit_is | kernel_rfl)
