import PyProof.Rows.All
import Wide.All
import OpenK.AllK
import Wide.FinOn
import PyProof.EqAt
import PyProof.EqKinds
import PyProof.TupleCall
import HandS.ForMost
import HandS.Exc
import HandS.IsInst
import HandS.StrMore
import HandS.Replace
import HandS.ReplaceDef
import HandS.ReplaceLit
import HandS.ReplaceList
import HandS.Defaults
import HandS.Style
import HandS.Zip
import HandS.Conv
import HandS.Lambda
import HandS.Codes
import HandS.Evl
import HandS.ExcValue
import HandS.ExcInit
import HandS.ExcIs
import HandS.ExcField
import KE.KDflt
import KE.KExcIs
import HandS.EndTab
import PyProof.ReprRoads
import PyProof.ReprBulk
import HandS.ExcOwn
import HandS.WordsExc
import HandS.Walk
import PyProof.Rows.StrStrike
import PyProof.Draws
import PyProof.ListStr
import PyProof.Rows.RegStrFacts
import PyProof.Rows.RegReprOcc
import KE.KxIndex
import HandS.OwnEq
import HandS.More
import HandS.Strs
import HandS.SetFor
import KE.KRevSl
import HandS.MakeKwOnly
import PySem.Challenge.RW_anyletter_k09_books_kept_and_refused
set_option Elab.async false
set_option linter.all false
set_option maxRecDepth 100000
set_option maxHeartbeats 4000000
set_option autoImplicit false
namespace Kx
open PySem PySem.Spec PyProof.Rows L2
/-! ### a def that is promised only where no repr runs around it -/
structure FnG (P : Program) (w : World) (K : PySem.W.Frag) (mg : Str → Option Value) (base : Heap) (CX : CXT) (k : Nat) (f : Addr) (fd : FuncData) (ps : List Str) (sp : Sp) : Prop where
  len : ∀ vs H Q E, sp vs H Q E → vs.length = ps.length
  go : ∀ (A : Around) (outer : List Env) (s : Shared) (H : Hp) (args : Args) (us : List Value) (vs : List V) (Q : VK) (E : XK), A.guards = some [] → Room k A → Env0 P w K mg base A outer s H →
    BindsTo s fd args (ps.zip us) → Vals vs us → sp vs H Q E → codeAny (model P w) A (.call (.ref f) args) (CR CX outer P w H s Q E) s
section
variable {P : Program} {w : World} {K : PySem.W.Frag} {mg : Str → Option Value} {base : Heap}
theorem FnG.of {CX : CXT} {k : Nat} {f : Addr} {fd : FuncData} {ps : List Str} {sp : Sp} (F : FnOk P w K mg base CX k f fd ps sp) : FnG P w K mg base CX k f fd ps sp :=
  ⟨F.len, fun A outer s H args us vs Q E _ => F.run A outer s H args us vs Q E⟩
/-- the body's rule, guards told -/
theorem okG {x qual : Str} {st : Stmt} {f : Addr} {fd : FuncData} {N ps : List Str} {k : Nat} {sp : Sp} (F : Fun K x qual st f fd) (S : FnScope N ps (defScope st)) (len : ∀ vs H Q E, sp vs H Q E → vs.length = ps.length)
    (hbody : ∀ (cdv : Value) (A : Around) (outer : List Env) (s : Shared) (H : Hp) (vs : List V) (Q : VK) (E : XK), A.guards = some [] → Room k (A.deeper (envOfC qual (defScope st) s.heap.objs.size f cdv)) → sp vs H Q E →
      ∃ t, PSs (cxOf CX0 P w K mg base N qual (defScope st) f cdv A outer s H E).nox (defBody st) t ∧ t { nx := fun _ H' => Q .non H', rt := Q } (start N vs) H) :
    FnG P w K mg base CX0 (k + 1) f fd ps sp := by
  obtain ⟨oc, od, kV, doc, pm, an, cdv, ct, osl, rfl, lk, hcd⟩ := F.ex
  refine ⟨len, fun A outer s H args us vs Q E hg hr e0 hb r hsp => ?_⟩
  refine LamX.run_ofS lk hcd S hr e0 hb r (len _ _ _ _ hsp) fun hr' => ?_
  obtain ⟨t, h, q⟩ := hbody cdv A outer s H vs Q E hg hr' hsp
  exact ⟨t, h.nox, q⟩
end
/-! ### the law's own call, guards told -/
section
variable {P : Program} {w : World} {K : PySem.W.Frag} {mg mb : Str → Option Value} {k : Nat} {fa a : Addr} {fd : FuncData} {x : Str} {sp : Sp} {s : Shared} {vs : List Value} {ns : List Int}
/-- what the law's call has to leave -/
def LawEnd (s : Shared) (r : Result) (t : Shared) : Prop := r = .ok (.ret (.bool true)) ∧ OldK s.heap t.heap ∧ t.os = s.os ∧ AllBare t.gens
theorem lawG_of (KX : K.In s.heap) (G : s.heap.Ns mainGlobals mg) (B : s.heap.Ns builtinsNs mb) (BB : ∀ y : Str, y ≠ "__name__" → mb y = bootBuiltins y) (NL : s.heap.NoLimit) (g0 : s.gens = #[])
    (hr : Room k callerA) (F : ∀ base : Heap, K.In base → base.Ns mainGlobals mg → FnG P w K mg base CX0 k fa fd [x] sp) (bd : ∀ (t : Shared) (u : Value), BindsTo t fd ⟨[u], []⟩ [(x, u)])
    (H : Hp) (one : ∀ b u, H b = some u → b = a ∧ K.lookup a = none ∧ (∃ o xs, u = .frz o (.lst xs)) ∧ ∀ o es ep, s.heap.get? a = some o → o.data ≠ .dict es ep) (ok : HOk P w H s.heap)
    (pr : sp [.ref a] H (fun v _ => v = .bl true) fun _ _ _ => False) : codeAny (model P w) callerA (.call (.ref fa) ⟨[.ref a], []⟩) (LawEnd s) s := by
  have stay : ∀ {b : Addr} {o : Obj}, s.heap.get? b = some o → H b = none → (hidT s.heap H).get? b = some o := fun e n => hidT_get e n
  have nodict : ∀ {b : Addr} {m : Str → Option Value}, s.heap.Ns b m → (hidT s.heap H).Ns b m := by
    rintro b m ⟨o, es, ep, e, d, r⟩
    refine ⟨o, es, ep, stay e ?_, d, r⟩
    cases q : H b with
    | none => rfl
    | some u =>
      obtain ⟨rfl, _, _, nd⟩ := one b u q
      exact absurd d (nd o es ep e)
  have Kb : K.In (hidT s.heap H) := by
    intro b o e
    refine stay (KX b o e) ?_
    cases q : H b with
    | none => rfl
    | some u =>
      obtain ⟨rfl, z, _, _⟩ := one b u q
      rw [z] at e
      cases e
  obtain ⟨ml, l1, l2⟩ := NL
  have E0 : Env0 P w K mg (hidT s.heap H) callerA [] s H :=
    { frames := rfl
      mod := { kin := Kb, glob := nodict G, blt := ⟨mb, nodict B, BB⟩, nolimit := ⟨ml, nodict l1, l2⟩ }
      bs := fun b o e => of_hidT e
      bsz := Nat.le_of_eq (hidT_size _ _)
      funs := trivial
      frf := fun b hb => absurd hb (List.not_mem_nil)
      hok := ok
      bare := .of_eq g0 }
  refine codeAny_mono ((F _ Kb (nodict G)).go callerA [] s H ⟨[.ref a], []⟩ [.ref a] [.ref a] _ _ rfl hr E0 (bd s (.ref a)) (.cons rfl .nil) pr) ?_
  intro r t h
  match r, h with
  | .error e, h =>
    exact (show False from h).elim
  | .ok .next, h => exact False.elim h
  | .ok .brk, h => exact False.elim h
  | .ok .cont, h => exact False.elim h
  | .ok (.ret u), h =>
    obtain ⟨v, H', h1, h2, un, ok', rv, rfl⟩ := h
    cases rv
    refine ⟨rfl, OldK.of_keep fun b o e => ?_, h1, h2⟩
    cases q : H b with
    | none => exact un.keep b o e q List.not_mem_nil List.not_mem_nil
    | some u =>
      obtain ⟨rfl, _, ⟨ob, xs, rfl⟩, _⟩ := one b u q
      have e1 := (ok b _ q).1
      have e2 := (ok' b _ (un.frzs b ob _ q)).1
      rw [e] at e1
      cases e1
      exact e2
theorem lawG (KX : K.In s.heap) (G : s.heap.Ns mainGlobals mg) (B : s.heap.Ns builtinsNs mb) (BB : ∀ y : Str, y ≠ "__name__" → mb y = bootBuiltins y) (NL : s.heap.NoLimit) (g0 : s.gens = #[])
    (ha : s.heap.get? a = some { cls := .type "list", data := .seq vs.toArray }) (hi : IntsAre vs ns) (hl : ns.length ≤ sizeLine)
    (hr : Room k callerA) (F : ∀ base : Heap, K.In base → base.Ns mainGlobals mg → FnG P w K mg base CX0 k fa fd [x] sp) (bd : ∀ (t : Shared) (u : Value), BindsTo t fd ⟨[u], []⟩ [(x, u)])
    (pr : ∀ H : Hp, Only H → SqL K H a (ns.map V.int) → sp [.ref a] H (fun v _ => v = .bl true) fun _ _ _ => False) : codeAny (model P w) callerA (.call (.ref fa) ⟨[.ref a], []⟩) (LawEnd s) s := by
  have rv := vals_ints hi
  have lv := hi.length
  have nd : ∀ o es ep, s.heap.get? a = some o → o.data ≠ .dict es ep := by
    intro o es ep e d
    rw [ha] at e
    cases e
    cases d
  cases hk : K.lookup a with
  | some o =>
    have e := KX a o hk
    rw [ha] at e
    cases e
    have z : ∀ (b : Addr) (u : HO), (none : Option HO) = some u → False := fun _ _ q => nomatch q
    refine lawG_of KX G B BB NL g0 hr F bd (fun _ => none) (fun b u q => (z b u q).elim) (fun b u q => (z b u q).elim) (pr _ (fun _ => .inl rfl) (.inr ⟨_, vs.toArray, _, hk, rfl, rfl, rfl, ?_, by simpa using rv⟩))
    rw [List.size_toArray, lv]
    exact hl
  | none =>
    let o0 : Obj := { cls := .type "list", data := .seq vs.toArray }
    let Ha : Hp := fun b => if b = a then some (.frz o0 (.lst (ns.map V.int))) else none
    have at_a : Ha a = some (.frz o0 (.lst (ns.map V.int))) := if_pos rfl
    have but : ∀ b u, Ha b = some u → b = a ∧ u = .frz o0 (.lst (ns.map V.int)) := by
      intro b u q
      by_cases hb : b = a
      · subst hb
        rw [at_a] at q
        exact ⟨rfl, (Option.some.inj q).symm⟩
      · have q' : (none : Option HO) = some u := (if_neg hb).symm.trans q
        cases q'
    refine lawG_of KX G B BB NL g0 hr F bd Ha (fun b u q => ?_) (fun b u q => ?_) (pr _ (fun b => ?_) (.inl (.inr ⟨o0, at_a⟩)))
    · obtain ⟨e1, e2⟩ := but b u q
      exact ⟨e1, hk, ⟨_, _, e2⟩, nd⟩
    · obtain ⟨rfl, rfl⟩ := but b u q
      exact ⟨ha, by rw [List.length_map]; exact hl, vs, _, rv, ha⟩
    · by_cases hb : b = a
      · exact .inr ⟨_, _, by rw [hb]; exact at_a⟩
      · exact .inl (if_neg hb)
end
open PySem.W in
/-- the goal that the head leaves -/
theorem walkG {l : OpenLaw} {n k : Nat} {q : Program} {loose : List Str} {XP : (Str → Option Value) → Heap → Prop} {YP : World → Heap → Prop} {d : DefRec} {K : Params → Frag} {sp : Frag → Sp} {x : Str}
    (hn : l.most = some n) (hz : n ≤ sizeLine) (h0 : d.params.defaults = []) (hr : Room k callerA) (hY : ∀ (w : World) (h : Heap), YP w h → (K w.params).In h)
    (F : ∀ (w : World) (mg : Str → Option Value) (fa : Addr) (h : Heap), (K w.params).In h → h.Ns mainGlobals mg → mg d.name = some (.ref fa) → ∃ fd : FuncData,
      (∀ (t : Shared) (u : Value), BindsTo t fd ⟨[u], []⟩ [(x, u)]) ∧ ∀ base : Heap, (K w.params).In base → base.Ns mainGlobals mg → FnG l.prog w (K w.params) mg base CX0 k fa fd [x] (sp (K w.params)))
    (pr : ∀ (K : Frag) (H : Hp) (a : Addr) (ns : List Int), ns.length ≤ n → Only H → SqL K H a (ns.map V.int) → sp K [.ref a] H (fun v _ => v = .bl true) fun _ _ _ => False) :
    WalkO q loose XP YP l.row.toRowW d [] (fun f us => PySem.call f us) := by
  refine Att.attach_call hn h0 ?_
  intro w s₀ s₁ mg mb fa o pm cd doc a us ns G Y ho hd hcd hm hobj hints hlen hg
  obtain ⟨fd, hb, hF⟩ := F w mg fa _ (hY w _ Y) G.T.g hm
  exact lawG (hY w _ Y) G.T.g G.T.b G.T.builtins G.T.nolimit hg hobj hints (Nat.le_trans hlen hz) hr hF hb fun H hO hS => pr _ H a ns hlen hO hS
end Kx
namespace Kx
open PySem PySem.Spec PyProof.Rows L2 SX
/-! ### heaps -/
theorem same_new {H : Hp} {p : Addr} {o : HO} (h : H p = none) : Same H (upd H p o) := fun b u e => by
  rw [upd_ne (ne_of_none e h)]
  exact e
theorem Same.t {K : PySem.W.Frag} {H H' : Hp} {a : Addr} {xs : List V} (e : Same H H') (h : SqT K H a xs) : SqT K H' a xs := by
  rcases h with (h | ⟨o, h⟩) | h
  · exact .inl (.inl (e _ _ h))
  · exact .inl (.inr ⟨o, e _ _ h⟩)
  · exact .inr h
/-- a list or a tuple -/
def SqQ (K : PySem.W.Frag) (H : Hp) (a : Addr) (xs : List V) : Prop := SqL K H a xs ∨ SqT K H a xs
theorem Same.q {K : PySem.W.Frag} {H H' : Hp} {a : Addr} {xs : List V} (e : Same H H') (h : SqQ K H a xs) : SqQ K H' a xs := h.imp e.seq (Same.t e)
theorem tyL {K : PySem.W.Frag} {H : Hp} {a : Addr} {xs : List V} (h : SqL K H a xs) : TyX K H (.ref a) (.type "list") := by
  rcases h with (h | ⟨o, h⟩) | ⟨o, vs, n, h, hc, _⟩
  · exact .base (.lst h)
  · exact .base (.frz h)
  · exact .kList h hc
theorem tyT {K : PySem.W.Frag} {H : Hp} {a : Addr} {xs : List V} (h : SqT K H a xs) : TyX K H (.ref a) (.type "tuple") := by
  rcases h with (h | ⟨o, h⟩) | ⟨o, vs, n, h, hc, _⟩
  · exact .base (.tup h)
  · exact .fTuple h
  · exact .kTuple h hc
theorem kit_at {K : PySem.W.Frag} {n : String} {a b : Bool} (h1 : kitB n "list" = some a) (h2 : kitB n "tuple" = some b) : PySem.W.kitAny K (.type n) [.type "list", .type "tuple"] = some (a || b) := by
  refine kitAny_cons (kit_ty h1) (fun e => ?_) (fun e => by rw [e]; rfl)
  rw [e, Bool.false_or]
  exact kitAny_cons (kit_ty h2) (fun e => by rw [e]; exact kitAny_nil) (fun e => e)
theorem isl_q {K : PySem.W.Frag} {H : Hp} {a : Addr} {xs : List V} (h : SqQ K H a xs) : ∃ n, TyX K H (.ref a) (.type n) ∧ PySem.W.kitAny K (.type n) [.type "list", .type "tuple"] = some true := by
  rcases h with h | h
  · exact ⟨_, tyL h, kit_at (a := true) (b := false) (by decide +kernel) (by decide +kernel)⟩
  · exact ⟨_, tyT h, kit_at (a := false) (b := true) (by decide +kernel) (by decide +kernel)⟩
theorem ix_q {K : PySem.W.Frag} {H : Hp} {a : Addr} {xs : List V} {i : Int} {v : V} {Q : VK} (h : SqQ K H a xs) (hv : atI xs i = some v) (q : Q v H) : rIx K (.ref a) (.int i) H Q := by
  rcases h with h | h
  · exact .inl ⟨a, xs, i, v, rfl, rfl, h, hv, q⟩
  · exact .inr (.inl ⟨a, xs, i, v, rfl, rfl, h, hv, q⟩)
/-- is it data of this form, whatever tracks it -/
theorem dp_same {K : PySem.W.Frag} {H H' : Hp} (e : Same H H') : ∀ (d : PyData) (v : V), Dp K H v d → Dp K H' v d := by
  intro d v h
  exact Dp.rec (motive_1 := fun v d _ => Dp K H' v d) (motive_2 := fun vs ds _ => DpAll K H' vs ds) .non .bl .int .str (fun h _ i => .lst (e.seq h) i) (fun h _ i => .tup (Same.t e h) i) .nil (fun _ _ a b => .cons a b) h
end Kx
namespace Kx
open PySem PySem.Spec PyProof.Rows L2 SX
theorem iteC {c : Bool} {A B : Prop} (h1 : c = true → A) (h2 : c = false → B) : if c = true then A else B := by
  cases c with
  | true => exact iteT (h1 rfl)
  | false => exact iteF (h2 rfl)
/-! ### letters and signs -/
def low (c : Nat) : Bool := decide (97 ≤ c) && decide (c ≤ 122)
def lowB (l : List Nat) : Bool := !l.isEmpty && l.all low
def sg (c : Nat) : Bool := decide (c = 32) || low c
def textB (l : List Nat) : Bool := decide (l.length ≤ 200000) && l.all sg
theorem ascii1 : (List.range 128).all (fun c => (if Unicode.isAlpha c then (Unicode.isLower c && !(Unicode.isUpper c || Unicode.isTitle c)) == low c && ((Unicode.isLower c && !(Unicode.isUpper c || Unicode.isTitle c)) || (Unicode.isUpper c || Unicode.isTitle c)) else !low c)) = true := by decide +kernel
theorem ascii2 (c : Nat) (h : c < 128) : (Unicode.isAlpha c = true → ((Unicode.isUpper c || Unicode.isTitle c) = !low c) ∧ (low c = true → Unicode.isLower c = true)) ∧ (low c = true → Unicode.isAlpha c = true) := by
  have z := List.all_eq_true.mp ascii1 c (List.mem_range.mpr h)
  cases ha : Unicode.isAlpha c <;> cases hl : Unicode.isLower c <;> cases hu : (Unicode.isUpper c || Unicode.isTitle c) <;> cases hw : low c <;> simp_all
theorem low_lt {c : Nat} (h : low c = true) : c < 128 := by
  unfold low at h
  simp only [Bool.and_eq_true, decide_eq_true_eq] at h
  omega
theorem letters_S (l : List Nat) : (Txt.isascii (S l) && (Txt.isalpha (S l) && Txt.islower (S l))) = lowB l := by
  have ea : ∀ p : Nat → Bool, (S l).cps.all p = l.all p := fun p => by simp
  have ey : ∀ p : Nat → Bool, (S l).cps.any p = l.any p := fun p => by simp
  unfold Txt.isascii Txt.isalpha Txt.islower lowB
  rw [ea, ea, ey, ey, S_len]
  cases l with
  | nil => rfl
  | cons d r =>
    have e0 : decide ((d :: r).length > 0) = true := by simp
    rw [e0, Bool.true_and]
    rw [Bool.eq_iff_iff]
    simp only [Bool.and_eq_true, List.all_eq_true, decide_eq_true_eq, List.any_eq_true, Bool.not_eq_true', List.isEmpty_cons, Bool.not_false, true_and]
    constructor
    · rintro ⟨h1, h2, _, h4⟩ c hc
      have k := (ascii2 c (h1 c hc)).1 (h2 c hc)
      have n : (Unicode.isUpper c || Unicode.isTitle c) = false := by
        cases q : (Unicode.isUpper c || Unicode.isTitle c) with
        | false => rfl
        | true =>
          rw [List.any_eq_false] at h4
          exact absurd q (h4 c hc)
      rw [n] at k
      simpa using k.1
    · intro h
      refine ⟨fun c hc => low_lt (h c hc), fun c hc => (ascii2 c (low_lt (h c hc))).2 (h c hc), ⟨d, List.mem_cons_self, ?_⟩, ?_⟩
      · have hd := h d List.mem_cons_self
        exact ((ascii2 d (low_lt hd)).1 ((ascii2 d (low_lt hd)).2 hd)).2 hd
      · rw [List.any_eq_false]
        intro c hc q
        have hd := h c hc
        have k := ((ascii2 c (low_lt hd)).1 ((ascii2 c (low_lt hd)).2 hd)).1
        rw [q, hd] at k
        cases k
end Kx
namespace Kx
open PySem PySem.Spec PyProof.Rows L2 SX
/-! ### an exception that a name keeps behind the suite -/
/-- at a: an exception of the class cls, its own dict at d -/
def exT (a : Addr) (cls : Value) (d : Option Addr) : HO := .ext fun h => ∃ (oe : Obj) (vs : Array Value), h.get? a = some oe ∧ Zc cls d oe ∧ oe.data = .fields vs
section
variable {X : Cx} {pn0 : List (Addr × Obj)} {σ : L2.St} {H : Hp} {s : Shared} {a : Addr} {oe : Obj} {cls : Value} {d : Option Addr}
theorem exT_ne (o : HO) (h : ∀ φ, o ≠ .ext φ) : exT a cls d ≠ o := fun z => h _ z.symm
/-- what stands pinned in the suite is tracked behind it -/
theorem Inv.track {vs : Array Value} (I : Inv X pn0 σ H s) (ha : s.heap.get? a = some oe) (hz : Zc cls d oe) (hd : oe.data = .fields vs) (na : H a = none) (new0 : X.s_0.heap.get? a = none) (nL : a ≠ X.env.locals)
    (np : ∀ p ∈ X.pn ++ pn0, p.1 ≠ a) : Inv X pn0 σ (upd H a (exT a cls d)) s := by
  have off : ∀ {b : Addr} {u : HO}, H b = some u → upd H a (exT a cls d) b = some u := fun {b u} e => by
    rw [upd_ne (ne_of_none e na)]
    exact e
  have un : ∀ {b : Addr}, b ≠ a → H b = none → upd H a (exT a cls d) b = none := fun {b} n e => by
    rw [upd_ne n]
    exact e
  have old : ∀ {b : Addr} {o : Obj}, X.s_0.heap.get? b = some o → b ≠ a := fun {b o} e z => by
    rw [z, new0] at e
    cases e
  exact
    { ok := I.ok
      os := I.os
      bare := I.bare
      base :=
        { keep := I.base.keep
          slot := I.base.slot
          free := fun b o e n x => un (old e) (I.base.free b o e n x)
          there := I.base.there
          tups := fun b xs e => off (I.base.tups b xs e)
          frzs := fun b o u e => off (I.base.frzs b o u e)
          tbls := fun b ps e => by
            obtain ⟨m, q⟩ := I.base.tbls b ps e
            exact ⟨m, off q⟩ }
      loc := I.loc
      cell := I.cell
      free := un (Ne.symm nL) I.free
      freeC := fun y c e => by
        refine un (fun z => ?_) (I.freeC y c e)
        obtain ⟨v, o, e1, e2⟩ := I.cell y c e
        rw [z, ha] at e1
        cases e1
        rw [hd] at e2
        cases e2
      pin := fun p hp => by
        obtain ⟨e, n, r⟩ := I.pin p hp
        exact ⟨e, un (np p hp) n, r⟩
      hok := HOk.laidN (P := X.prog) (w := X.w) I.hok (fun _ _ e => e) na ⟨⟨oe, vs, ha, hz, hd⟩, ⟨oe, ha⟩, fun h1 h2 z k => by
        obtain ⟨o, v, e1, e2⟩ := z
        exact ⟨o, v, k _ e1, e2⟩⟩
      len := I.len }
end
/-- what «try: .. except x as n: y = n» wishes of an exception: it is one of x's; y keeps it -/
def wKeep (K : PySem.W.Frag) (n : Nat) (c : Value) (i j : Nat) (D : Ends) : WX := fun cls d σ H =>
  PySem.W.exmOne K cls c = some true ∧ ∀ a, H a = none → σ.length = n → D.nx ((((σ.set i (some (.ref a))).set j (some (.ref a)))).set i none) (upd H a (exT a cls d))
section
variable {X : Cx} {x n y : Str} {c : Value} {i j : Nat} {body : List Stmt} {p1 p2 p3 np pos pos' : Pos} {tb : WX → TS}
theorem ps_keep (hs : X.stack = X.env :: X.outer) (hex : X.ex = []) (hf : X.env.frame = some X.env.locals) (hN : X.N.Nodup) (hi : X.N[i]? = some n) (hln : X.env.kindOf n = some .local) (hlv : X.env.scope.names.lookup n = some .local)
    (hj : X.N[j]? = some y) (hlj : X.env.scope.names.lookup y = some .local) (hc : Names X x c) (hdb : (n == ("__debug__" : Str)) = false) (hdc : (n == ("__classdict__" : Str)) = false)
    (hb : ∀ (W : WX) (pn : List (Addr × Obj)) (xe : Value → Shared → Prop), Takes (X.tr pn xe) W → PassesOwn (model X.prog X.w) X.A X.env xe → PSs (X.tr pn xe) body (tb W)) :
    PS X (.Try body [.ExceptHandler (some (.Name x np)) (some n) [.Assign [.Name y p1] (.Name n p2) p3] pos'] [] [] pos) (fun D σ H => tb (wKeep X.K X.N.length c i j D) D σ H) := by
  refine ⟨fun pn0 s σ H D I h => ?_⟩
  have ok := I.ok
  have fr : X.A.frames = some (X.env :: X.outer) := by rw [ok.frames, hs]
  apply wpAny_Try_except
  have run := hb (wKeep X.K X.N.length c i j D) (X.pn ++ pn0)
    (fun e t1 => wpAny (model X.prog X.w) X.A (noteFrame e X.env)
      (fun _ t2 => wpAny (model X.prog X.w) X.A (setFlight e none)
        (fun _ t3 => wpAny (model X.prog X.w) X.A (handleBy e X.env [.ExceptHandler (some (.Name x np)) (some n) [.Assign [.Name y p1] (.Name n p2) p3] pos']) (SP X pn0 D) X.xe t3) X.xe t2) X.xe t1) ?take PassesOwn.looking
  case take =>
    rintro u t ⟨a, B, sI, pins', σ', H', cls, d, rfl, J', nb, up, sky, na, os, ag, isOne, hend⟩
    have Jb : Inv X pn0 σ' H' sI := J'.ofTry ok
    rw [show (X.tr (X.pn ++ pn0) _).stack = X.env :: X.outer from hs] at sky
    show wpAny (model X.prog X.w) X.A (noteFrame (.ref a) X.env) _ _ _
    refine Sky.land Zc.steady fr hf sky (fun h3 fl up3 => ?_)
    have J3 : Inv X pn0 σ' H' { t with heap := h3 } := Jb.landed nb fl.1 (up.trans up3) os ag
    have Bn := fl.2.1
    obtain ⟨oz3, vz3, at3, zc3, dt3⟩ := fl.there
    have out : a ∉ frs (X.env :: X.outer) := by
      intro hm
      obtain ⟨_, o', e', hnf⟩ := fl.2.2.1.mem hm
      rw [at3] at e'
      cases e'
      exact hnf _ dt3
    have nL : a ≠ X.env.locals := fun z => out (List.mem_filterMap.mpr ⟨X.env, List.mem_cons_self, by rw [hf, z]⟩)
    have nF : a ∉ X.fs := by
      intro hm
      obtain ⟨e, hme, q⟩ := List.mem_filterMap.mp hm
      exact out (List.mem_filterMap.mpr ⟨e, List.mem_cons_of_mem _ hme, q⟩)
    have gone : ∀ {b : Addr} {o : Obj}, sI.heap.get? b = some o → b ≠ a := by
      intro b o e z
      rw [z] at e
      have q := nb a o e (by rw [hs]; exact out)
      rw [Bn] at q
      cases q
    have new0 : X.s_0.heap.get? a = none := by
      cases q : X.s_0.heap.get? a with
      | none => rfl
      | some o =>
        obtain ⟨o', e'⟩ := Jb.base.there a o q (by rw [hex]; exact List.not_mem_nil)
        exact absurd rfl (gone e')
    have np0 : ∀ p ∈ X.pn ++ pn0, p.1 ≠ a := fun p hp => gone (Jb.pin p hp).1
    have In3 := J3.suite at3 dt3 na nL nF
    refine wpAny_handleBy_cons (codeAny_handlers_test ?_) (by intro q; cases q)
    have lookT : PySem.W.Looks (model X.prog X.w) h3 (typeOf (.ref a)) cls := fun A Q E s k q => wpAny_typeOf_ref (k _ _ at3) (by rw [zc3.1]; exact q)
    have LM := PySem.W.exm_one (M := model X.prog X.w) J3.kIn lookT isOne
    have named : ∀ {Q E : Value → Shared → Prop}, Q c { t with heap := h3 } → wpAny (model X.prog X.w) (X.A.mark (some (.ref a))) (eval (.Name x np) X.env) Q E { t with heap := h3 } := by
      intro Q E q
      obtain ⟨g, gd, g2⟩ := hc
      rcases g2 with m | ⟨m, v, nn⟩
      · exact ld_glob (X := X.suite a ((a, oz3) :: (X.pn ++ pn0))) In3 g m q gd
      · exact ld_blt (X := X.suite a ((a, oz3) :: (X.pn ++ pn0))) In3 g m v q nn gd
    refine named (LM.here ?_)
    refine codeAny_handlers_suite_as (HandSPX.lands_againZ fl fun h4 flr up4 => ?_)
    have J4 : Inv X pn0 σ' H' { t with heap := h4 } := Jb.landed nb flr.1 ((up.trans up3).trans up4) os ag
    obtain ⟨oz4, vz4, at4, zc4, dt4⟩ := flr.there
    have In4 := J4.suite at4 dt4 na nL nF
    refine store_ok (X := X.suite a ((a, oz4) :: (X.pn ++ pn0))) (v := .ref a) In4 hN hi (.inl hlv) rfl (fun s5 S5 => ?_) (.inr hlv)
    have il : i < σ'.length := by
      rw [In4.len]
      exact (List.getElem?_eq_some_iff.mp hi).1
    have suite : PSs (X.suite a ((a, oz4) :: (X.pn ++ pn0))) [.Assign [.Name y p1] (.Name n p2) p3] (tAsg (tVar i) (gName j)) :=
      pss_one (ps_set hN hj (.inl hlj) (pe_var hi (.inl hlv) hdb hdc) rfl (.inr hlj))
    refine wpAny_mono (suite.run [] s5 _ H' { nx := fun σ6 H6 => σ6 = (σ'.set i (some (.ref a))).set j (some (.ref a)) ∧ H6 = H', rt := fun _ _ => False, bk := fun _ _ => False, ct := fun _ _ => False } S5 ⟨_, List.getElem?_set_self il, rfl, rfl⟩) (fun f s6 q => ?_) (fun _ _ z => False.elim z)
    match f, q with
    | .ret _, q =>
      obtain ⟨_, _, _, _, _, z⟩ := q
      exact False.elim z
    | .brk, q =>
      obtain ⟨_, _, _, z⟩ := q
      exact False.elim z
    | .cont, q =>
      obtain ⟨_, _, _, z⟩ := q
      exact False.elim z
    | .next, q =>
      obtain ⟨σ6, H6, S6, rfl, rfl⟩ := q
      have pin := S6.pin (a, oz4) List.mem_cons_self
      have J6 : Inv X pn0 _ _ s6 := S6.unsuite ok
      have J7 := Kx.Inv.track J6 pin.1 zc4 dt4 na new0 nL np0
      refine gone_ok J7 hN hi hln fun s8 J8 => ⟨_, _, J8, hend a na Jb.len⟩
  refine wpAny_mono (run.run [] s σ H D (I.toTry _) h) (fun f s1 q => ?_) fun _ _ z => z
  match f, q with
  | .next, q =>
    obtain ⟨σ', H', J', z⟩ := q
    exact wpAny_execs_nil ⟨σ', H', J'.ofTry ok, z⟩
  | .brk, q =>
    obtain ⟨σ', H', J', z⟩ := q
    exact ⟨σ', H', J'.ofTry ok, z⟩
  | .cont, q =>
    obtain ⟨σ', H', J', z⟩ := q
    exact ⟨σ', H', J'.ofTry ok, z⟩
  | .ret u, q =>
    obtain ⟨v, σ', H', J', r, z⟩ := q
    exact ⟨v, σ', H', J'.ofTry ok, r, z⟩
end
end Kx
namespace Kx
open PySem PySem.Spec PyProof.Rows L2 SX LamX
section
variable {X : Cx} {pn0 : List (Addr × Obj)} {σ : L2.St} {H HZ : Hp} {s sB : Shared}
abbrev lamQ (X : Cx) : Str := X.env.qual ++ "<lambda>"
/-- the lambda as an object, its defaults at dV -/
abbrev lamObj (X : Cx) (params : Arguments) (body : Expr) (scp : Scope) (dV doc pm : Value) (c' : Addr) (ctv : Value) : Obj := PySem.W.kdv_obj "<lambda>" (lamQ X) params (.expr body) scp (cloFrom X.env.cells scp.names []) dV doc pm c' ctv
/-- what the making leaves -/
def Made (X : Cx) (pn0 : List (Addr × Obj)) (σ : L2.St) (H : Hp) (T : List (Addr × Str)) (params : Arguments) (body : Expr) (scp : Scope) (dV : Value) (s0 : Shared) (v : Value) (s' : Shared) : Prop :=
  ∃ (f c' : Addr) (doc pm ctv : Value) (H1 : Hp), v = .ref f ∧ Inv X pn0 σ H1 s' ∧ ExtN H H1 ∧ Tabs T H1 ∧ s'.heap.get? f = some (lamObj X params body scp dV doc pm c' ctv) ∧ H1 f = none ∧ f ∉ frs X.stack ∧ H1 c' = some (CodeO c' (lamQ X)) ∧
    (∀ b o, s0.heap.get? b = some o → (∀ pz, H b ≠ some (.tbl pz)) → s'.heap.get? b = some o) ∧ (∀ b, b < s0.heap.objs.size → H b = none → H1 b = none)
theorem lam_tail {T : List (Addr × Str)} {c P : Addr} {params : Arguments} {body : Expr} {scp : Scope} {pos : Pos} {ln : Nat} {dV : Value} {E : Value → Shared → Prop} (I : Inv X pn0 σ H s) (TB : TabB X.base X.mg c P) (hcode : X.env.code = .ref c)
    (hm : (P, lamQ X) ∈ T) (onlyP : ∀ p ∈ T, p.1 = P → p.2 = lamQ X) (hT : Tabs T H) (hfree : ∀ y ∈ scp.names, y.2 = .free → ∃ c, X.env.cells.lookup y.1 = some c) :
    wpAny (model X.prog X.w) X.A (makeTail "<lambda>" (lamQ X) params (.expr body) scp X.env dV .none none pos ln) (Made X pn0 σ H T params body scp dV s) E s := by
  obtain ⟨pz, eP, tr3, amg⟩ := hT _ hm
  have btP : s.heap.BuiltinsAt X.mg P := TB.bm.keeps I.bk
  have hP' : s.heap.get? P = some { cls := .none, data := .fields pz } := I.hok P _ eP
  have nofr : ∀ f, s.heap.objs.size ≤ f → f ∉ frs X.stack := by
    intro f hf z
    rcases List.mem_cons.mp (I.stkSub _ z) with e | e
    · have h1 := I.lt
      rw [← e] at h1
      exact absurd (Nat.lt_of_lt_of_le h1 hf) (Nat.lt_irrefl _)
    · exact I.nofs hf e
  cases fnd : codeAmong pos pz.toList with
  | none =>
    refine PySem.W.kdv_makeTail (mg := X.mg) (c := c) (P := P) (ps := pz) (closure_ok hfree) I.ok.glob (I.mod.glob.keeps I.bk) hcode (TB.code.keeps I.bk) hP' tr3 fnd TB.gP btP fun c' ctv doc h' tk stP gec ltc rcc tbb => ?_
    obtain ⟨cc2, oc, vs, t, e2, ocE, hd, ovE⟩ := rcc
    cases e2
    have szle : s.heap.objs.size ≤ h'.objs.size := Nat.le_trans gec (Nat.le_of_lt ltc)
    have ncn : H c' = none := I.hok.fresh gec
    have up : ∀ b o, b ≠ P → s.heap.get? b = some o → (h'.push (lamObj X params body scp dV doc ((X.mg "__name__").getD .none) c' ctv)).get? b = some o := fun b o hb e => Heap.get?_push_of_some _ (stP b o hb e)
    have I1 := inv_table (t' := tk) (more := #[rawInt pos.line, rawInt pos.col, .ref c']) (h' := h'.push (lamObj X params body scp dV doc ((X.mg "__name__").getD .none) c' ctv)) I eP up (Heap.get?_push_of_some _ tbb) gec ⟨oc, vs, t, Heap.get?_push_of_some _ ocE, hd, ovE⟩
    have exE : ExtN H (upd (upd H P (.tbl (pz ++ #[rawInt pos.line, rawInt pos.col, .ref c']))) c' (CodeO c' (lamQ X))) := by
      intro b o e n
      rw [upd_ne (ne_of_none e ncn), upd_ne (fun z => n pz (Option.some.inj (e.symm.trans (by rw [z]; exact eP))))]
      exact e
    have ell : (pz ++ #[rawInt pos.line, rawInt pos.col, .ref c']).toList = pz.toList ++ [rawInt pos.line, rawInt pos.col, .ref c'] := by simp
    refine ⟨h'.objs.size, c', doc, _, ctv, _, rfl, I1, exE, fun p hp => ?_, Heap.get?_push_size _ rfl, ?_, nofr _ szle, upd_same, fun b o e n => up b o (fun z => n pz (by rw [z]; exact eP)) e, fun b hb n => ?_⟩
    · by_cases hb : p.1 = P
      · rw [onlyP p hp hb, hb]
        refine ⟨_, by rw [upd_ne (ne_of_none eP ncn), upd_same], by rw [ell]; exact PySem.TriplesOk_snoc _ _ _ _ tr3, fun p' cwv cvE => ?_⟩
        rw [ell] at cvE
        rcases among_app _ tr3 cvE with z | z
        · obtain ⟨cq, e1, e2⟩ := amg p' cwv z
          exact ⟨cq, e1, exE _ _ e2 codeO_ne⟩
        · exact ⟨c', z, upd_same⟩
      · obtain ⟨ps', a1, a2, a3⟩ := hT p hp
        refine ⟨ps', by rw [upd_ne (ne_of_none a1 ncn), upd_ne hb]; exact a1, a2, fun p' cwv cvE => ?_⟩
        obtain ⟨cq, e1, e2⟩ := a3 p' cwv cvE
        exact ⟨cq, e1, exE _ _ e2 codeO_ne⟩
    · rw [upd_ne (Nat.ne_of_gt ltc), upd_ne (Nat.ne_of_gt (Nat.lt_of_lt_of_le (Heap.lt_size hP') szle))]
      exact I.hok.fresh szle
    · have n1 : b ≠ c' := Nat.ne_of_lt (Nat.lt_of_lt_of_le hb gec)
      have n2 : b ≠ P := fun z => by
        rw [z, eP] at n
        cases n
      rw [upd_ne n1, upd_ne n2]
      exact n
  | some cwv =>
    obtain ⟨c', e, hco⟩ := amg pos cwv fnd
    subst e
    refine PySem.W.kdv_makeTailHit (mg := X.mg) (c := c) (P := P) (ps := pz) (closure_ok hfree) I.ok.glob (I.mod.glob.keeps I.bk) hcode (TB.code.keeps I.bk) hP' tr3 fnd btP fun ctv doc h' tk stP szle => ?_
    refine ⟨h'.objs.size, c', doc, (X.mg "__name__").getD .none, ctv, H, rfl, I.kept fun b o e => Heap.get?_push_of_some _ (stP b o e), ExtN.refl H, hT, Heap.get?_push_size _ rfl, I.hok.fresh szle, nofr _ szle, hco, fun b o e _ => Heap.get?_push_of_some _ (stP b o e), fun _ _ n => n⟩
/-- .. with one default, 0 -/
theorem lam_makeD {T : List (Addr × Str)} {c P : Addr} {params : Arguments} {body : Expr} {scp : Scope} {pos cp : Pos} {j : Nat} {E : Value → Shared → Prop} {Qw : Value → Shared → Prop} (I : Inv X pn0 σ H s) (TB : TabB X.base X.mg c P) (hcode : X.env.code = .ref c)
    (hm : (P, lamQ X) ∈ T) (onlyP : ∀ p ∈ T, p.1 = P → p.2 = lamQ X) (hT : Tabs T H) (hfree : ∀ y ∈ scp.names, y.2 = .free → ∃ c, X.env.cells.lookup y.1 = some c)
    (hp : params.defaults = [.Constant (.int 0) j cp]) (hk : params.kw_defaults = [])
    (h : ∀ (t f c' : Addr) (tk : Tok) (doc pm ctv : Value) (H1 : Hp) (s' : Shared), Inv X pn0 σ H1 s' → ExtN H H1 → Tabs T H1 → s'.heap.get? t = some (PySem.W.kdv_tup [.int 0 tk]) → H1 t = none → t ∉ frs X.stack →
      s'.heap.get? f = some (lamObj X params body scp (.ref t) doc pm c' ctv) → H1 f = none → f ∉ frs X.stack → H1 c' = some (CodeO c' (lamQ X)) → Qw (.ref f) s') :
    wpAny (model X.prog X.w) X.A (eval (.Lambda params body scp pos) X.env) Qw E s := by
  refine PySem.W.kdv_lam (by rw [hp]; rfl) hk ?_
  rw [hp]
  refine PySem.W.kdv_all1 (thn ((pe_int (X := X) (i := 0) (j := j) (pos := cp)).run pn0 s σ H (fun v H1 => v = .int 0 ∧ H1 = H) I ⟨rfl, rfl⟩) fun u sB ⟨v, H1, I1, r, e1, e2⟩ => ?_)
  subst e1 e2
  obtain ⟨tk, rfl⟩ := r
  refine PySem.W.kdv_all0 ?_
  rw [makeFunction_eq]
  simp only [List.zip_nil_right, List.filterMap_nil, List.isEmpty_nil, if_true, pure_bind, List.isEmpty_cons, Bool.false_eq_true, if_false]
  refine wpAny_bind (wpAny_newTextTuple ?_)
  have fresh : H1 sB.heap.objs.size = none := I1.hok.fresh (Nat.le_refl _)
  have off : sB.heap.objs.size ∉ frs X.stack := by
    intro z
    rcases List.mem_cons.mp (I1.stkSub _ z) with e | e
    · exact absurd I1.lt (by rw [← e]; exact Nat.lt_irrefl _)
    · exact I1.nofs (Nat.le_refl _) e
  have I2 : Inv X pn0 σ H1 { sB with heap := sB.heap.push (PySem.W.kdv_tup [.int 0 tk]) } := I1.kept (t' := sB.toks) fun b o e => Heap.get?_push_of_some _ e
  refine thn (lam_tail I2 TB hcode hm onlyP hT hfree) fun v s2 ⟨f, c', doc, pm, ctv, H2, ev, I3, eN, T3, hf, nf, off2, hco, keep, fr⟩ => ?_
  subst ev
  refine h sB.heap.objs.size f c' tk doc pm ctv H2 s2 I3 eN T3 (keep _ _ (Heap.get?_push_size _ rfl) fun pz z => ?_) (fr _ ?_ fresh) off hf nf off2 hco
  · rw [fresh] at z
    cases z
  · show sB.heap.objs.size < (sB.heap.push _).objs.size
    rw [Heap.size_push]
    exact Nat.lt_succ_self _
/-! ### its body -/
/-- one parameter, z, with a default; else captured names and globals -/
structure LamP (sc scp : Scope) (z : Str) : Prop where
  kind : scp.kind = .function
  co : scp.isCoroutine = false
  gen : scp.isGenerator = false
  own : ∀ y ∈ scp.names, y.2 ≠ .cell ∧ (y.2 = .local → y.1 = z)
  par : scp.names.lookup z = some .local
  free : ∀ y ∈ scp.names, y.2 = .free → sc.names.lookup y.1 = some .cell ∨ sc.names.lookup y.1 = some .free
theorem LamP.has {X : Cx} {scp : Scope} {z : Str} (L : LamP X.env.scope scp z) (ok : X.Ok) : ∀ y ∈ scp.names, y.2 = .free → ∃ c, X.env.cells.lookup y.1 = some c := fun y hy e => ok.has _ ((L.free y hy e).imp id id)
/-- the slots' names without z -/
def hideN (z : Str) (N : List Str) : List Str := N.map fun y => if y = z then ("%" : Str) else y
/-- the context of such a body -/
def lamCxD (X : Cx) (A : Around) (outer : List Env) (s : Shared) (H : Hp) (E : XK) (scp : Scope) (z : Str) (f c' : Addr) : Cx := { lamCx X A outer s H E scp f c' with N := hideN z X.N }
theorem lam_startD {A : Around} {outer : List Env} {E : XK} {scp : Scope} {z : Str} {f c' : Addr} {h₁ : Heap} {tk : Nat} {u : Value} (I : Inv X pn0 σ H s) (L : LamP X.env.scope scp z) (hz : scp.names.lookup ("%" : Str) = none) (e0 : Env0 X.prog X.w X.K X.mg X.base A outer sB HZ)
    (hd : A.handled = none) (un : Un (frs X.stack) [] H HZ s.heap sB.heap) (hns : h₁.Ns sB.heap.objs.size fun y => ([(z, u)] : List (Str × Value)).reverse.lookup y) (kp : ∀ b o, sB.heap.get? b = some o → h₁.get? b = some o) :
    Inv (lamCxD X A outer sB HZ E scp z f c') [] σ HZ { sB with heap := h₁, toks := tk } := by
  have hfree := L.has I.ok
  have back : ∀ {y c}, (cloFrom X.env.cells scp.names []).lookup y = some c → X.env.cells.lookup y = some c := by
    intro y c e
    rcases cloFrom_mem (PySem.mem_of_lookup e) with hm | ⟨h1, h2⟩
    · cases hm
    · obtain ⟨cc1, fnd⟩ := hfree _ h1 rfl
      have hc' : X.env.cells.lookup y = some cc1 := fnd
      have e2 : c = cc1 := by
        rw [h2]
        show (X.env.cells.lookup y).getD 0 = cc1
        rw [hc'] <;> rfl
      rw [e2]
      exact hc'
  have there : ∀ {y}, scp.names.lookup y = some .free → ∃ c, (cloFrom X.env.cells scp.names []).lookup y = some c := fun {y} hl => mem_lookup (cloFrom_has (cells := X.env.cells) (acc := []) (PySem.mem_of_lookup hl))
  have cellK : ∀ {c : Addr} {v : Option Value}, H c = none → s.heap.IsCell c v → h₁.IsCell c v := by
    rintro c v n ⟨o, ho, hdat⟩
    obtain ⟨sl, q⟩ := un.any ho n List.not_mem_nil
    exact ⟨_, kp _ _ q, hdat⟩
  have noEx : ∀ b : Addr, b ∉ (lamCxD X A outer sB HZ E scp z f c').ex := fun b => List.not_mem_nil
  refine
    { ok :=
        { mod := e0.mod
          kind := L.kind
          glob := rfl
          blt := rfl
          above := Nat.le_refl _
          inj := fun y y2 c e1 e2 => I.ok.inj y y2 c (back e1) (back e2)
          has := fun y hy => ?has
          cab := fun y c q _ => absurd (show false = true from q) Bool.false_ne_true
          hd := fun _ => hd
          frames := Around.frames_deeper e0.frames
          stk := .inr ⟨rfl, rfl⟩
          exf := fun b q => absurd q (noEx b)
          bs := e0.bs
          bsz := e0.bsz
          noex := fun b _ _ => noEx b
          exfs := fun b q => absurd q (noEx b)
          funs := e0.funs
          frf := e0.frf }
      os := rfl
      bare := e0.bare
      base := Un.kept kp
      loc := ⟨_, hns, fun i y v e1 e2 e3 => ?loc⟩
      cell := fun y c e => ?cell
      free := e0.hok.fresh (Nat.le_refl _)
      freeC := fun y c e => ?freeC
      pin := fun q hq => absurd (show q ∈ ([] : List (Addr × Obj)) ++ [] from hq) List.not_mem_nil
      hok := e0.hok.kept kp
      len := ?len }
  case has =>
    rcases (show scp.names.lookup y = some .cell ∨ scp.names.lookup y = some .free from hy) with q | q
    · exact absurd rfl (L.own _ (PySem.mem_of_lookup q)).1
    · exact there q
  case loc =>
    have e3 : Vis scp y := e3
    have e1' : (hideN z X.N)[i]? = some y := e1
    rcases e3 with k | k | k
    · exfalso
      have ez : y = z := (L.own _ (PySem.mem_of_lookup k)).2 rfl
      unfold hideN at e1'
      rw [List.getElem?_map] at e1'
      cases q : X.N[i]? with
      | none =>
        rw [q] at e1'
        cases e1'
      | some n =>
        rw [q] at e1'
        have e4 : (if n = z then ("%" : Str) else n) = y := Option.some.inj e1'
        by_cases hn : n = z
        · rw [if_pos hn] at e4
          rw [← e4, hz] at k
          cases k
        · rw [if_neg hn] at e4
          exact hn (e4.trans ez)
    · exact absurd rfl (L.own _ (PySem.mem_of_lookup k)).1
    · have eN : X.N[i]? = some y := by
        unfold hideN at e1'
        rw [List.getElem?_map] at e1'
        cases q : X.N[i]? with
        | none =>
          rw [q] at e1'
          cases e1'
        | some n =>
          rw [q] at e1'
          have e4 : (if n = z then ("%" : Str) else n) = y := Option.some.inj e1'
          by_cases hn : n = z
          · rw [if_pos hn] at e4
            rw [← e4, hz] at k
            cases k
          · rw [if_neg hn] at e4
            rw [e4]
      obtain ⟨m, hn, hl⟩ := I.loc
      have vis : Vis X.env.scope y := (L.free _ (PySem.mem_of_lookup k) rfl).elim (fun q => .inr (.inl q)) fun q => .inr (.inr q)
      obtain ⟨w', r, q⟩ := hl i y v eN e2 vis
      obtain ⟨cc2, h2⟩ := there k
      refine ⟨w', r, .inr ⟨.inr k, cc2, h2, ?_⟩⟩
      have cc1 := back h2
      rcases q with ⟨k', _⟩ | ⟨_, c3, e', q3⟩
      · have k' : X.env.scope.names.lookup y = some .local := k'
        rcases L.free _ (PySem.mem_of_lookup k) rfl with kk2 | kk2 <;> rw [show X.env.scope.names.lookup y = _ from kk2] at k' <;> cases k'
      · rw [cc1] at e'
        cases e'
        exact cellK (I.freeC y _ cc1) q3
  case cell =>
    obtain ⟨w', q⟩ := I.cell y c (back e)
    exact ⟨w', cellK (I.freeC y c (back e)) q⟩
  case freeC =>
    obtain ⟨v, o, ho, _⟩ := I.cell y c (back e)
    exact un.free c o ho (I.freeC y c (back e)) List.not_mem_nil
  case len =>
    show σ.length = (hideN z X.N).length
    unfold hideN
    rw [List.length_map]
    exact I.len
end
end Kx
namespace Kx
open PySem PySem.Spec PyProof.Rows L2 SX LamX
section
variable {X : Cx} {pn0 : List (Addr × Obj)} {σ : L2.St} {Hm : Hp} {st : Shared}
/-- how the lambda's one default binds -/
def BindD (params : Arguments) (body : Expr) (scp : Scope) (z : Str) : Prop := ∀ (q : Str) (cl : List (Str × Addr)) (t : Addr) (doc pm cv ctv : Value) (tk : Tok), ∃ k,
  bindArgs (PySem.W.kdv_fn "<lambda>" q params (.expr body) scp cl (.ref t) doc pm cv ctv) ⟨[], []⟩ = seqItems? (.ref t) >>= k ∧ k (some #[.int 0 tk]) = pure [(z, .int 0 tk)]
theorem pe_actD {CXg : CXT} {Eg : XK} {Ng : List Str} {qg : Str} {sg : Scope} {g f c' t : Addr} {tk : Tok} {cdg doc pm ctv : Value} {params : Arguments} {body : Expr} {scp : Scope} {z : Str} {k i : Nat} {a : Str} {pn : List (Addr × Obj)} {xe : Value → Shared → Prop} {W : WX} {E : XK} {tb : TE} {p1 p2 : Pos}
    (I : Inv X pn0 σ Hm st) (L : LamP X.env.scope scp z) (hz : scp.names.lookup ("%" : Str) = none)
    (ht : st.heap.get? t = some (PySem.W.kdv_tup [.int 0 tk])) (htn : Hm t = none) (htr : t ∉ frs X.stack)
    (hf : st.heap.get? f = some (lamObj X params body scp (.ref t) doc pm c' ctv)) (hfn : Hm f = none) (hfr : f ∉ frs X.stack) (hbind : BindD params body scp z)
    (tk' : Takes ((cxOf CXg X.prog X.w X.K X.mg X.base Ng qg sg g cdg X.A X.stack st Hm Eg).tr pn xe) W) (hW : ∀ cls d σ' H', E cls d H' → W cls d σ' H') (hr : Room (k + 1) (X.A.deeper (envOfC qg sg st.heap.objs.size g cdg)))
    (hbody : ∀ (A : Around) (outer : List Env) (st : Shared) (Hm : Hp), Room k (A.deeper (lamEnv X scp st.heap.objs.size f c')) → PE (lamCxD X A outer st Hm E scp z f c') body tb)
    (ixN1 : Ng[i]? = some a) (visN : Vis sg a) (dbgN : (a == ("__debug__" : Str)) = false := by decide) (clsN : (a == ("__classdict__" : Str)) = false := by decide) :
    PE ((cxOf CXg X.prog X.w X.K X.mg X.base Ng qg sg g cdg X.A X.stack st Hm Eg).tr pn xe) (.Call (.Name a p1) [] [] p2)
      (fun σZ HZ Q => σZ[i]? = some (some (.ref f)) ∧ HZ c' = some (CodeO c' (lamQ X)) ∧ tb σ HZ Q) := by
  refine ⟨fun pnZ tZ σZ HZ Q IZ h => ?_⟩
  obtain ⟨hs, hc, hq⟩ := h
  refine wpAny_Call_Name_kw (thn ((pe_var (pos := p1) (i := i) ixN1 visN dbgN clsN).run pnZ tZ σZ HZ (fun v H1 => v = .ref f ∧ H1 = HZ) IZ ⟨.ref f, hs, rfl, rfl⟩) fun u s1 hh => ?_)
  obtain ⟨v, H1, I1, r1, rfl, rfl⟩ := hh
  obtain rfl : u = Value.ref f := r1
  have none_ex : ∀ {b : Addr}, b ∉ ([] : List Addr) := fun {b} => List.not_mem_nil
  have f1 := I1.base.keep f _ hf hfn hfr none_ex
  have t1 := I1.base.keep t _ ht htn htr none_ex
  refine PySem.W.callWith_F0 ⟨_, _, _, _, f1⟩ ?_
  have un : Un (frs X.stack) [] Hm H1 st.heap s1.heap := I1.base
  obtain ⟨⟨oc, vs, tq, e1, e2, e3⟩, _, _⟩ := I1.hok c' _ hc
  have run : codeAny (model X.prog X.w) (X.A.deeper (envOfC qg sg st.heap.objs.size g cdg)) (.call (.ref f) ⟨[], []⟩) (CR (L2.CX X.prog X.w) (envOfC qg sg st.heap.objs.size g cdg :: X.stack) X.prog X.w H1 s1 Q E) s1 := by
    refine PySem.W.kla_callFunE hr.depth f1 rfl L.co L.gen rfl ⟨c', oc, vs, tq, rfl, e1, e2, e3⟩ ?_
    obtain ⟨k2, b1, b2⟩ := hbind (lamQ X) (cloFrom X.env.cells scp.names []) t doc pm (.ref c') ctv tk
    refine BindsTo.of_defaults rfl t1 rfl b1 b2 _ _ _ _ ?_
    refine wpAny_newFunctionEnv (fun y hy => (L.own y hy).1) (fun y hy => ?_) (fun h₁ hns sbt => ⟨I1.nolimit.fresh _ sbt, ?_⟩) L.kind
    · obtain rfl := List.mem_singleton.mp hy
      exact L.par
    show codeAny _ _ (.expr body (lamEnv X scp s1.heap.objs.size f c')) _ _
    have kpt : ∀ b o, s1.heap.get? b = some o → h₁.get? b = some o := fun b o e => sbt.extBut b o (Nat.ne_of_lt (Heap.lt_size e)) (Heap.get?_push_of_some _ e)
    have J := lam_startD (E := E) (f := f) (c' := c') (tk := s1.toks + 1) I L hz I1.env0 hr.hd un hns kpt
    refine PySem.W.kla_codeExpr (wpAny_mono ((hbody _ _ s1 H1 (hr.deeper _)).run [] _ _ H1 Q J hq) (fun v s' q => ?_) fun _ _ q => q)
    obtain ⟨w', H', J', rv, q⟩ := q
    exact ⟨w', H', J'.os, J'.bare, J'.base, J'.hok, rv, q⟩
  have pass : Passes (L2.CX X.prog X.w) ((cxOf CXg X.prog X.w X.K X.mg X.base Ng qg sg g cdg X.A X.stack st Hm Eg).tr pn xe) E := passes_call tk' hW
  refine wpAny_call (codeAny_mono run fun r s' q => ?_)
  match r, q with
  | .error e, q => exact pass pnZ σZ H1 s1 e s' I1 q
  | .ok (.ret u), q => exact I1.after q
  | .ok .next, q => exact False.elim q
  | .ok .brk, q => exact False.elim q
  | .ok .cont, q => exact False.elim q
/-- x(lambda z=0: body) -/
theorem pe_lamcallD {T : List (Addr × Str)} {TT : (XK → Hp → VK → Prop) → Hp → VK → Prop} {x a z : Str} {g c P : Addr} {k : Nat} {pg : Arguments} {bg : List Stmt} {sg : Scope} {dV kV doc pm cdw ct oc : Value} {an od : Option Addr} {slg : Array (Option Value)} {Ng : List Str}
    {params : Arguments} {body : Expr} {scp : Scope} {t : XK → TE} {p lps pos cp : Pos} {j : Nat} (hg : Gl X x) (mgx : X.mg x = some (.ref g)) (hk : PySem.W.keepIn X.K (.ref g) = true)
    (lkg : X.K.lookup g = some ⟨oc, od, .func (PySem.W.fnOf x x pg bg sg dV kV doc pm an cdw ct), slg⟩) (cdg2 : PySem.W.codeIn X.K cdw x = true) (bdg : L2.Binds X.K (PySem.W.fnOf x x pg bg sg dV kV doc pm an cdw ct) [a] []) (Sg : FnScope Ng [a] sg) (hNg : Ng[0]? = some a) (hva : Vis sg a)
    (hG : GivesTo X Ng x sg g cdw bg a (lamQ X) TT) (TB : TabB X.base X.mg c P) (hcode : X.env.code = .ref c) (hmT : (P, lamQ X) ∈ T) (hu : ∀ p ∈ T, p.1 = P → p.2 = lamQ X) (hr : Room (k + 2) X.A)
    (L : LamP X.env.scope scp z) (hz : scp.names.lookup ("%" : Str) = none) (hp : params.defaults = [.Constant (.int 0) j cp]) (hkw : params.kw_defaults = []) (hbind : BindD params body scp z)
    (hbody : ∀ (A : Around) (outer : List Env) (st : Shared) (Hm : Hp) (E : XK) (f c' : Addr), Room k (A.deeper (lamEnv X scp st.heap.objs.size f c')) → PE (lamCxD X A outer st Hm E scp z f c') body (t E))
    (dbgX : (x == ("__debug__" : Str)) = false := by decide) (dbgN : (a == ("__debug__" : Str)) = false := by decide) (clsN : (a == ("__classdict__" : Str)) = false := by decide) :
    PE X (.Call (.Name x p) [.Lambda params body scp lps] [] pos) (tLam T TT t) := by
  refine ⟨fun pn0 st σ Hm Q I h => ?_⟩
  obtain ⟨hT, hq⟩ := h
  refine wpAny_Call_Name_kw (ld_glob I hg mgx ?_ dbgX)
  refine PySem.W.callWith_K (h₀ := X.base) I.ok.mod.kin hk ?_ (by rfl) (by rfl)
  show wpAny _ _ (spliced ((false, eval (.Lambda params body scp lps) X.env) :: backTo pos (starEach [] X.env))) _ _ st
  refine Calls.spliced_cons (lam_makeD I TB hcode hmT hu hT (L.has I.ok) hp hkw ?_)
  intro tt f c' tk doc' pm' ctv H1 s' I1 eN T1 ht nt ot hf nf of_ hco
  refine Calls.spliced_nil ⟨I1.kIn, ?_⟩
  have called : codeAny (model X.prog X.w) X.A (.call (.ref g) ⟨[.ref f], []⟩) (CR C8.CX0 X.stack X.prog X.w H1 s' Q C8.E0) s' := by
    refine run_ofS (N := Ng) (ps := [a]) (us := [.ref f]) (vs := [.ref f]) lkg cdg2 Sg hr I1.env0 (bdg s' [.ref f] I1.kIn rfl) (.cons rfl .nil) rfl fun hr' => ?_
    obtain ⟨t', d', q'⟩ := hG f c' s' H1 Q (fun E H' Q' => t E σ H' Q') (fun W pn xe E p1 p2 tk2 hW => pe_actD (i := 0) I1 L hz ht nt ot hf nf of_ hbind tk2 hW hr' (fun A outer st Hm hr2 => hbody A outer st Hm E f c' hr2) hNg hva dbgN clsN) hco (hq H1 eN T1)
    exact ⟨t', d'.nox, q'⟩
  refine wpAny_call (codeAny_mono called fun r s2 q => ?_)
  match r, q with
  | .error e, q => exact (show False from q).elim
  | .ok (.ret u), q => exact I1.after q
  | .ok .next, q => exact False.elim q
  | .ok .brk, q => exact False.elim q
  | .ok .cont, q => exact False.elim q
end
end Kx
namespace Kx
open PySem PySem.Spec PyProof.Rows L2 SX LamX
/-! ### the law's own call: guards told, tables of code objects known -/
section
variable {P : Program} {w : World} {K : PySem.W.Frag} {mg mb : Str → Option Value} {k : Nat} {fa a : Addr} {fd : FuncData} {x : Str} {sp : Sp} {s : Shared} {vs : List Value} {ns : List Int} {cs : List (Addr × Addr)}
abbrev tab0 : Obj := { cls := .none, data := .fields #[] }
abbrev scriptObj (vs : List Value) : Obj := { cls := .type "list", data := .seq vs.toArray }
/-- what is tracked when the law begins: the script, perhaps, and the tables -/
inductive Tr (cs : List (Addr × Addr)) (K : PySem.W.Frag) (a : Addr) (b : Addr) (u : HO) : Prop where
  | script (o : Obj) (xs : List V) (e : b = a) (k : K.lookup a = none) (h : u = .frz o (.lst xs))
  | table (p : Addr × Addr) (m : p ∈ cs) (e : b = p.2) (h : u = .tbl #[])
theorem lawT_of (KX : K.In s.heap) (G : s.heap.Ns mainGlobals mg) (B : s.heap.Ns builtinsNs mb) (BB : ∀ y : Str, y ≠ "__name__" → mb y = bootBuiltins y) (NL : s.heap.NoLimit) (g0 : s.gens = #[])
    (hT : ∀ p ∈ cs, s.heap.get? p.2 = some tab0 ∧ K.lookup p.2 = none ∧ PySem.W.CodeHd s.heap p.1 p.2)
    (bm : ∃ (m : Addr) (ob : Obj), mg "__builtins__" = some (.ref m) ∧ m ≠ builtinsNs ∧ s.heap.get? m = some ob ∧ ob.cls = .type "module" ∧ ob.dict = some builtinsNs ∧ ob.data = .plain)
    (ha : s.heap.get? a = some (scriptObj vs)) (hr : Room k callerA) (F : ∀ base : Heap, K.In base → base.Ns mainGlobals mg → (∀ p ∈ cs, TabB base mg p.1 p.2) → FnG P w K mg base CX0 k fa fd [x] sp)
    (bd : ∀ (t : Shared) (u : Value), BindsTo t fd ⟨[u], []⟩ [(x, u)]) (H : Hp) (tr : ∀ b u, H b = some u → Tr cs K a b u) (ok : HOk P w H s.heap) (all : ∀ p ∈ cs, H p.2 = some (.tbl #[]))
    (pr : sp [.ref a] H (fun v _ => v = .bl true) fun _ _ _ => False) : codeAny (model P w) callerA (.call (.ref fa) ⟨[.ref a], []⟩) (LawEnd s) s := by
  have stay : ∀ {b : Addr} {o : Obj}, s.heap.get? b = some o → H b = none → (hidT s.heap H).get? b = some o := fun e n => hidT_get e n
  -- what is neither a list nor an empty table is not tracked
  have off : ∀ {b : Addr} {o : Obj}, s.heap.get? b = some o → (∀ l n, o.data ≠ .seq l n) → o.data ≠ .fields #[] → H b = none := by
    intro b o e h1 h2
    cases q : H b with
    | none => rfl
    | some u =>
      exfalso
      cases tr b u q with
      | script ob xs eb _ _ =>
        rw [eb, ha] at e
        cases e
        exact h1 _ _ rfl
      | table p m eb _ =>
        rw [eb, (hT p m).1] at e
        cases e
        exact h2 rfl
  have nsK : ∀ {b : Addr} {m : Str → Option Value}, s.heap.Ns b m → (hidT s.heap H).Ns b m := by
    rintro b m ⟨o, es, ep, e, d, r⟩
    exact ⟨o, es, ep, stay e (off e (fun l n z => by rw [d] at z; cases z) (fun z => by rw [d] at z; cases z)), d, r⟩
  have Kb : K.In (hidT s.heap H) := by
    intro b o e
    refine stay (KX b o e) ?_
    cases q : H b with
    | none => rfl
    | some u =>
      exfalso
      cases tr b u q with
      | script ob xs eb kn _ =>
        rw [eb, kn] at e
        cases e
      | table p m eb _ =>
        rw [eb, (hT p m).2.1] at e
        cases e
  obtain ⟨ml, l1, l2⟩ := NL
  have TB : ∀ p ∈ cs, TabB (hidT s.heap H) mg p.1 p.2 := by
    intro p hp
    obtain ⟨t0, _, cd⟩ := hT p hp
    refine { code := ?_, bm := ?_, gP := ?_ }
    · obtain ⟨o, us, fl, tf, fg, tg, iF, tx, tt, e1, r1, r2, r3, r⟩ := cd
      refine ⟨o, us, fl, tf, fg, tg, iF, tx, tt, stay e1 (off e1 (fun l n z => by rw [r2] at z; cases z) fun z => ?_), r1, r2, r3, r⟩
      rw [r2] at z
      cases z
      simp at r3
    · obtain ⟨m, ob, b1, b2, b3, b4, b5, b6⟩ := bm
      have pl : ∀ d : Data, d = .plain → (∀ l n, d ≠ .seq l n) ∧ d ≠ .fields #[] := by
        rintro d rfl
        exact ⟨fun l n z => (by cases z), fun z => (by cases z)⟩
      refine ⟨m, ob, b1, b2, fun q => ?_, fun q => ?_, stay b3 (off b3 (pl _ b6).1 (pl _ b6).2), b4, b5, b6⟩
      · obtain ⟨o, es, ep, e, hd, _⟩ := G
        rw [q, e] at b3
        cases b3
        rw [hd] at b6
        cases b6
      · rw [q, t0] at b3
        cases b3
        cases b6
    · intro z
      obtain ⟨o, es, ep, e, hd, _⟩ := G
      rw [z, t0] at e
      cases e
      cases hd
  have E0 : Env0 P w K mg (hidT s.heap H) callerA [] s H :=
    { frames := rfl
      mod := { kin := Kb, glob := nsK G, blt := ⟨mb, nsK B, BB⟩, nolimit := ⟨ml, nsK l1, l2⟩ }
      bs := fun b o e => of_hidT e
      bsz := Nat.le_of_eq (hidT_size _ _)
      funs := trivial
      frf := fun b hb => absurd hb (List.not_mem_nil)
      hok := ok
      bare := .of_eq g0 }
  refine codeAny_mono ((F _ Kb (nsK G) TB).go callerA [] s H ⟨[.ref a], []⟩ [.ref a] [.ref a] _ _ rfl hr E0 (bd s (.ref a)) (.cons rfl .nil) pr) ?_
  intro r t h
  match r, h with
  | .error e, h =>
    exact (show False from h).elim
  | .ok .next, h => exact False.elim h
  | .ok .brk, h => exact False.elim h
  | .ok .cont, h => exact False.elim h
  | .ok (.ret u), h =>
    obtain ⟨v, H', h1, h2, un, ok', rv, rfl⟩ := h
    cases rv
    have grown : ∀ p ∈ cs, ∃ more : Array Value, t.heap.get? p.2 = some { cls := .none, data := .fields more } := by
      intro p hp
      obtain ⟨more, q⟩ := un.tbls p.2 #[] (all p hp)
      exact ⟨_, ok' p.2 _ q⟩
    have kept : ∀ b o, (∀ p ∈ cs, b ≠ p.2) → s.heap.get? b = some o → t.heap.get? b = some o := by
      intro b o nb e
      cases q : H b with
      | none => exact un.keep b o e q List.not_mem_nil List.not_mem_nil
      | some u =>
        cases tr b u q with
        | script ob xs eb _ eu =>
          rw [eu] at q
          have e1 := (ok b _ q).1
          have e2 := (ok' b _ (un.frzs b ob _ q)).1
          rw [e] at e1
          cases e1
          exact e2
        | table p m eb _ => exact absurd eb (nb p m)
    refine ⟨rfl, ⟨fun b o e => ?_, fun b o e => ?_⟩, h1, h2⟩
    · by_cases hb : ∃ p ∈ cs, b = p.2
      · obtain ⟨p, hp, rfl⟩ := hb
        obtain ⟨t0, _, cd⟩ := hT p hp
        obtain ⟨more, q⟩ := grown p hp
        rw [t0] at e
        cases e
        exact .inr (.inl ⟨(cd.tab t0).isCodeTable, rfl, #[], more, rfl, by rw [Array.empty_append]; exact q⟩)
      · exact .inl (kept b o (fun p hp z => hb ⟨p, hp, z⟩) e)
    · by_cases hb : ∃ p ∈ cs, b = p.2
      · obtain ⟨p, hp, rfl⟩ := hb
        obtain ⟨more, q⟩ := grown p hp
        exact ⟨_, q⟩
      · exact ⟨o, kept b o (fun p hp z => hb ⟨p, hp, z⟩) e⟩
theorem lawT (KX : K.In s.heap) (G : s.heap.Ns mainGlobals mg) (B : s.heap.Ns builtinsNs mb) (BB : ∀ y : Str, y ≠ "__name__" → mb y = bootBuiltins y) (NL : s.heap.NoLimit) (g0 : s.gens = #[])
    (hT : ∀ p ∈ cs, s.heap.get? p.2 = some tab0 ∧ K.lookup p.2 = none ∧ PySem.W.CodeHd s.heap p.1 p.2)
    (bm : ∃ (m : Addr) (ob : Obj), mg "__builtins__" = some (.ref m) ∧ m ≠ builtinsNs ∧ s.heap.get? m = some ob ∧ ob.cls = .type "module" ∧ ob.dict = some builtinsNs ∧ ob.data = .plain)
    (ha : s.heap.get? a = some (scriptObj vs)) (hi : IntsAre vs ns) (hl : ns.length ≤ sizeLine) (hr : Room k callerA)
    (F : ∀ base : Heap, K.In base → base.Ns mainGlobals mg → (∀ p ∈ cs, TabB base mg p.1 p.2) → FnG P w K mg base CX0 k fa fd [x] sp) (bd : ∀ (t : Shared) (u : Value), BindsTo t fd ⟨[u], []⟩ [(x, u)])
    (pr : ∀ H : Hp, (∀ p ∈ cs, H p.2 = some (.tbl #[])) → SqL K H a (ns.map V.int) → (∀ b u, H b = some u → Tr cs K a b u) → sp [.ref a] H (fun v _ => v = .bl true) fun _ _ _ => False) :
    codeAny (model P w) callerA (.call (.ref fa) ⟨[.ref a], []⟩) (LawEnd s) s := by
  have rv := vals_ints hi
  have na : ∀ p ∈ cs, p.2 ≠ a := by
    intro p hp z
    have e := (hT p hp).1
    rw [z, ha] at e
    cases e
  let tabs : Hp := fun b => if b ∈ cs.map (·.2) then some (.tbl #[]) else none
  have isT : ∀ p ∈ cs, tabs p.2 = some (.tbl #[]) := fun p hp => if_pos (List.mem_map.mpr ⟨p, hp, rfl⟩)
  have ofT : ∀ b u, tabs b = some u → ∃ p ∈ cs, b = p.2 ∧ u = .tbl #[] := by
    intro b u q
    by_cases hb : b ∈ cs.map (·.2)
    · obtain ⟨p, hp, e⟩ := List.mem_map.mp hb
      have q' : some (HO.tbl #[]) = some u := (if_pos hb).symm.trans q
      exact ⟨p, hp, e.symm, (Option.some.inj q').symm⟩
    · have q' : (none : Option HO) = some u := (if_neg hb).symm.trans q
      cases q'
  cases hk : K.lookup a with
  | some o =>
    have e := KX a o hk
    rw [ha] at e
    cases e
    have tr : ∀ b u, tabs b = some u → Tr cs K a b u := fun b u q => by
      obtain ⟨p, hp, e1, e2⟩ := ofT b u q
      exact .table p hp e1 e2
    refine lawT_of KX G B BB NL g0 hT bm ha hr F bd tabs tr (fun b u q => ?_) isT (pr tabs isT (.inr ⟨_, vs.toArray, _, hk, rfl, rfl, rfl, ?_, by simpa using rv⟩) tr)
    · obtain ⟨p, hp, rfl, rfl⟩ := ofT b u q
      exact (hT p hp).1
    · rw [List.size_toArray, hi.length]
      exact hl
  | none =>
    let Ha : Hp := fun b => if b = a then some (.frz (scriptObj vs) (.lst (ns.map V.int))) else tabs b
    have at_a : Ha a = some (.frz (scriptObj vs) (.lst (ns.map V.int))) := if_pos rfl
    have but : ∀ b, b ≠ a → Ha b = tabs b := fun b hb => if_neg hb
    have tr : ∀ b u, Ha b = some u → Tr cs K a b u := by
      intro b u q
      by_cases hb : b = a
      · rw [hb, at_a] at q
        exact .script _ _ hb hk (Option.some.inj q).symm
      · rw [but b hb] at q
        obtain ⟨p, hp, e1, e2⟩ := ofT b u q
        exact .table p hp e1 e2
    have isH : ∀ p ∈ cs, Ha p.2 = some (.tbl #[]) := fun p hp => (but _ (na p hp)).trans (isT p hp)
    refine lawT_of KX G B BB NL g0 hT bm ha hr F bd Ha tr (fun b u q => ?_) isH (pr Ha isH (.inl (.inr ⟨scriptObj vs, at_a⟩)) tr)
    by_cases hb : b = a
    · subst hb
      rw [at_a] at q
      cases q
      exact ⟨ha, by rw [List.length_map]; exact hl, vs, _, rv, ha⟩
    · rw [but b hb] at q
      obtain ⟨p, hp, rfl, rfl⟩ := ofT b u q
      exact (hT p hp).1
end
open PySem.W in
/-- the goal that the head leaves; cs: the defs that make lambdas, each with its code object and its table -/
theorem walkT {l : OpenLaw} {n k : Nat} {q : Program} {loose : List Str} {XP : (Str → Option Value) → Heap → Prop} {YP : World → Heap → Prop} {d : DefRec} {K : Params → Frag} {sp : Frag → Sp} {x : Str} {cs : Params → List (Str × Addr × Addr)}
    (hn : l.most = some n) (hz : n ≤ sizeLine) (h0 : d.params.defaults = []) (hr : Room k callerA) (hY : ∀ (w : World) (h : Heap), YP w h → (K w.params).In h)
    (hc : ∀ p, ∀ e ∈ cs p, (∃ r, (recsOf q).find? (fun r => r.name == e.1) = some r) ∧ tabIn (K p) e.1 = some e.2 ∧ (K p).lookup e.2.2 = none)
    (F : ∀ (w : World) (mg : Str → Option Value) (fa : Addr) (h : Heap), (K w.params).In h → h.Ns mainGlobals mg → mg d.name = some (.ref fa) → ∃ fd : FuncData,
      (∀ (t : Shared) (u : Value), BindsTo t fd ⟨[u], []⟩ [(x, u)]) ∧ ∀ base : Heap, (K w.params).In base → base.Ns mainGlobals mg → (∀ e ∈ cs w.params, TabB base mg e.2.1 e.2.2) → FnG l.prog w (K w.params) mg base CX0 k fa fd [x] (sp (K w.params)))
    (pr : ∀ (p : Params) (H : Hp) (a : Addr) (ns : List Int), ns.length ≤ n → (∀ e ∈ cs p, H e.2.2 = some (.tbl #[])) → SqL (K p) H a (ns.map V.int) → (∀ b u, H b = some u → Tr ((cs p).map (·.2)) (K p) a b u) → sp (K p) [.ref a] H (fun v _ => v = .bl true) fun _ _ _ => False) :
    WalkO q loose XP YP l.row.toRowW d [] (fun f us => PySem.call f us) := by
  refine Att.attach_call hn h0 ?_
  intro w s₀ s₁ mg mb fa o pm cd doc a us ns G Y ho hd hcd hm hobj hints hlen hg
  have KX := hY w _ Y
  obtain ⟨fd, hb, hF⟩ := F w mg fa _ KX G.T.g hm
  have lift : ∀ {φ : Addr × Addr → Prop}, (∀ p ∈ (cs w.params).map (·.2), φ p) ↔ ∀ e ∈ cs w.params, φ e.2 := by
    intro φ
    constructor
    · intro h e he
      exact h _ (List.mem_map.mpr ⟨e, he, rfl⟩)
    · intro h p hp
      obtain ⟨e, he, rfl⟩ := List.mem_map.mp hp
      exact h e he
  refine lawT (cs := (cs w.params).map (·.2)) KX G.T.g G.T.b G.T.builtins G.T.nolimit hg (lift.mpr fun e he => ?_) G.T.bmain hobj hints (Nat.le_trans hlen hz) hr (fun base h1 h2 h3 => hF base h1 h2 (lift.mp h3)) hb fun H h1 h2 h3 => pr _ H a ns hlen (lift.mp h1) h2 h3
  obtain ⟨⟨r, e1⟩, e2, e3⟩ := hc w.params e he
  obtain ⟨t1, t2⟩ := tab_of G.T KX e1 e2
  exact ⟨t2, e3, t1⟩
end Kx
namespace Kx
open PySem PySem.Spec PyProof.Rows L2 SX LamX
section
variable {X : Cx}
/-! ### repr of data -/
def rRepr (K : PySem.W.Frag) : List V → Hp → VK → Prop := fun xs H Q => ∃ (a : Addr) (d : PyData), xs = [.ref a] ∧ Dp K H (.ref a) d ∧ d.showable = true ∧ d.hasDict = false ∧ d.depth ≤ 60 ∧ d.shown.length ≤ sizeLine ∧ Q (.str d.shown) H
theorem call_reprD (hg : X.A.guards = some []) (hu : X.A.units + 64 < cLine) : CallR X (.builtin "repr") (rRepr X.K) := by
  intro pins s σ H xs us Q I r h
  obtain ⟨a, d, rfl, hd, hs, hn, hp, hl, q⟩ := h
  cases r with
  | cons r0 rr =>
    cases rr
    obtain ⟨as, rd⟩ := Dp.reads I d _ _ hd r0
    cases r0
    refine repr_of_reads' rd hs (PyData.noDict_hsm hn) hg (by omega) (fun _ _ e => e) (fun h' u tk k => ?_) hl
    exact ⟨.str d.shown, H, I.kept k, ⟨u, rfl⟩, q⟩
/-! ### f(k = v, ..): keywords alone -/
theorem pe_callK0 {CX : CXT} {k : Nat} {f : Addr} {fd : FuncData} {ps ks : List Str} {sp : Sp} {E : XK} {x : Str} {p pos : Pos} {kws : List Keyword} {tk : TA} {g : List Value → List Value → List Value} {gV : List V → List V → List V}
    (F : FnOk X.prog X.w X.K X.mg X.base CX k f fd ps sp) (hr : Room k X.A) (hg : Gl X x) (hm : X.mg x = some (.ref f)) (hk : PySem.W.keepIn X.K (.ref f) = true) (hb : KBinds X.K fd ps ks g gV) (hx : Passes CX X E) (hkw : PK X kws tk)
    (hall : (backToKw pos (keywordEach kws X.env)).all (·.1.isSome) = true := by rfl) (hks : (backToKw pos (keywordEach kws X.env)).filterMap (·.1) = ks := by rfl) (hdb : (x == ("__debug__" : Str)) = false := by decide)
    (hpl : ((backTo pos (starEach [] X.env)).any (·.1) || (backToKw pos (keywordEach kws X.env)).any (·.1.isNone)) = false := by rfl) : PE X (.Call (.Name x p) [] kws pos) (tCallK sp gV E tNil tk) := by
  refine ⟨fun pins s σ H Q I h => ?_⟩
  apply wpAny_Call_Name_kw
  refine ld_glob I hg hm ?_ hdb
  refine PySem.W.callWith_KW0 (h₀ := X.base) I.ok.mod.kin hk hall (thn (hkw.run pos pins s σ H _ I h) fun ws s2 hh => ?_) hpl
  obtain ⟨zs, H2, I2, rz, q2⟩ := hh
  refine ⟨I2.kIn, ?_⟩
  rw [hks]
  exact run_fnk (us := []) F hr hb hx I2 .nil rz q2
/-! ### an exception that a name holds -/
/-- isinstance of it -/
def rIsX (K : PySem.W.Frag) : List V → Hp → VK → Prop := fun xs H Q => ∃ (a D dd : Addr) (fs : List (Str × V)) (c : V) (cv : Value) (b : Bool), xs = [.ref a, c] ∧ H a = some (exT a (.ref D) (some dd)) ∧ H dd = some (.xd fs) ∧ ExcC K D ∧
  (∀ u, RelV c u → u = cv) ∧ PySem.W.kitOne K (.ref D) cv = some b ∧ Q (.bl b) H
theorem exT_at {P : Program} {w : World} {H : Hp} {h : Heap} {a : Addr} {cls : Value} {d : Option Addr} (hok : HOk P w H h) (e : H a = some (exT a cls d)) : ∃ (oe : Obj) (vs : Array Value), h.get? a = some oe ∧ Zc cls d oe ∧ oe.data = .fields vs := by
  have q : ObjOk P w H h a (exT a cls d) := hok a _ e
  exact q.1
theorem inst_at {pins : List (Addr × Obj)} {σ : L2.St} {H : Hp} {s : Shared} {a D dd : Addr} {fs : List (Str × V)} (I : Inv X pins σ H s) (e : H a = some (exT a (.ref D) (some dd))) (ed : H dd = some (.xd fs)) :
    ∃ (oe od : Obj) (mA : Str → Option Value), PySem.W.InstAt s.heap a oe D (some od) ∧ (∀ n, PySem.W.lookIn n od = some (mA n)) ∧ ∀ n, RelO (fs.lookup n) (mA n) := by
  obtain ⟨oe, vs, h1, h2, h3⟩ := exT_at I.hok e
  have hx : ObjOk X.prog X.w H s.heap dd (.xd fs) := I.hok dd _ ed
  obtain ⟨mA, hns, hr⟩ := hx
  obtain ⟨od, ho, hl⟩ := lookIn_ns hns
  refine ⟨oe, od, mA, { at_ := h1, cls := h2.1, no := ?_, dict := ?_ }, hl, hr⟩
  · unfold PySem.W.notCls
    rw [h3] <;> rfl
  · rw [h2.2]
    exact ho
theorem call_isX : CallR X (.builtin "isinstance") (rIsX X.K) := by
  intro pins s σ H xs us Q I r h
  obtain ⟨a, D, dd, fs, c, cv, b, rfl, e, ed, C, hc, hk, q⟩ := h
  obtain ⟨u1, u2, rfl, r1, r2⟩ := vals2 r
  obtain rfl : u1 = Value.ref a := r1
  obtain rfl := hc _ r2
  obtain ⟨oe, od, mA, J, _, _⟩ := inst_at I e ed
  have cls : (PySem.W.clsIn X.K D).isSome = true := by
    obtain ⟨cd, hcd, _⟩ := PySem.W.any_some C.hd
    rw [hcd]
    rfl
  exact PySem.W.kia_one (PySem.W.kitx_exc cls C.hg C.hk C.hs C.ha C.hn C.ht C.hm) I.kIn J hk (fun z => nomatch z) fun tk => ⟨.bl b, H, I.kept (t' := tk) fun _ _ z => z, rfl, q⟩
def rIsiX (K : PySem.W.Frag) : List V → Hp → VK → Prop := fun xs H Q => rIsi K xs H Q ∨ rIsX K xs H Q
theorem call_isiX : CallR X (.builtin "isinstance") (rIsiX X.K) := fun pins s σ H xs us Q I r h => h.elim (call_isi pins s σ H xs us Q I r) (call_isX pins s σ H xs us Q I r)
/-- e.n, e's value such an exception -/
def tXp (K : PySem.W.Frag) (n : Str) (te : TE) : TE := fun σ H Q => te σ H fun x H1 => ∃ (a D dd : Addr) (fs : List (Str × V)) (v : V), x = .ref a ∧ H1 a = some (exT a (.ref D) (some dd)) ∧ H1 dd = some (.xd fs) ∧ XfC K D ∧ PySem.W.findIn K (.ref D) n = some none ∧ fs.lookup n = some v ∧ Q v H1
theorem pe_xp {e : Expr} {te : TE} {n : Str} {pos : Pos} (he : PE X e te) (hb : attributeBase e n X.env (eval e X.env) = eval e X.env := by rfl) : PE X (.Attribute e n pos) (tXp X.K n te) := by
  refine ⟨fun pins s σ H Q I h => ?_⟩
  refine attr_of hb (thn (he.run pins s σ H _ I h) fun u s1 hh => ?_)
  obtain ⟨x, H1, I1, rx, a, D, dd, fs, v, rfl, e1, e2, T, hno, hl, q⟩ := hh
  obtain rfl : u = Value.ref a := rx
  obtain ⟨oe, od, mA, J, look, rel⟩ := inst_at I1 e1 e2
  obtain ⟨w, hw, rw'⟩ := RelO.some_of (v := v) (o := mA n) (by rw [← hl]; exact rel n)
  exact HandSPX.exc_get I1.kIn J T.ga T.gg T.exC (PySem.W.findObj_own T.hdC hno rfl (by rw [look, hw])) (handed_of rw') ⟨v, H1, I1.tok _, rw', q⟩
end
end Kx
namespace Kx
open PySem PySem.Spec PyProof.Rows L2 SX LamX
/-! ### an error class of the program: one field, part -/
structure Er (K : PySem.W.Frag) (mg : Str → Option Value) (x qual : Str) (st : Stmt) (base : Str) where
  C : Addr
  L : Addr
  fI : Addr
  fd : FuncData
  gC : mg x = some (.ref C)
  gL : mg base = some (.ref L)
  oex : OexC K C
  iC : PySem.W.findIn K (.ref C) "__init__" = some (some (.ref fI))
  tI : PySem.W.typeIn K (.ref fI) = some (.type "function")
  F : Fun K "__init__" qual st fI fd
  b : Binds K fd ["self", "part"] []
  np : PySem.W.findIn K (.ref C) "part" = some none
  exc : ExcC K C
  xf : XfC K C
  em : PySem.W.exmOne K (.ref C) (.ref L) = some true
/-- its making, out of what the top left -/
def er_mk {K : PySem.W.Frag} {h : Heap} {mg : Str → Option Value} (X : K.In h) (G : h.Ns mainGlobals mg) {x qual : Str} {st : Stmt} {base : Str} {C L fI N : Addr} {nm q : Str} {bs bm : List Value} {sn : List Str} {sub : List Value} {ab : Bool} {col : Option Bool} {dd : Option Addr} {m0 m1 m2 m3 m5 : Option Value}
    {od an : Option Addr} {sl : Array (Option Value)} {oc kV dc pm cd ct : Value} (aC : PySem.W.nsIn K mainGlobals x = some (some (.ref C))) (aL : PySem.W.nsIn K mainGlobals base = some (some (.ref L)))
    (xL : K.lookup C = some (excClassObj nm q C N bs bm true sn sub ab col dd m0 m1 m2 m3 m5 "ValueError.__new__")) (hbm : PySem.HandSPX.refsVE bm = true)
    (sa : PySem.W.findIn K (.ref C) "__setattr__" = some (some (.builtin "object.__setattr__"))) (eC : PySem.W.subIn K (.ref C) (.type "BaseException") = some true) (tC : PySem.W.typeIn K (.ref C) = some (.type "type")) (kC : PySem.W.keepIn K (.ref C) = true)
    (a1 : PySem.W.findIn K (.ref C) "__init__" = some (some (.ref fI))) (t1 : PySem.W.typeIn K (.ref fI) = some (.type "function"))
    (l1 : K.lookup fI = some ⟨oc, od, .func (PySem.W.fnOf "__init__" qual (defArgs st) (defBody st) (defScope st) .none kV dc pm an cd ct), sl⟩) (c1 : PySem.W.codeIn K cd qual = true) (k1 : PySem.W.keepIn K (.ref fI) = true)
    (b1 : ∀ (kV doc pm : Value) (an : Option Addr) (cdv ct : Value) (us : List Value), us.length = (["self", "part"] : List Str).length → bindArgs (PySem.W.fnOf "__init__" qual (defArgs st) (defBody st) (defScope st) .none kV doc pm an cdv ct) ⟨us, []⟩ = pure ((["self", "part"] : List Str).zip us))
    (nb : PySem.W.findIn K (.ref C) "part" = some none) (ga : PySem.W.findIn K (.ref C) "__getattribute__" = some (some (.builtin "BaseException.__getattribute__"))) (gg : PySem.W.findIn K (.ref C) "__getattr__" = some none) (hd : PySem.W.hasDictIn K C = true)
    (hc : PySem.W.findIn K (.ref C) "__class__" = some (some (.builtin "object.__class__"))) (hn : PySem.W.specialIn K (.builtin "object.__class__") "__get__" = some (some (.builtin "getset_descriptor.__get__"))) (ht : PySem.W.takesIn K (.builtin "object.__class__") = some true)
    (hm : PySem.W.mroIn K C (.type "object") = some true) (eL : PySem.W.subIn K (.ref L) (.type "BaseException") = some true) (dL : PySem.W.hasDictIn K L = true) (tL : PySem.W.typeIn K (.ref L) = some (.type "type")) (sCL : PySem.W.subIn K (.ref C) (.ref L) = some true) : Er K mg x qual st base where
  C := C
  L := L
  fI := fI
  fd := _
  gC := PySem.W.mg_of X G aC
  gL := PySem.W.mg_of X G aL
  oex := ⟨⟨nm, q, N, bs, bm, sn, sub, ab, col, dd, m0, m1, m2, m3, m5, xL, hbm⟩, sa, eC, tC, kC⟩
  iC := a1
  tI := t1
  F := fun_mk (st := st) l1 c1 k1
  b := (fun_mk (st := st) l1 c1 k1).binds (ps := ["self", "part"]) b1
  np := nb
  exc := ⟨ga, gg, eC, hd, hc, hn, ht, hm⟩
  xf := ⟨ga, gg, eC, hd⟩
  em := PySem.W.exm_ref eL dL tL sCL
theorem passF {X : Cx} : Passes (L2.CX X.prog X.w) X (fun _ _ _ => False) := fun _ _ _ _ _ _ _ z => by
  obtain ⟨_, _, _, _, _, _, _, _, _, _, _, _, f⟩ := z
  exact f.elim
/-- the promise of such an __init__: self.part = part -/
def sp_init (K : PySem.W.Frag) : Sp := fun vs H Q _ => ∃ (a C : Addr) (y : V), vs = [.ref a, y] ∧ OexC K C ∧ PySem.W.findIn K (.ref C) "part" = some none ∧ H a = some (exo a C none) ∧
  ∀ dx, H dx = none → dx ≠ a → Q .non (upd (upd H dx (exd dx [("part", y)])) a (exo a C (some dx)))
section
variable {P : Program} {w : World} {K : PySem.W.Frag} {mg : Str → Option Value} {base : Heap}
/-- the body of such an __init__ -/
def IsInit (st : Stmt) : Prop := ∃ p1 p2 p3 p4, defBody st = [.Assign [.Attribute (.Name "self" p1) "part" p2] (.Name "part" p3) p4] ∧ FnScope ["self", "part"] ["self", "part"] (defScope st) ∧ (defScope st).names.lookup ("self" : Str) = some .local ∧ (defScope st).names.lookup ("part" : Str) = some .local
theorem ok_init {x qual : Str} {st : Stmt} {bs : Str} (e : Er K mg x qual st bs) (h : IsInit st) : FnOk P w K mg base CX0 1 e.fI e.fd ["self", "part"] (sp_init K) := by
  obtain ⟨p1, p2, p3, p4, hb, sc, v1, v2⟩ := h
  refine e.F.ok sc (fun vs H Q E h => ?_) (fun cdv A outer s H vs Q E hr h => ?_)
  · obtain ⟨a, C, y, rfl, _⟩ := h
    rfl
  · obtain ⟨a, C, y, rfl, o, n, ha, q⟩ := h
    rw [hb]
    refine ⟨_, pss_one (ps_ost (pv 0 rfl (.inl v1)) (pv 1 rfl (.inl v2))), ?_⟩
    exact ⟨y, rfl, .ref a, rfl, a, C, rfl, o, n, .inl ⟨ha, q⟩⟩
end
/-! ### a choice of rules -/
section
variable {X : Cx}
theorem pi_either {tg it : Expr} {w1 w2 : TI} (h1 : PI X tg it w1) (h2 : PI X tg it w2) : PI X tg it (fun σ H R => w1 σ H R ∨ w2 σ H R) := ⟨fun pins s σ H R I h => h.elim (h1.run pins s σ H R I) (h2.run pins s σ H R I)⟩
theorem pe_either {e : Expr} {t1 t2 : TE} (h1 : PE X e t1) (h2 : PE X e t2) : PE X e (fun σ H Q => t1 σ H Q ∨ t2 σ H Q) := ⟨fun pins s σ H Q I h => h.elim (h1.run pins s σ H Q I) (h2.run pins s σ H Q I)⟩
theorem pi_seq {tg it : Expr} {tl : TE} (h : PE X it tl) : PI X tg it (fun σ H R => iList X.K tl σ H R ∨ iTup X.K tl σ H R) := pi_either (pi_list h) (pi_tup h)
end
end Kx
namespace Kx
open PySem PySem.Spec PyProof.Rows L2 SX LamX
theorem tyx_same {K : PySem.W.Frag} {H H' : Hp} {x : V} {n : String} (e : Same H H') (h : TyX K H x (.type n)) : TyX K H' x (.type n) := by
  cases h with
  | base b =>
    cases b with
    | non => exact .base .non
    | bl y => exact .base (.bl y)
    | int i => exact .base (.int i)
    | str z => exact .base (.str z)
    | flt z => exact .base (.flt z)
    | lst h => exact .base (.lst (e _ _ h))
    | frz h => exact .base (.frz (e _ _ h))
    | tup h => exact .base (.tup (e _ _ h))
    | dK h => exact .base (.dK (e _ _ h))
    | dT h => exact .base (.dT (e _ _ h))
  | byt b => exact .byt b
  | set h => exact .set (e _ _ h)
  | kList h c => exact .kList h c
  | kTuple h c => exact .kTuple h c
  | kDict h c => exact .kDict h c
  | fTuple h => exact .fTuple (e _ _ h)
  | fDict h => exact .fDict (e _ _ h)
/-! ### integers with bounds, of any value -/
def isIntV : V → Bool
  | .int _ => true
  | _ => false
/-- what the checks ask of a value's type -/
def HasInt (K : PySem.W.Frag) (H : Hp) (x : V) : Prop := ∃ (n : String) (a b : Bool), TyX K H x (.type n) ∧ kitB n "int" = some a ∧ kitB n "bool" = some b ∧ (a && !b) = isIntV x
theorem HasInt.same {K : PySem.W.Frag} {H H' : Hp} {x : V} (e : Same H H') (h : HasInt K H x) : HasInt K H' x := by
  obtain ⟨n, a, b, t, r⟩ := h
  exact ⟨n, a, b, tyx_same e t, r⟩
theorem hasInt_int {K : PySem.W.Frag} {H : Hp} (i : Int) : HasInt K H (.int i) := ⟨"int", true, false, .base (.int i), by decide +kernel, by decide +kernel, rfl⟩
theorem hasInt_bl {K : PySem.W.Frag} {H : Hp} (i : Bool) : HasInt K H (.bl i) := ⟨"bool", true, true, .base (.bl i), by decide +kernel, by decide +kernel, rfl⟩
theorem hasInt_str {K : PySem.W.Frag} {H : Hp} (i : Str) : HasInt K H (.str i) := ⟨"str", false, false, .base (.str i), by decide +kernel, by decide +kernel, rfl⟩
theorem hasInt_non {K : PySem.W.Frag} {H : Hp} : HasInt K H .non := ⟨"NoneType", false, false, .base .non, by decide +kernel, by decide +kernel, rfl⟩
theorem hasInt_lst {K : PySem.W.Frag} {H : Hp} {a : Addr} {xs : List V} (h : SqL K H a xs) : HasInt K H (.ref a) := ⟨"list", false, false, tyL h, by decide +kernel, by decide +kernel, rfl⟩
theorem hasInt_tup {K : PySem.W.Frag} {H : Hp} {a : Addr} {xs : List V} (h : SqT K H a xs) : HasInt K H (.ref a) := ⟨"tuple", false, false, tyT h, by decide +kernel, by decide +kernel, rfl⟩
/-- a bound: none, or an int -/
def bdV : Option Int → V
  | none => .non
  | some i => .int i
def loB (i : Int) : Option Int → Bool
  | none => true
  | some l => decide (l ≤ i)
def hiB (i : Int) : Option Int → Bool
  | none => true
  | some h => decide (i ≤ h)
def withinB (i : Int) (lo hi : Option Int) : Bool := loB i lo && hiB i hi
def withinV (x : V) (lo hi : Option Int) : Bool := match x with
  | .int i => withinB i lo hi
  | _ => false
end Kx
namespace Kx
open PySem PySem.Spec PyProof.Rows L2 SX LamX
/-! ### the draws' wheel: cells, how many were begun, what is left -/
def Wh (H : Hp) (a c : Addr) (n : Nat) : Prop := ∃ (cs : List Int) (t l : Int), H a = some (.lst [.ref c, .int t, .int l]) ∧ H c = some (.lst (cs.map V.int)) ∧ cs.length ≤ 60 ∧ 0 ≤ t ∧ t ≤ n
/-- all that was tracked, but for what stands at a, is as it was -/
def Mv (a : Addr) (H H' : Hp) : Prop := ∀ b o, b ≠ a → H b = some o → H' b = some o
theorem Mv.refl (a : Addr) (H : Hp) : Mv a H H := fun _ _ _ h => h
theorem Mv.trans {a : Addr} {H H1 H2 : Hp} (x : Mv a H H1) (y : Mv a H1 H2) : Mv a H H2 := fun b o n h => y b o n (x b o n h)
theorem Mv.of {a : Addr} {H H1 : Hp} (x : Same H H1) : Mv a H H1 := fun b o _ h => x b o h
theorem Mv.upd (a : Addr) (H : Hp) (o : HO) : Mv a H (upd H a o) := fun b p n h => by rw [upd_ne n]; exact h
theorem Mv.same {a : Addr} {H H1 : Hp} (x : Mv a H H1) (h : H a = none) : Same H H1 := fun b o e => x b o (fun z => by rw [z, h] at e; cases e) e
theorem Wh.lt {H : Hp} {a c : Addr} {n m : Nat} (h : Wh H a c n) (l : n ≤ m) : Wh H a c m := by
  obtain ⟨cs, t, l', h1, h2, h3, h4, h5⟩ := h
  exact ⟨cs, t, l', h1, h2, h3, h4, by omega⟩
theorem Wh.same {H H' : Hp} {a c : Addr} {n : Nat} (h : Wh H a c n) (e : Same H H') : Wh H' a c n := by
  obtain ⟨cs, t, l', h1, h2, h3⟩ := h
  exact ⟨cs, t, l', e _ _ h1, e _ _ h2, h3⟩
theorem wh_set {H : Hp} {a c : Addr} {cs : List Int} {t l : Int} {n : Nat} {u : List V} (h1 : H a = some (.lst u)) (h2 : H c = some (.lst (cs.map V.int))) (hac : a ≠ c) (h3 : cs.length ≤ 60) (h4 : 0 ≤ t) (h5 : t ≤ n) : Wh (upd H a (.lst [.ref c, .int t, .int l])) a c n :=
  ⟨cs, t, l, upd_same, by rw [upd_ne (fun e => hac e.symm)]; exact h2, h3, h4, h5⟩
theorem wh_ac {H : Hp} {a c : Addr} {cs : List Int} {t l : Int} (h1 : H a = some (.lst [.ref c, .int t, .int l])) (h2 : H c = some (.lst (cs.map V.int))) : a ≠ c := by
  intro e
  rw [← e, h1] at h2
  injection h2 with h2
  injection h2 with h2
  cases cs with
  | nil => cases h2
  | cons x xs => injection h2 with h2 _; cases h2
/-! ### data: lists that are laid, compared -/
theorem canLayAll_of : ∀ (ds : List PyData), (∀ d ∈ ds, d.canLay0 = true) → PyData.canLayAll0 ds = true
  | [], _ => rfl
  | d :: ds, h => by
    have h1 := h d (List.mem_cons_self ..)
    have h2 := canLayAll_of ds fun e m => h e (List.mem_cons_of_mem _ m)
    show (d.canLay0 && PyData.canLayAll0 ds) = true
    rw [h1, h2]
    rfl
theorem depthAll_of {k : Nat} : ∀ (ds : List PyData), (∀ d ∈ ds, d.depth ≤ k) → PyData.depthAll ds ≤ k
  | [], _ => Nat.zero_le _
  | d :: ds, h => by
    have h1 := h d (List.mem_cons_self ..)
    have h2 := depthAll_of ds fun e m => h e (List.mem_cons_of_mem _ m)
    show max d.depth (PyData.depthAll ds) ≤ k
    omega
/-- plain data of a depth -/
def Pl (k : Nat) (d : PyData) : Prop := d.canLay0 = true ∧ d.depth ≤ k
theorem Pl.lst {k : Nat} {ds : List PyData} (h : ∀ d ∈ ds, Pl k d) : Pl (k + 1) (.list ds) :=
  ⟨canLayAll_of ds fun d m => (h d m).1, Nat.succ_le_succ (depthAll_of ds fun d m => (h d m).2)⟩
theorem Pl.tup {k : Nat} {ds : List PyData} (h : ∀ d ∈ ds, Pl k d) : Pl (k + 1) (.tuple ds) :=
  ⟨canLayAll_of ds fun d m => (h d m).1, Nat.succ_le_succ (depthAll_of ds fun d m => (h d m).2)⟩
theorem Pl.shaped {k : Nat} {d : PyData} (h : Pl k d) (hk : k ≤ 64) : SeqAt.shaped d = true := by
  show (d.canLay0 && decide (d.depth ≤ 64)) = true
  rw [h.1, decide_eq_true (Nat.le_trans h.2 hk)]
  rfl
theorem pl_int (k : Nat) (i : Int) : Pl k (.int i) := ⟨rfl, Nat.zero_le _⟩
theorem pl_ints (xs : List Int) : Pl 1 (.list (xs.map PyData.int)) := Pl.lst fun d m => by
  obtain ⟨i, _, rfl⟩ := List.mem_map.mp m
  exact pl_int 0 i
theorem dpAll_map {K : PySem.W.Frag} {H : Hp} {α : Type} {f : α → V} {g : α → PyData} : ∀ (xs : List α), (∀ x ∈ xs, Dp K H (f x) (g x)) → DpAll K H (xs.map f) (xs.map g)
  | [], _ => .nil
  | x :: xs, h => .cons (h x (List.mem_cons_self ..)) (dpAll_map xs fun y m => h y (List.mem_cons_of_mem _ m))
theorem dp_ints {K : PySem.W.Frag} {H : Hp} {a : Addr} {xs : List Int} (h : SqL K H a (xs.map V.int)) : Dp K H (.ref a) (.list (xs.map PyData.int)) := .lst h (dpAll_map xs fun x _ => .int x)
theorem eqvAll_map {α : Type} [DecidableEq α] {g : α → PyData} (hg : ∀ x y, PyData.eqv (g x) (g y) = decide (x = y)) : ∀ (xs ys : List α), PyData.eqvAll (xs.map g) (ys.map g) = decide (xs = ys)
  | [], [] => rfl
  | [], _ :: _ => rfl
  | _ :: _, [] => rfl
  | x :: xs, y :: ys => by
    show (PyData.eqv (g x) (g y) && PyData.eqvAll (xs.map g) (ys.map g)) = _
    rw [hg, eqvAll_map hg xs ys]
    by_cases e : x = y
    · by_cases e2 : xs = ys
      · subst e e2; simp
      · simp [e, e2]
    · simp [e]
theorem eqv_int (x y : Int) : PyData.eqv (.int x) (.int y) = decide (x = y) := by
  show (x == y) = _
  by_cases e : x = y <;> simp [e]
theorem eqv_ints (xs ys : List Int) : PyData.eqv (.list (xs.map PyData.int)) (.list (ys.map PyData.int)) = decide (xs = ys) := eqvAll_map eqv_int xs ys
/-- «xs != []» -/
theorem ne_nil {K : PySem.W.Frag} {H : Hp} {a p : Addr} {xs : List Int} {Q : VK} (h1 : SqL K H a (xs.map V.int)) (h2 : H p = some (.lst [])) (q : Q (.bl (!decide (xs = []))) H) : rNeD K (.ref a) (.ref p) H Q :=
  ⟨_, _, dp_ints h1, dp_ints (xs := []) (.inl (.inl h2)), (pl_ints xs).shaped (by decide), (pl_ints []).shaped (by decide), by rw [eqv_ints]; exact q⟩
/-! ### places -/
theorem at_nat {α : Type} {xs : List α} {i : Nat} (h : i < xs.length) : atI xs (i : Int) = some xs[i] := by
  unfold atI ixN
  rw [if_pos (by omega), if_pos (by omega)]
  show xs[(i : Int).toNat]? = _
  rw [Int.toNat_natCast, List.getElem?_eq_getElem h]
theorem at_lt {α : Type} {xs : List α} {i : Int} (h0 : 0 ≤ i) (h : i < xs.length) : ∃ v, v ∈ xs ∧ atI xs i = some v := by
  obtain ⟨k, rfl⟩ : ∃ k : Nat, i = k := ⟨i.toNat, by omega⟩
  exact ⟨_, List.getElem_mem (by omega), at_nat (by omega)⟩
theorem at_last {α : Type} {xs : List α} {x : α} : atI (xs ++ [x]) (-1) = some x := by
  unfold atI ixN
  rw [if_neg (by omega), if_pos (by simp; omega)]
  show (xs ++ [x])[_]? = _
  rw [show (-1 + ((xs ++ [x]).length : Int)).toNat = xs.length by simp; omega]
  simp
/-- one way on from two branches, for all values that they leave -/
theorem cutI {c : Bool} {A B : Prop} {R : Int → Prop} (y : Int) (h2 : c = false → R y → B) (h1 : (∀ z, R z) → c = true → A) (key : ∀ z, R z) : if c = true then A else B := iteC (h1 key) fun e => h2 e (key y)
theorem genI {P : V → Prop} {x : Int} (h : ∀ z : Int, P (.int z)) : P (.int x) := h x
theorem genIB {P : V → Prop} {x M : Int} (hM : 0 < M) (h : ∀ z : Int, 0 ≤ z → z < M → P (.int z)) : P (.int (x.fmod M)) := h _ (Int.fmod_nonneg_of_pos _ hM) (Int.fmod_lt_of_pos _ hM)
theorem cutP {c : Bool} {X Y B : Prop} (h2 : c = false → B → Y) (h1 : B → c = true → X) (b : B) : if c = true then X else Y := iteC (h1 b) fun e => h2 e b
theorem mul_bnd {a b A B : Int} (a0 : 0 ≤ a) (a1 : a ≤ A) (b0 : 0 ≤ b) (b1 : b ≤ B) : 0 ≤ a * b ∧ a * b ≤ A * B :=
  ⟨Int.mul_nonneg a0 b0, Int.mul_le_mul a1 b1 b0 (Int.le_trans a0 a1)⟩
theorem bnd5 {c M k t l : Int} (hM : 0 < M) (hM2 : M ≤ 1099511627776) (t0 : 0 ≤ t) (t1 : t ≤ 1000000) (k0 : 0 ≤ k) (k1 : k ≤ 8388608) (l0 : 0 ≤ l) (l1 : l ≤ 1099511627776) : (c.fmod M + k * t + l).natAbs < 2 ^ 64 := by
  have h1 := Int.fmod_nonneg_of_pos c hM
  have h2 := Int.fmod_lt_of_pos c hM
  obtain ⟨h3, h4⟩ := mul_bnd k0 k1 t0 t1
  omega
theorem bnd3 {m t a k l : Int} (m0 : 0 ≤ m) (m1 : m ≤ 4294967296) (t0 : 0 ≤ t) (t1 : t ≤ 1000000) (a0 : 0 ≤ a) (a1 : a ≤ 8388608) (k0 : 0 ≤ k) (k1 : k ≤ 8388608) (l0 : 0 ≤ l) (l1 : l ≤ 1099511627776) : (m * (2 * t + a) + k * t * t + l).natAbs < 2 ^ 64 := by
  obtain ⟨h1, h2⟩ := mul_bnd (b := 2 * t + a) (B := 10388608) m0 m1 (by omega) (by omega)
  obtain ⟨h3, h4⟩ := mul_bnd k0 k1 t0 t1
  obtain ⟨h5, h6⟩ := mul_bnd h3 h4 t0 t1
  omega
/-! ### slices -/
theorem cut_to (xs : List V) (k : Nat) : cutV xs none (some (k : Int)) = xs.take k := by
  unfold cutV
  rw [HT.sIx_none, HT.sIx_nat, List.drop_zero, Nat.sub_zero]
  by_cases h : k ≤ xs.length
  · rw [Nat.min_eq_left h]
  · rw [Nat.min_eq_right (by omega), List.take_of_length_le (Nat.le_refl _), List.take_of_length_le (by omega)]
theorem cut_from (xs : List V) (k : Nat) : cutV xs (some (k : Int)) none = xs.drop k := by
  unfold cutV
  rw [HT.sIx_none, HT.sIx_nat]
  by_cases h : k ≤ xs.length
  · rw [Nat.min_eq_left h, List.take_of_length_le (by rw [List.length_drop]; omega)]
  · rw [Nat.min_eq_right (by omega), Nat.sub_self, List.take_zero, List.drop_eq_nil_of_le (by omega)]
/-! ### comprehensions, item by item -/
section
variable {K : PySem.W.Frag} {a : Addr} {xs : List V} {g : TG} {tt : TT} {te : TE} {vs : List Nat} {σ : L2.St} {H1 : Hp} {D : Addr} {Qd : Hp → Prop}
theorem lc_mapL (f : V → V) (hq : SqL K H1 a xs) (nD : H1 D = none) (len : xs.length ≤ 100000)
    (turn : ∀ (i : Nat) (x : V) (Hc : Hp) (Q' : VK) (R' : Hp → Prop), xs[i]? = some x → Same H1 Hc → (∀ H4, Same Hc H4 → Q' (f x) H4) → g x (wipe σ vs) Hc fun σ2 H2 => wipe σ2 vs = wipe σ vs ∧ tt σ2 H2 fun b H3 => if b = true then te σ2 H3 Q' else R' H3)
    (fin : ∀ Hc, Same H1 Hc → Hc D = some (.lst (xs.map f)) → Qd Hc) :
    ∃ W : Nat → Nat → Hp → Prop, (∃ m, W 0 m (upd H1 D (.lst []))) ∧ ∀ i m H, W i m H →
      ((Itl K a).stop i H ∧ Qd H) ∨ ((Itl K a).go i H ∧ ∃ Nx : Hp → Prop, (∀ H', Nx H' → ∃ m', m' < m ∧ W (i + 1) m' H') ∧ ∀ x H', (Itl K a).yld i H x H' → g x (wipe σ vs) H' fun σ2 H2 => wipe σ2 vs = wipe σ vs ∧ tt σ2 H2 fun b H3 =>
        if b = true then te σ2 H3 fun y H4 => ∃ acc, H4 D = some (.lst acc) ∧ acc.length < sizeLine ∧ Nx (upd H4 D (.lst (acc ++ [y]))) else Nx H3) := by
  refine lc_list (fun i Hc => Same H1 Hc ∧ Hc D = some (.lst ((xs.take i).map f))) ⟨same_new nD, upd_same⟩ (fun i H _ p => p.1.seq hq) (fun i x Hc hx p => ?_) (fun Hc p => ?_)
  · refine turn i x Hc _ _ hx p.1 (fun H4 e4 => ⟨_, e4 _ _ p.2, ?_, ?_⟩)
    · rw [List.length_map, List.length_take]
      exact Nat.lt_of_le_of_lt (Nat.min_le_right _ _) (Nat.lt_of_le_of_lt len (by decide))
    · refine ⟨fun b o z => ?_, ?_⟩
      · rw [upd_ne (ne_of_none z nD)]
        exact e4 _ _ (p.1 b o z)
      · rw [upd_same, List.take_add_one, hx, List.map_append]
        rfl
  · rw [List.take_length] at p
    exact fin Hc p.1 p.2
theorem lc_mapT (f : V → V) (hq : SqT K H1 a xs) (nD : H1 D = none) (len : xs.length ≤ 100000)
    (turn : ∀ (i : Nat) (x : V) (Hc : Hp) (Q' : VK) (R' : Hp → Prop), xs[i]? = some x → Same H1 Hc → (∀ H4, Same Hc H4 → Q' (f x) H4) → g x (wipe σ vs) Hc fun σ2 H2 => wipe σ2 vs = wipe σ vs ∧ tt σ2 H2 fun b H3 => if b = true then te σ2 H3 Q' else R' H3)
    (fin : ∀ Hc, Same H1 Hc → Hc D = some (.lst (xs.map f)) → Qd Hc) :
    ∃ W : Nat → Nat → Hp → Prop, (∃ m, W 0 m (upd H1 D (.lst []))) ∧ ∀ i m H, W i m H →
      ((Itt K a).stop i H ∧ Qd H) ∨ ((Itt K a).go i H ∧ ∃ Nx : Hp → Prop, (∀ H', Nx H' → ∃ m', m' < m ∧ W (i + 1) m' H') ∧ ∀ x H', (Itt K a).yld i H x H' → g x (wipe σ vs) H' fun σ2 H2 => wipe σ2 vs = wipe σ vs ∧ tt σ2 H2 fun b H3 =>
        if b = true then te σ2 H3 fun y H4 => ∃ acc, H4 D = some (.lst acc) ∧ acc.length < sizeLine ∧ Nx (upd H4 D (.lst (acc ++ [y]))) else Nx H3) := by
  refine lc_tup (fun i Hc => Same H1 Hc ∧ Hc D = some (.lst ((xs.take i).map f))) ⟨same_new nD, upd_same⟩ (fun i H _ p => Same.t p.1 hq) (fun i x Hc hx p => ?_) (fun Hc p => ?_)
  · refine turn i x Hc _ _ hx p.1 (fun H4 e4 => ⟨_, e4 _ _ p.2, ?_, ?_⟩)
    · rw [List.length_map, List.length_take]
      exact Nat.lt_of_le_of_lt (Nat.min_le_right _ _) (Nat.lt_of_le_of_lt len (by decide))
    · refine ⟨fun b o z => ?_, ?_⟩
      · rw [upd_ne (ne_of_none z nD)]
        exact e4 _ _ (p.1 b o z)
      · rw [upd_same, List.take_add_one, hx, List.map_append]
        rfl
  · rw [List.take_length] at p
    exact fin Hc p.1 p.2
end
end Kx
namespace Kx
open PySem PySem.Spec PyProof.Rows L2 SX LamX
theorem paired_get {α β : Type} {F : α → β → Prop} : ∀ {l : List α} {m : List β}, Paired F l m → ∀ {i : Nat} {a : α}, l[i]? = some a → ∃ b, m[i]? = some b ∧ F a b
  | _, _, .cons h t, 0, a, e => by
    simp at e
    subst e
    exact ⟨_, rfl, h⟩
  | _, _, .cons h t, i + 1, a, e => paired_get t (i := i) (by simpa using e)
theorem paired_split {α β : Type} {F : α → β → Prop} : ∀ {l : List α} (m : List β) {b : β}, Paired F l (m ++ [b]) → ∃ l' a, l = l' ++ [a] ∧ Paired F l' m ∧ F a b
  | _, [], _, .cons h .nil => ⟨[], _, rfl, .nil, h⟩
  | _, _ :: m, b, .cons h t => by
    obtain ⟨l', a, rfl, p, f⟩ := paired_split m t
    exact ⟨_ :: l', a, rfl, .cons h p, f⟩
theorem paired_nil {α β : Type} {F : α → β → Prop} {l : List α} (h : Paired F l []) : l = [] := by
  cases h
  rfl
theorem nil_or_snoc {α : Type} (l : List α) : l = [] ∨ ∃ l' a, l = l' ++ [a] := by
  rcases List.eq_nil_or_concat l with h | ⟨l', a, h⟩
  · exact .inl h
  · exact .inr ⟨l', a, by rw [h, List.concat_eq_append]⟩
theorem paired_map {α β γ : Type} {F : α → γ → Prop} {G : α → β → Prop} (f : β → γ) (h : ∀ a b, G a b → F a (f b)) : ∀ {l : List α} {m : List β}, Paired G l m → Paired F l (m.map f)
  | _, _, .nil => .nil
  | _, _, .cons x t => .cons (h _ _ x) (paired_map f h t)
theorem paired_of_map {α β γ : Type} {F : α → γ → Prop} (f : β → α) (g : β → γ) : ∀ {m : List β}, (∀ b ∈ m, F (f b) (g b)) → Paired F (m.map f) (m.map g)
  | [], _ => .nil
  | b :: m, h => .cons (h b (List.mem_cons_self ..)) (paired_of_map f g fun c hc => h c (List.mem_cons_of_mem _ hc))
theorem dpAll_of {K : PySem.W.Frag} {H : Hp} : ∀ {vs : List V} {ds : List PyData}, Paired (fun v d => Dp K H v d) vs ds → DpAll K H vs ds
  | _, _, .nil => .nil
  | _, _, .cons h t => .cons h (dpAll_of t)
/-- «xs != []», any laid items -/
theorem ne_nilD {K : PySem.W.Frag} {H : Hp} {a p : Addr} {vs : List V} {ds : List PyData} {k : Nat} {Q : VK} (h1 : SqL K H a vs) (hd : Paired (fun v d => Dp K H v d) vs ds) (hp : ∀ d ∈ ds, Pl k d) (hk : k ≤ 60) (h2 : H p = some (.lst [])) (q : Q (.bl (!decide (ds = []))) H) : rNeD K (.ref a) (.ref p) H Q :=
  ⟨_, _, .lst h1 (dpAll_of hd), dp_ints (xs := []) (.inl (.inl h2)), (Pl.lst hp).shaped (by omega), (pl_ints []).shaped (by decide), by
    have e : PyData.eqv (.list ds) (.list (([] : List Int).map PyData.int)) = decide (ds = []) := by
      cases ds with
      | nil => rfl
      | cons d t => rfl
    rw [e]
    exact q⟩
/-- a pair of ints -/
def Pr2 (H : Hp) (v : V) (r : Int × Int) : Prop := ∃ t, v = V.ref t ∧ H t = some (.tup [.int r.1, .int r.2])
theorem Pr2.same {H H' : Hp} {v : V} {r : Int × Int} (e : Same H H') (h : Pr2 H v r) : Pr2 H' v r := by
  obtain ⟨t, rfl, h⟩ := h
  exact ⟨t, rfl, e _ _ h⟩
def pr2D (r : Int × Int) : PyData := .tuple [.int r.1, .int r.2]
theorem Pr2.dp {K : PySem.W.Frag} {H : Hp} {v : V} {r : Int × Int} (h : Pr2 H v r) : Dp K H v (pr2D r) := by
  obtain ⟨t, rfl, h⟩ := h
  exact .tup (.inl (.inl h)) (.cons (.int _) (.cons (.int _) .nil))
theorem pl_pr2 (r : Int × Int) : Pl 1 (pr2D r) := Pl.tup fun d m => by
  rcases List.mem_cons.mp m with rfl | m
  · exact pl_int 0 _
  · rcases List.mem_cons.mp m with rfl | m
    · exact pl_int 0 _
    · cases m
/-! ### stretches of like numbers -/
def stepR (rs : List (Int × Int)) (n : Int) : List (Int × Int) :=
  match rs.reverse with
  | [] => [(n, 1)]
  | (m, k) :: t => if m = n then t.reverse ++ [(n, k + 1)] else rs ++ [(n, 1)]
theorem stepR_nil (n : Int) : stepR [] n = [(n, 1)] := rfl
theorem stepR_snoc (rs : List (Int × Int)) (m k n : Int) : stepR (rs ++ [(m, k)]) n = if m = n then rs ++ [(n, k + 1)] else rs ++ [(m, k)] ++ [(n, 1)] := by
  unfold stepR
  simp
def runs (row : List Int) : List (Int × Int) := row.foldl stepR []
theorem runs_snoc (row : List Int) (n : Int) : runs (row ++ [n]) = stepR (runs row) n := by
  unfold runs
  rw [List.foldl_append]
  rfl
theorem stepR_length (rs : List (Int × Int)) (n : Int) : (stepR rs n).length ≤ rs.length + 1 := by
  rcases nil_or_snoc rs with rfl | ⟨rs', ⟨m, k⟩, rfl⟩
  · simp [stepR_nil]
  · rw [stepR_snoc]
    split <;> simp
theorem fold_length : ∀ (row : List Int) (rs : List (Int × Int)), (row.foldl stepR rs).length ≤ rs.length + row.length
  | [], _ => Nat.le_refl _
  | x :: row, rs => by
    have h1 := fold_length row (stepR rs x)
    have h2 := stepR_length rs x
    show (row.foldl stepR (stepR rs x)).length ≤ rs.length + (row.length + 1)
    omega
theorem runs_length (row : List Int) : (runs row).length ≤ row.length := by
  have h := fold_length row []
  rw [List.length_nil, Nat.zero_add] at h
  exact h
/-! ### for and comprehension over a list or a tuple, held by a name -/
section
variable {K : PySem.W.Frag} {a : Addr} {xs : List V} {g : TG} {σ : L2.St} {H : Hp} {k : Nat}
theorem for_seq {tb : TS} {D : Ends} {H0 : Hp} (hi : σ[k]? = some (some (.ref a))) (hq : SqQ K H0 a xs) (e0 : Same H0 H) (Pv : Nat → L2.St → Hp → Prop) (h0 : Pv 0 σ H) (stay : ∀ i σ' H', i ≤ xs.length → Pv i σ' H' → Same H0 H')
    (hs : ∀ i x σ H, xs[i]? = some x → Pv i σ H → g x σ H fun σ2 H2 => tb { D with nx := Pv (i + 1), ct := Pv (i + 1), bk := D.nx } σ2 H2) (hd : ∀ σ H, Pv xs.length σ H → D.nx σ H) :
    tFor (fun σ H R => iList K (tVar k) σ H R ∨ iTup K (tVar k) σ H R) g tb D σ H := by
  rcases hq with h | h
  · exact .inl ⟨_, hi, a, rfl, ⟨_, e0.seq h⟩, for_list Pv h0 (fun i σ' H' l p => (stay i σ' H' l p).seq h) hs hd⟩
  · exact .inr ⟨_, hi, a, rfl, ⟨_, Same.t e0 h⟩, for_tup Pv h0 (fun i σ' H' l p => Same.t (stay i σ' H' l p) h) hs hd⟩
theorem lc_seqmap {tt : TT} {te : TE} {vs : List Nat} {Q : VK} (f : V → V) (hi : σ[k]? = some (some (.ref a))) (hq : SqQ K H a xs) (len : xs.length ≤ 100000)
    (turn : ∀ (i : Nat) (x : V) (Hc : Hp) (Q' : VK) (R' : Hp → Prop), xs[i]? = some x → Same H Hc → (∀ H4, Same Hc H4 → Q' (f x) H4) → g x (wipe σ vs) Hc fun σ2 H2 => wipe σ2 vs = wipe σ vs ∧ tt σ2 H2 fun b H3 => if b = true then te σ2 H3 Q' else R' H3)
    (fin : ∀ (D : Addr) (Hc : Hp), Same H Hc → Hc D = some (.lst (xs.map f)) → Q (.ref D) Hc) :
    tLc (fun σ H R => iList K (tVar k) σ H R ∨ iTup K (tVar k) σ H R) g tt te vs σ H Q := by
  rcases hq with h | h
  · exact .inl ⟨_, hi, a, rfl, ⟨_, h⟩, fun D nD => lc_mapL f h nD len turn (fin D)⟩
  · exact .inr ⟨_, hi, a, rfl, ⟨_, h⟩, fun D nD => lc_mapT f h nD len turn (fin D)⟩
theorem lc_lstmap {tt : TT} {te : TE} {vs : List Nat} {Q : VK} (f : V → V) (hi : σ[k]? = some (some (.ref a))) (hq : SqL K H a xs) (len : xs.length ≤ 100000)
    (turn : ∀ (i : Nat) (x : V) (Hc : Hp) (Q' : VK) (R' : Hp → Prop), xs[i]? = some x → Same H Hc → (∀ H4, Same Hc H4 → Q' (f x) H4) → g x (wipe σ vs) Hc fun σ2 H2 => wipe σ2 vs = wipe σ vs ∧ tt σ2 H2 fun b H3 => if b = true then te σ2 H3 Q' else R' H3)
    (fin : ∀ (D : Addr) (Hc : Hp), Same H Hc → Hc D = some (.lst (xs.map f)) → Q (.ref D) Hc) :
    tLc (iList K (tVar k)) g tt te vs σ H Q := ⟨_, hi, a, rfl, ⟨_, hq⟩, fun D nD => lc_mapL f hq nD len turn (fin D)⟩
end
theorem Pr2.set {H : Hp} {p : Addr} {us : List V} {v : V} {r : Int × Int} {o : HO} (hp : H p = some (.lst us)) (h : Pr2 H v r) : Pr2 (upd H p o) v r := by
  obtain ⟨t, rfl, h⟩ := h
  refine ⟨t, rfl, ?_⟩
  rw [upd_ne (fun e => by rw [e, hp] at h; cases h)]
  exact h
theorem same_set {H Hd : Hp} {p : Addr} {o : HO} (e : Same H Hd) (np : H p = none) : Same H (upd Hd p o) := fun b u h => by
  rw [upd_ne (ne_of_none h np)]
  exact e b u h
theorem Pr2.new {H : Hp} {t : Addr} {x y : Int} : Pr2 (upd H t (.tup [.int x, .int y])) (.ref t) (x, y) := ⟨t, rfl, upd_same⟩
theorem sz1 {x : V} : [x].length ≤ sizeLine := by
  show 1 ≤ sizeLine
  decide
theorem sz2 {x y : V} : [x, y].length ≤ sizeLine := by
  show 2 ≤ sizeLine
  decide
theorem sz3 {x y z : V} : [x, y, z].length ≤ sizeLine := by
  show 3 ≤ sizeLine
  decide
theorem sz4 {x y z u : V} : [x, y, z, u].length ≤ sizeLine := by
  show 4 ≤ sizeLine
  decide
theorem ix_last {n : Nat} : ixN (n + 1) (-1) = some n := by
  unfold ixN
  rw [if_neg (by omega), if_pos (by omega)]
  congr 1
  omega
/-- xs[-1] = y, what is set -/
theorem set_last {H : Hp} {p : Addr} {xs : List V} {x y : V} {Q : Hp → Prop} (hp : H p = some (.lst (xs ++ [x]))) (q : Q (upd H p (.lst (xs ++ [y])))) : rSetL (.ref p) (.int (-1)) y H Q :=
  ⟨p, _, -1, xs.length, rfl, rfl, hp, by rw [List.length_append]; exact ix_last, by rw [show (xs ++ [x]).set xs.length y = xs ++ [y] by simp]; exact q⟩
end Kx
namespace Kx
open PySem PySem.Spec PyProof.Rows L2 SX LamX
/-! ### rules that name the frame, within a comprehension -/
section
variable {X : Cx} {K : PySem.W.Frag}
theorem inK_ix_list (e : X.K = K) : IxR X (rIxL K) := e ▸ ix_list
theorem inK_ix_tup (e : X.K = K) : IxR X (rIxT K) := e ▸ ix_tup
theorem inK_call_len_seq (e : X.K = K) : CallR X (.builtin "len") (fun xs H Q => ∃ p ys, xs = [.ref p] ∧ (SqL K H p ys ∨ SqT K H p ys) ∧ Q (.int ys.length) H) := e ▸ call_len_seq
theorem inK_sl_list (e : X.K = K) : SlR X (rSlL K) := e ▸ sl_list
theorem inK_op_eqD (e : X.K = K) (hu : X.A.units + 64 < cLine) : OpR X (compareOp .Eq) (rEqD K) := e ▸ op_eqD hu
theorem inK_op_neD (e : X.K = K) (hu : X.A.units + 64 < cLine) : OpR X (compareOp .NotEq) (rNeD K) := e ▸ op_neD hu
theorem inK_pg_tup {es : List Expr} {k : Nat} {t : TGs} {n : Nat} {pos : Pos} (e : X.K = K) (hc : X.calm = true) (h : PGs X es t) (hn : (assignEach es X.env).length = n := by rfl) (hst : (assignEach es X.env).findIdx? (·.1) = none := by rfl) : PG X (.Tuple es k pos) (gTup K n t) := e ▸ pg_tup hc h hn hst
end
end Kx
namespace Kx
open PySem PySem.Spec PyProof.Rows L2 SX LamX
/-- an error is made with its part -/
theorem mk_part {K : PySem.W.Frag} {C : Addr} {σ : L2.St} {H : Hp} {Q : XK} {v : V} (o : OexC K C) (n : PySem.W.findIn K (.ref C) "part" = some none)
    (q : ∀ d H', Same H H' → H' d = some (.xd [("part", v)]) → Q (.ref C) (some d) H') : tMkO C (sp_init K) [] (tCons (tC v) tNil) σ H Q := by
  refine ⟨by show 1 ≤ 1000; decide, fun a na => ⟨a, C, v, rfl, o, n, upd_same, fun dx nd hne => ⟨rfl, dx, [("part", v)], upd_same, ?_, ?_, q dx _ ?_ upd_same⟩⟩⟩
  · rw [upd_ne hne, upd_same]
  · rw [upd_ne hne] at nd
    exact nd
  · rw [upd_ne hne] at nd
    intro b u h
    rw [upd_ne (ne_of_none h nd)]
    show (if b = a then none else _) = some u
    rw [if_neg (ne_of_none h na), upd_ne (ne_of_none h na), upd_ne (ne_of_none h nd), upd_ne (ne_of_none h na)]
    exact h
end Kx
namespace Kx
open PySem PySem.Spec PyProof.Rows L2 SX LamX
section
variable {K : PySem.W.Frag} {J : It} {n : Nat} {G : Hp → Prop} {Y : Nat → Hp → V → Hp → Prop} {g : TG} {tt : TT} {te : TE} {vs : List Nat} {σ : L2.St} {H1 : Hp} {D : Addr} {Qd : Hp → Prop}
/-- a comprehension whose items are told ahead -/
theorem lc_out (w : Walk J n G Y) (zs : List V) (hz : zs.length = n) (nD : H1 D = none) (len : n ≤ 100000) (hG : ∀ Hc, Same H1 Hc → G Hc)
    (turn : ∀ (i : Nat) (x z : V) (Hc Hx : Hp) (Q' : VK) (R' : Hp → Prop), i < n → zs[i]? = some z → Same H1 Hc → Y i Hc x Hx → (∀ H4, Same Hc H4 → Q' z H4) → g x (wipe σ vs) Hx fun σ2 H2 => wipe σ2 vs = wipe σ vs ∧ tt σ2 H2 fun b H3 => if b = true then te σ2 H3 Q' else R' H3)
    (fin : ∀ Hc, Same H1 Hc → Hc D = some (.lst zs) → Qd Hc) :
    ∃ W : Nat → Nat → Hp → Prop, (∃ m, W 0 m (upd H1 D (.lst []))) ∧ ∀ i m H, W i m H →
      (J.stop i H ∧ Qd H) ∨ (J.go i H ∧ ∃ Nx : Hp → Prop, (∀ H', Nx H' → ∃ m', m' < m ∧ W (i + 1) m' H') ∧ ∀ x H', J.yld i H x H' → g x (wipe σ vs) H' fun σ2 H2 => wipe σ2 vs = wipe σ vs ∧ tt σ2 H2 fun b H3 =>
        if b = true then te σ2 H3 fun y H4 => ∃ acc, H4 D = some (.lst acc) ∧ acc.length < sizeLine ∧ Nx (upd H4 D (.lst (acc ++ [y]))) else Nx H3) := by
  refine lc_it w (fun i Hc => Same H1 Hc ∧ Hc D = some (.lst (zs.take i))) ⟨same_new nD, upd_same⟩ (fun i H _ p => hG H p.1) (fun i x Hc Hx hi p y => ?_) (fun Hc p => ?_)
  · have hzi : zs[i]? = some (zs[i]'(by omega)) := List.getElem?_eq_getElem (by omega)
    refine turn i x _ Hc Hx _ _ hi hzi p.1 y (fun H4 e4 => ⟨_, e4 _ _ p.2, ?_, ?_⟩)
    · rw [List.length_take]
      exact Nat.lt_of_le_of_lt (Nat.min_le_right _ _) (Nat.lt_of_le_of_lt (by omega) (by decide : 100000 < sizeLine))
    · refine ⟨fun b o z => ?_, ?_⟩
      · rw [upd_ne (ne_of_none z nD)]
        exact e4 _ _ (p.1 b o z)
      · rw [upd_same, List.take_add_one, hzi]
        rfl
  · rw [← hz, List.take_length] at p
    exact fin Hc p.1 p.2
end
section
variable {K : PySem.W.Frag} {a b : Addr} {xs ys : List V} {g : TG} {tt : TT} {te : TE} {vs : List Nat} {σ : L2.St} {H : Hp} {k l : Nat} {Q : VK}
/-- [e for x in NAME], NAME a list: the items told ahead -/
theorem lc_lst (zs : List V) (hz : zs.length = xs.length) (hi : σ[k]? = some (some (.ref a))) (hq : SqL K H a xs) (len : xs.length ≤ 100000)
    (turn : ∀ (i : Nat) (x z : V) (Hc : Hp) (Q' : VK) (R' : Hp → Prop), xs[i]? = some x → zs[i]? = some z → Same H Hc → (∀ H4, Same Hc H4 → Q' z H4) → g x (wipe σ vs) Hc fun σ2 H2 => wipe σ2 vs = wipe σ vs ∧ tt σ2 H2 fun b H3 => if b = true then te σ2 H3 Q' else R' H3)
    (fin : ∀ (D : Addr) (Hc : Hp), Same H Hc → Hc D = some (.lst zs) → Q (.ref D) Hc) :
    tLc (iList K (tVar k)) g tt te vs σ H Q := ⟨_, hi, a, rfl, ⟨_, hq⟩, fun D nD => lc_out walk_list zs hz nD len (fun Hc e => e.seq hq) (fun i x z Hc Hx Q' R' _ hzi e y q => by
      obtain ⟨rfl, hx⟩ := y
      exact turn i x z _ Q' R' hx hzi e q) (fin D)⟩
/-- [e for x, y in zip(NAME, NAME)], both lists -/
theorem lc_zip (zs : List V) (hz : zs.length = min xs.length ys.length) (hi : σ[k]? = some (some (.ref a))) (hj : σ[l]? = some (some (.ref b))) (hq : SqL K H a xs) (hp : SqL K H b ys) (len : xs.length ≤ 100000)
    (turn : ∀ (i : Nat) (x y z : V) (t : Addr) (Hc : Hp) (Q' : VK) (R' : Hp → Prop), xs[i]? = some x → ys[i]? = some y → zs[i]? = some z → Same H Hc → Hc t = some (.tup [x, y]) → (∀ H4, Same Hc H4 → Q' z H4) → g (.ref t) (wipe σ vs) Hc fun σ2 H2 => wipe σ2 vs = wipe σ vs ∧ tt σ2 H2 fun b H3 => if b = true then te σ2 H3 Q' else R' H3)
    (fin : ∀ (D : Addr) (Hc : Hp), Same H Hc → Hc D = some (.lst zs) → Q (.ref D) Hc) :
    tLc (iZip K (tCons (tVar k) (tCons (tVar l) tNil))) g tt te vs σ H Q := ⟨_, hi, _, hj, a, b, xs, ys, rfl, hq, hp, fun D nD => lc_out (walk_zip rfl) zs hz nD (by omega) (fun Hc e => ⟨e.seq hq, e.seq hp⟩) (fun i x z Hc Hx Q' R' _ hzi e y q => by
      obtain ⟨t, x', y', rfl, nt, rfl, hx, hy⟩ := y
      exact turn i x' y' z t _ Q' R' hx hy hzi (e.trans (same_new nt)) upd_same (fun H4 e4 => q H4 ((same_new nt).trans e4))) (fin D)⟩
end
/-- «xs != ys», ints -/
theorem ne_ints {K : PySem.W.Frag} {H : Hp} {a b : Addr} {xs ys : List Int} {Q : VK} (h1 : SqL K H a (xs.map V.int)) (h2 : SqL K H b (ys.map V.int)) (q : Q (.bl (!decide (xs = ys))) H) : rNeD K (.ref a) (.ref b) H Q :=
  ⟨_, _, dp_ints h1, dp_ints h2, (pl_ints xs).shaped (by decide), (pl_ints ys).shaped (by decide), by rw [eqv_ints]; exact q⟩
theorem paired_at {α β : Type} {F : α → β → Prop} {l : List α} {m : List β} (h : Paired F l m) {i : Nat} {a : α} {b : β} (ha : l[i]? = some a) (hb : m[i]? = some b) : F a b := by
  obtain ⟨b', e, f⟩ := paired_get h ha
  rw [hb] at e
  cases e
  exact f
theorem map_at {α β : Type} {f : α → β} {l : List α} {i : Nat} {z : β} (h : (l.map f)[i]? = some z) : ∃ x, l[i]? = some x ∧ z = f x := by
  rw [List.getElem?_map] at h
  cases e : l[i]? with
  | none => rw [e] at h; cases h
  | some x => rw [e] at h; exact ⟨x, rfl, (Option.some.inj h).symm⟩
/-! ### one step into a reading -/
section
variable {D : Ends} {σ : L2.St} {H : Hp}
theorem go_seq {t u : TS} (h : t { D with nx := u D } σ H) : tSeq t u D σ H := h
theorem go_if {c : TT} {t u : TS} (h : c σ H fun b H1 => if b = true then t D σ H1 else u D σ H1) : tIfS c t u D σ H := h
theorem go_test {te : TE} {Q : Bool → Hp → Prop} (h : te σ H fun x H' => ∃ k, x = .bl k ∧ Q k H') : tTest te σ H Q := h
theorem go_op {r : R2} {ta tb : TE} {Q : VK} (h : ta σ H fun x H1 => tb σ H1 fun y H2 => r x y H2 Q) : tOp r ta tb σ H Q := h
theorem go_ret {te : TE} (h : te σ H D.rt) : tRet te D σ H := h
theorem go_asg {te : TE} {g : TG} (h : te σ H fun x H1 => g x σ H1 D.nx) : tAsg te g D σ H := h
theorem go_cb {r : List V → Hp → VK → Prop} {t : TA} {Q : VK} (h : t σ H fun vs H1 => r vs H1 Q) : tCB r t σ H Q := h
theorem go_cons {te : TE} {t : TA} {Q : List V → Hp → Prop} (h : te σ H fun x H1 => t σ H1 fun xs H2 => Q (x :: xs) H2) : tCons te t σ H Q := h
end
theorem cut_toI {xs : List Int} {k : Int} (h : 0 ≤ k) : cutV (xs.map V.int) none (some k) = (xs.take k.toNat).map V.int := by
  obtain ⟨n, rfl⟩ : ∃ n : Nat, k = n := ⟨k.toNat, by omega⟩
  rw [cut_to, List.map_take, Int.toNat_natCast]
theorem cut_fromI {xs : List Int} {k : Int} (h : 0 ≤ k) : cutV (xs.map V.int) (some k) none = (xs.drop k.toNat).map V.int := by
  obtain ⟨n, rfl⟩ : ∃ n : Nat, k = n := ⟨k.toNat, by omega⟩
  rw [cut_from, List.map_drop, Int.toNat_natCast]
theorem ne_of_two {H : Hp} {a b : Addr} {o u : HO} (ha : H a = some o) (hb : H b = some u) (h : o ≠ u) : a ≠ b := fun e => by
  rw [e, hb] at ha
  exact h (Option.some.inj ha).symm
theorem Wh.held {H : Hp} {a c : Addr} {n : Nat} (h : Wh H a c n) : ∃ o, H a = some o := by
  obtain ⟨cs, t, l, h1, _⟩ := h
  exact ⟨_, h1⟩
theorem Wh.ne {H : Hp} {a c p : Addr} {n : Nat} (h : Wh H a c n) (np : H p = none) : p ≠ a := fun e => by
  obtain ⟨o, h⟩ := h.held
  rw [← e, np] at h
  cases h
theorem Wh.new {H : Hp} {a c p : Addr} {n : Nat} {o : HO} (h : Wh H a c n) (np : H p = none) : Wh (upd H p o) a c n := h.same (same_new np)
theorem Mv.new {H H' : Hp} {a p : Addr} {o : HO} (h : Mv a H H') (np : H' p = none) : Mv a H (L2.upd H' p o) := h.trans (Mv.of (same_new np))
theorem Wh.cell {H : Hp} {a c : Addr} {n : Nat} (h : Wh H a c n) : ∃ o, H c = some o := by
  obtain ⟨cs, t, l, _, h2, _⟩ := h
  exact ⟨_, h2⟩
/-- a list of the law's own is written: the wheel stays -/
theorem Wh.set {H : Hp} {a c p : Addr} {n : Nat} {o : HO} (h : Wh H a c n) (h1 : p ≠ a) (h2 : p ≠ c) : Wh (upd H p o) a c n := by
  obtain ⟨cs, t, l, g1, g2, g3⟩ := h
  exact ⟨cs, t, l, by rw [upd_ne h1.symm]; exact g1, by rw [upd_ne h2.symm]; exact g2, g3⟩
theorem Wh.nc {H : Hp} {a c p : Addr} {n : Nat} (h : Wh H a c n) (np : H p = none) : p ≠ c := fun e => by
  obtain ⟨o, h⟩ := h.cell
  rw [← e, np] at h
  cases h
end Kx
namespace Kx
open PySem
/-- other can be cut into pieces, none empty, one for each number of row -/
inductive Th : List Int → List Int → Prop
  | nil : Th [] []
  | more {r o : List Int} (x : Int) (k : Nat) : Th r o → Th (r ++ [x]) (o ++ List.replicate (k + 1) x)
def LeR (p q : Int × Int) : Prop := p.1 = q.1 ∧ p.2 ≤ q.2
theorem snoc_inj {α : Type} {l m : List α} {a b : α} (h : l ++ [a] = m ++ [b]) : l = m ∧ a = b := by
  have h2 := List.append_inj' h rfl
  exact ⟨h2.1, by simpa using h2.2⟩
theorem snoc_ne {α : Type} {l : List α} {a : α} : l ++ [a] ≠ [] := by
  intro h
  have := congrArg List.length h
  simp at this
theorem stepR_le {rs ss : List (Int × Int)} (h : Paired LeR rs ss) (x : Int) : Paired LeR (stepR rs x) (stepR ss x) := by
  rcases nil_or_snoc ss with rfl | ⟨ss', ⟨m, d⟩, rfl⟩
  · cases paired_nil h
    exact .cons ⟨rfl, Int.le_refl _⟩ .nil
  · obtain ⟨rs', ⟨m', c⟩, rfl, h1, h2, h3⟩ := paired_split ss' h
    have e : m' = m := h2
    subst e
    rw [stepR_snoc, stepR_snoc]
    by_cases e : m' = x
    · rw [if_pos e, if_pos e]
      exact Paired.snoc h1 ⟨rfl, by have : c ≤ d := h3; show c + 1 ≤ d + 1; omega⟩
    · rw [if_neg e, if_neg e]
      exact Paired.snoc (Paired.snoc h1 ⟨rfl, h3⟩) ⟨rfl, Int.le_refl _⟩
theorem stepR_up (rs : List (Int × Int)) (x : Int) : ∃ rs' c, stepR rs x = rs' ++ [(x, c)] := by
  rcases nil_or_snoc rs with rfl | ⟨rs', ⟨m, d⟩, rfl⟩
  · exact ⟨[], 1, rfl⟩
  · rw [stepR_snoc]
    by_cases e : m = x
    · exact ⟨rs', d + 1, by rw [if_pos e]⟩
    · exact ⟨rs' ++ [(m, d)], 1, by rw [if_neg e]⟩
theorem more_le {rs ss : List (Int × Int)} {x c : Int} (h : Paired LeR (rs ++ [(x, c)]) ss) : Paired LeR (rs ++ [(x, c)]) (stepR ss x) := by
  rcases nil_or_snoc ss with rfl | ⟨ss', ⟨m, d⟩, rfl⟩
  · exact absurd (paired_nil h) snoc_ne
  · obtain ⟨rs', ⟨m', c'⟩, e, h1, h2, h3⟩ := paired_split ss' h
    obtain ⟨rfl, e2⟩ := snoc_inj e
    cases e2
    have e : x = m := h2
    subst e
    rw [stepR_snoc, if_pos rfl]
    exact Paired.snoc h1 ⟨rfl, by have : c ≤ d := h3; show c ≤ d + 1; omega⟩
theorem runs_rep (o : List Int) (x : Int) : ∀ k : Nat, runs (o ++ List.replicate (k + 1) x) = stepR (runs (o ++ List.replicate k x)) x := fun k => by
  rw [List.replicate_succ', ← List.append_assoc, runs_snoc]
theorem th_le {r o : List Int} (h : Th r o) : Paired LeR (runs r) (runs o) := by
  induction h with
  | nil => exact .nil
  | @more r o x k _ ih =>
    rw [runs_snoc]
    induction k with
    | zero =>
      rw [runs_rep]
      simp only [List.replicate_zero, List.append_nil]
      exact stepR_le ih x
    | succ k ihk =>
      rw [runs_rep]
      obtain ⟨rs', c, e⟩ := stepR_up (runs r) x
      rw [e] at ihk ⊢
      exact more_le ihk
theorem fold_pos : ∀ (o : List Int) (rs : List (Int × Int)), (∀ p ∈ rs, 1 ≤ p.2) → ∀ p ∈ o.foldl stepR rs, 1 ≤ p.2
  | [], _, h => h
  | x :: o, rs, h => by
    refine fold_pos o (stepR rs x) fun p m => ?_
    rcases nil_or_snoc rs with rfl | ⟨rs', ⟨y, d⟩, rfl⟩
    · rcases List.mem_singleton.mp m with rfl
      exact Int.le_refl _
    · have hd : (1 : Int) ≤ d := h (y, d) (by simp)
      rw [stepR_snoc] at m
      by_cases e : y = x
      · rw [if_pos e] at m
        rcases List.mem_append.mp m with m | m
        · exact h p (List.mem_append_left _ m)
        · rcases List.mem_singleton.mp m with rfl
          show (1 : Int) ≤ d + 1
          omega
      · rw [if_neg e] at m
        rcases List.mem_append.mp m with m | m
        · exact h p m
        · rcases List.mem_singleton.mp m with rfl
          exact Int.le_refl _
theorem runs_pos (o : List Int) : ∀ p ∈ runs o, 1 ≤ p.2 := fold_pos o [] (fun _ m => by cases m)
theorem runs_nil {o : List Int} (h : runs o = []) : o = [] := by
  rcases nil_or_snoc o with rfl | ⟨o', x, rfl⟩
  · rfl
  · rw [runs_snoc] at h
    obtain ⟨rs', c, e⟩ := stepR_up (runs o') x
    rw [e] at h
    exact absurd h snoc_ne
theorem runs_last {o : List Int} {ss : List (Int × Int)} {x d : Int} (h : runs o = ss ++ [(x, d)]) : ∃ o', o = o' ++ [x] ∧ ((d = 1 ∧ runs o' = ss) ∨ (2 ≤ d ∧ runs o' = ss ++ [(x, d - 1)])) := by
  rcases nil_or_snoc o with rfl | ⟨o', y, rfl⟩
  · exact absurd h.symm snoc_ne
  · rw [runs_snoc] at h
    rcases nil_or_snoc (runs o') with e | ⟨rs', ⟨m, c⟩, e⟩
    · rw [e] at h
      obtain ⟨h1, h2⟩ := snoc_inj (l := []) h
      cases h2
      exact ⟨o', rfl, .inl ⟨rfl, by rw [e, h1]⟩⟩
    · have hc : (1 : Int) ≤ c := runs_pos o' (m, c) (by rw [e]; simp)
      rw [e, stepR_snoc] at h
      by_cases em : m = y
      · rw [if_pos em] at h
        obtain ⟨h1, h2⟩ := snoc_inj h
        cases h2
        subst em h1
        exact ⟨o', rfl, .inr ⟨by omega, by rw [e, Int.add_sub_cancel]⟩⟩
      · rw [if_neg em] at h
        obtain ⟨h1, h2⟩ := snoc_inj h
        cases h2
        exact ⟨o', rfl, .inl ⟨rfl, by rw [e, h1]⟩⟩
theorem runs_piece {x : Int} {ss : List (Int × Int)} : ∀ (n : Nat) {o : List Int}, runs o = ss ++ [(x, (n : Int) + 1)] → ∃ o', o = o' ++ List.replicate (n + 1) x ∧ runs o' = ss
  | 0, o, h => by
    obtain ⟨o', e, h1 | h1⟩ := runs_last h
    · exact ⟨o', e, h1.2⟩
    · omega
  | n + 1, o, h => by
    obtain ⟨o', rfl, h1 | h1⟩ := runs_last h
    · omega
    · rw [show ((n + 1 : Nat) : Int) + 1 - 1 = (n : Int) + 1 by omega] at h1
      obtain ⟨o2, rfl, e2⟩ := runs_piece n h1.2
      exact ⟨o2, by rw [List.replicate_succ' (n := n + 1), List.append_assoc], e2⟩
theorem le_th : ∀ (n : Nat) {r o : List Int}, r.length = n → Paired LeR (runs r) (runs o) → Th r o
  | 0, r, o, hn, h => by
    cases r with
    | nil =>
      have e : runs o = [] := by
        cases h' : runs o with
        | nil => rfl
        | cons p t => rw [h'] at h; cases h
      rw [runs_nil e]
      exact .nil
    | cons _ _ => simp at hn
  | n + 1, r, o, hn, h => by
    rcases nil_or_snoc r with rfl | ⟨r', x, rfl⟩
    · simp at hn
    · have hn' : r'.length = n := by simpa using hn
      rw [runs_snoc] at h
      obtain ⟨rs', c, e⟩ := stepR_up (runs r') x
      rw [e] at h
      rcases nil_or_snoc (runs o) with eo | ⟨ss, ⟨y, d⟩, eo⟩
      · rw [eo] at h
        exact absurd (paired_nil h) snoc_ne
      · rw [eo] at h
        obtain ⟨q', ⟨x', c'⟩, e1, h1, h2, h3⟩ := paired_split ss h
        obtain ⟨e3, e2⟩ := snoc_inj e1
        cases e2
        subst e3
        have e4 : x = y := h2
        subst e4
        have h3 : c ≤ d := h3
        have hpos : (1 : Int) ≤ d := runs_pos o (x, d) (by rw [eo]; simp)
        rcases nil_or_snoc (runs r') with er | ⟨ts, ⟨m, c2⟩, er⟩
        · rw [er] at e
          obtain ⟨e5, e6⟩ := snoc_inj (l := []) e
          subst e5
          obtain ⟨o', rfl, eo'⟩ := runs_piece (d - 1).toNat (o := o) (ss := ss) (x := x) (by rw [eo]; congr 3; omega)
          exact .more x _ (le_th n hn' (by rw [er, eo']; exact h1))
        · have hc2 : (1 : Int) ≤ c2 := runs_pos r' (m, c2) (by rw [er]; simp)
          rw [er, stepR_snoc] at e
          by_cases em : m = x
          · rw [if_pos em] at e
            obtain ⟨e5, e6⟩ := snoc_inj e
            cases e6
            subst e5 em
            obtain ⟨o', rfl, hh | ⟨_, hh⟩⟩ := runs_last eo
            · omega
            · exact .more m 0 (le_th n hn' (by rw [er, hh]; exact Paired.snoc h1 ⟨rfl, by show c2 ≤ d - 1; omega⟩))
          · rw [if_neg em] at e
            obtain ⟨e5, e6⟩ := snoc_inj e
            cases e6
            subst e5
            obtain ⟨o', rfl, eo'⟩ := runs_piece (d - 1).toNat (o := o) (ss := ss) (x := x) (by rw [eo]; congr 3; omega)
            exact .more x _ (le_th n hn' (by rw [er, eo']; exact h1))
theorem leR_iff : ∀ (rs ss : List (Int × Int)), (decide (rs.map Prod.fst = ss.map Prod.fst) && (rs.zip ss).all fun p => decide (p.1.2 ≤ p.2.2)) = true ↔ Paired LeR rs ss
  | [], [] => ⟨fun _ => .nil, fun _ => rfl⟩
  | [], q :: ss => ⟨fun h => by simp at h, fun h => by cases h⟩
  | p :: rs, [] => ⟨fun h => by simp at h, fun h => by cases h⟩
  | p :: rs, q :: ss => by
    have ih := leR_iff rs ss
    constructor
    · intro h
      simp only [List.map_cons, List.zip_cons_cons, List.all_cons, Bool.and_eq_true, decide_eq_true_eq, List.cons.injEq] at h
      obtain ⟨⟨h1, h2⟩, h3, h4⟩ := h
      refine .cons ⟨h1, h3⟩ (ih.mp ?_)
      simp only [Bool.and_eq_true, decide_eq_true_eq]
      exact ⟨h2, h4⟩
    · intro h
      cases h with
      | cons h1 h2 =>
        have h3 := ih.mpr h2
        simp only [Bool.and_eq_true, decide_eq_true_eq] at h3
        simp only [List.map_cons, List.zip_cons_cons, List.all_cons, Bool.and_eq_true, decide_eq_true_eq, List.cons.injEq]
        exact ⟨⟨h1.1, h3.1⟩, h1.2, h3.2⟩
theorem th_iff (r o : List Int) : (decide ((runs r).map Prod.fst = (runs o).map Prod.fst) && ((runs r).zip (runs o)).all fun p => decide (p.1.2 ≤ p.2.2)) = true ↔ Th r o :=
  (leR_iff _ _).trans ⟨le_th _ rfl, th_le⟩
end Kx
namespace Kx
open PySem PySem.Spec PyProof.Rows L2 SX LamX
/-- a def whose code object is known -/
def FunC (K : PySem.W.Frag) (x qual : Str) (st : Stmt) (f : Addr) (fd : FuncData) (c : Addr) : Prop :=
  ∃ (oc : Value) (od : Option Addr) (kV doc pm : Value) (an : Option Addr) (ct : Value) (osl : Array (Option Value)), fd = PySem.W.fnOf x qual (defArgs st) (defBody st) (defScope st) .none kV doc pm an (.ref c) ct ∧
    K.lookup f = some ⟨oc, od, .func (PySem.W.fnOf x qual (defArgs st) (defBody st) (defScope st) .none kV doc pm an (.ref c) ct), osl⟩ ∧ PySem.W.codeIn K (.ref c) qual = true
section
variable {P : Program} {w : World} {K : PySem.W.Frag} {mg : Str → Option Value} {base : Heap}
/-- the body's rule: guards told, the code object known -/
theorem okC {x qual : Str} {st : Stmt} {f c : Addr} {fd : FuncData} {N ps : List Str} {k : Nat} {sp : Sp} (F : FunC K x qual st f fd c) (S : FnScope N ps (defScope st)) (len : ∀ vs H Q E, sp vs H Q E → vs.length = ps.length)
    (hbody : ∀ (A : Around) (outer : List Env) (s : Shared) (H : Hp) (vs : List V) (Q : VK) (E : XK), A.guards = some [] → Room k (A.deeper (envOfC qual (defScope st) s.heap.objs.size f (.ref c))) → sp vs H Q E →
      ∃ t, PSs (cxOf CX0 P w K mg base N qual (defScope st) f (.ref c) A outer s H E).nox (defBody st) t ∧ t { nx := fun _ H' => Q .non H', rt := Q } (start N vs) H) :
    FnG P w K mg base CX0 (k + 1) f fd ps sp := by
  obtain ⟨oc, od, kV, doc, pm, an, ct, osl, rfl, lk, hcd⟩ := F
  refine ⟨len, fun A outer s H args us vs Q E hg hr e0 hb r hsp => ?_⟩
  refine LamX.run_ofS lk hcd S hr e0 hb r (len _ _ _ _ hsp) fun hr' => ?_
  obtain ⟨t, h, q⟩ := hbody A outer s H vs Q E hg hr' hsp
  exact ⟨t, h.nox, q⟩
theorem funC_mk {x qual : Str} {st : Stmt} {f c : Addr} {oc : Value} {od an : Option Addr} {osl : Array (Option Value)} {kV doc pm ct : Value} (l : K.lookup f = some ⟨oc, od, .func (PySem.W.fnOf x qual (defArgs st) (defBody st) (defScope st) .none kV doc pm an (.ref c) ct), osl⟩)
    (h : PySem.W.codeIn K (.ref c) qual = true) : FunC K x qual st f (PySem.W.fnOf x qual (defArgs st) (defBody st) (defScope st) .none kV doc pm an (.ref c) ct) c := ⟨oc, od, kV, doc, pm, an, ct, osl, rfl, l, h⟩
theorem funC_of {x qual : Str} {st : Stmt} {f c Pt : Addr} {fd : FuncData} (F : Fun K x qual st f fd) (g : PySem.W.nsIn K mainGlobals x = some (some (.ref f))) (t : PySem.W.tabIn K x = some (c, Pt)) : FunC K x qual st f fd c := by
  obtain ⟨oc, od, kV, doc, pm, an, cdv, ct, osl, rfl, lk, hcd⟩ := F.ex
  unfold PySem.W.tabIn at t
  rw [g] at t
  simp only [lk] at t
  have e : (PySem.W.fnOf x qual (defArgs st) (defBody st) (defScope st) .none kV doc pm an cdv ct).code = cdv := rfl
  clear e
  cases cdv with
  | ref c' =>
    simp only at t
    split at t
    · split at t
      · injection t with t
        injection t with t1 t2
        subst t1
        exact ⟨oc, od, kV, doc, pm, an, ct, osl, rfl, lk, hcd⟩
      · cases t
    · cases t
  | _ => simp at t
end
/-- no positional value, two by name: exchanged -/
def swapG {α : Type} (us ws : List α) : List α := match us, ws with | [], [v, u] => [u, v] | _, _ => []
/-- f(b = .., a = ..): two parameters, both by name, the other way round -/
theorem kb_swap {K : PySem.W.Frag} {x qual : Str} {st : Stmt} {f : Addr} {fd : FuncData} {a b : Str} (F : Fun K x qual st f fd)
    (h : ∀ (kV doc pm : Value) (an : Option Addr) (cdv ct : Value) (u v : Value), bindArgs (PySem.W.fnOf x qual (defArgs st) (defBody st) (defScope st) .none kV doc pm an cdv ct) ⟨[], [(b, v), (a, u)]⟩ = pure [(a, u), (b, v)]) :
    KBinds K fd [a, b] [b, a] swapG swapG := by
  obtain ⟨oc, od, kV, doc, pm, an, cdv, ct, osl, rfl, lk, hcd⟩ := F.ex
  refine ⟨fun s us ws X l => ?_, fun {vs us zs ws} r1 r2 => ?_⟩
  · match us, ws, l with
    | [], [v, u], _ => exact .of_eq (h kV doc pm an cdv ct u v)
    | [], [], l => cases l
    | [], [_], l => cases l
    | [], _ :: _ :: _ :: _, l => cases l
    | _ :: _, _, l => cases l
  · cases r1 with
    | cons _ _ => exact .nil
    | nil =>
      cases r2 with
      | nil => exact .nil
      | cons h1 r2 =>
        cases r2 with
        | nil => exact .nil
        | cons h2 r2 =>
          cases r2 with
          | nil => exact .cons h2 (.cons h1 .nil)
          | cons _ _ => exact .nil
/-! ### the scope of a lambda with one default, checked -/
def lamPB (sc scope : Scope) (z : Str) : Bool :=
  decide (scope.kind = .function) && !scope.isCoroutine && !scope.isGenerator && decide (scope.names.lookup z = some .local) && scope.names.all fun y => !decide (y.2 = .cell) && (!decide (y.2 = .local) || decide (y.1 = z)) && (!decide (y.2 = .free) || decide (sc.names.lookup y.1 = some .cell) || decide (sc.names.lookup y.1 = some .free))
theorem lamP_by {sc scope : Scope} {z : Str} (h : lamPB sc scope z = true) : LamP sc scope z := by
  unfold lamPB at h
  simp only [Bool.and_eq_true, Bool.or_eq_true, Bool.not_eq_true', decide_eq_true_eq, decide_eq_false_iff_not, List.all_eq_true] at h
  obtain ⟨⟨⟨⟨h1, h2⟩, h3⟩, h5⟩, h4⟩ := h
  refine { kind := h1, co := h2, gen := h3, own := fun y hy => ⟨(h4 y hy).1.1, fun e => ?_⟩, par := h5, free := fun y hy e => ?_ }
  · rcases (h4 y hy).1.2 with z | z
    · exact absurd e z
    · exact z
  · rcases (h4 y hy).2 with (z | z) | z
    · exact absurd e z
    · exact .inl z
    · exact .inr z
open PySem.W in
/-- the goal that the head leaves, of a law that makes lambdas: x its def's name, P its table -/
theorem walkL {l : OpenLaw} {n k : Nat} {q : Program} {loose : List Str} {XP : (Str → Option Value) → Heap → Prop} {YP : World → Heap → Prop} {d : DefRec} {K : Params → Frag} {x y : Str} (sp : Frag → Addr → Sp)
    (hn : l.most = some n) (hz : n ≤ sizeLine) (h0 : d.params.defaults = []) (hr : Room k callerA) (hY : ∀ (w : World) (h : Heap), YP w h → (K w.params).In h)
    (hc : ∀ p, (∃ r, (recsOf q).find? (fun r => r.name == y) = some r) ∧ ∃ c Pt, tabIn (K p) y = some (c, Pt) ∧ (K p).lookup Pt = none)
    (F : ∀ (w : World) (mg : Str → Option Value) (fa : Addr) (h : Heap), (K w.params).In h → h.Ns mainGlobals mg → mg d.name = some (.ref fa) → ∃ fd : FuncData,
      (∀ (t : Shared) (u : Value), BindsTo t fd ⟨[u], []⟩ [(x, u)]) ∧ ∀ (c Pt : Addr), tabIn (K w.params) y = some (c, Pt) → ∀ base : Heap, (K w.params).In base → base.Ns mainGlobals mg → TabB base mg c Pt → FnG l.prog w (K w.params) mg base CX0 k fa fd [x] (sp (K w.params) Pt))
    (pr : ∀ (K : Frag) (Pt : Addr) (H : Hp) (a : Addr) (ns : List Int), ns.length ≤ n → H Pt = some (.tbl #[]) → SqL K H a (ns.map V.int) → sp K Pt [.ref a] H (fun v _ => v = .bl true) fun _ _ _ => False) :
    WalkO q loose XP YP l.row.toRowW d [] (fun f us => PySem.call f us) := by
  refine walkT (x := x) (K := K) (cs := fun p => [(y, ((tabIn (K p) y).getD (0, 0)))]) (sp := fun K => sp K ((tabIn K y).getD (0, 0)).2) hn hz h0 hr hY (fun p e he => ?_) (fun w mg fa h KX G hmg => ?_) (fun p H a ns hl ht hS _ => pr _ _ H a ns hl (ht _ (List.mem_singleton.mpr rfl)) hS)
  · obtain ⟨h1, c, Pt, h2, h3⟩ := hc p
    cases List.mem_singleton.mp he
    refine ⟨h1, ?_, ?_⟩
    · rw [h2]
      rfl
    · rw [h2]
      exact h3
  · obtain ⟨fd, hb, hF⟩ := F w mg fa h KX G hmg
    obtain ⟨_, c, Pt, h2, _⟩ := hc w.params
    refine ⟨fd, hb, fun base hk hg ht => ?_⟩
    have hT := ht _ (List.mem_singleton.mpr rfl)
    simp only [h2, Option.getD_some] at hT ⊢
    exact hF c Pt h2 base hk hg hT
theorem useIt {α : Type} {P : Prop} (x : α) (h : α → P) : P := h x
theorem binds_one {K : PySem.W.Frag} {x qual a : Str} {st : Stmt} {f : Addr} {fd : FuncData} (F : Fun K x qual st f fd)
    (h : ∀ (kV doc pm : Value) (an : Option Addr) (cdv ct u : Value), bindArgs (PySem.W.fnOf x qual (defArgs st) (defBody st) (defScope st) .none kV doc pm an cdv ct) ⟨[u], []⟩ = pure [(a, u)]) : ∀ (t : Shared) (u : Value), BindsTo t fd ⟨[u], []⟩ [(a, u)] := by
  obtain ⟨oc, od, kV, doc, pm, an, cdv, ct, osl, rfl, lk, hcd⟩ := F.ex
  exact fun t u => .of_eq (h kV doc pm an cdv ct u)
theorem same_ref {mg : Str → Option Value} {x : Str} {a b : Addr} (h : mg x = some (.ref a)) (k : mg x = some (.ref b)) : a = b := by
  rw [h] at k
  injection k with k
  injection k
theorem tabIn_of {K : PySem.W.Frag} {x : Str} {f c Pt : Addr} {oc oc2 : Value} {od od2 : Option Addr} {osl osl2 : Array (Option Value)} {fd : FuncData} {vs : Array Value} (a : PySem.W.nsIn K mainGlobals x = some (some (.ref f)))
    (l : K.lookup f = some ⟨oc, od, .func fd, osl⟩) (e : fd.code = .ref c) (l2 : K.lookup c = some ⟨oc2, od2, .fields vs, osl2⟩) (v : (vs[11]? : Option Value) = some (.ref Pt)) (n : K.lookup Pt = none) :
    ∃ c Pt, PySem.W.tabIn K x = some (c, Pt) ∧ K.lookup Pt = none := by
  refine ⟨c, Pt, ?_, n⟩
  unfold PySem.W.tabIn
  rw [a]
  simp only [l, e, l2, v]
end Kx
namespace Kx
open PySem PySem.Spec PyProof.Rows L2 SX LamX
/-! ### what stays through draws and through the making of lambdas -/
/-- H without what stands at a and without tables -/
def core (a : Addr) (H : Hp) : Hp := fun b => if b = a then none else match H b with | some (.tbl _) => none | o => o
theorem core_at {a b : Addr} {H : Hp} {o : HO} (h : H b = some o) (n : b ≠ a) (t : ∀ ps, o ≠ .tbl ps) : core a H b = some o := by
  unfold core
  rw [if_neg n, h]
  cases o with
  | tbl ps => exact absurd rfl (t ps)
  | _ => rfl
theorem of_core {a b : Addr} {H : Hp} {o : HO} (h : core a H b = some o) : b ≠ a ∧ H b = some o ∧ ∀ ps, o ≠ .tbl ps := by
  unfold core at h
  by_cases e : b = a
  · rw [if_pos e] at h
    cases h
  · rw [if_neg e] at h
    cases q : H b with
    | none => rw [q] at h; cases h
    | some u =>
      rw [q] at h
      cases u with
      | tbl ps => cases h
      | _ =>
        have h' := Option.some.inj h
        subst h'
        exact ⟨e, rfl, fun ps z => by cases z⟩
theorem core_mv {a : Addr} {H H' : Hp} (m : Mv a H H') : Same (core a H) H' := fun b o h => m b o (of_core h).1 (of_core h).2.1
theorem core_ext {a : Addr} {H0 H H' : Hp} (s : Same (core a H0) H) (e : ExtN H H') : Same (core a H0) H' := fun b o h => e b o (s b o h) (of_core h).2.2
theorem Wh.ext {H H' : Hp} {a c : Addr} {n : Nat} (h : Wh H a c n) (e : ExtN H H') : Wh H' a c n := by
  obtain ⟨cs, t, l', h1, h2, h3⟩ := h
  exact ⟨cs, t, l', e _ _ h1 (fun ps z => by cases z), e _ _ h2 (fun ps z => by cases z), h3⟩
theorem Wh.tab {H : Hp} {a c P : Addr} {n : Nat} {ps : Array Value} (h : Wh H a c n) (t : H P = some (.tbl ps)) : P ≠ a := by
  obtain ⟨cs, x, l', h1, _⟩ := h
  exact ne_of_two t h1 (fun z => by cases z)
/-! ### what never is a list or tuple -/
theorem no_list {K : PySem.W.Frag} {n : String} (h1 : kitB n "list" = some false) (h2 : kitB n "tuple" = some false) : PySem.W.kitAny K (.type n) [.type "list", .type "tuple"] = some false := kit_at h1 h2
theorem flat_rep (n : Nat) (xs : List Int) : (List.replicate n (xs.map V.int)).flatten = ((List.replicate n xs).flatten).map V.int := by
  rw [List.map_flatten, List.map_replicate]
theorem rep_one (n : Nat) (x : Int) : (List.replicate n [V.int x]).flatten = (List.replicate n x).map V.int := by
  rw [List.map_replicate]
  induction n with
  | zero => rfl
  | succ j ih => rw [List.replicate_succ, List.flatten_cons, ih, List.replicate_succ]; rfl
theorem flat_length (n : Nat) (xs : List Int) : ((List.replicate n xs).flatten).length = n * xs.length := by
  induction n with
  | zero => simp
  | succ j ih => rw [List.replicate_succ, List.flatten_cons, List.length_append, ih, Nat.succ_mul, Nat.add_comm]
theorem flat_mem {n : Nat} {xs : List Int} {i : Int} (h : i ∈ (List.replicate n xs).flatten) : i ∈ xs := by
  obtain ⟨l, hl, hi⟩ := List.mem_flatten.mp h
  rw [List.eq_of_mem_replicate hl] at hi
  exact hi
/-- one and the same truth, twice -/
theorem dp_bb {K : PySem.W.Frag} {H : Hp} {p : Addr} {b : Bool} (h : H p = some (.lst [.bl b, .bl b])) : Dp K H (.ref p) (.list [.bool b, .bool b]) := .lst (.inl (.inl h)) (.cons (.bl b) (.cons (.bl b) .nil))
/-- [b, b] is shown -/
theorem bb1 (b : Bool) : (PyData.list [.bool b, .bool b]).showable = true := by cases b <;> rfl
theorem bb2 (b : Bool) : (PyData.list [.bool b, .bool b]).hasDict = false := by cases b <;> rfl
theorem bb3 (b : Bool) : (PyData.list [.bool b, .bool b]).depth ≤ 60 := by cases b <;> decide
theorem bb4 (b : Bool) : (PyData.list [.bool b, .bool b]).shown.length ≤ sizeLine := by cases b <;> decide +kernel
theorem bool_of {P : Prop} {a b : Bool} (h1 : a = true ↔ P) (h2 : b = true ↔ P) : a = b := Bool.eq_iff_iff.mpr (h1.trans h2.symm)
theorem ne_self {x : V} : (!decide (x = x)) = false := by simp
theorem th_refl : ∀ (n : Nat) (r : List Int), r.length = n → Th r r
  | 0, r, h => by
    cases r with
    | nil => exact .nil
    | cons _ _ => simp at h
  | n + 1, r, h => by
    rcases nil_or_snoc r with rfl | ⟨r', x, rfl⟩
    · simp at h
    · exact .more x 0 (th_refl n r' (by simpa using h))
end Kx
namespace Kx
open PySem PySem.Spec PyProof.Rows L2 SX LamX
/-! ### a def that calls replace: a token is out when it begins -/
section
variable {X : Cx}
theorem pst_set {i : Nat} {x : Str} {e : Expr} {te : TE} {pos pos' : Pos} (hN : X.N.Nodup) (hi : X.N[i]? = some x) (hx : Loc X.env.scope x) (he : PET X e te) (hs : swapsWith e (some (.Name x pos')) pos.line X.env = pure false := by rfl)
    (hf : X.fn x = true ∨ X.env.scope.names.lookup x = some .local := by first | exact .inl rfl | exact .inr rfl | assumption) : PST X (.Assign [.Name x pos'] e pos) (tAsg te (gName i)) := by
  intro pins s σ H D h0 I h
  refine wpAny_Assign_Name (thn (he pins s σ H _ h0 I h) fun v s1 hh => ?_) hs
  obtain ⟨y, H1, I1, r1, q1⟩ := hh
  exact store_ok I1 hN hi hx r1 (fun s2 I2 => ⟨_, H1, I2, q1⟩) hf
end
theorem okT {P : Program} {w : World} {K : PySem.W.Frag} {mg : Str → Option Value} {base : Heap} {x qual : Str} {st : Stmt} {f : Addr} {fd : FuncData} {N ps : List Str} {k : Nat} {sp : Sp} (F : Fun K x qual st f fd) (S : FnScope N ps (defScope st))
    (hnc : ((defScope st).names.all fun y => !decide (y.2 = .cell)) = true) (hps : 1 ≤ ps.length) (len : ∀ vs H Q E, sp vs H Q E → vs.length = ps.length)
    (hbody : ∀ (cdv : Value) (A : Around) (outer : List Env) (s : Shared) (H : Hp) (vs : List V) (Q : VK) (E : XK), Room k (A.deeper (envOfC qual (defScope st) s.heap.objs.size f cdv)) → sp vs H Q E →
      ∃ t, PSsT (cxOf CX0 P w K mg base N qual (defScope st) f cdv A outer s H E) (defBody st) t ∧ t { nx := fun _ H' => Q .non H', rt := Q } (start N vs) H) :
    FnOk P w K mg base CX0 (k + 1) f fd ps sp := by
  obtain ⟨oc, od, kV, doc, pm, an, cdv, ct, osl, rfl, lk, hcd⟩ := F.ex
  refine fn_ofT lk hcd S (fun y hy e => ?_) hps len fun A outer s H vs Q E hr hsp => hbody cdv A outer s H vs Q E hr hsp
  have h := List.all_eq_true.mp hnc y hy
  rw [e] at h
  exact absurd h (by decide)
/-! ### texts -/
theorem replace_S (l : List Nat) : Txt.replace (S l) ⟨#[32]⟩ ⟨#[]⟩ = S (l.filter (· != 32)) := by
  have h := PyProof.Rows.replace_strikes (S l) 32
  refine TL.ext_tl ?_
  show (Txt.replace (S l) ⟨#[32]⟩ ⟨#[]⟩).cps.toList = (S (l.filter (· != 32))).cps.toList
  rw [h]
theorem S_nil (l : List Nat) : decide (V.str (S l) = V.str "") = l.isEmpty := by
  cases l with
  | nil => rfl
  | cons c t =>
    rw [decide_eq_false]
    · rfl
    · intro e
      injection e with e
      have := congrArg (fun z : Str => z.cps.size) e
      have e0 : (Str.ofString "").cps.size = 0 := rfl
      simp [S] at this
      omega
/-- letters and blanks alone -/
theorem text_filter (l : List Nat) : ((l.filter (· != 32)).isEmpty || lowB (l.filter (· != 32))) = l.all sg := by
  have h : (l.filter (· != 32)).all low = l.all sg := by
    induction l with
    | nil => rfl
    | cons c t ih =>
      by_cases e : c = 32
      · subst e
        rw [List.filter_cons_of_neg (by simp), ih]
        rfl
      · rw [List.filter_cons_of_pos (by simpa using e), List.all_cons, List.all_cons, ih]
        have : sg c = low c := by
          unfold sg
          rw [decide_eq_false e, Bool.false_or]
        rw [this]
  unfold lowB
  rw [h]
  cases hE : (l.filter (· != 32)).isEmpty with
  | true =>
    have : l.filter (· != 32) = [] := List.isEmpty_iff.mp hE
    rw [← h, this]
    rfl
  | false => simp
/-- as an error with its part is raised -/
def RaisedPart (E : XK) (C : Addr) (H : Hp) (part : Str) : Prop := ∀ d H', Same H H' → H' d = some (.xd [("part", .str part)]) → E (.ref C) (some d) H'
/-! ### items between blanks -/
def itemsA (acc : List Nat) : List Nat → List (List Nat)
  | [] => [acc]
  | c :: r => if c = 32 then acc :: itemsA [] r else itemsA (acc ++ [c]) r
theorem pre_blank (c : Nat) (r : List Nat) : TL.pre [32] (c :: r) = decide (c = 32) := by
  by_cases h : c = 32
  · subst h
    simp [TL.pre]
  · have h' : ¬ 32 = c := fun e => h e.symm
    simp [TL.pre, h, h']
theorem spl_items : ∀ (l acc : List Nat), TL.spl [32] 0 acc l = itemsA acc l
  | [], acc => TL.spl_nil _ _ _
  | c :: r, acc => by
    by_cases h : c = 32
    · rw [TL.spl_hit (by rw [pre_blank, decide_eq_true h])]
      show acc :: TL.spl [32] 0 [] r = if c = 32 then acc :: itemsA [] r else itemsA (acc ++ [c]) r
      rw [if_pos h, spl_items r []]
    · rw [TL.spl_miss (by rw [pre_blank, decide_eq_false h])]
      show TL.spl [32] 0 (acc ++ [c]) r = if c = 32 then acc :: itemsA [] r else itemsA (acc ++ [c]) r
      rw [if_neg h, spl_items r (acc ++ [c])]
theorem split_items (l : List Nat) : Txt.split (S l) " " = (itemsA [] l).map S := by
  have h := SX.split_S (a := l) (b := [32]) (by simp) (by decide)
  rw [spl_items] at h
  exact h
def beginsA : Nat → List (List Nat) → List Nat
  | _, [] => []
  | p, x :: xs => p :: beginsA (p + x.length + 1) xs
/-- how far items reach -/
def reachA : Nat → List (List Nat) → Nat
  | p, [] => p
  | p, x :: xs => reachA (p + x.length + 1) xs
theorem beginsA_snoc : ∀ (xs : List (List Nat)) (p : Nat) (x : List Nat), beginsA p (xs ++ [x]) = beginsA p xs ++ [reachA p xs]
  | [], _, _ => rfl
  | y :: ys, p, x => by
    show p :: beginsA (p + y.length + 1) (ys ++ [x]) = p :: (beginsA (p + y.length + 1) ys ++ [reachA (p + y.length + 1) ys])
    rw [beginsA_snoc ys]
theorem reachA_snoc : ∀ (xs : List (List Nat)) (p : Nat) (x : List Nat), reachA p (xs ++ [x]) = reachA p xs + x.length + 1
  | [], _, _ => rfl
  | y :: ys, p, x => reachA_snoc ys _ x
theorem reach_items : ∀ (l acc : List Nat) (p : Nat), reachA p (itemsA acc l) = p + acc.length + l.length + 1
  | [], acc, p => rfl
  | c :: r, acc, p => by
    show reachA p (if c = 32 then acc :: itemsA [] r else itemsA (acc ++ [c]) r) = _
    by_cases h : c = 32
    · rw [if_pos h]
      show reachA (p + acc.length + 1) (itemsA [] r) = _
      rw [reach_items]
      simp
      omega
    · rw [if_neg h, reach_items]
      simp
      omega
theorem items_blank : ∀ (l acc : List Nat), itemsA acc (l ++ [32]) = itemsA acc l ++ [[]]
  | [], acc => rfl
  | c :: r, acc => by
    show (if c = 32 then acc :: itemsA [] (r ++ [32]) else itemsA (acc ++ [c]) (r ++ [32])) = (if c = 32 then acc :: itemsA [] r else itemsA (acc ++ [c]) r) ++ [[]]
    by_cases h : c = 32
    · rw [if_pos h, if_pos h, items_blank]
      rfl
    · rw [if_neg h, if_neg h, items_blank]
theorem items_sign {s : Nat} (hs : s ≠ 32) : ∀ (l acc : List Nat), ∃ xs x, itemsA acc l = xs ++ [x] ∧ itemsA acc (l ++ [s]) = xs ++ [x ++ [s]]
  | [], acc => ⟨[], acc, rfl, by show (if s = 32 then _ else itemsA (acc ++ [s]) []) = _; rw [if_neg hs]; rfl⟩
  | c :: r, acc => by
    by_cases h : c = 32
    · obtain ⟨xs, x, h1, h2⟩ := items_sign hs r []
      refine ⟨acc :: xs, x, ?_, ?_⟩
      · show (if c = 32 then acc :: itemsA [] r else _) = _
        rw [if_pos h, h1]
        rfl
      · show (if c = 32 then acc :: itemsA [] (r ++ [s]) else _) = _
        rw [if_pos h, h2]
        rfl
    · obtain ⟨xs, x, h1, h2⟩ := items_sign hs r (acc ++ [c])
      refine ⟨xs, x, ?_, ?_⟩
      · show (if c = 32 then _ else itemsA (acc ++ [c]) r) = _
        rw [if_neg h, h1]
      · show (if c = 32 then _ else itemsA (acc ++ [c]) (r ++ [s])) = _
        rw [if_neg h, h2]
theorem items_length : ∀ (l acc : List Nat), (itemsA acc l).length = l.count 32 + 1
  | [], acc => rfl
  | c :: r, acc => by
    show (if c = 32 then acc :: itemsA [] r else itemsA (acc ++ [c]) r).length = _
    by_cases h : c = 32
    · subst h
      rw [if_pos rfl, List.length_cons, items_length, List.count_cons_self]
    · rw [if_neg h, items_length, List.count_cons_of_ne h]
theorem join_items : ∀ (l acc : List Nat), TL.joinL [32] (itemsA acc l) = acc ++ l
  | [], acc => by simp [itemsA, TL.joinL]
  | c :: r, acc => by
    show TL.joinL [32] (if c = 32 then acc :: itemsA [] r else itemsA (acc ++ [c]) r) = _
    by_cases h : c = 32
    · subst h
      rw [if_pos rfl]
      have ih := join_items r []
      cases hi : itemsA [] r with
      | nil =>
        have := items_length r []
        rw [hi] at this
        simp at this
      | cons x xs =>
        rw [hi] at ih
        show acc ++ ([32] ++ TL.joinL [32] (x :: xs)) = _
        rw [ih]
        simp
    · rw [if_neg h, join_items]
      simp
theorem beginsA_length : ∀ (xs : List (List Nat)) (p : Nat), (beginsA p xs).length = xs.length
  | [], _ => rfl
  | x :: xs, p => by
    show (beginsA (p + x.length + 1) xs).length + 1 = xs.length + 1
    rw [beginsA_length xs]
theorem item_le : ∀ (l acc it : List Nat), it ∈ itemsA acc l → it.length ≤ acc.length + l.length
  | [], acc, it, h => by
    rw [List.mem_singleton.mp h]
    simp
  | c :: r, acc, it, h => by
    have h : it ∈ (if c = 32 then acc :: itemsA [] r else itemsA (acc ++ [c]) r) := h
    by_cases e : c = 32
    · rw [if_pos e] at h
      rcases List.mem_cons.mp h with rfl | h
      · simp
      · have := item_le r [] it h
        simp at this ⊢
        omega
    · rw [if_neg e] at h
      have := item_le r _ it h
      simp at this ⊢
      omega
end Kx
namespace Kx
open PySem PySem.Spec PyProof.Rows L2 SX LamX
/-! ### an int or a truth is (not) a truth -/
def rNotBI : R2 := fun x y H Q => ∃ b : Bool, y = .bl b ∧ ((∃ i : Int, x = .int i ∧ Q (.bl true) H) ∨ ∃ a : Bool, x = .bl a ∧ Q (.bl (!decide (a = b))) H)
section
variable {X : Cx}
theorem op_notBI : OpR X (compareOp .IsNot) rNotBI := by
  intro pins s σ H x y v u Q I rx ry h
  obtain ⟨b, rfl, h⟩ := h
  rcases h with ⟨i, rfl, q⟩ | ⟨a, rfl, q⟩
  · obtain ⟨t, rfl⟩ := rx
    obtain rfl : u = Value.bool b := ry
    exact wpAny_isNot_other rfl (fun z => nomatch z) ⟨.bl true, H, I, rfl, q⟩
  · exact op_notBl pins s σ H _ _ v u Q I rx ry ⟨a, b, rfl, rfl, q⟩
/-! ### list(text) -/
def signsV (l : List Nat) : List V := l.map fun c => V.str (S [c])
theorem vals_signs : ∀ {l : List Nat} {its : List Value}, l.length = its.length → (∀ (i : Nat) (c : Nat), l[i]? = some c → ∃ u : Tok, its[i]? = some (Value.str (S [c]) u)) → Vals (signsV l) its
  | [], [], _, _ => .nil
  | [], _ :: _, h, _ => by simp at h
  | _ :: _, [], h, _ => by simp at h
  | c :: l, v :: its, hl, h => by
    obtain ⟨u, e⟩ := h 0 c rfl
    have e' : v = .str (S [c]) u := by simpa using e
    exact .cons ⟨u, e'⟩ (vals_signs (by simpa using hl) fun i d hd => by
      have := h (i + 1) d (by simpa using hd)
      simpa using this)
theorem call_list_txt (hc : X.calm = true) : CallR X (.type "list") (fun xs H Q => ∃ l : List Nat, xs = [.str (S l)] ∧ l.length ≤ 1000000 ∧ ∀ p, H p = none → Q (.ref p) (upd H p (.lst (signsV l)))) := by
  intro pins s σ H xs us Q I r h
  obtain ⟨l, rfl, hl, q⟩ := h
  obtain ⟨u, rfl, t, rfl⟩ := vals1 r
  have hz : (S l).cps.size = l.length := by simp [S]
  have hn : (S l).cps.size ≤ sizeLine := by
    rw [hz]
    exact Nat.le_trans hl (by decide)
  refine call_list_str (hn := hn) (I.ok.hd hc) (S l) t fun h' tk acc' c' k e1 e2 => ?_
  obtain ⟨z1, z2⟩ := e2
  rw [hz] at z1
  have rv : Vals (signsV l) acc'.toList := by
    refine vals_signs (l := l) (by have e := Array.length_toList (xs := acc'); omega) fun i c hi => ?_
    have il : i < l.length := by
      rcases Nat.lt_or_ge i l.length with h | h
      · exact h
      · rw [List.getElem?_eq_none h] at hi
        cases hi
    have ia : i < acc'.size := by omega
    obtain ⟨d, u, h3, h4⟩ := z2 i acc'[i] (by simp [ia])
    have h5 : (S l).cps[i]? = l[i]? := by simp [S]
    rw [h5, hi] at h3
    cases h3
    refine ⟨u, ?_⟩
    have h6 : acc'.toList[i]? = some acc'[i] := by simp [ia]
    rw [h6, h4]
  exact ⟨.ref s.heap.objs.size, upd H s.heap.objs.size (.lst (signsV l)), I.laid (t' := tk) k (Nat.le_refl _) (show ObjOk X.prog X.w _ h' _ (.lst (signsV l)) from ⟨by unfold signsV; rw [List.length_map]; exact Nat.le_trans hl (by decide), acc'.toList, c', rv, by simpa using e1⟩), rfl, q _ (I.hok.fresh (Nat.le_refl _))⟩
end
/-! ### enumerate(text) -/
def IteS (x : Str) : It :=
  ⟨fun i _ => i < x.cps.size, fun i H v H' => ∃ T c, v = .ref T ∧ H T = none ∧ H' = upd H T (.tup [.int (i : Nat), .str ⟨#[c]⟩]) ∧ x.cps[i]? = some c, fun i _ => i = x.cps.size⟩
theorem draws_str {prog : Program} {w : World} {A : Around} (hh : A.handled = none) (it : Addr) (x : Str) (t : Tok) :
    Draws prog w A it [it] x.cps.size (fun i v => ∃ c u, x.cps[i]? = some c ∧ v = .str ⟨#[c]⟩ u) (fun i h => h.IsStrIter it (strIterType x) x t i) := by
  unfold strIterType
  cases x.cps.all (· < 128)
  · exact Draws.strWide hh it x t
  · exact Draws.strAscii hh it x t
theorem turn_enumS {P : Program} {w : World} {K : PySem.W.Frag} {elts : List Expr} {kk : Nat} {tpos : Pos} (x : Str) (t : Tok) (e it : Addr) :
    Turn P w K (.Tuple elts kk tpos) (IteS x) [e, it] e (fun i h => (∃ old, IsEnum h e it ((i : Nat) : Int) old) ∧ h.IsStrIter it (strIterType x) x t i ∧ e ≠ it) where
  mem := by simp
  obj := fun i h st b hb => by
    obtain ⟨⟨old, he⟩, ⟨o, ho, hc, hd⟩, _⟩ := st
    rcases (show b = e ∨ b = it by simpa using hb) with z | z
    · rw [z]
      exact ⟨_, he, fun v q => nomatch q⟩
    · rw [z]
      exact ⟨o, ho, fun v q => by rw [hd] at q; cases q⟩
  keep := fun i h h' st k => by
    obtain ⟨⟨old, he⟩, ⟨o, ho, r⟩, hne⟩ := st
    exact ⟨⟨old, k e (by simp) _ he⟩, ⟨o, k it (by simp) _ ho, r⟩, hne⟩
  item := by
    intro X hP hw hK hc i pins s σ H E I hf st hg
    subst hP hw hK
    obtain ⟨⟨old, he⟩, hit, hne⟩ := st
    have el : e < s.heap.objs.size := Heap.lt_size he
    have il : it < s.heap.objs.size := by
      obtain ⟨_, q, _⟩ := hit
      exact Heap.lt_size q
    have D := draws_str (prog := X.prog) (w := X.w) (A := X.A.in1) (I.ok.hd hc) it x t
    refine wpAny_pyNext_enum_itemD D he hit hg hne (by simpa using hne) fun u h' tk hu ho hit' hT hz hk => ?_
    obtain ⟨c, tu, hcx, rfl⟩ := hu
    refine ⟨_, rfl, wpAny_letOwnedTupleGo_enum (s := { s with heap := h', toks := tk + 1 }) ho fun h2 he' sb => ?_⟩
    have T2 := (sb.2 _ (Nat.ne_of_gt el)).trans hT
    have new : ObjOk X.prog X.w (upd H s.heap.objs.size (.tup [.int (i : Nat), .str ⟨#[c]⟩])) h2 s.heap.objs.size (.tup [.int (i : Nat), .str ⟨#[c]⟩]) :=
      ⟨by show 2 ≤ sizeLine; decide, [.int i tk, .str ⟨#[c]⟩ tu], .cons ⟨_, rfl⟩ (.cons ⟨_, rfl⟩ .nil), ⟨_, T2, rfl, _, rfl⟩⟩
    have I1 : Inv X pins σ (upd H s.heap.objs.size (.tup [.int (i : Nat), .str ⟨#[c]⟩])) { s with heap := h2, toks := tk + 1 } :=
      I.turnedNew (ch := [e, it]) (fun b ob hb q => (sb.2 b (fun z => hb (by simp [z]))).trans (hk b ob (fun z => hb (by simp [z])) (fun z => hb (by simp [z])) q)) hf (Nat.le_refl _) new
    refine ⟨.ref s.heap.objs.size, _, I1, rfl, ⟨_, c, rfl, I.hok.fresh (Nat.le_refl _), rfl, hcx⟩, ⟨⟨.str ⟨#[c]⟩ tu, ?_⟩, ?_, hne⟩, fun b hb => ?_⟩
    · rw [show ((i + 1 : Nat) : Int) = (i : Int) + 1 by omega]
      exact he'
    · obtain ⟨o, ho2, r⟩ := hit'
      exact ⟨o, (sb.2 it (Ne.symm hne)).trans ho2, r⟩
    · have hb' : b < s.heap.objs.size := by
        rcases (show b = e ∨ b = it by simpa using hb) with z | z
        · rw [z]
          exact el
        · rw [z]
          exact il
      rw [upd_ne (Nat.ne_of_lt hb')]
      exact (hf b hb).1
  done := by
    intro X hP hw hK hc i pins s σ H E I hf st hg
    subst hP hw hK
    obtain ⟨⟨old, he⟩, hit, hne⟩ := st
    obtain ⟨f0, f1, f2, f3, f4, f5⟩ := hf it (by simp)
    have hg : i = x.cps.size := hg
    subst hg
    have D := draws_str (prog := X.prog) (w := X.w) (A := X.A.in1) (I.ok.hd hc) it x t
    exact wpAny_pyNext_enum_endD D he hit fun h' eb => ⟨rfl, I.turned (t' := s.toks) (fun b o hb q => eb b o hb q) f0 f1 f3 f4 f5⟩
  self := fun A i s Q E st h => by
    obtain ⟨⟨_, he⟩, _⟩ := st
    exact wpAny_pyIter_enum he h
def iEnumS (ta : TA) : TI := fun σ H R => ta σ H fun vs H1 => ∃ x : Str, vs = [.str x] ∧ R (IteS x) H1
theorem pi_enumS {X : Cx} {e : Expr} {ta : TA} {p pos tpos : Pos} {elts : List Expr} {kk : Nat} (hg : Gl X "enumerate") (hm : X.mg "enumerate" = none) (ha : PA X [e] ta) (hs : starEach [e] X.env = [(false, eval e X.env)] := by rfl) :
    PI X (.Tuple elts kk tpos) (.Call (.Name "enumerate" p) [e] [] pos) (iEnumS ta) := by
  refine ⟨fun pins s σ H R I h => ?_⟩
  refine Call_ (ld_blt I hg hm boot_enumerate (PyProof.Rows.callWith_type1 (thn (ha.run pos pins s σ H _ I h) fun us s1 hh => ?_) hs rfl))
  obtain ⟨vs, H1, I1, r1, x, rfl, q⟩ := hh
  obtain ⟨u, rfl, t, rfl⟩ := vals1 r1
  refine call_enumerate_str fun h' he hit hz hk => wpAny_pyIter_enum he ?_
  have I2 : Inv X pins σ H1 { s1 with heap := h' } := I1.kept (t' := s1.toks) hk
  refine ⟨s1.heap.objs.size + 1, [s1.heap.objs.size + 1, s1.heap.objs.size], _, _, H1, rfl, I2, turn_enumS x t (s1.heap.objs.size + 1) s1.heap.objs.size, ⟨⟨.none, he⟩, hit, Nat.succ_ne_self _⟩, fun b hb => ?_, q⟩
  have hle : s1.heap.objs.size ≤ b := by
    rcases (show b = s1.heap.objs.size + 1 ∨ b = s1.heap.objs.size by simpa using hb) with z | z
    · rw [z]
      exact Nat.le_add_right _ _
    · rw [z]
      exact Nat.le_refl _
  exact I1.fpOk hle (I1.hok.fresh hle)
theorem walk_enumS {x : Str} : Walk (IteS x) x.cps.size (fun _ => True) (fun i H v H' => ∃ T c, v = .ref T ∧ H T = none ∧ H' = upd H T (.tup [.int (i : Nat), .str ⟨#[c]⟩]) ∧ x.cps[i]? = some c) :=
  ⟨fun _ _ h _ => h, fun _ _ => rfl, fun _ _ _ _ _ _ y => y⟩
end Kx
namespace Kx
open PySem PySem.Spec PyProof.Rows L2 SX LamX
/-! ### values of all kinds -/
def KindIs (K : PySem.W.Frag) (H : Hp) (x : V) : Prop := (∃ i, x = .int i) ∨ (∃ b, x = .bl b) ∨ (isIntV x = false ∧ ∃ n, TyX K H x (.type n) ∧ kitB n "int" = some false)
section
variable {K : PySem.W.Frag} {H H' : Hp}
theorem KindIs.same {x : V} (e : Same H H') (h : KindIs K H x) : KindIs K H' x := by
  rcases h with h | h | ⟨h, n, h1, h2⟩
  · exact .inl h
  · exact .inr (.inl h)
  · exact .inr (.inr ⟨h, n, tyx_same e h1, h2⟩)
theorem kind_non : KindIs K H .non := .inr (.inr ⟨rfl, "NoneType", .base .non, by decide +kernel⟩)
theorem kind_str (x : Str) : KindIs K H (.str x) := .inr (.inr ⟨rfl, "str", .base (.str x), by decide +kernel⟩)
theorem kind_lst {a : Addr} {ws : List V} (h : SqL K H a ws) : KindIs K H (.ref a) := .inr (.inr ⟨rfl, "list", tyL h, by decide +kernel⟩)
theorem kind_tup {a : Addr} {ws : List V} (h : SqT K H a ws) : KindIs K H (.ref a) := .inr (.inr ⟨rfl, "tuple", tyT h, by decide +kernel⟩)
theorem kind_dk {a : Addr} {kvs : List (Key × V)} (h : H a = some (.dK kvs)) : KindIs K H (.ref a) := .inr (.inr ⟨rfl, "dict", .base (.dK h), by decide +kernel⟩)
theorem hasInt_dk {a : Addr} {kvs : List (Key × V)} (h : H a = some (.dK kvs)) : HasInt K H (.ref a) := ⟨"dict", false, false, .base (.dK h), by decide +kernel, by decide +kernel, rfl⟩
end
/-- an item: of what kind it is -/
def Itm (K : PySem.W.Frag) (H : Hp) (v : V) : Prop := HasInt K H v ∧ KindIs K H v
theorem Itm.same {K : PySem.W.Frag} {H H' : Hp} {x : V} (e : Same H H') (h : Itm K H x) : Itm K H' x := ⟨h.1.same e, h.2.same e⟩
/-- codes of signs -/
def cdC (l : List Nat) : Prop := l.all (fun c => decide (c < 1114112)) = true
theorem cdC.app {l m : List Nat} (h : cdC l) (k : cdC m) : cdC (l ++ m) := by
  unfold cdC at h k ⊢
  rw [List.all_append, h, k]
  rfl
theorem cdC.sub {l m : List Nat} (h : cdC l) (k : ∀ c ∈ m, c ∈ l) : cdC m := by
  unfold cdC at h ⊢
  exact List.all_eq_true.mpr fun c hc => List.all_eq_true.mp h c (k c hc)
theorem ok_ofString (s : String) : cdC (Str.ofString s).cps.toList := by
  rw [Str.ofString_eq_toList]
  unfold cdC
  refine List.all_eq_true.mpr fun n hn => ?_
  obtain ⟨c, _, rfl⟩ := List.mem_map.mp (by simpa using hn)
  refine decide_eq_true ?_
  have hv := c.valid
  show c.val.toNat < 1114112
  rcases hv with h | ⟨_, h⟩
  · have h' : c.val.toNat < 55296 := h
    omega
  · exact h
inductive AnyV (K : PySem.W.Frag) (H : Hp) : V → Prop where
  | non : AnyV K H .non
  | bl (b : Bool) : AnyV K H (.bl b)
  | int (i : Int) : AnyV K H (.int i)
  | str (l : List Nat) (h : l.length ≤ 5000) (v : cdC l) : AnyV K H (.str (S l))
  | lst {a : Addr} {ws : List V} (h : SqL K H a ws) (n : ws.length ≤ 1000) (t : ∀ v ∈ ws, Itm K H v) : AnyV K H (.ref a)
  | tup {a : Addr} {ws : List V} (h : SqT K H a ws) (n : ws.length ≤ 1000) (t : ∀ v ∈ ws, Itm K H v) : AnyV K H (.ref a)
  | dk {a : Addr} {kvs : List (Key × V)} (h : H a = some (.dK kvs)) : AnyV K H (.ref a)
section
variable {K : PySem.W.Frag} {H H' : Hp} {x : V}
theorem AnyV.same (e : Same H H') (h : AnyV K H x) : AnyV K H' x := by
  cases h with
  | non => exact .non
  | bl b => exact .bl b
  | int i => exact .int i
  | str l h v => exact .str l h v
  | lst h n t => exact .lst (e.seq h) n fun v m => (t v m).same e
  | tup h n t => exact .tup (Same.t e h) n fun v m => (t v m).same e
  | dk h => exact .dk (e _ _ h)
theorem AnyV.itm (h : AnyV K H x) : Itm K H x := by
  cases h with
  | non => exact ⟨hasInt_non, kind_non⟩
  | bl b => exact ⟨hasInt_bl b, .inr (.inl ⟨b, rfl⟩)⟩
  | int i => exact ⟨hasInt_int i, .inl ⟨i, rfl⟩⟩
  | str l h v => exact ⟨hasInt_str _, kind_str _⟩
  | lst h n t => exact ⟨hasInt_lst h, kind_lst h⟩
  | tup h n t => exact ⟨hasInt_tup h, kind_tup h⟩
  | dk h => exact ⟨hasInt_dk h, kind_dk h⟩
/-- is it a list or a tuple -/
theorem AnyV.seq (h : AnyV K H x) : (∃ n, TyX K H x (.type n) ∧ PySem.W.kitAny K (.type n) [.type "list", .type "tuple"] = some false) ∨
    ∃ (a : Addr) (ws : List V), x = .ref a ∧ SqQ K H a ws ∧ ws.length ≤ 1000 ∧ ∀ v ∈ ws, Itm K H v := by
  cases h with
  | non => exact .inl ⟨"NoneType", .base .non, no_list (by decide +kernel) (by decide +kernel)⟩
  | bl b => exact .inl ⟨"bool", .base (.bl b), no_list (by decide +kernel) (by decide +kernel)⟩
  | int i => exact .inl ⟨"int", .base (.int i), no_list (by decide +kernel) (by decide +kernel)⟩
  | str l h v => exact .inl ⟨"str", .base (.str _), no_list (by decide +kernel) (by decide +kernel)⟩
  | lst h n t => exact .inr ⟨_, _, rfl, .inl h, n, t⟩
  | tup h n t => exact .inr ⟨_, _, rfl, .inr h, n, t⟩
  | dk h => exact .inl ⟨"dict", .base (.dK h), no_list (by decide +kernel) (by decide +kernel)⟩
/-- is it a text -/
theorem AnyV.str? (h : AnyV K H x) : (∃ l : List Nat, x = .str (S l) ∧ l.length ≤ 5000 ∧ cdC l) ∨ ∃ n, TyX K H x (.type n) ∧ kitB n "str" = some false := by
  cases h with
  | non => exact .inr ⟨"NoneType", .base .non, by decide +kernel⟩
  | bl b => exact .inr ⟨"bool", .base (.bl b), by decide +kernel⟩
  | int i => exact .inr ⟨"int", .base (.int i), by decide +kernel⟩
  | str l h v => exact .inl ⟨l, rfl, h, v⟩
  | lst h n t => exact .inr ⟨"list", tyL h, by decide +kernel⟩
  | tup h n t => exact .inr ⟨"tuple", tyT h, by decide +kernel⟩
  | dk h => exact .inr ⟨"dict", .base (.dK h), by decide +kernel⟩
end
theorem S_of (x : Str) : S x.cps.toList = x := by
  cases x
  simp [S]
theorem any_text {K : PySem.W.Frag} {H : Hp} (x : Str) (h : x.length ≤ 5000) (v : cdC x.cps.toList) : AnyV K H (.str x) := by
  have e := AnyV.str (K := K) (H := H) x.cps.toList (by simpa [Str.length] using h) v
  rw [S_of] at e
  exact e
theorem itms_nil {K : PySem.W.Frag} {H : Hp} : ∀ v ∈ ([] : List V), Itm K H v := fun _ m => by cases m
theorem itms_cons {K : PySem.W.Frag} {H : Hp} {x : V} {xs : List V} (h : Itm K H x) (t : ∀ v ∈ xs, Itm K H v) : ∀ v ∈ x :: xs, Itm K H v := fun v m => by
  rcases List.mem_cons.mp m with rfl | m
  · exact h
  · exact t v m
theorem itm_int {K : PySem.W.Frag} {H : Hp} (i : Int) : Itm K H (.int i) := ⟨hasInt_int i, .inl ⟨i, rfl⟩⟩
theorem itm_bl {K : PySem.W.Frag} {H : Hp} (b : Bool) : Itm K H (.bl b) := ⟨hasInt_bl b, .inr (.inl ⟨b, rfl⟩)⟩
theorem joinL_nil : ∀ (l : List Nat), TL.joinL [] (l.map fun c => [c]) = l
  | [] => rfl
  | [c] => rfl
  | c :: d :: r => by
    have ih := joinL_nil (d :: r)
    show [c] ++ ([] ++ TL.joinL [] ((d :: r).map fun c => [c])) = c :: d :: r
    rw [ih]
    rfl
theorem join_signs (l : List Nat) : Txt.join "" (l.map fun c => S [c]) = S l := by
  have h := SX.join_S [] (l.map fun c => [c])
  rw [joinL_nil, List.map_map] at h
  exact h
theorem sum_signs : ∀ (l : List Nat), ((l.map fun c => S [c]).map (·.length)).sum = l.length
  | [] => rfl
  | c :: r => by
    show (S [c]).length + ((r.map fun c => S [c]).map (·.length)).sum = r.length + 1
    rw [sum_signs r, S_len]
    show 1 + r.length = _
    omega
theorem signs_map (l : List Nat) : signsV l = (l.map fun c => S [c]).map V.str := by
  unfold signsV
  rw [List.map_map]
  rfl
theorem in_signs {l : List Nat} {v : V} (h : v ∈ signsV l) : ∃ c, c ∈ l ∧ v = .str (S [c]) := by
  obtain ⟨c, hc, e⟩ := List.mem_map.mp h
  exact ⟨c, hc, e.symm⟩
end Kx
namespace Kx
open PySem PySem.Spec PyProof.Rows L2 SX LamX
section
variable {K : PySem.W.Frag} {J : It} {n : Nat} {G : Hp → Prop} {Y : Nat → Hp → V → Hp → Prop} {g : TG} {tt : TT} {te : TE} {vs : List Nat} {σ : L2.St} {H1 : Hp} {D : Addr} {Qd : Hp → Prop}
theorem keep_some {zs : List (Option V)} {i : Nat} {v : V} (h : zs[i]? = some (some v)) : (zs.take (i + 1)).filterMap id = (zs.take i).filterMap id ++ [v] := by
  rw [List.take_add_one, h, List.filterMap_append]
  rfl
theorem keep_none {zs : List (Option V)} {i : Nat} (h : zs[i]? = some none) : (zs.take (i + 1)).filterMap id = (zs.take i).filterMap id := by
  rw [List.take_add_one, h, List.filterMap_append]
  simp
/-- a comprehension with a test, its items told ahead: none where the test fails -/
theorem lc_keep (w : Walk J n G Y) (zs : List (Option V)) (hz : zs.length = n) (nD : H1 D = none) (len : n ≤ 1000000) (hG : ∀ Hc, Same H1 Hc → G Hc)
    (turn : ∀ (i : Nat) (x : V) (z : Option V) (Hc Hx : Hp) (Q' : VK) (R' : Hp → Prop), i < n → zs[i]? = some z → Same H1 Hc → Y i Hc x Hx → (∀ v H4, z = some v → Same Hc H4 → Q' v H4) → (∀ H4, z = none → Same Hc H4 → R' H4) → g x (wipe σ vs) Hx fun σ2 H2 => wipe σ2 vs = wipe σ vs ∧ tt σ2 H2 fun b H3 => if b = true then te σ2 H3 Q' else R' H3)
    (fin : ∀ Hc, Same H1 Hc → Hc D = some (.lst (zs.filterMap id)) → Qd Hc) :
    ∃ W : Nat → Nat → Hp → Prop, (∃ m, W 0 m (upd H1 D (.lst []))) ∧ ∀ i m H, W i m H →
      (J.stop i H ∧ Qd H) ∨ (J.go i H ∧ ∃ Nx : Hp → Prop, (∀ H', Nx H' → ∃ m', m' < m ∧ W (i + 1) m' H') ∧ ∀ x H', J.yld i H x H' → g x (wipe σ vs) H' fun σ2 H2 => wipe σ2 vs = wipe σ vs ∧ tt σ2 H2 fun b H3 =>
        if b = true then te σ2 H3 fun y H4 => ∃ acc, H4 D = some (.lst acc) ∧ acc.length < sizeLine ∧ Nx (upd H4 D (.lst (acc ++ [y]))) else Nx H3) := by
  refine lc_it w (fun i Hc => Same H1 Hc ∧ Hc D = some (.lst ((zs.take i).filterMap id))) ⟨same_new nD, upd_same⟩ (fun i H _ p => hG H p.1) (fun i x Hc Hx hi p y => ?_) (fun Hc p => ?_)
  · have hzi : zs[i]? = some (zs[i]'(by omega)) := List.getElem?_eq_getElem (by omega)
    refine turn i x _ Hc Hx _ _ hi hzi p.1 y (fun v H4 ev e4 => ⟨_, e4 _ _ p.2, ?_, ?_⟩) (fun H4 ev e4 => ⟨p.1.trans e4, ?_⟩)
    · have h1 : ((zs.take i).filterMap id).length ≤ (zs.take i).length := List.length_filterMap_le ..
      rw [List.length_take] at h1
      exact Nat.lt_of_le_of_lt (show _ ≤ 1000000 by omega) (by decide)
    · refine ⟨fun b o z => ?_, ?_⟩
      · rw [upd_ne (ne_of_none z nD)]
        exact e4 _ _ (p.1 b o z)
      · rw [upd_same, keep_some (by rw [hzi, ev])]
    · rw [keep_none (by rw [hzi, ev])]
      exact e4 _ _ p.2
  · rw [← hz, List.take_length] at p
    exact fin Hc p.1 p.2
end
section
variable {K : PySem.W.Frag} {a : Addr} {xs : List V} {g : TG} {tt : TT} {te : TE} {vs : List Nat} {σ : L2.St} {H : Hp} {k : Nat} {Q : VK} {l : List Nat}
/-- [e for c in NAME if t], NAME a text -/
theorem lc_txt (zs : List (Option V)) (hz : zs.length = l.length) (hi : σ[k]? = some (some (.str (S l)))) (len : l.length ≤ 1000000)
    (turn : ∀ (i : Nat) (c : Nat) (z : Option V) (Hc : Hp) (Q' : VK) (R' : Hp → Prop), l[i]? = some c → zs[i]? = some z → Same H Hc → (∀ v H4, z = some v → Same Hc H4 → Q' v H4) → (∀ H4, z = none → Same Hc H4 → R' H4) → g (.str (S [c])) (wipe σ vs) Hc fun σ2 H2 => wipe σ2 vs = wipe σ vs ∧ tt σ2 H2 fun b H3 => if b = true then te σ2 H3 Q' else R' H3)
    (fin : ∀ (D : Addr) (Hc : Hp), Same H Hc → Hc D = some (.lst (zs.filterMap id)) → Q (.ref D) Hc) :
    tLc (iStr (tVar k)) g tt te vs σ H Q := by
  have e : (S l).cps.size = l.length := by simp [S]
  refine ⟨_, hi, S l, rfl, fun D nD => lc_keep walk_str zs (by rw [hz, e]) nD (by rw [e]; exact len) (fun _ _ => trivial) (fun i x z Hc Hx Q' R' _ hzi e1 y q r => ?_) (fin D)⟩
  obtain ⟨rfl, c, hc, rfl⟩ := y
  have hc' : l[i]? = some c := by
    have : (S l).cps[i]? = l[i]? := by simp [S]
    rw [← this]
    exact hc
  exact turn i c z _ Q' R' hc' hzi e1 q r
/-- [e for x in NAME if t], NAME a list -/
theorem lc_lstk (zs : List (Option V)) (hz : zs.length = xs.length) (hi : σ[k]? = some (some (.ref a))) (hq : SqL K H a xs) (len : xs.length ≤ 1000000)
    (turn : ∀ (i : Nat) (x : V) (z : Option V) (Hc : Hp) (Q' : VK) (R' : Hp → Prop), xs[i]? = some x → zs[i]? = some z → Same H Hc → (∀ v H4, z = some v → Same Hc H4 → Q' v H4) → (∀ H4, z = none → Same Hc H4 → R' H4) → g x (wipe σ vs) Hc fun σ2 H2 => wipe σ2 vs = wipe σ vs ∧ tt σ2 H2 fun b H3 => if b = true then te σ2 H3 Q' else R' H3)
    (fin : ∀ (D : Addr) (Hc : Hp), Same H Hc → Hc D = some (.lst (zs.filterMap id)) → Q (.ref D) Hc) :
    tLc (iList K (tVar k)) g tt te vs σ H Q := ⟨_, hi, a, rfl, ⟨_, hq⟩, fun D nD => lc_keep walk_list zs hz nD len (fun Hc e => e.seq hq) (fun i x z Hc Hx Q' R' _ hzi e y q r => by
      obtain ⟨rfl, hx⟩ := y
      exact turn i x z _ Q' R' hx hzi e q r) (fin D)⟩
end
/-- texts of one sign each, laid -/
theorem pl_signs {l : List Nat} (h : cdC l) : ∀ d ∈ l.map (fun c => PyData.str (S [c])), Pl 0 d := fun d m => by
  obtain ⟨c, hc, rfl⟩ := List.mem_map.mp m
  refine ⟨?_, Nat.le_refl _⟩
  have h2 := List.all_eq_true.mp h c hc
  show (S [c]).cps.all (· < 0x110000) = true
  simpa [S] using of_decide_eq_true h2
theorem dp_signs {K : PySem.W.Frag} {H : Hp} (l : List Nat) : Paired (fun v d => Dp K H v d) (signsV l) (l.map fun c => PyData.str (S [c])) := paired_of_map _ _ fun c _ => .str (S [c])
/-- «xs == []», any laid items -/
theorem eq_nilD {K : PySem.W.Frag} {H : Hp} {a p : Addr} {vs : List V} {ds : List PyData} {k : Nat} {Q : VK} (h1 : SqL K H a vs) (hd : Paired (fun v d => Dp K H v d) vs ds) (hp : ∀ d ∈ ds, Pl k d) (hk : k ≤ 60) (h2 : H p = some (.lst [])) (q : Q (.bl (decide (ds = []))) H) : rEqD K (.ref a) (.ref p) H Q :=
  ⟨_, _, .lst h1 (dpAll_of hd), dp_ints (xs := []) (.inl (.inl h2)), (Pl.lst hp).shaped (by omega), (pl_ints []).shaped (by decide), by
    have e : PyData.eqv (.list ds) (.list (([] : List Int).map PyData.int)) = decide (ds = []) := by
      cases ds with
      | nil => rfl
      | cons d t => rfl
    rw [e]
    exact q⟩
theorem filt_map {α β : Type} (p : α → Bool) (f : α → β) : ∀ (l : List α), (l.map fun c => if p c = true then some (f c) else none).filterMap id = (l.filter p).map f
  | [] => rfl
  | c :: l => by
    rw [List.map_cons, List.filterMap_cons]
    cases h : p c with
    | true =>
      rw [List.filter_cons_of_pos h]
      show f c :: _ = f c :: _
      rw [filt_map p f l]
    | false =>
      rw [List.filter_cons_of_neg (by rw [h]; decide)]
      exact filt_map p f l
end Kx
namespace Kx
open PySem PySem.Spec PyProof.Rows L2 SX LamX
section
variable {D : Ends} {σ : L2.St} {H : Hp}
theorem go_and {ta tb : TE} {Q : VK} (h : ta σ H fun x H1 => ∃ c, x = .bl c ∧ if c = true then tb σ H1 Q else Q (.bl false) H1) : tAndV ta tb σ H Q := h
theorem go_chain {r r' : R2} {ta tb tc : TE} {Q : VK} (h : ta σ H fun x H1 => tb σ H1 fun y H2 => r x y H2 fun z H3 => ∃ k, z = .bl k ∧ if k = true then tc σ H3 fun w' H4 => r' y w' H4 Q else Q (.bl false) H3) : tChain r r' ta tb tc σ H Q := h
theorem go_or {ta tb : TE} {Q : VK} (h : ta σ H fun x H1 => ∃ c, x = .bl c ∧ if c = true then Q (.bl true) H1 else tb σ H1 Q) : tOrV ta tb σ H Q := h
theorem go_lst {t : TA} {Q : VK} (h : t σ H fun xs H1 => xs.length ≤ sizeLine ∧ ∀ p, H1 p = none → Q (.ref p) (upd H1 p (.lst xs))) : tLst t σ H Q := h
end
/-- both, told as one truth -/
theorem and_join {c : Bool} {tb : TE} {Q : VK} {σ : L2.St} {H : Hp} (d : Bool) (h : c = true → ∀ Q' : VK, Q' (.bl d) H → tb σ H Q') (q : Q (.bl (c && d)) H) : ∃ c', V.bl c = .bl c' ∧ if c' = true then tb σ H Q else Q (.bl false) H := by
  refine ⟨c, rfl, ?_⟩
  cases c with
  | true => exact h rfl _ q
  | false => exact q
theorem and_b {c : Bool} {A B : Prop} (h1 : c = true → A) (h2 : c = false → B) : if c = true then A else B := by
  cases c with
  | true => rw [if_pos rfl]; exact h1 rfl
  | false => rw [if_neg (by decide)]; exact h2 rfl
theorem map_nil_dec {α β : Type} (f : α → β) (l : List α) [Decidable (l.map f = [])] : decide (l.map f = []) = l.isEmpty := by
  cases l with
  | nil => exact decide_eq_true rfl
  | cons a t => exact decide_eq_false (fun e => nomatch e)
theorem filt_empty (p : Nat → Bool) (l : List Nat) : (l.filter fun c => !p c).isEmpty = l.all p := by
  induction l with
  | nil => rfl
  | cons c t ih =>
    cases h : p c with
    | true =>
      rw [List.filter_cons_of_neg (by rw [h]; decide), List.all_cons, h, ih]
      rfl
    | false =>
      rw [List.filter_cons_of_pos (by rw [h]; rfl), List.all_cons, h]
      rfl
/-- one sign is the blank -/
theorem is_blank (c : Nat) : decide (V.str (S [c]) = V.str (Str.ofString " ")) = decide (c = 32) := by
  by_cases hc : c = 32
  · subst hc
    rfl
  · rw [decide_eq_false hc, decide_eq_false]
    intro e
    injection e with e
    have := congrArg (fun z : Str => z.cps.toList) e
    simp [S] at this
    exact hc (by have h2 : (Str.ofString " ").cps.toList = [32] := rfl; rw [h2] at this; simpa using this)
theorem take_succ {α : Type} {l : List α} {i : Nat} {c : α} (h : l[i]? = some c) : l.take (i + 1) = l.take i ++ [c] := by
  rw [List.take_add_one, h]
  rfl
theorem ixN_last (n : Nat) : ixN (n + 1) (-1) = some n := by
  unfold ixN
  rw [if_neg (by decide), if_pos (by omega)]
  congr 1
  omega
end Kx
namespace Kx
open PySem PySem.Spec PyProof.Rows L2 SX LamX
section
variable {X : Cx} {k : Nat} {f : Addr} {fd : FuncData} {ps : List Str} {sp : Sp} {x : Str} {p pos : Pos} {e1 : Expr} {more : List Expr} {t : TA}
/-! ### a call of a def that is promised only where no repr runs around it; it raises nothing -/
theorem pe_callG (F : FnG X.prog X.w X.K X.mg X.base CX0 k f fd ps sp) (nog : X.A.guards = some []) (room : Room k X.A) (here : Gl X x) (at_f : X.mg x = some (.ref f)) (keeps : PySem.W.keepIn X.K (.ref f) = true) (bd : Binds X.K fd ps [])
    (args : PA X (e1 :: more) t) (nd : (x == ("__debug__" : Str)) = false := by decide) (h1 : starEach (e1 :: more) X.env = (false, eval e1 X.env) :: starEach more X.env := by rfl) (h2 : (backTo pos (starEach more X.env)).any (·.1) = false := by rfl) :
    PE X (.Call (.Name x p) (e1 :: more) [] pos) (tCall sp [] C8.E0 t) := by
  constructor
  intro pins s σ H Q I want
  apply wpAny_Call_Name_kw
  refine ld_glob I here at_f ?_ nd
  refine PySem.W.callWith_K (h₀ := X.base) I.ok.mod.kin keeps (thn (args.run pos pins s σ H _ I want) fun us st hh => ?_) h1 h2
  obtain ⟨vs, Hm, J, rv, promise⟩ := hh
  rw [List.append_nil] at promise
  have size : (us ++ []).length = ps.length := by
    rw [List.append_nil, ← rv.length]
    exact F.len _ _ _ _ promise
  have bound := bd st us J.kIn size
  rw [List.append_nil] at bound
  refine ⟨J.kIn, wpAny_call (codeAny_mono (F.go X.A X.stack st Hm ⟨us, []⟩ us vs Q C8.E0 nog room J.env0 bound rv promise) fun r st2 done => ?_)⟩
  match r, done with
  | .ok (.ret u), done => exact J.after done
  | .error e, done => exact (show False from done).elim
  | .ok .next, done => exact done.elim
  | .ok .brk, done => exact done.elim
  | .ok .cont, done => exact done.elim
end
/-! ### tables stay through draws -/
theorem Tabs.mv {T : List (Addr × Str)} {a c : Addr} {n : Nat} {H H' : Hp} (t : Tabs T H) (w : Wh H a c n) (m : Mv a H H') : Tabs T H' := fun p hp => by
  obtain ⟨ps, h1, h2, h3⟩ := t p hp
  obtain ⟨cs, x, l', g1, _⟩ := w
  refine ⟨ps, m _ _ (ne_of_two h1 g1 (fun z => by cases z)) h1, h2, fun pos cv hc => ?_⟩
  obtain ⟨c', e1, e2⟩ := h3 pos cv hc
  exact ⟨c', e1, m _ _ (ne_of_two e2 g1 (fun z => by cases z)) e2⟩
theorem Tabs.same {T : List (Addr × Str)} {H H' : Hp} (t : Tabs T H) (m : Same H H') : Tabs T H' := fun p hp => (t p hp).ext m
end Kx
namespace Kx
open PySem PySem.Spec PyProof.Rows L2 SX LamX
/-! ### data that repr shows -/
structure Sh (k m : Nat) (d : PyData) : Prop where
  sh : d.showable = true
  nd : d.hasDict = false
  dp : d.depth ≤ k
  lv : d.leavesShort 13 = true
  bk : d.bulk ≤ m
theorem Sh.len {k m : Nat} {d : PyData} (h : Sh k m d) (hm : m ≤ 1048576) : d.shown.length ≤ sizeLine :=
  PyData.shown_fits_bulk (B := 13) (by decide) (by decide) h.lv (Nat.le_trans h.bk hm)
theorem Sh.up {k l m n : Nat} {d : PyData} (h : Sh k m d) (hk : k ≤ l) (hm : m ≤ n) : Sh l n d := ⟨h.sh, h.nd, Nat.le_trans h.dp hk, h.lv, Nat.le_trans h.bk hm⟩
theorem sh_bool (b : Bool) : Sh 0 0 (.bool b) := ⟨rfl, rfl, Nat.le_refl _, rfl, Nat.le_refl _⟩
theorem sh_none : Sh 0 0 .none := ⟨rfl, rfl, Nat.le_refl _, rfl, Nat.le_refl _⟩
theorem sh_int {i : Int} (h : i.natAbs < 1000000000000) : Sh 0 0 (.int i) :=
  ⟨by
    simp only [PyData.showable, decide_eq_true_eq]
    by_cases z : i.natAbs = 0
    · rw [z]; decide
    · exact Nat.lt_of_lt_of_le ((Nat.log2_lt z).mpr (Nat.lt_of_lt_of_le h (by decide : 1000000000000 ≤ 2 ^ 40))) (by decide), rfl, Nat.le_refl _, by simp only [PyData.leavesShort, decide_eq_true_eq]; exact PyData.shown_int_le (by exact h), Nat.le_refl _⟩
theorem sh_str {x : Str} {l : List Nat} (e : x = S l) (h : cdC l) : Sh 0 l.length (.str x) :=
  ⟨rfl, rfl, Nat.le_refl _, by
    subst e
    simp only [PyData.leavesShort, List.all_eq_true, decide_eq_true_eq]
    intro c hc
    have h2 := List.all_eq_true.mp h c (by simpa [S] using hc)
    have h3 := of_decide_eq_true h2
    exact Nat.lt_of_lt_of_le h3 (by decide), by
    subst e
    simp [PyData.bulk, S]⟩
/-- items that are shown, m: their signs and one each -/
inductive ShA (k : Nat) : Nat → List PyData → Prop
  | nil : ShA k 0 []
  | cons {m n : Nat} {d : PyData} {ds : List PyData} : Sh k m d → ShA k n ds → ShA k (m + 1 + n) (d :: ds)
theorem ShA.all {k m : Nat} {ds : List PyData} (h : ShA k m ds) : PyData.showableAll ds = true ∧ PyData.hasDictAll ds = false ∧ PyData.depthAll ds ≤ k ∧ PyData.leavesShortAll 13 ds = true ∧ PyData.bulkAll ds ≤ m := by
  induction h with
  | nil => exact ⟨rfl, rfl, Nat.zero_le _, rfl, Nat.le_refl _⟩
  | cons h1 _ ih =>
    obtain ⟨a, b, c, d, e⟩ := ih
    refine ⟨?_, ?_, ?_, ?_, ?_⟩
    · simp only [PyData.showableAll, h1.sh, a, Bool.and_self]
    · simp only [PyData.hasDictAll, h1.nd, b, Bool.or_self]
    · simp only [PyData.depthAll]
      exact Nat.max_le.mpr ⟨h1.dp, c⟩
    · simp only [PyData.leavesShortAll, h1.lv, d, Bool.and_self]
    · simp only [PyData.bulkAll]
      have := h1.bk
      omega
theorem ShA.lst {k m : Nat} {ds : List PyData} (h : ShA k m ds) : Sh (k + 1) m (.list ds) := by
  obtain ⟨a, b, c, d, e⟩ := h.all
  exact ⟨by simp only [PyData.showable, a], by simp only [PyData.hasDict, b], by simp only [PyData.depth]; omega, by simp only [PyData.leavesShort, d], by simp only [PyData.bulk]; exact e⟩
theorem ShA.tup {k m : Nat} {ds : List PyData} (h : ShA k m ds) : Sh (k + 1) m (.tuple ds) := by
  obtain ⟨a, b, c, d, e⟩ := h.all
  exact ⟨by simp only [PyData.showable, a], by simp only [PyData.hasDict, b], by simp only [PyData.depth]; omega, by simp only [PyData.leavesShort, d], by simp only [PyData.bulk]; exact e⟩
theorem shA_ints {k : Nat} : ∀ (l : List Int), (∀ i ∈ l, i.natAbs < 1000000000000) → ShA k l.length (l.map PyData.int)
  | [], _ => .nil
  | i :: r, h => by
    have := ShA.cons ((sh_int (h i List.mem_cons_self)).up (Nat.zero_le k) (Nat.le_refl _)) (shA_ints r fun j m => h j (List.mem_cons_of_mem _ m))
    have e : 0 + 1 + r.length = (i :: r).length := by rw [List.length_cons]; omega
    rw [e] at this
    exact this
theorem shA_texts {k : Nat} : ∀ (xs : List (List Nat)), (∀ x ∈ xs, cdC x) → ShA k (reachA 0 xs) (xs.map fun x => PyData.str (S x))
  | [], _ => .nil
  | x :: r, h => by
    have := ShA.cons ((sh_str rfl (h x List.mem_cons_self)).up (Nat.zero_le k) (Nat.le_refl _)) (shA_texts r fun y m => h y (List.mem_cons_of_mem _ m))
    have e : ∀ (r : List (List Nat)) (p : Nat), reachA p r = p + reachA 0 r := fun r => by
      induction r with
      | nil => intro p; rfl
      | cons y r ih =>
        intro p
        show reachA (p + y.length + 1) r = p + reachA (0 + y.length + 1) r
        rw [ih, ih (0 + y.length + 1)]
        omega
    have e2 : x.length + 1 + reachA 0 r = reachA 0 (x :: r) := by
      show _ = reachA (0 + x.length + 1) r
      rw [e r (0 + x.length + 1)]
      omega
    rw [e2] at this
    exact this
theorem item_cd : ∀ (l acc it : List Nat), it ∈ itemsA acc l → ∀ c ∈ it, c ∈ acc ∨ c ∈ l
  | [], acc, it, h, c, hc => by
    rw [List.mem_singleton.mp h] at hc
    exact .inl hc
  | d :: r, acc, it, h, c, hc => by
    have h : it ∈ (if d = 32 then acc :: itemsA [] r else itemsA (acc ++ [d]) r) := h
    by_cases e : d = 32
    · rw [if_pos e] at h
      rcases List.mem_cons.mp h with rfl | h
      · exact .inl hc
      · rcases item_cd r [] it h c hc with z | z
        · cases z
        · exact .inr (List.mem_cons_of_mem _ z)
    · rw [if_neg e] at h
      rcases item_cd r _ it h c hc with z | z
      · rcases List.mem_append.mp z with z | z
        · exact .inl z
        · rw [List.mem_singleton.mp z]
          exact .inr List.mem_cons_self
      · exact .inr (List.mem_cons_of_mem _ z)
theorem begins_le : ∀ (xs : List (List Nat)) (p : Nat), ∀ b ∈ beginsA p xs, b ≤ reachA p xs
  | [], p, b, h => by cases h
  | x :: xs, p, b, h => by
    have r : ∀ (xs : List (List Nat)) (p : Nat), p ≤ reachA p xs := fun xs => by
      induction xs with
      | nil => exact fun p => Nat.le_refl _
      | cons y ys ih =>
        intro p
        show p ≤ reachA (p + y.length + 1) ys
        exact Nat.le_trans (by omega) (ih _)
    show b ≤ reachA (p + x.length + 1) xs
    rcases List.mem_cons.mp h with rfl | h
    · exact Nat.le_trans (by omega) (r xs _)
    · exact begins_le xs _ b h
/-- repr of data -/
theorem go_repr {K : PySem.W.Frag} {a : Addr} {d : PyData} {k m : Nat} {H : Hp} {Q : VK} (hd : Dp K H (.ref a) d) (h : Sh k m d) (hk : k ≤ 60) (hm : m ≤ 1048576) (q : Q (.str d.shown) H) : rRepr K [.ref a] H Q :=
  ⟨a, d, rfl, hd, h.sh, h.nd, Nat.le_trans h.dp hk, h.len hm, q⟩
/-- one and the same text is no other -/
theorem rne_self {x : Str} {H : Hp} {Q : Bool → Hp → Prop} (q : Q false H) : ∃ k, V.bl (!decide (V.str x = V.str x)) = .bl k ∧ Q k H := ⟨false, by simp, q⟩
theorem bools_dp {K : PySem.W.Frag} {H : Hp} {p : Addr} {bs : List Bool} (h : H p = some (.lst (bs.map V.bl))) : Dp K H (.ref p) (.list (bs.map PyData.bool)) := .lst (.inl (.inl h)) (by
  clear h
  induction bs with
  | nil => exact .nil
  | cons b t ih => exact .cons (.bl b) ih)
theorem shA_bools {k : Nat} : ∀ (l : List Bool), ShA k l.length (l.map PyData.bool)
  | [] => .nil
  | i :: r => by
    have := ShA.cons ((sh_bool i).up (Nat.zero_le k) (Nat.le_refl _)) (shA_bools r)
    have e : 0 + 1 + r.length = (i :: r).length := by rw [List.length_cons]; omega
    rw [e] at this
    exact this
theorem cnt_count : ∀ (l : List Nat), cnt 32 l = (l.count 32 : Nat)
  | [] => rfl
  | c :: r => by
    rw [cnt_cons, cnt_count r]
    by_cases h : c = 32
    · subst h
      rw [List.count_cons_self]
      simp
      omega
    · rw [List.count_cons_of_ne h]
      simp [h]
theorem count_blank (l : List Nat) : Txt.count (S l) " " = (l.count 32 : Nat) := by
  have h := count_cnt (S l) 32
  have e : (" " : Str) = ⟨#[32]⟩ := rfl
  rw [e, h]
  have e2 : (S l).cps.toList = l := by simp [S]
  rw [e2, cnt_count]
end Kx
namespace Kx
open PySem PySem.Spec PyProof.Rows L2 SX LamX
/-- no positional value, one by name -/
def oneG {α : Type} (us ws : List α) : List α := match us, ws with | [], [u] => [u] | _, _ => []
theorem kb_one {K : PySem.W.Frag} {x qual : Str} {st : Stmt} {f : Addr} {fd : FuncData} {a : Str} (F : Fun K x qual st f fd)
    (h : ∀ (kV doc pm : Value) (an : Option Addr) (cdv ct : Value) (u : Value), bindArgs (PySem.W.fnOf x qual (defArgs st) (defBody st) (defScope st) .none kV doc pm an cdv ct) ⟨[], [(a, u)]⟩ = pure [(a, u)]) :
    KBinds K fd [a] [a] oneG oneG := by
  obtain ⟨oc, od, kV, doc, pm, an, cdv, ct, osl, rfl, lk, hcd⟩ := F.ex
  refine ⟨fun s us ws X l => ?_, fun {vs us zs ws} r1 r2 => ?_⟩
  · match us, ws, l with
    | [], [u], _ => exact .of_eq (h kV doc pm an cdv ct u)
    | [], [], l => cases l
    | [], _ :: _ :: _, l => cases l
    | _ :: _, _, l => cases l
  · cases r1 with
    | cons _ _ => exact .nil
    | nil =>
      cases r2 with
      | nil => exact .nil
      | cons h1 r2 =>
        cases r2 with
        | nil => exact .cons h1 .nil
        | cons _ _ => exact .nil
/-- no positional value, three by name: c, a, b for a, b, c -/
def turnG {α : Type} (us ws : List α) : List α := match us, ws with | [], [c, a, b] => [a, b, c] | _, _ => []
theorem kb_turn {K : PySem.W.Frag} {x qual : Str} {st : Stmt} {f : Addr} {fd : FuncData} {a b c : Str} (F : Fun K x qual st f fd)
    (h : ∀ (kV doc pm : Value) (an : Option Addr) (cdv ct : Value) (u v w : Value), bindArgs (PySem.W.fnOf x qual (defArgs st) (defBody st) (defScope st) .none kV doc pm an cdv ct) ⟨[], [(c, w), (a, u), (b, v)]⟩ = pure [(a, u), (b, v), (c, w)]) :
    KBinds K fd [a, b, c] [c, a, b] turnG turnG := by
  obtain ⟨oc, od, kV, doc, pm, an, cdv, ct, osl, rfl, lk, hcd⟩ := F.ex
  refine ⟨fun s us ws X l => ?_, fun {vs us zs ws} r1 r2 => ?_⟩
  · match us, ws, l with
    | [], [w, u, v], _ => exact .of_eq (h kV doc pm an cdv ct u v w)
    | [], [], l => cases l
    | [], [_], l => cases l
    | [], [_, _], l => cases l
    | [], _ :: _ :: _ :: _ :: _, l => cases l
    | _ :: _, _, l => cases l
  · cases r1 with
    | cons _ _ => exact .nil
    | nil =>
      cases r2 with
      | nil => exact .nil
      | cons h1 r2 =>
        cases r2 with
        | nil => exact .nil
        | cons h2 r2 =>
          cases r2 with
          | nil => exact .nil
          | cons h3 r2 =>
            cases r2 with
            | nil => exact .cons h2 (.cons h3 (.cons h1 .nil))
            | cons _ _ => exact .nil
end Kx
namespace Kx
open PySem PySem.Spec PyProof.Rows L2 SX LamX
theorem go_nil {σ : L2.St} {H : Hp} {Q : List V → Hp → Prop} (h : Q [] H) : tNil σ H Q := h
theorem go_var {σ : L2.St} {H : Hp} {i : Nat} {v : V} {Q : VK} (e : σ[i]? = some (some v)) (h : Q v H) : tVar i σ H Q := ⟨v, e, h⟩
theorem go_or2 {ta tb : TT} {σ : L2.St} {H : Hp} {Q : Bool → Hp → Prop} (h : ta σ H fun b H1 => if b = true then Q true H1 else tb σ H1 Q) : tOr ta tb σ H Q := h
theorem go_not {ta : TT} {σ : L2.St} {H : Hp} {Q : Bool → Hp → Prop} (h : ta σ H fun b H1 => Q (!b) H1) : tNot ta σ H Q := h
theorem go_b {te : TE} {σ : L2.St} {H : Hp} {Q : Bool → Hp → Prop} (h : te σ H fun x H1 => ∃ c, x = .bl c ∧ Q c H1) : tB te σ H Q := h
end Kx
namespace Kx
open PySem PySem.Spec PyProof.Rows L2 SX LamX
theorem ext_at {H H' : Hp} {b : Addr} {o : HO} (e : ExtN H H') (h : H b = some o) (n : ∀ ps, o ≠ .tbl ps := by intro ps z; cases z) : H' b = some o := e b o h n
theorem tyx_ext {K : PySem.W.Frag} {H H' : Hp} {x : V} {n : String} (e : ExtN H H') (h : TyX K H x (.type n)) : TyX K H' x (.type n) := by
  cases h with
  | base b =>
    cases b with
    | non => exact .base .non
    | bl y => exact .base (.bl y)
    | int i => exact .base (.int i)
    | str z => exact .base (.str z)
    | flt z => exact .base (.flt z)
    | lst h => exact .base (.lst (ext_at e h))
    | frz h => exact .base (.frz (ext_at e h))
    | tup h => exact .base (.tup (ext_at e h))
    | dK h => exact .base (.dK (ext_at e h))
    | dT h => exact .base (.dT (ext_at e h))
  | byt b => exact .byt b
  | set h => exact .set (ext_at e h)
  | kList h c => exact .kList h c
  | kTuple h c => exact .kTuple h c
  | kDict h c => exact .kDict h c
  | fTuple h => exact .fTuple (ext_at e h)
  | fDict h => exact .fDict (ext_at e h)
theorem sqL_ext {K : PySem.W.Frag} {H H' : Hp} {a : Addr} {xs : List V} (e : ExtN H H') (h : SqL K H a xs) : SqL K H' a xs := by
  rcases h with (h | ⟨o, h⟩) | h
  · exact .inl (.inl (ext_at e h))
  · exact .inl (.inr ⟨o, ext_at e h⟩)
  · exact .inr h
theorem sqT_ext {K : PySem.W.Frag} {H H' : Hp} {a : Addr} {xs : List V} (e : ExtN H H') (h : SqT K H a xs) : SqT K H' a xs := by
  rcases h with (h | ⟨o, h⟩) | h
  · exact .inl (.inl (ext_at e h))
  · exact .inl (.inr ⟨o, ext_at e h⟩)
  · exact .inr h
/-- ["text", "text"] == ["text", "text"] -/
theorem eq_data {K : PySem.W.Frag} {H : Hp} {a b : Addr} {d e : PyData} {Q : VK} (h1 : Dp K H (.ref a) d) (h2 : Dp K H (.ref b) e) (s1 : SeqAt.shaped d = true) (s2 : SeqAt.shaped e = true) (q : Q (.bl (PyData.eqv d e)) H) : rEqD K (.ref a) (.ref b) H Q :=
  ⟨d, e, h1, h2, s1, s2, q⟩
end Kx
namespace Kx
open PySem PySem.Spec PyProof.Rows L2 SX LamX
theorem reachA_add : ∀ (r : List (List Nat)) (p : Nat), reachA p r = p + reachA 0 r
  | [], p => rfl
  | y :: r, p => by
    show reachA (p + y.length + 1) r = p + reachA (0 + y.length + 1) r
    rw [reachA_add r, reachA_add r (0 + y.length + 1)]
    omega
theorem sum_texts : ∀ xs : List (List Nat), ((xs.map S).map (·.length)).sum + xs.length = reachA 0 xs
  | [] => rfl
  | x :: r => by
    have e : reachA 0 (x :: r) = x.length + 1 + reachA 0 r := by
      show reachA (0 + x.length + 1) r = _
      rw [reachA_add]
      omega
    rw [e, ← sum_texts r]
    simp only [List.map_cons, List.sum_cons, List.length_cons, S_len]
    omega
end Kx
namespace Kx
open PySem PySem.Spec PyProof.Rows L2 SX LamX
theorem S_inj {a b : Str} (h : a.cps.toList = b.cps.toList) : a = b := by
  cases a with
  | mk a =>
    cases b with
    | mk b =>
      have : a = b := Array.toList_inj.mp h
      rw [this]
theorem fold_arr (a : Array Nat) : ∀ (n : Nat) (acc : Array Nat), ((List.replicate n a).foldl (· ++ ·) acc).toList = acc.toList ++ (List.replicate n a.toList).flatten
  | 0, acc => by simp
  | n + 1, acc => by
    rw [List.replicate_succ, List.foldl_cons, fold_arr a n, List.replicate_succ, List.flatten_cons, Array.toList_append, List.append_assoc]
theorem mul_S (l : List Nat) (n : Nat) : Txt.mul (S l) n = S ((List.replicate n l).flatten) := by
  refine S_inj ?_
  have e0 : ∀ m : List Nat, (S m).cps.toList = m := fun m => by simp [S]
  rw [e0]
  unfold Txt.mul
  by_cases h1 : (n : Int) < 1
  · rw [if_pos h1]
    have : n = 0 := by omega
    subst this
    rfl
  · rw [if_neg h1]
    by_cases h2 : ((n : Int) == 1 || (S l).length == 0) = true
    · rw [if_pos h2, e0]
      simp only [Bool.or_eq_true, beq_iff_eq] at h2
      rcases h2 with h2 | h2
      · have : n = 1 := by omega
        subst this
        simp
      · rw [S_len] at h2
        cases l with
        | nil => simp
        | cons _ _ => simp at h2
    · rw [if_neg h2]
      show ((List.replicate (n : Int).toNat (S l).cps).foldl (· ++ ·) #[]).toList = _
      rw [fold_arr, Int.toNat_natCast, e0]
      simp
section
variable {X : Cx}
/-- a text times an int -/
def rRepS : R2 := fun x y H Q => ∃ (l : List Nat) (n : Nat), x = .str (S l) ∧ y = .int n ∧ l.length ≤ 16 ∧ n ≤ 1048576 ∧ Q (.str (S ((List.replicate n l).flatten))) H
theorem op_repS : OpR X (binaryOp .Mult) rRepS := by
  intro pins s σ H x y v u Q I rx ry h
  obtain ⟨l, n, rfl, rfl, h1, h2, q⟩ := h
  obtain ⟨t, rfl⟩ := rx
  obtain ⟨t', rfl⟩ := ry
  refine PySem.W.KXi.mul (n := l.length) (S_len l) h1 (by omega) (by omega) (fun t2 tk _ _ => ⟨.str _, H, I.tok _, ⟨_, rfl⟩, ?_⟩)
  rw [mul_S]
  exact q
end
end Kx
namespace Kx
open PySem PySem.Spec PyProof.Rows L2 SX LamX
section
variable {X : Cx}
/-- a list of whatever values == [] -/
def rEqE : R2 := fun x y H Q => ∃ (a b : Addr) (xs : List V), x = .ref a ∧ y = .ref b ∧ H a = some (.lst xs) ∧ H b = some (.lst []) ∧ Q (.bl xs.isEmpty) H
theorem op_eqE (hu : X.A.units + 64 < cLine) : OpR X (compareOp .Eq) rEqE := by
  intro pins s σ H x y v u Q I rx ry h
  obtain ⟨a, b, xs, rfl, rfl, ha, hb, q⟩ := h
  cases rx
  cases ry
  obtain ⟨z, its, n, r, hl, e⟩ := I.lstM ha
  obtain ⟨z2, its2, n2, r2, hl2, e2⟩ := I.lstM hb
  have l2 : its2 = [] := by
    cases its2 with
    | nil => rfl
    | cons _ _ => simp at hl2
  subst l2
  cases xs with
  | nil =>
    have l1 : its = [] := by
      cases its with
      | nil => rfl
      | cons _ _ => simp at hl
    subst l1
    exact P.eq_list (e := fun _ => true) e e2 rfl (fun j h1 _ => absurd h1 (Nat.not_lt_zero j)) (by omega) ⟨.bl true, H, I, rfl, q⟩
  | cons x r' =>
    exact P.eq_list_lengths e e2 (by
      simp only [List.size_toArray, List.length_nil]
      rw [← hl]
      simp) (by omega) ⟨.bl false, H, I, rfl, q⟩
end
end Kx
namespace Kx
open PySem PySem.Spec PyProof.Rows L2 SX LamX
section
variable {K : PySem.W.Frag} {a : Addr} {xs : List V} {g : TG} {tt : TT} {te : TE} {vs : List Nat} {σ : L2.St} {H : Hp} {k : Nat} {Q : VK}
/-- [e for x in NAME if t], NAME a tuple -/
theorem lc_tupk (zs : List (Option V)) (hz : zs.length = xs.length) (hi : σ[k]? = some (some (.ref a))) (hq : SqT K H a xs) (len : xs.length ≤ 1000000)
    (turn : ∀ (i : Nat) (x : V) (z : Option V) (Hc : Hp) (Q' : VK) (R' : Hp → Prop), xs[i]? = some x → zs[i]? = some z → Same H Hc → (∀ v H4, z = some v → Same Hc H4 → Q' v H4) → (∀ H4, z = none → Same Hc H4 → R' H4) → g x (wipe σ vs) Hc fun σ2 H2 => wipe σ2 vs = wipe σ vs ∧ tt σ2 H2 fun b H3 => if b = true then te σ2 H3 Q' else R' H3)
    (fin : ∀ (D : Addr) (Hc : Hp), Same H Hc → Hc D = some (.lst (zs.filterMap id)) → Q (.ref D) Hc) :
    tLc (iTup K (tVar k)) g tt te vs σ H Q := ⟨_, hi, a, rfl, ⟨_, hq⟩, fun D nD => lc_keep walk_tup zs hz nD len (fun Hc e => Same.t e hq) (fun i x z Hc Hx Q' R' _ hzi e y q r => by
      obtain ⟨rfl, hx⟩ := y
      exact turn i x z _ Q' R' hx hzi e q r) (fin D)⟩
theorem lc_or {I J : TI} (h : tLc I g tt te vs σ H Q ∨ tLc J g tt te vs σ H Q) : tLc (fun σ H R => I σ H R ∨ J σ H R) g tt te vs σ H Q := h
/-- .. a list or a tuple -/
theorem lc_seqk (zs : List (Option V)) (hz : zs.length = xs.length) (hi : σ[k]? = some (some (.ref a))) (hq : SqQ K H a xs) (len : xs.length ≤ 1000000)
    (turn : ∀ (i : Nat) (x : V) (z : Option V) (Hc : Hp) (Q' : VK) (R' : Hp → Prop), xs[i]? = some x → zs[i]? = some z → Same H Hc → (∀ v H4, z = some v → Same Hc H4 → Q' v H4) → (∀ H4, z = none → Same Hc H4 → R' H4) → g x (wipe σ vs) Hc fun σ2 H2 => wipe σ2 vs = wipe σ vs ∧ tt σ2 H2 fun b H3 => if b = true then te σ2 H3 Q' else R' H3)
    (fin : ∀ (D : Addr) (Hc : Hp), Same H Hc → Hc D = some (.lst (zs.filterMap id)) → Q (.ref D) Hc) :
    tLc (fun σ H R => iList K (tVar k) σ H R ∨ iTup K (tVar k) σ H R) g tt te vs σ H Q :=
  lc_or (hq.imp (fun h => lc_lstk zs hz hi h len turn fin) (fun h => lc_tupk zs hz hi h len turn fin))
end
theorem filt_none {α : Type} (p : α → Bool) : ∀ (l : List α), ((l.map fun x => if p x = true then some x else none).filterMap id).isEmpty = l.all fun x => !p x
  | [] => rfl
  | x :: r => by
    cases h : p x with
    | true =>
      simp only [List.map_cons, h, if_true, List.filterMap_cons, id, List.all_cons, Bool.not_true, Bool.false_and]
      rfl
    | false =>
      have := filt_none p r
      simp only [List.map_cons, h, Bool.false_eq_true, if_false, List.filterMap_cons, id, List.all_cons, Bool.not_false, Bool.true_and]
      exact this
theorem core_same {a : Addr} {H H' : Hp} (e : Same (core a H) H') (h : ∀ b o, core a H b = some o → b ≠ a) : Same (core a H) (core a H') := fun b o k => core_at (e b o k) (h b o k) (of_core k).2.2
theorem core_core {a : Addr} {H0 H : Hp} (e : Same (core a H0) H) : Same (core a H0) (core a H) := fun b o k => core_at (e b o k) (of_core k).1 (of_core k).2.2
theorem go_par {i j : Nat} {t : TA} {D : Ends} {σ : L2.St} {H : Hp} (h : tPar i j t D σ H) : tPar i j t D σ H := h
end Kx
namespace Kx
open PySem PySem.Spec PyProof.Rows L2 SX LamX
section
variable {K : PySem.W.Frag} {σ : L2.St} {H : Hp} {ta tb : TE} {k m : Nat}
/-- repr(x) != repr(y), of one and the same data -/
theorem nerepr_t (d : PyData) (hd : Sh k m d) (hk : k ≤ 60) (hm : m ≤ 1048576) {Q : Bool → Hp → Prop}
    (ha : ∀ Q : VK, (∀ a H', Same H H' → Dp K H' (.ref a) d → Q (.ref a) H') → ta σ H Q)
    (hb : ∀ H0, Same H H0 → ∀ Q : VK, (∀ b H', Same H0 H' → Dp K H' (.ref b) d → Q (.ref b) H') → tb σ H0 Q)
    (h : ∀ H', Same H H' → Q false H') : tTest (tOp rNe (tCB (rRepr K) (tCons ta tNil)) (tCB (rRepr K) (tCons tb tNil))) σ H Q := by
  refine go_test (go_op (go_cb (go_cons (ha _ fun a H1 e1 h1 => go_nil (go_repr h1 hd hk hm (go_cb (go_cons (hb H1 e1 _ fun b H2 e2 h2 => go_nil (go_repr h2 hd hk hm ⟨rfl, false, ?_, h H2 (e1.trans e2)⟩)))))))))
  rw [ne_self]
theorem nerepr_if (d : PyData) (hd : Sh k m d) (hk : k ≤ 60) (hm : m ≤ 1048576) {D : Ends} {t u : TS}
    (ha : ∀ Q : VK, (∀ a H', Same H H' → Dp K H' (.ref a) d → Q (.ref a) H') → ta σ H Q)
    (hb : ∀ H0, Same H H0 → ∀ Q : VK, (∀ b H', Same H0 H' → Dp K H' (.ref b) d → Q (.ref b) H') → tb σ H0 Q)
    (h : ∀ H', Same H H' → u D σ H') : tIfS (tTest (tOp rNe (tCB (rRepr K) (tCons ta tNil)) (tCB (rRepr K) (tCons tb tNil)))) t u D σ H :=
  go_if (nerepr_t d hd hk hm ha hb fun H' e => iteF (A := _) (h H' e))
end
theorem sh_bb (b c : Bool) : Sh 1 2 (.list [.bool b, .bool c]) := (shA_bools (k := 0) [b, c]).lst
theorem dp_bc {K : PySem.W.Frag} {H : Hp} {p : Addr} {b c : Bool} (h : H p = some (.lst [.bl b, .bl c])) : Dp K H (.ref p) (.list [.bool b, .bool c]) := .lst (.inl (.inl h)) (.cons (.bl b) (.cons (.bl c) .nil))
end Kx
namespace Kx
open PySem PySem.Spec PyProof.Rows L2 SX LamX
theorem go_c {v : V} {σ : L2.St} {H : Hp} {Q : VK} (h : Q v H) : tC v σ H Q := h
theorem core_sub {a : Addr} {H : Hp} : Same (core a H) H := fun b o h => (of_core h).2.1
theorem core_mvO {a : Addr} {H0 H H' : Hp} (e : Same (core a H0) H) (m : Mv a H H') : Same (core a H0) H' := fun b o h => m b o (of_core h).1 (e b o h)
theorem sz5 : 5 ≤ sizeLine := by decide
theorem rep_flat (n x : Nat) : (List.replicate n [x]).flatten = List.replicate n x := by
  induction n with
  | zero => rfl
  | succ j ih => rw [List.replicate_succ, List.flatten_cons, ih, List.replicate_succ]; rfl
theorem rep_len (n : Nat) (l : List Nat) : ((List.replicate n l).flatten).length = n * l.length := by
  induction n with
  | zero => simp
  | succ j ih => rw [List.replicate_succ, List.flatten_cons, List.length_append, ih, Nat.succ_mul, Nat.add_comm]
theorem rep_mem {n : Nat} {l : List Nat} {i : Nat} (h : i ∈ (List.replicate n l).flatten) : i ∈ l := by
  obtain ⟨m, hm, hi⟩ := List.mem_flatten.mp h
  rw [List.eq_of_mem_replicate hm] at hi
  exact hi
end Kx
namespace Kx
open PySem PySem.Spec PyProof.Rows L2 SX LamX
section
variable {M : Model} {prog : Program} {w : World} {A : Around} {E : Value → Shared → Prop} {s : Shared} {K : PySem.W.Frag} {x C f : Addr} {ox : Obj} {od : Option Obj} {y : Value}
theorem objNe (X : K.In s.heap) (I : PySem.W.InstAt s.heap x ox C od) (hu : A.units < cLine) (hs : PySem.W.findIn K (.ref C) "__eq__" = some (some (.ref f))) (hf : PySem.W.isFn K (.ref f) = true) {Q : Fin → Shared → Prop}
    (hcall : wpAny (model prog w) A (call (.ref f) [.ref x, y]) (fun v s' => ∃ b, v = .bool b ∧ Q (.done (.ret (.bool (!b)))) s') E s) : wpAny (model prog w) A (Builtin.«object.__ne__» ⟨[.ref x, y], []⟩) Q E s := by
  unfold Builtin.«object.__ne__»
  repeat (first
    | with_reducible refine wpAny_cRoomFor hu ?_
    | (refine wpAny_bind (m := callSpecialIfBound? (.ref x) (Str.ofString "__eq__") [y])
        (PySem.W.ifBound_K X I hs hf (wpAny_mono hcall (fun r s' hr => by
          obtain ⟨b, rfl, hq⟩ := hr
          repeat (first | exact hq | exact wpAny_pure hq | exact wpAny_truthy_bool hq | (refine wpAny_bind (m := truthy (.bool _)) (wpAny_truthy_bool ?_)) | wp_step)) fun _ _ e => e)))
    | wp_step)
theorem call_ne {Q : Value → Shared → Prop} (X : K.In s.heap) (I : PySem.W.InstAt s.heap x ox C od) (hu : A.in1.units < cLine) (hm : PySem.W.mroIn K C (.type "object") = some true) (hs : PySem.W.findIn K (.ref C) "__eq__" = some (some (.ref f))) (hf : PySem.W.isFn K (.ref f) = true)
    (hcall : wpAny (model prog w) A.in1 (call (.ref f) [.ref x, y]) (fun v s' => ∃ b, v = .bool b ∧ Q (.bool (!b)) s') E s) : wpAny (model prog w) A (call (.builtin "object.__ne__") [.ref x, y]) Q E s :=
  wpAny_call (codeAny_call_builtin F.cmp_object.ne.plain F.cmpEntry_ne (PySem.W.check_slot F.cmpKind_ne F.cmpSplit_ne (I.type.andThen (PySem.W.looks_mroIn X hm)) (F.cmpArgs_ne _ _) (objNe X I hu hs hf hcall)))
theorem ifBound_objNe {args : List Value} {Q : Option Value → Shared → Prop} (X : K.In s.heap) (I : PySem.W.InstAt s.heap x ox C od) (hs : PySem.W.findIn K (.ref C) "__ne__" = some (some (.builtin "object.__ne__")))
    (h : wpAny M A (call (.builtin "object.__ne__") (.ref x :: args)) (fun v => Q (some v)) E s) : wpAny M A (callSpecialIfBound? (.ref x) "__ne__" args) Q E s := by
  simp only [callSpecialIfBound?, bindSpecialIfBound?]
  refine wpAny_holding (wpAny_bind (wpAny_bind (wpAny_bind (I.type.here ((PySem.W.looks_findIn X hs).here ?_)))))
  refine wpAny_bind (wpAny_askSetting (wpAny_ite ?_))
  have fin : wpAny M A (call (.builtin "object.__ne__") ([.ref x] ++ args) >>= fun v => pure (some v)) Q E s := wpAny_bind (wpAny_mono h (fun v s' h' => wpAny_pure h') fun _ _ h' => h')
  split
  · exact wpAny_bind (wpAny_of_eq (F.cmp_object.ne.bind _) (wpAny_pure (by exact fin)))
  · exact wpAny_tryCatch (wpAny_bind (wpAny_of_eq (F.cmp_object.ne.bind _) (wpAny_pure (by exact fin))))
/-- x != y, x an instance with an == of its own, no != -/
theorem rich_ne {Q : Value → Shared → Prop} {tb : Value} (hu : A.in1.units < cLine) (X : K.In s.heap) (I : PySem.W.InstAt s.heap x ox C od) (hb : PySem.W.Looks (model prog w) s.heap (typeOf y) tb) (hn : PySem.W.notFirst K C tb = true) (hm : PySem.W.mroIn K C (.type "object") = some true)
    (hs : PySem.W.findIn K (.ref C) "__eq__" = some (some (.ref f))) (hf : PySem.W.isFn K (.ref f) = true) (hne : PySem.W.findIn K (.ref C) "__ne__" = some (some (.builtin "object.__ne__")))
    (h : wpAny (model prog w) A.in1 (call (.ref f) [.ref x, y]) (fun v s' => ∃ b, v = .bool b ∧ Q (.bool (!b)) s') E s) : wpAny (model prog w) A (richCompare .NotEq (.ref x) y) Q E s := by
  have one : wpAny (model prog w) A (tryCompare (.ref x) "__ne__" y) (fun r s' => ∃ v, r = some v ∧ Q v s') E s := by
    unfold tryCompare
    refine wpAny_bind (ifBound_objNe X I hne (call_ne X I hu hm hs hf (wpAny_mono h (fun v s' hv => ?_) fun _ _ e => e)))
    obtain ⟨b, rfl, hq⟩ := hv
    exact ⟨b, rfl, wpAny_pure ⟨_, rfl, hq⟩⟩
  have hu0 : A.units < cLine := Nat.lt_of_succ_lt (show A.units + 1 < cLine from hu)
  unfold richCompare
  simp only [oneThing_ref]
  refine wpAny_holding (wpAny_bind (wpAny_cRoomFor hu0 ?_))
  rw [cmpInfo_NotEq]
  dsimp only
  refine wpAny_bind (I.type.here (wpAny_bind (hb.here ?_)))
  split
  · rename_i q
    have e : PySem.W.subIn K tb (.ref C) = some false := by
      rcases Bool.or_eq_true_iff.mp hn with e | e
      · rw [beq_iff_eq.mp e] at q; simp at q
      · exact beq_iff_eq.mp e
    refine wpAny_bind ((PySem.W.looks_subIn X e).here ?_)
    simp only [Bool.false_eq_true, if_false]
    refine wpAny_bind (wpAny_mono one (fun r s' z => ?_) fun _ _ e => e)
    obtain ⟨v, rfl, hq⟩ := z
    exact wpAny_pure hq
  · refine wpAny_bind (wpAny_pure ?_)
    simp only [Bool.false_eq_true, if_false]
    refine wpAny_bind (wpAny_mono one (fun r s' z => ?_) fun _ _ e => e)
    obtain ⟨v, rfl, hq⟩ := z
    exact wpAny_pure hq
theorem sub_list : PySem.W.subIn K (.type "list") (.ref C) = some false := by
  have e : fastBuiltinMro "list" = some [.type "list", .type "object"] := by decide +kernel
  show (fastBuiltinMro "list").map (·.contains (.ref C)) = some false
  rw [e]
  first
    | rfl
    | simp
theorem sub_tuple : PySem.W.subIn K (.type "tuple") (.ref C) = some false := by
  have e : fastBuiltinMro "tuple" = some [.type "tuple", .type "object"] := by decide +kernel
  show (fastBuiltinMro "tuple").map (·.contains (.ref C)) = some false
  rw [e]
  first
    | rfl
    | simp
end
end Kx
namespace Kx
open PySem PySem.Spec PyProof.Rows L2 SX LamX
section
variable {X : Cx} {pins : List (Addr × Obj)} {σ : L2.St} {H : Hp} {s : Shared}
/-- what stands at the other side of an own ==: an instance of the class, a list, a tuple -/
def OthV (K : PySem.W.Frag) (C : Addr) (H : Hp) (y : V) : Prop := ∃ b, y = .ref b ∧ ((∃ dx fs, H b = some (.ins C dx fs)) ∨ ∃ xs, SqQ K H b xs)
theorem oth_looks {C : Addr} {y : V} {u : Value} (I : Inv X pins σ H s) (ry : RelV y u) (h : OthV X.K C H y) : ∃ b tb, y = .ref b ∧ u = .ref b ∧ (∀ M, PySem.W.Looks M s.heap (typeOf u) tb) ∧ PySem.W.notFirst X.K C tb = true := by
  obtain ⟨b, rfl, h⟩ := h
  obtain rfl : u = Value.ref b := ry
  rcases h with ⟨dx, fs, h⟩ | ⟨xs, h | h⟩
  · obtain ⟨mA, J, _⟩ := ins_get I.hok h
    obtain ⟨od, J, _⟩ := J.look
    exact ⟨b, _, rfl, rfl, fun M => J.type, by simp [PySem.W.notFirst]⟩
  · obtain ⟨us, r1, p1, _⟩ := I.list h
    obtain ⟨o, n, e, c1, c2, d⟩ := p1
    have c : o.cls = .type "list" := by first | exact c1 | exact c2
    refine ⟨b, .type "list", rfl, rfl, fun M => c ▸ (PySem.W.Looks.ld e).andThen .now, ?_⟩
    unfold PySem.W.notFirst
    rw [sub_list]
    rfl
  · obtain ⟨us, r1, ⟨o, e, c, _⟩, _⟩ := I.tuple h
    refine ⟨b, .type "tuple", rfl, rfl, fun M => c ▸ (PySem.W.Looks.ld e).andThen .now, ?_⟩
    unfold PySem.W.notFirst
    rw [sub_tuple]
    rfl
end
end Kx
namespace Kx
open PySem PySem.Spec PyProof.Rows L2 SX LamX
section
variable {X : Cx}
/-- x == y by the class's own ==: what it promises, a truth -/
def rEqI (K : PySem.W.Frag) (C : Addr) (sp : Sp) : R2 := fun x y H Q => ∃ a dx fs, x = .ref a ∧ H a = some (.ins C dx fs) ∧ OthV K C H y ∧ sp [x, y] H (fun v H' => ∃ b, v = .bl b ∧ Q (.bl b) H') C8.E0
def rNeI (K : PySem.W.Frag) (C : Addr) (sp : Sp) : R2 := fun x y H Q => ∃ a dx fs, x = .ref a ∧ H a = some (.ins C dx fs) ∧ OthV K C H y ∧ sp [x, y] H (fun v H' => ∃ b, v = .bl b ∧ Q (.bl (!b)) H') C8.E0
theorem own_run {f : Addr} {fd : FuncData} {ps : List Str} {n : Nat} {sp : Sp} {A : Around} {pins : List (Addr × Obj)} {σ : L2.St} {H : Hp} {s : Shared} {a b : Addr} {Q : VK} {R : Value → Shared → Prop} {xe : Value → Shared → Prop}
    (F : FnOk X.prog X.w X.K X.mg X.base C8.CX0 n f fd ps sp) (hb : Binds X.K fd ps []) (hr : Room n A) (hf : A.frames = X.A.frames) (I : Inv X pins σ H s) (h : sp [.ref a, .ref b] H Q C8.E0)
    (back : ∀ u s', EP X pins σ Q u s' → R u s') : wpAny (model X.prog X.w) A (call (.ref f) [.ref a, .ref b]) R xe s := by
  have e0 : Env0 X.prog X.w X.K X.mg X.base A X.stack s H := by
    have e := I.env0
    exact ⟨by rw [hf]; exact e.frames, e.mod, e.bs, e.bsz, e.funs, e.frf, e.hok, e.bare⟩
  have hl := F.len _ _ _ _ h
  have r2 : Vals [V.ref a, V.ref b] [Value.ref a, Value.ref b] := .cons rfl (.cons rfl .nil)
  refine wpAny_call (codeAny_mono (F.run A X.stack s H ⟨[.ref a, .ref b], []⟩ [.ref a, .ref b] [.ref a, .ref b] _ C8.E0 hr e0 (by
    have := hb s [.ref a, .ref b] I.kIn (by simpa using hl)
    simpa using this) r2 h) fun r s' hq => ?_)
  match r, hq with
  | .error e, hq => exact (show False from hq).elim
  | .ok (.ret w), hq => exact back w s' (I.after hq)
  | .ok .next, hq => exact False.elim hq
  | .ok .brk, hq => exact False.elim hq
  | .ok .cont, hq => exact False.elim hq
theorem op_eqI {C f : Addr} {fd : FuncData} {ps : List Str} {n : Nat} {sp : Sp} (F : FnOk X.prog X.w X.K X.mg X.base C8.CX0 n f fd ps sp) (hb : Binds X.K fd ps []) (hr : Room n X.A)
    (hs : PySem.W.findIn X.K (.ref C) "__eq__" = some (some (.ref f))) (hf : PySem.W.isFn X.K (.ref f) = true) : OpR X (compareOp .Eq) (rEqI X.K C sp) := by
  intro pins s σ H x y v u Q I rx ry hq
  obtain ⟨a, dx, fs, rfl, ha, oth, h⟩ := hq
  cases rx
  obtain ⟨mA, J, _⟩ := ins_get I.hok ha
  obtain ⟨od, J, _⟩ := J.look
  obtain ⟨b, tb, rfl, rfl, lk, nf⟩ := oth_looks I ry oth
  obtain ⟨m, hF⟩ := I.fr
  show wpAny (model X.prog X.w) X.A (richCompare .Eq (.ref a) (.ref b)) _ _ s
  refine PySem.W.cmp_K (op := .Eq) (tb := tb) hr.units0 hF I.ok.mod.kin J (lk _) nf hs hf (own_run F hb hr rfl I h fun u s' ep => ?_)
  obtain ⟨z, H', I', rz, c, rfl, q⟩ := ep
  cases rz
  exact ⟨.bl c, H', I', rfl, q⟩
theorem op_neI {C f : Addr} {fd : FuncData} {ps : List Str} {n : Nat} {sp : Sp} (F : FnOk X.prog X.w X.K X.mg X.base C8.CX0 n f fd ps sp) (hb : Binds X.K fd ps []) (hr : Room (n + 1) X.A)
    (hs : PySem.W.findIn X.K (.ref C) "__eq__" = some (some (.ref f))) (hf : PySem.W.isFn X.K (.ref f) = true) (hm : PySem.W.mroIn X.K C (.type "object") = some true) (hne : PySem.W.findIn X.K (.ref C) "__ne__" = some (some (.builtin "object.__ne__"))) :
    OpR X (compareOp .NotEq) (rNeI X.K C sp) := by
  intro pins s σ H x y v u Q I rx ry hq
  obtain ⟨a, dx, fs, rfl, ha, oth, h⟩ := hq
  cases rx
  obtain ⟨mA, J, _⟩ := ins_get I.hok ha
  obtain ⟨od, J, _⟩ := J.look
  obtain ⟨b, tb, rfl, rfl, lk, nf⟩ := oth_looks I ry oth
  show wpAny (model X.prog X.w) X.A (richCompare .NotEq (.ref a) (.ref b)) _ _ s
  refine rich_ne hr.in1.units0 I.kIn J (lk _) nf hm hs hf hne (own_run F hb hr.in1 rfl I h fun u s' ep => ?_)
  obtain ⟨z, H', I', rz, c, rfl, q⟩ := ep
  cases rz
  exact ⟨c, rfl, .bl (!c), H', I', rfl, q⟩
end
end Kx
namespace Kx
open PySem PySem.Spec PyProof.Rows L2 SX LamX
/-! ### texts, each once -/
def onceStep (σ : List Str) (x : Str) : List Str := if σ.any (· == x) = true then σ else σ ++ [x]
def onceS (xs : List Str) : List Str := xs.foldl onceStep []
theorem once_any (σ : List Str) (v k : Str) : (onceStep σ v).any (· == k) = (σ.any (· == k) || decide (k = v)) := by
  unfold onceStep
  by_cases h : σ.any (· == v) = true
  · rw [if_pos h]
    by_cases e : k = v
    · rw [e, h]; simp
    · simp [e]
  · rw [if_neg h, List.any_append]
    by_cases e : k = v
    · rw [e]; simp
    · have hb : (v == k) = false := by simpa [beq_iff_eq] using (fun h' : v = k => e h'.symm)
      simp [hb, e]
theorem once_len (σ : List Str) (v : Str) : (onceStep σ v).length = if σ.any (· == v) = true then σ.length else σ.length + 1 := by
  unfold onceStep
  split <;> simp
theorem once_fold : ∀ (xs σ : List Str), (xs.foldl onceStep σ).length ≤ σ.length + xs.length
  | [], σ => Nat.le_refl _
  | x :: r, σ => by
    have h := once_fold r (onceStep σ x)
    have h2 := once_len σ x
    rw [List.foldl_cons, List.length_cons]
    split at h2 <;> omega
theorem onceS_le (xs : List Str) : (onceS xs).length ≤ xs.length := by
  have h := once_fold xs []
  simpa [onceS] using h
theorem onceS_take {xs : List Str} {i : Nat} {x : Str} (h : xs[i]? = some x) : onceS (xs.take (i + 1)) = onceStep (onceS (xs.take i)) x := by
  unfold onceS
  rw [List.take_add_one, h, List.foldl_append]
  rfl
section
variable {prog : Program} {w : World} {A : Around} {R : Result → Shared → Prop} {I : Addr} {fp wr : List Addr} {G : Array GenState → Array GenState → Prop} {n : Nat} {P : Nat → Value → Prop} {St : Nat → Shared → Prop}
def txSet (prog : Program) (w : World) (h : Heap) (S : Addr) (l : List Str) : Prop := h.SetOf (PySem.strKind prog w) S (fun k => l.any (· == k)) l.length
theorem txSet_at {h h' : Heap} {S : Addr} {l : List Str} (t : txSet prog w h S l) (k : ∀ o, h.get? S = some o → h'.get? S = some o) : txSet prog w h' S l := by
  obtain ⟨o, es, ep, tb, ho, rest⟩ := t
  exact ⟨o, es, ep, tb, k o ho, rest⟩
/-- set.update over texts, whatever walks over them -/
theorem upd_texts (W : WalksS prog w A.in1 I fp wr G n P St) (S : Addr) (hSf : S ∉ fp) (xs : List Str) (hn : n = xs.length) (hval : ∀ i v, P i v → ∃ x t, xs[i]? = some x ∧ v = .str x t) (hb : n + 1 < scanBound) :
    ∀ (k i : Nat) (s : Shared), n - i = k → i ≤ n → St i s → txSet prog w s.heap S (onceS (xs.take i)) →
      (∀ s', Moved (S :: wr) G s s' → txSet prog w s'.heap S (onceS xs) → R (.ok (.ret .none)) s') → codeAny (model prog w) A (.builtin "set.update.loop" ⟨[.ref S, .ref I], []⟩) R s := by
  have out : S ∉ wr := fun h => hSf (W.sub _ h)
  have more : ∀ b ∈ wr, b ∈ S :: wr := fun b hb => List.mem_cons_of_mem _ hb
  intro k
  induction k with
  | zero =>
    intro i s hk hi hst hS hR
    obtain rfl : i = n := by omega
    refine codeAny_builtin PyProof.Rows.F.entry_set_update_loop ?_
    rw [Around.under_plainId PyProof.Rows.F.plain_set_update_loop _]
    show wpAny _ A.in1 (pyNext (.ref I) >>= _) _ _ s
    refine wpAny_bind (W.done s _ _ hst fun s' hm => ?_)
    show wpAny _ A.in1 (ret Value.none) _ _ s'
    rw [hn, List.take_length] at hS
    exact wpAny_pure (hR s' (hm.mono more) (txSet_at hS fun o e => hm.heap S o out e))
  | succ k ih =>
    intro i s hk hi hst hS hR
    have hlt : i < n := by omega
    refine codeAny_builtin PyProof.Rows.F.entry_set_update_loop ?_
    rw [Around.under_plainId PyProof.Rows.F.plain_set_update_loop _]
    show wpAny _ A.in1 (pyNext (.ref I) >>= _) _ _ s
    refine wpAny_bind (W.item i s _ _ hlt hst fun v s' hP hst' hm => ?_)
    obtain ⟨x, t, hx, rfl⟩ := hval i v hP
    have hS' := txSet_at hS fun o e => hm.heap S o out e
    show wpAny _ A.in1 (holding [Value.str x t] (setAdd S (.str x t)) >>= _) _ _ s'
    refine wpAny_bind (wpAny_holding ?_)
    unfold setAdd
    refine wpAny_holding (wpAny_bind ((PySem.strKind prog w).pyHash (k := x) (strKind_is _ _ _ _) ?_))
    have room : (onceS (xs.take i)).length + 1 < scanBound := by
      have h1 := onceS_le (xs.take i)
      rw [List.length_take] at h1
      omega
    refine wpAny_setAddHashed_of (knd := PySem.strKind prog w) (s := { s' with toks := s'.toks + 1 }) (strKind_is _ _ _ _) rfl hS' room fun h' same hS2 => ?_
    have hS3 : txSet prog w h' S (onceS (xs.take (i + 1))) := PyProof.Rows.SetOf_congr hS2 (fun k' => by rw [onceS_take hx, once_any]) (by rw [onceS_take hx, once_len])
    refine wpAny_pure ⟨plainId_quiet PyProof.Rows.F.plain_set_update_loop _, ih (i + 1) _ (by omega) hlt (W.frame _ s' _ _ hst' (Nat.le_succ _) fun b hb o e => ?_) hS3 fun s2 hm2 hS4 => ?_⟩
    · rw [same.2 b (fun h : b = S => hSf (by rw [← h]; exact hb))]
      exact e
    · refine hR s2 (Moved.trans W.gtrans ((hm.mono more).then_heap (Nat.le_succ _) fun b o hb e => ?_) hm2) hS4
      rw [same.2 b (fun h : b = S => hb (by rw [h]; exact List.mem_cons_self))]
      exact e
end
section
variable {prog : Program} {w : World} {A : Around} {E : Value → Shared → Prop} {s : Shared}
abbrev freshSet (led : Bool) : Obj := { cls := .type "set", dict := none, data := .set #[] 0 (.fresh 0 0 led) }
/-- what a set of these texts leaves -/
def MadeTx (prog : Program) (w : World) (s : Shared) (xs : List Str) (h' : Heap) : Prop := txSet prog w h' s.heap.objs.size (onceS xs) ∧ ∀ b o, s.heap.get? b = some o → h'.get? b = some o
/-- set(x): what its __init__ has to do -/
theorem set_made {x : Value} {xs : List Str} {Q : Value → Shared → Prop}
    (hin : ∀ (led : Bool) (A' : Around) (E' : Value → Shared → Prop) (Q' : Fin → Shared → Prop), A'.handled = A.handled → (∀ h' tk, MadeTx prog w s xs h' → Q' (.done (.ret .none)) { s with heap := h', toks := tk }) →
      wpAny (model prog w) A' (Builtin.«set.__init__» ⟨[.ref s.heap.objs.size, x], []⟩) Q' E' { s with heap := s.heap.push (freshSet led) })
    (h : ∀ (h' : Heap) (tk : Nat), MadeTx prog w s xs h' → Q (.ref s.heap.objs.size) { s with heap := h', toks := tk }) : wpAny (model prog w) A (call (.type "set") [x]) Q E s := by
  obtain ⟨c, tl, hmro⟩ := PySem.F.called_set.mro
  have hmade := PySem.F.called_set.made
  have hsub := PySem.F.called_set.sub
  refine wpAny_call (codeAny_of_tree ?_)
  show wpAny _ _ (callAny (.type "set") _) _ _ _
  refine wpAny_pure ⟨Code.quiet_builtin _ (by decide +kernel), codeAny_builtin PySem.F.entry_type_call ?_⟩
  rw [Around.under_plain (weight_type_call_type "set" [x] []) rfl]
  have h1 := PySem.F.called_set.notType
  have h2 := PySem.F.called_set.canCreate
  have hct := PySem.F.typeCall_set_1 x
  repeat (any_goals (first | assumption | wp_step))
  refine codeAny_mono (code_set_new_1 x (E := E) (Q₁ := fun obj s₁ => ∃ led : Bool, obj = .ref s.heap.objs.size ∧ s₁ = { s with heap := s.heap.push (freshSet led) }) fun led => ⟨led, rfl, rfl⟩) fun r s₁ hr => ?_
  match r, hr with
  | .error e, hr => exact hr
  | .ok .next, hr => exact hr.elim
  | .ok .brk, hr => exact hr.elim
  | .ok .cont, hr => exact hr.elim
  | .ok (.ret obj), hr =>
    obtain ⟨led, rfl, rfl⟩ := hr
    have hS : (s.heap.push (freshSet led)).get? s.heap.objs.size = some (freshSet led) := Heap.get?_push_size _ rfl
    have hT : Shared.TypeIs { s with heap := s.heap.push (freshSet led) } (.ref s.heap.objs.size) "set" := ⟨_, hS, rfl⟩
    have hli := PySem.F.called_set.init.lookup
    have hbi := PySem.F.called_set.init.bind (.ref s.heap.objs.size)
    repeat (any_goals (first | assumption | wp_step))
    refine codeAny_mono (codeAny_call_builtin (R := wants (fun r s₂ => r = .none ∧ ∃ h' tk, s₂ = { s with heap := h', toks := tk } ∧ MadeTx prog w s xs h') E) PySem.F.called_set.init.plain PySem.F.entry_set_init (check_set_init_1 hT ?_)) fun r₂ s₂ hr₂ => ?_
    · exact hin led _ _ _ rfl fun h' tk m => ⟨rfl, h', tk, rfl, m⟩
    · match r₂, hr₂ with
      | .error e, hr₂ => exact hr₂
      | .ok .next, hr₂ => exact hr₂.elim
      | .ok .brk, hr₂ => exact hr₂.elim
      | .ok .cont, hr₂ => exact hr₂.elim
      | .ok (.ret r), hr₂ =>
        obtain ⟨rfl, h', tk, rfl, m⟩ := hr₂
        repeat (any_goals (first | assumption | wp_step))
        exact h _ _ m
end
end Kx
namespace Kx
open PySem PySem.Spec PyProof.Rows L2 SX LamX
section
variable {prog : Program} {w : World} {A : Around} {E : Value → Shared → Prop} {s : Shared}
theorem strs_get : ∀ {us : List Value} {xs : List Str}, StrsAre us xs → ∀ (i : Nat) (v : Value), us[i]? = some v → ∃ x t, xs[i]? = some x ∧ v = .str x t
  | _, _, .nil, i, v, h => by simp at h
  | _, _, .cons y t hr, 0, v, h => by
    simp at h
    exact ⟨y, t, rfl, h.symm⟩
  | _, _, .cons y t hr, i + 1, v, h => by
    simp only [List.getElem?_cons_succ] at h
    exact strs_get hr i v h
theorem strs_len : ∀ {us : List Value} {xs : List Str}, StrsAre us xs → us.length = xs.length
  | _, _, .nil => rfl
  | _, _, .cons _ _ r => by rw [List.length_cons, List.length_cons, strs_len r]
/-- set(x), a list or a tuple of texts -/
theorem call_set_texts {l : Addr} {items : Array Value} {xs : List Str} {Q : Value → Shared → Prop} (hh : A.handled = none) (hl : s.heap.IsList l items ∨ s.heap.IsTuple l items) (hi : StrsAre items.toList xs) (hb : xs.length + 1 < scanBound)
    (h : ∀ (h' : Heap) (tk : Nat), MadeTx prog w s xs h' → Q (.ref s.heap.objs.size) { s with heap := h', toks := tk }) : wpAny (model prog w) A (call (.type "set") [.ref l]) Q E s := by
  refine set_made (xs := xs) (fun led A' E' Q' hA q => ?_) h
  have isz : items.size = xs.length := by rw [← strs_len hi, Array.length_toList]
  have hS : (s.heap.push (freshSet led)).get? s.heap.objs.size = some (freshSet led) := Heap.get?_push_size _ rfl
  have hlS : l < s.heap.objs.size := by
    rcases hl with ⟨o, ho, _⟩ | ⟨o, ho, _⟩ <;> exact Heap.lt_size ho
  have hneI : l ≠ (s.heap.push (freshSet led)).objs.size := by
    rw [Heap.size_push]
    exact Nat.ne_of_lt (Nat.lt_succ_of_lt hlS)
  have hSf : s.heap.objs.size ∉ [(s.heap.push (freshSet led)).objs.size, l] := by
    rw [Heap.size_push]
    simp only [List.mem_cons, List.not_mem_nil, or_false, not_or]
    exact ⟨Nat.ne_of_lt (Nat.lt_succ_self _), Nat.ne_of_gt hlS⟩
  have hval : ∀ (i : Nat) (v : Value), items[i]? = some v → ∃ x t, xs[i]? = some x ∧ v = .str x t := fun i v hv => strs_get hi i v (by rw [Array.getElem?_toList]; exact hv)
  have hh3 : A'.in1.handled = none := by simp [hA, hh]
  have done : ∀ (it : Obj) (s' : Shared), Moved (s.heap.objs.size :: [(s.heap.push (freshSet led)).objs.size]) (fun a b => b = a) { s with heap := (s.heap.push (freshSet led)).push it } s' → txSet prog w s'.heap s.heap.objs.size (onceS xs) →
      wpAny (model prog w) A' (ret Value.none) Q' E' s' := fun it s' hm hS' => by
    obtain ⟨h', g', d', tk', os'⟩ := s'
    have eg : g' = s.gens := hm.gens
    have ed : d' = s.drawn := hm.drawn
    have eo : os' = s.os := hm.os
    subst eg
    subst ed
    subst eo
    refine wpAny_pure (q h' tk' ⟨hS', fun b o e => ?_⟩)
    have hb0 : b < s.heap.objs.size := Heap.lt_size e
    have hb1 : b ≠ s.heap.objs.size := Nat.ne_of_lt hb0
    have hb2 : b ≠ (s.heap.push (freshSet led)).objs.size := by
      rw [Heap.size_push]
      exact Nat.ne_of_lt (Nat.lt_succ_of_lt hb0)
    exact hm.heap b o (by simp only [List.mem_cons, List.not_mem_nil, or_false, not_or]; exact ⟨hb1, hb2⟩) (Heap.get?_push_of_some _ (Heap.get?_push_of_some _ e))
  unfold Builtin.«set.__init__» noKeywords Builtin.Frozenset.updateFrom
  rcases hl with hl | hl
  · obtain ⟨ol, hol, hcl, nl, hdl⟩ := hl
    obtain ⟨ocls, odict, odata, oslots⟩ := ol
    simp only at hcl hdl
    subst hcl
    subst hdl
    have hol' : (s.heap.push (freshSet led)).get? l = some { cls := .type "list", dict := odict, data := .seq items nl, slots := oslots } := Heap.get?_push_of_some _ hol
    have hsls := PySem.F.sub_list_set
    have hslf := PySem.F.sub_list_frozenset
    have hne : (Value.type "list" == Value.type "dict") = false := by decide
    have hl1 : (s.heap.push (freshSet led)).IsList l items := ⟨_, hol', rfl, nl, rfl⟩
    generalize hPI : pyIter = PI
    wp_walk
    subst hPI
    refine wpAny_pyIter_list hl1 ?_
    refine wpAny_bind (wpAny_runValue ?_)
    refine upd_texts ((Walks.list hh3 _ l hneI items).toS) s.heap.objs.size hSf xs isz hval (by omega) (items.size - 0) 0 _ (by omega) (Nat.zero_le _) ⟨⟨_, Heap.get?_push_size _ rfl, rfl, rfl⟩, (hl1.push _)⟩ ?_ (fun s' hm hS' => ?_)
    · have hget : ((s.heap.push (freshSet led)).push { cls := .type "list_iterator", data := .fields #[.ref l, .int 0 0] }).get? s.heap.objs.size = some (freshSet led) := Heap.get?_push_of_some _ hS
      exact PyProof.Rows.SetOf_congr ((PyProof.Rows.setObjOf_fresh (knd := PySem.strKind prog w) led).setOf hget (by unfold scanBound; omega)) (fun _ => rfl) rfl
    · exact wpAny_pure (done _ s' hm hS')
  · obtain ⟨ol, hol, hcl, nl, hdl⟩ := hl
    obtain ⟨ocls, odict, odata, oslots⟩ := ol
    simp only at hcl hdl
    subst hcl
    subst hdl
    have hol' : (s.heap.push (freshSet led)).get? l = some { cls := .type "tuple", dict := odict, data := .seq items nl, slots := oslots } := Heap.get?_push_of_some _ hol
    have hsls := PySem.F.sub_tuple_set
    have hslf := PySem.F.sub_tuple_frozenset
    have hne : (Value.type "tuple" == Value.type "dict") = false := by decide
    have hl1 : (s.heap.push (freshSet led)).IsTuple l items := ⟨_, hol', rfl, nl, rfl⟩
    generalize hPI : pyIter = PI
    wp_walk
    subst hPI
    refine wpAny_pyIter_tuple hl1 ?_
    refine wpAny_bind (wpAny_runValue ?_)
    refine upd_texts ((Walks.tuple hh3 _ l hneI items).toS) s.heap.objs.size hSf xs isz hval (by omega) (items.size - 0) 0 _ (by omega) (Nat.zero_le _) ⟨⟨_, Heap.get?_push_size _ rfl, rfl, rfl⟩, (hl1.push _)⟩ ?_ (fun s' hm hS' => ?_)
    · have hget : ((s.heap.push (freshSet led)).push { cls := .type "tuple_iterator", data := .fields #[.ref l, .int 0 0] }).get? s.heap.objs.size = some (freshSet led) := Heap.get?_push_of_some _ hS
      exact PyProof.Rows.SetOf_congr ((PyProof.Rows.setObjOf_fresh (knd := PySem.strKind prog w) led).setOf hget (by unfold scanBound; omega)) (fun _ => rfl) rfl
    · exact wpAny_pure (done _ s' hm hS')
end
end Kx
namespace Kx
open PySem PySem.Spec PyProof.Rows L2 SX LamX
section
variable {X : Cx}
/-- len(set(e)), e a list or a tuple of texts -/
def tLenSetN (K : PySem.W.Frag) (ta : TE) : TE := fun σ H Q => ta σ H fun x H1 => ∃ (l : Addr) (xs : List Str), x = .ref l ∧ SqQ K H1 l (xs.map V.str) ∧ xs.length ≤ 4000 ∧ Q (.int ((onceS xs).length : Nat)) H1
theorem pe_lenSetN {a : Expr} {ta : TE} {p p2 q pos : Pos} (hg : Gl X "len") (hm : X.mg "len" = none) (hg2 : Gl X "set") (hm2 : X.mg "set" = none) (ha : PE X a ta) (hc : X.calm = true := by rfl)
    (na : starEach [a] X.env = (false, eval a X.env) :: starEach [] X.env := by rfl) : PE X (.Call (.Name "len" p) [.Call (.Name "set" p2) [a] [] q] [] pos) (tLenSetN X.K ta) := by
  refine ⟨fun pins s σ H Q I h => ?_⟩
  refine Call_ (ld_blt I hg hm boot_len ?_)
  refine PyProof.Rows.callWith_builtin1 (PyProof.Rows.args_cons ?_ rfl) rfl rfl
  refine Call_ (ld_blt I hg2 hm2 boot_set ?_)
  refine PyProof.Rows.callWith_type1 (PyProof.Rows.args_cons (thn (ha.run pins s σ H _ I h) fun v s1 ⟨x, H1, I1, r1, q1⟩ => PyProof.Rows.args_nil ?_) na) na rfl
  obtain ⟨l, xs, rfl, hq, h1, q1⟩ := q1
  cases r1
  have fin : ∀ (h' : Heap) (tk : Nat), MadeTx X.prog X.w s1 xs h' →
      wpAny (model X.prog X.w) X.A (spliced (backTo pos (starEach [] X.env))) (fun vs s₂ => wpAny (model X.prog X.w) X.A (call (.builtin "len") (Value.ref s1.heap.objs.size :: vs)) (EP X pins σ Q) X.xe s₂) X.xe { s1 with heap := h', toks := tk } := fun h' tk m => by
    refine PyProof.Rows.args_nil ?_
    obtain ⟨⟨o, es, ep, t, ho, hex, hd, _, _, _, hf, hn⟩, hk⟩ := m
    have I2 : Inv X pins σ H1 { s1 with heap := h', toks := tk } := I1.kept fun b o e => hk b o e
    have h2 := onceS_le xs
    exact call_len_set ho hex hd hf (by rw [hn] <;> omega) ⟨.int ((onceS xs).length : Nat), H1, I2.tok _, ⟨_, by rw [hn]⟩, q1⟩
  rcases hq with hq | hq
  · obtain ⟨its, r, pl, hz⟩ := I1.list hq
    exact call_set_texts (I1.ok.hd hc) (.inl pl.isList) (by simpa using strsAre_of r) (by unfold scanBound; omega) fin
  · obtain ⟨its, r, pl, hz⟩ := I1.tuple hq
    exact call_set_texts (I1.ok.hd hc) (.inr pl) (by simpa using strsAre_of r) (by unfold scanBound; omega) fin
end
theorem onceS_nodup : ∀ (xs : List Str), (onceS xs).length = xs.length ↔ xs.Nodup := by
  have key : ∀ (xs σ : List Str), σ.Nodup → ((xs.foldl onceStep σ).length = σ.length + xs.length ↔ (xs.Nodup ∧ ∀ x ∈ xs, x ∉ σ)) := by
    intro xs
    induction xs with
    | nil => intro σ _; simp
    | cons x r ih =>
      intro σ hσ
      rw [List.foldl_cons, List.length_cons]
      by_cases hx : σ.any (· == x) = true
      · have e : onceStep σ x = σ := by unfold onceStep; rw [if_pos hx]
        have hm : x ∈ σ := by
          obtain ⟨y, hy, e⟩ := List.any_eq_true.mp hx
          rw [← beq_iff_eq.mp e]
          exact hy
        rw [e]
        have := once_fold r σ
        constructor
        · intro h; omega
        · intro ⟨_, h⟩
          exact absurd hm (h x List.mem_cons_self)
      · have e : onceStep σ x = σ ++ [x] := by unfold onceStep; rw [if_neg hx]
        have hm : x ∉ σ := fun hm => hx (List.any_eq_true.mpr ⟨x, hm, by simp⟩)
        rw [e]
        have hn : (σ ++ [x]).Nodup := List.nodup_append.mpr ⟨hσ, by simp, fun a ha b hb => by
          rw [List.mem_singleton.mp hb]
          exact fun e => hm (e ▸ ha)⟩
        have h := ih (σ ++ [x]) hn
        rw [List.length_append, List.length_singleton] at h
        have e2 : σ.length + 1 + r.length = σ.length + (r.length + 1) := by omega
        rw [e2] at h
        rw [h, List.nodup_cons]
        constructor
        · rintro ⟨h1, h2⟩
          refine ⟨⟨fun hr => h2 x hr (List.mem_append_right _ (List.mem_singleton.mpr rfl)), h1⟩, fun y hy => ?_⟩
          rcases List.mem_cons.mp hy with rfl | hy
          · exact hm
          · exact fun z => h2 y hy (List.mem_append_left _ z)
        · rintro ⟨⟨h1, h2⟩, h3⟩
          refine ⟨h2, fun y hy z => ?_⟩
          rcases List.mem_append.mp z with z | z
          · exact h3 y (List.mem_cons_of_mem _ hy) z
          · rw [List.mem_singleton.mp z] at hy
            exact h1 hy
  intro xs
  have h := key xs [] List.nodup_nil
  simpa [onceS] using h
end Kx
namespace Kx
open PySem PySem.Spec PyProof.Rows L2 SX LamX
section
variable {X : Cx}
/-- tuple(list): the tuple is known to the object -/
theorem call_tuple_frz : CallR X (.type "tuple") (fun xs H Q => ∃ p ys, xs = [.ref p] ∧ ((SqL X.K H p ys ∧ ∀ l o, H l = none → o.dict = none → Q (.ref l) (upd H l (.frz o (.tup ys)))) ∨ (SqT X.K H p ys ∧ Q (.ref p) H))) := by
  intro pins s σ H xs us Q I r h
  obtain ⟨p, ys, rfl, h⟩ := h
  obtain ⟨u, rfl, rx⟩ := vals1 r
  cases rx
  rcases h with ⟨hq, q⟩ | ⟨hq, q⟩
  · obtain ⟨its, r', pl, hz⟩ := I.list hq
    have hlen := r'.length
    refine call_tuple_list pl.isList (fun h' kp => ?_) (by simp only [List.size_toArray] <;> omega)
    have I1 : Inv X pins σ H { s with heap := h' } := I.kept (t' := s.toks) kp
    have I2 : Inv X pins σ (upd H h'.objs.size (.frz { cls := .type "tuple", data := .seq its.toArray } (.tup ys))) { s with heap := h'.push { cls := .type "tuple", data := .seq its.toArray } } :=
      I1.laid (t' := s.toks) (fun b o e => Heap.get?_push_of_some _ e) (Nat.le_refl _) (show ObjOk X.prog X.w _ _ _ (.frz _ (.tup ys)) from ⟨Heap.get?_push_size _ rfl, hz, its, r', IsTup.new _ _⟩)
    exact ⟨.ref h'.objs.size, _, I2, rfl, q _ _ (I1.hok.fresh (Nat.le_refl _)) rfl⟩
  · obtain ⟨its, r', pl, hz⟩ := I.tuple hq
    exact call_tuple_same pl ⟨.ref p, H, I, rfl, q⟩
/-- a tuple that has no dict -/
def TupN (K : PySem.W.Frag) (H : Hp) (p : Addr) : Prop := (∃ o xs, H p = some (.frz o (.tup xs)) ∧ o.dict = none) ∨ ∃ o, K.lookup p = some o ∧ o.cls = .type "tuple" ∧ o.dict = none
theorem TupN.same {K : PySem.W.Frag} {H H' : Hp} {p : Addr} (e : Same H H') (h : TupN K H p) : TupN K H' p := by
  rcases h with ⟨o, xs, h1, h2⟩ | h
  · exact .inl ⟨o, xs, e _ _ h1, h2⟩
  · exact .inr h
theorem TupN.ext {K : PySem.W.Frag} {H H' : Hp} {p : Addr} (e : ExtN H H') (h : TupN K H p) : TupN K H' p := by
  rcases h with ⟨o, xs, h1, h2⟩ | h
  · exact .inl ⟨o, xs, ext_at e h1, h2⟩
  · exact .inr h
theorem tupN_ty {pins : List (Addr × Obj)} {σ : L2.St} {H : Hp} {s : Shared} {y : V} {v : Value} (I : Inv X pins σ H s) (r : RelV y v) (ty : ∃ p, y = .ref p ∧ TupN X.K H p) :
    s.TypeIs v "tuple" ∧ ∀ a, v = .ref a → ∃ ob, s.heap.get? a = some ob ∧ ob.dict = none := by
  obtain ⟨p, rfl, h⟩ := ty
  cases r
  have key : ∃ ob, s.heap.get? p = some ob ∧ ob.cls = .type "tuple" ∧ ob.dict = none := by
    rcases h with ⟨o, xs, e, d⟩ | ⟨o, e, c, d⟩
    · have h1 : ObjOk X.prog X.w H s.heap p (.frz o (.tup xs)) := I.hok p _ e
      obtain ⟨g, _, its, _, ⟨o2, g2, c2, _⟩⟩ := h1
      rw [g] at g2
      cases g2
      exact ⟨o, g, c2, d⟩
    · exact ⟨o, I.kIn _ _ e, c, d⟩
  obtain ⟨ob, g, c, d⟩ := key
  refine ⟨⟨ob, g, c⟩, fun b hb => ?_⟩
  cases hb
  exact ⟨ob, g, d⟩
def tTM (K : PySem.W.Frag) (r : V → List V → Hp → VK → Prop) (to : TE) (t : TA) : TE := fun σ H Q => to σ H fun x H1 => (∃ p, x = .ref p ∧ TupN K H1 p) ∧ t σ H1 fun xs H2 => r x xs H2 Q
variable {o e : Expr} {es : List Expr} {to : TE} {t : TA} {name : Str} {apos cpos : Pos} {id : String} {r : V → List V → Hp → VK → Prop}
/-- o.m(e, ..), o a tuple -/
theorem pe_tm (slot : Slot "tuple" name id) (hty : typeOf (.builtin id) = pure (.type "method_descriptor")) (hm : MtR X id r) (ho : PE X o to) (ha : PA X (e :: es) t)
    (hbase : attributeBase o name X.env (eval o X.env) = eval o X.env := by rfl)
    (hfew : ((backTo cpos (starEach (e :: es) X.env)).all (fun x => !x.1) && (backToKw cpos (keywordEach [] X.env)).all (fun x => x.1.isSome)
      && decide ((e :: es).length + ([] : List Keyword).length + (if ([] : List Keyword).isEmpty then 0 else 1) < 30)) = true := by rfl)
    (hline : (apos.endLine == cpos.line) = true := by rfl) (hs : starEach (e :: es) X.env = (false, eval e X.env) :: starEach es X.env := by rfl) (hplain : (backTo cpos (starEach es X.env)).any (·.1) = false := by rfl) :
    PE X (.Call (.Attribute o name apos) (e :: es) [] cpos) (tTM X.K r to t) := by
  refine ⟨fun pins s σ H Q I h => ?_⟩
  refine wpAny_Call_method_late hbase hfew hline rfl (thn (ho.run pins s σ H _ I h) fun v s1 ⟨x, H1, I1, r1, ty, q1⟩ => ?_)
  obtain ⟨h1, h2⟩ := tupN_ty I1 r1 ty
  refine ⟨"tuple", id, PySem.F.plainAttrs_tuple, slot, hty, h1, h2, ?_⟩
  have hA := ha.run cpos pins s1 σ H1 _ I1 q1
  rw [hs] at hA ⊢
  refine Calls.callWith_builtin (by show (false || (backTo cpos (starEach es X.env)).any (·.1)) = false; rw [hplain] <;> rfl) (Calls.evalArgs_plain ?_)
  exact thn hA fun us s2 ⟨vs, H2, I2, r2, q2⟩ => hm pins s2 σ H2 x vs v us Q I2 r1 r2 q2
end
section
variable {X : Cx} {CX : CXT} {k : Nat} {f C : Addr} {fd : FuncData} {ps ks : List Str} {sp : Sp} {E : XK} {o : Expr} {m : Str} {apos pos : Pos} {kws : List Keyword} {ta : TE} {tk : TA} {g : List Value → List Value → List Value} {gV : List V → List V → List V}
def tMethK (C : Addr) (m : Str) (sp : Sp) (gV : List V → List V → List V) (E : XK) (ta : TE) (tk : TA) : TE := fun σ H Q => ta σ H fun x H1 => ∃ a dx fs, x = .ref a ∧ H1 a = some (.ins C dx fs) ∧ fs.lookup m = none ∧ tk σ H1 fun zs H2 => sp (gV [x] zs) H2 Q E
/-- o.m(k = v) -/
theorem pe_methK0 {pl : Sem Bool} (he : PE X o ta) (c : Cls X.K C) (hm : Meth X.K C m f) (F : FnOk X.prog X.w X.K X.mg X.base CX k f fd ps sp) (hr : Room k X.A) (hb : KBinds X.K fd ps ks g gV) (hx : Passes CX X E) (hkw : PK X kws tk)
    (hall : (backToKw pos (keywordEach kws X.env)).all (·.1.isSome) = true := by rfl) (hks : (backToKw pos (keywordEach kws X.env)).filterMap (·.1) = ks := by rfl)
    (hpl : ((backTo pos (starEach [] X.env)).any (·.1) || (backToKw pos (keywordEach kws X.env)).any (·.1.isNone)) = false := by rfl)
    (ht : eval (.Call (.Attribute o m apos) [] kws pos) X.env = (do
      let ov ← eval o X.env
      standAt apos.atName
      let (f, first) ← holding [ov] (getMethod ov m pl)
      callWith pos f first (backTo pos (starEach [] X.env)) (backToKw pos (keywordEach kws X.env))) := by rfl) :
    PE X (.Call (.Attribute o m apos) [] kws pos) (tMethK C m sp gV E ta tk) := by
  refine ⟨fun pins s σ H Q I h => ?_⟩
  refine PySem.W.methodCall_KW (pl := pl) (thn (he.run pins s σ H _ I h) fun u s1 ⟨x, H1, I1, rx, a, dx, fs, ex, ea, l, q⟩ => ?_) ht
  subst ex
  obtain rfl : u = Value.ref a := rx
  refine getmeth_ok I1 ea c hm l ?_
  show wpAny _ _ (callWith pos (.ref f) [.ref a] (backTo pos (starEach [] X.env)) (backToKw pos (keywordEach kws X.env))) _ _ _
  refine PySem.W.callWith_KW0 (first := [.ref a]) (h₀ := X.base) I.ok.mod.kin hm.kp hall (thn (hkw.run pos pins s1 σ H1 _ I1 q) fun ws s2 ⟨zs, H2, I2, rz, q2⟩ => ⟨I2.kIn, ?_⟩) hpl
  rw [hks]
  exact run_fnk (us := [.ref a]) (vs := [.ref a]) F hr hb hx I2 (.cons rfl .nil) rz q2
end
/-- self, and one by name -/
def selfG {α : Type} (us ws : List α) : List α := match us, ws with | [s], [u] => [s, u] | _, _ => []
theorem kb_self {K : PySem.W.Frag} {x qual : Str} {st : Stmt} {f : Addr} {fd : FuncData} {a b : Str} (F : Fun K x qual st f fd)
    (h : ∀ (kV doc pm : Value) (an : Option Addr) (cdv ct : Value) (s u : Value), bindArgs (PySem.W.fnOf x qual (defArgs st) (defBody st) (defScope st) .none kV doc pm an cdv ct) ⟨[s], [(b, u)]⟩ = pure [(a, s), (b, u)]) :
    KBinds K fd [a, b] [b] selfG selfG := by
  obtain ⟨oc, od, kV, doc, pm, an, cdv, ct, osl, rfl, lk, hcd⟩ := F.ex
  refine ⟨fun s us ws X l => ?_, fun {vs us zs ws} r1 r2 => ?_⟩
  · match us, ws, l with
    | [s], [u], _ => exact .of_eq (h kV doc pm an cdv ct s u)
    | [], _, l => cases l
    | [_], [], l => cases l
    | [_], _ :: _ :: _, l => cases l
    | _ :: _ :: _, _, l => cases l
  · cases r1 with
    | nil => exact .nil
    | cons h1 r1 =>
      cases r1 with
      | cons _ _ => exact .nil
      | nil =>
        cases r2 with
        | nil => exact .nil
        | cons h2 r2 =>
          cases r2 with
          | nil => exact .cons h1 (.cons h2 .nil)
          | cons _ _ => exact .nil
/-- .. the same for the making of an instance -/
theorem kbn_self {K : PySem.W.Frag} {x qual : Str} {st : Stmt} {f : Addr} {fd : FuncData} {a b : Str} (F : Fun K x qual st f fd)
    (h : ∀ (kV doc pm : Value) (an : Option Addr) (cdv ct : Value) (s u : Value), bindArgs (PySem.W.fnOf x qual (defArgs st) (defBody st) (defScope st) .none kV doc pm an cdv ct) ⟨[s], [(b, u)]⟩ = pure [(a, s), (b, u)]) :
    KBn K fd [a, b] 1 [b] selfG selfG := by
  have kb := kb_self F h
  refine ⟨fun s us ws X l1 l2 => kb.to s us ws X ?_, kb.rel⟩
  match us, ws, l1, l2 with
  | [_], [_], _, _ => rfl
end Kx
namespace Kx
open PySem PySem.Spec PyProof.Rows L2 SX LamX
theorem sqT_put {K : PySem.W.Frag} {H : Hp} {p a C dx : Addr} {fs : List (Str × V)} {o : HO} {xs : List V} (hp : H p = some (.ins C dx fs)) (h : SqT K H a xs) : SqT K (upd H p o) a xs := by
  rcases h with (h | ⟨ob, h⟩) | h
  · exact .inl (.inl (by rw [upd_ne (ne_of_two h hp (fun z => by cases z))]; exact h))
  · exact .inl (.inr ⟨ob, by rw [upd_ne (ne_of_two h hp (fun z => by cases z))]; exact h⟩)
  · exact .inr h
theorem tupN_put {K : PySem.W.Frag} {H : Hp} {p a C dx : Addr} {fs : List (Str × V)} {o : HO} (hp : H p = some (.ins C dx fs)) (h : TupN K H a) : TupN K (upd H p o) a := by
  rcases h with ⟨ob, xs, h, d⟩ | h
  · exact .inl ⟨ob, xs, by rw [upd_ne (ne_of_two h hp (fun z => by cases z))]; exact h, d⟩
  · exact .inr h
theorem kitOne_no {K : PySem.W.Frag} {C : Addr} {n : String} (h1 : PySem.W.isClsIn K C = true) (h2 : PySem.W.typeIn K (.ref C) = some (.type "type")) (h3 : PySem.W.subIn K (.type n) (.ref C) = some false) : PySem.W.kitOne K (.type n) (.ref C) = some false := by
  unfold PySem.W.kitOne
  rw [if_neg (by simp)]
  unfold PySem.W.kitCls
  have h1' : (PySem.W.clsIn K C).isSome = true := h1
  dsimp only
  rw [h1', h2]
  exact h3
theorem kitOne_self {K : PySem.W.Frag} {C : Addr} : PySem.W.kitOne K (.ref C) (.ref C) = some true := by
  unfold PySem.W.kitOne
  simp
theorem kitOne_other {K : PySem.W.Frag} {C D : Addr} (h1 : PySem.W.isClsIn K C = true) (h2 : PySem.W.typeIn K (.ref C) = some (.type "type")) (h3 : PySem.W.subIn K (.ref D) (.ref C) = some false) (h4 : PySem.W.subIn K (.ref D) (.ref D) = some true) : PySem.W.kitOne K (.ref D) (.ref C) = some false := by
  have ne : D ≠ C := fun e => by
    rw [e] at h3 h4
    rw [h3] at h4
    cases h4
  unfold PySem.W.kitOne
  rw [if_neg (by simpa using ne)]
  unfold PySem.W.kitCls
  have h1' : (PySem.W.clsIn K C).isSome = true := h1
  dsimp only
  rw [h1', h2]
  exact h3
theorem sub_non {K : PySem.W.Frag} {C : Addr} : PySem.W.subIn K (.type "NoneType") (.ref C) = some false := HN.sub_none
theorem eqv_text (a b : List Nat) : PyData.eqv (.str (S a)) (.str (S b)) = decide (a = b) := by
  show (S a == S b) = _
  by_cases h : a = b
  · rw [h, decide_eq_true rfl]
    simp
  · rw [decide_eq_false h, beq_eq_false_iff_ne]
    intro e
    have := congrArg (fun z : Str => z.cps.toList) e
    exact h (by simpa [S] using this)
theorem eqv_texts (xs ys : List (List Nat)) : PyData.eqv (.tuple (xs.map fun l => PyData.str (S l))) (.tuple (ys.map fun l => PyData.str (S l))) = decide (xs = ys) := eqvAll_map eqv_text xs ys
theorem pl_text {l : List Nat} (h : cdC l) : Pl 0 (.str (S l)) := ⟨by
  show (S l).cps.all (· < 0x110000) = true
  have e : (S l).cps.all (· < 0x110000) = l.all (fun c => decide (c < 1114112)) := by simp [S]
  rw [e]
  exact h, Nat.le_refl _⟩
theorem low_cd {l : List Nat} (h : l.all low = true) : cdC l := by
  unfold cdC
  rw [List.all_eq_true] at h ⊢
  intro c hc
  have := low_lt (h c hc)
  exact decide_eq_true (by omega)
theorem inV_texts {v : V} (ws : List (List Nat)) : inV v (ws.map fun l => V.str (S l)) = true ↔ ∃ w ∈ ws, v = .str (S w) := by
  unfold inV
  rw [List.any_map, List.any_eq_true]
  constructor
  · rintro ⟨w, hw, h⟩
    refine ⟨w, hw, ?_⟩
    cases v with
    | str x =>
      have h' : (S w == x) = true := h
      rw [beq_iff_eq.mp h']
    | _ => cases h
  · rintro ⟨w, hw, rfl⟩
    exact ⟨w, hw, by show (S w == S w) = true; simp⟩
end Kx
namespace Kx
open PySem PySem.Spec PyProof.Rows L2 SX LamX
section
variable {X : Cx}
theorem rev_pick (z : Str) : ((Builtin.Str.strSliceIndices none none (-1) z.length).filterMap (z.cps[·]?)).toArray = z.cps.toList.reverse.toArray := by
  have e : Builtin.Str.strSliceIndices none none (-1) z.length = sliceRange ((z.cps.size : Int) - 1) (-1) (-1) := rfl
  rw [e, PySem.W.krv_sliceRange, PySem.W.krv_range, List.filterMap_reverse, PySem.W.krv_all]
/-- x[::-1], a text -/
def tRevS (te : TE) : TE := fun σ H Q => te σ H fun x H1 => ∃ l : List Nat, x = .str (S l) ∧ l.length ≤ 1000000 ∧ Q (.str (S l.reverse)) H1
theorem pe_revS {e : Expr} {te : TE} {k : Nat} {p1 p2 p3 pos : Pos} (he : PE X e te) : PE X (.Subscript e (.Slice none none (some (.UnaryOp .USub (.Constant (.int 1) k p1) p2)) p3) pos) (tRevS te) := by
  refine ⟨fun pins s σ H Q I h => ?_⟩
  refine Subscript_ (thn (he.run pins s σ H _ I h) fun v s1 ⟨x, H1, I1, r1, q1⟩ => ?_)
  obtain ⟨z, ex, hz, q⟩ := q1
  subst ex
  obtain ⟨t, rfl⟩ := r1
  have hst : PO X (some (.UnaryOp .USub (.Constant (.int 1) k p1) p2)) (tPart (tUn (rU fun i => .int (-i)) (tC (.int 1)))) := po_some (pe_un un_neg pe_int)
  refine wpAny_Slice (thn (po_none.run pins s1 σ H1 (fun o H2 => o = none ∧ H2 = H1) I1 ⟨rfl, rfl⟩) fun vl s2 ⟨l, H2, I2, pl, el, e2⟩ => ?_)
  subst el e2
  refine thn (po_none.run pins s2 σ H2 (fun o H3 => o = none ∧ H3 = H2) I2 ⟨rfl, rfl⟩) fun vu s3 ⟨u, H3, I3, pu, eu, e3⟩ => ?_
  subst eu e3
  refine thn (hst.run pins s3 σ H3 (fun o H4 => o = some (-1) ∧ H4 = H3) I3 ⟨1, rfl, -1, rfl, rfl, rfl⟩) fun vs s4 ⟨o, H4, I4, ps, eo, e4⟩ => ?_
  subst eo e4
  have I5 : Inv X pins σ H4 { s4 with heap := s4.heap.push { cls := .type "slice", data := .fields #[vl, vu, vs] } } := I4.kept (t' := s4.toks) fun b ob q => Heap.get?_push_of_some _ q
  obtain ⟨l', rfl, e1⟩ := IsPart.raw pl
  obtain ⟨u', rfl, e2⟩ := IsPart.raw pu
  obtain ⟨w', rfl, e3⟩ := IsPart.raw ps
  show wpAny (model X.prog X.w) X.A (subscriptTail e (.Slice none none (some (.UnaryOp .USub (.Constant (.int 1) k p1) p2)) p3) (.str (S z) t) (.ref s4.heap.objs.size)) (EP X pins σ Q) X.xe _
  refine tail_any (ops := [.str (S z) t, .ref s4.heap.objs.size]) (typeIs_str _ _ _) (PySem.F.slot_str_getitem.lookup) ?_ (by with_unfolding_all rfl)
  refine wpAny_getItem_str_slice (l := l') (u := u') (st := w') ⟨_, Heap.get?_push_size _ rfl, rfl, rfl⟩ (by rw [e3]; decide) ?_
  have hm : l'.map (·.1) = none := e1
  have hu : u'.map (·.1) = none := e2
  have made : sliceMade (S z) t l' u' w' = Made.str (S z.reverse) := by
    unfold sliceMade slicePicked
    rw [hm, hu, e3]
    show (if ((-1 : Int) == 1 && _) = true then _ else _) = _
    rw [if_neg (by simp)]
    have e0 : (S z).cps.toList = z := by simp [S]
    have e5 := rev_pick (S z)
    rw [e0] at e5
    exact congrArg (fun a => Made.str ⟨a⟩) e5
  rw [made]
  exact ⟨by rw [S_len, List.length_reverse]; exact Nat.le_trans hz (by decide), .str _, _, I5.tok _, ⟨_, rfl⟩, q⟩
end
end Kx
namespace Kx
open PySem PySem.Spec PyProof.Rows L2 SX LamX
theorem go_set {te : TE} {u : TS} {D : Ends} {σ : L2.St} {H : Hp} {i : Nat} (h : te σ H fun x H1 => u D (σ.set i (some x)) H1) : tSeq (tAsg te (gName i)) u D σ H := h
theorem go_next {D : Ends} {σ : L2.St} {H : Hp} (h : D.nx σ H) : tNext D σ H := h
theorem go_and2 {ta tb : TT} {σ : L2.St} {H : Hp} {Q : Bool → Hp → Prop} (h : ta σ H fun b H1 => if b = true then tb σ H1 Q else Q false H1) : tAnd ta tb σ H Q := h
end Kx
namespace Kx
open PySem PySem.Spec PyProof.Rows L2 SX LamX
/-- a test that fails -/
theorem if_same {c : TT} {t u : TS} {D : Ends} {σ : L2.St} {H : Hp} (hc : ∀ Q : Bool → Hp → Prop, (∀ H', Same H H' → Q false H') → c σ H Q) (h : ∀ H', Same H H' → u D σ H') : tIfS c t u D σ H := go_if (hc _ fun H' e => iteF (A := _) (h H' e))
theorem nodup_rev {α : Type} {l : List α} (h : l.Nodup) : l.reverse.Nodup := by
  unfold List.Nodup at h ⊢
  rw [List.pairwise_reverse]
  exact h.imp fun h e => h e.symm
end Kx
namespace Kx
open PySem PySem.Spec PyProof.Rows L2 SX LamX
open PySem.W in
/-- the goal that the head leaves, of a law in which two defs make lambdas -/
theorem walkL2 {l : OpenLaw} {n k : Nat} {q : Program} {loose : List Str} {XP : (Str → Option Value) → Heap → Prop} {YP : World → Heap → Prop} {d : DefRec} {K : Params → Frag} {x y z : Str} (sp : Frag → Addr → Addr → Sp)
    (hn : l.most = some n) (hz : n ≤ sizeLine) (h0 : d.params.defaults = []) (hr : Room k callerA) (hY : ∀ (w : World) (h : Heap), YP w h → (K w.params).In h)
    (hc : ∀ p, ((∃ r, (recsOf q).find? (fun r => r.name == y) = some r) ∧ ∃ r, (recsOf q).find? (fun r => r.name == z) = some r) ∧ ∃ c Pt c2 Pu, (tabIn (K p) y = some (c, Pt) ∧ (K p).lookup Pt = none) ∧ (tabIn (K p) z = some (c2, Pu) ∧ (K p).lookup Pu = none) ∧ Pt ≠ Pu)
    (F : ∀ (w : World) (mg : Str → Option Value) (fa : Addr) (h : Heap), (K w.params).In h → h.Ns mainGlobals mg → mg d.name = some (.ref fa) → ∃ fd : FuncData,
      (∀ (t : Shared) (u : Value), BindsTo t fd ⟨[u], []⟩ [(x, u)]) ∧ ∀ (c Pt c2 Pu : Addr), tabIn (K w.params) y = some (c, Pt) → tabIn (K w.params) z = some (c2, Pu) → Pt ≠ Pu → ∀ base : Heap, (K w.params).In base → base.Ns mainGlobals mg → TabB base mg c Pt → TabB base mg c2 Pu → FnG l.prog w (K w.params) mg base CX0 k fa fd [x] (sp (K w.params) Pt Pu))
    (pr : ∀ (K : Frag) (Pt Pu : Addr) (H : Hp) (a : Addr) (ns : List Int), ns.length ≤ n → H Pt = some (.tbl #[]) → H Pu = some (.tbl #[]) → SqL K H a (ns.map V.int) → sp K Pt Pu [.ref a] H (fun v _ => v = .bl true) fun _ _ _ => False) :
    WalkO q loose XP YP l.row.toRowW d [] (fun f us => PySem.call f us) := by
  refine walkT (x := x) (K := K) (cs := fun p => [(y, ((tabIn (K p) y).getD (0, 0))), (z, ((tabIn (K p) z).getD (0, 0)))]) (sp := fun K => sp K ((tabIn K y).getD (0, 0)).2 ((tabIn K z).getD (0, 0)).2) hn hz h0 hr hY (fun p e he => ?_) (fun w mg fa h KX G hmg => ?_) (fun p H a ns hl ht hS _ => pr _ _ _ H a ns hl (ht _ List.mem_cons_self) (ht _ (List.mem_cons_of_mem _ List.mem_cons_self)) hS)
  · obtain ⟨⟨r1, r2⟩, c, Pt, c2, Pu, ⟨h2, h3⟩, ⟨h4, h5⟩, _⟩ := hc p
    rcases List.mem_cons.mp he with rfl | he
    · refine ⟨r1, ?_, ?_⟩
      · rw [h2]
        rfl
      · rw [h2]
        exact h3
    · cases List.mem_singleton.mp he
      refine ⟨r2, ?_, ?_⟩
      · rw [h4]
        rfl
      · rw [h4]
        exact h5
  · obtain ⟨fd, hb, hF⟩ := F w mg fa h KX G hmg
    obtain ⟨_, c, Pt, c2, Pu, ⟨h2, _⟩, ⟨h4, _⟩, hne⟩ := hc w.params
    refine ⟨fd, hb, fun base hk hg ht => ?_⟩
    have hT := ht _ List.mem_cons_self
    have hU := ht _ (List.mem_cons_of_mem _ List.mem_cons_self)
    simp only [h2, h4, Option.getD_some] at hT hU ⊢
    exact hF c Pt c2 Pu h2 h4 hne base hk hg hT hU
theorem tab_at {K : PySem.W.Frag} {x : Str} {f c Pt : Addr} {oc oc2 : Value} {od od2 : Option Addr} {osl osl2 : Array (Option Value)} {fd : FuncData} {vs : Array Value} (a : PySem.W.nsIn K mainGlobals x = some (some (.ref f)))
    (l : K.lookup f = some ⟨oc, od, .func fd, osl⟩) (e : fd.code = .ref c) (l2 : K.lookup c = some ⟨oc2, od2, .fields vs, osl2⟩) (v : (vs[11]? : Option Value) = some (.ref Pt)) (n : K.lookup Pt = none) :
    PySem.W.tabIn K x = some (c, Pt) ∧ K.lookup Pt = none := by
  refine ⟨?_, n⟩
  unfold PySem.W.tabIn
  rw [a]
  simp only [l, e, l2, v]
end Kx
namespace K09
open PySem PySem.Spec PyProof.Rows L2 Kx SX LamX
def topS (i : Nat) : Stmt := PySem.Challenge.pw_anyletter_k09_books_kept_and_refused.main.body.getD i (.Pass ⟨0, 0, 0, 0⟩)
abbrev s_is_list : Stmt := topS 2
theorem sc_is_list : FnScope ["value"] ["value"] (defScope s_is_list) := ⟨rfl, rfl, rfl, by decide +kernel, rfl, by decide +kernel, by decide +kernel⟩
abbrev s_are_letters : Stmt := topS 3
theorem sc_are_letters : FnScope ["text"] ["text"] (defScope s_are_letters) := ⟨rfl, rfl, rfl, by decide +kernel, rfl, by decide +kernel, by decide +kernel⟩
abbrev s_is_word : Stmt := topS 4
theorem sc_is_word : FnScope ["value"] ["value"] (defScope s_is_word) := ⟨rfl, rfl, rfl, by decide +kernel, rfl, by decide +kernel, by decide +kernel⟩
abbrev s_are_words : Stmt := topS 12
theorem sc_are_words : FnScope ["value", "most", "word"] ["value", "most"] (defScope s_are_words) := ⟨rfl, rfl, rfl, by decide +kernel, rfl, by decide +kernel, by decide +kernel⟩
abbrev s_Book_init : Stmt := inClass (topS 13) 0
theorem sc_Book_init : FnScope ["self", "words"] ["self", "words"] (defScope s_Book_init) := ⟨rfl, rfl, rfl, by decide +kernel, rfl, by decide +kernel, by decide +kernel⟩
abbrev s_Book_eq : Stmt := inClass (topS 13) 1
theorem sc_Book_eq : FnScope ["self", "other"] ["self", "other"] (defScope s_Book_eq) := ⟨rfl, rfl, rfl, by decide +kernel, rfl, by decide +kernel, by decide +kernel⟩
abbrev s_Book_number : Stmt := inClass (topS 13) 2
theorem sc_Book_number : FnScope ["self", "word"] ["self", "word"] (defScope s_Book_number) := ⟨rfl, rfl, rfl, by decide +kernel, rfl, by decide +kernel, by decide +kernel⟩
abbrev s_law_shelf : Stmt := topS 15
theorem sc_law_shelf : FnScope ["script", "cell"] ["script"] (defScope s_law_shelf) := ⟨rfl, rfl, rfl, by decide +kernel, rfl, by decide +kernel, by decide +kernel⟩
abbrev s_law_reach : Stmt := topS 16
theorem sc_law_reach : FnScope ["shelf", "many", "rest", "turn", "cell", "mixed"] ["shelf", "many"] (defScope s_law_reach) := ⟨rfl, rfl, rfl, by decide +kernel, rfl, by decide +kernel, by decide +kernel⟩
abbrev s_law_one_of : Stmt := topS 17
theorem sc_law_one_of : FnScope ["shelf", "some"] ["shelf", "some"] (defScope s_law_one_of) := ⟨rfl, rfl, rfl, by decide +kernel, rfl, by decide +kernel, by decide +kernel⟩
abbrev s_law_word : Stmt := topS 18
theorem sc_law_word : FnScope ["shelf", "most", "letters", "turn"] ["shelf", "most", "letters"] (defScope s_law_word) := ⟨rfl, rfl, rfl, by decide +kernel, rfl, by decide +kernel, by decide +kernel⟩
abbrev s_law_words : Stmt := topS 19
theorem sc_law_words : FnScope ["shelf", "many", "most", "letters", "found", "turn", "word"] ["shelf", "many", "most", "letters"] (defScope s_law_words) := ⟨rfl, rfl, rfl, by decide +kernel, rfl, by decide +kernel, by decide +kernel⟩
abbrev s_law_heard : Stmt := topS 20
theorem sc_law_heard : FnScope ["ask", "caught", "error", "told", "word", "is_so"] ["ask"] (defScope s_law_heard) := ⟨rfl, rfl, rfl, by decide +kernel, rfl, by decide +kernel, by decide +kernel⟩
abbrev s_law_book_right : Stmt := topS 21
theorem sc_law_book_right : FnScope ["shelf", "words", "passed", "book", "word", "near", "some", "odd", "is_there"] ["shelf", "words"] (defScope s_law_book_right) := ⟨rfl, rfl, rfl, by decide +kernel, rfl, by decide +kernel, by decide +kernel⟩
abbrev s_law : Stmt := topS 22
theorem sc_law : FnScope ["script", "shelf", "turn", "words", "at", "odd", "place", "many", "none"] ["script"] (defScope s_law) := ⟨rfl, rfl, rfl, by decide +kernel, rfl, by decide +kernel, by decide +kernel⟩
abbrev s_BadBook_init : Stmt := inClass (topS 8) 0
theorem sc_BadBook_init : FnScope ["self", "part"] ["self", "part"] (defScope s_BadBook_init) := ⟨rfl, rfl, rfl, by decide +kernel, rfl, by decide +kernel, by decide +kernel⟩
theorem in_BadBook : IsInit s_BadBook_init := ⟨_, _, _, _, rfl, sc_BadBook_init, rfl, rfl⟩
abbrev s_BadWord_init : Stmt := inClass (topS 7) 0
theorem sc_BadWord_init : FnScope ["self", "part"] ["self", "part"] (defScope s_BadWord_init) := ⟨rfl, rfl, rfl, by decide +kernel, rfl, by decide +kernel, by decide +kernel⟩
theorem in_BadWord : IsInit s_BadWord_init := ⟨_, _, _, _, rfl, sc_BadWord_init, rfl, rfl⟩
structure Tx (K : PySem.W.Frag) (mg : Str → Option Value) where
  f_is_list : Addr
  fd_is_list : FuncData
  F_is_list : Fun K "is_list" "is_list" s_is_list f_is_list fd_is_list
  g_is_list : mg "is_list" = some (.ref f_is_list)
  b_is_list : Binds K fd_is_list ["value"] []
  f_are_letters : Addr
  fd_are_letters : FuncData
  F_are_letters : Fun K "are_letters" "are_letters" s_are_letters f_are_letters fd_are_letters
  g_are_letters : mg "are_letters" = some (.ref f_are_letters)
  b_are_letters : Binds K fd_are_letters ["text"] []
  f_is_word : Addr
  fd_is_word : FuncData
  F_is_word : Fun K "is_word" "is_word" s_is_word f_is_word fd_is_word
  g_is_word : mg "is_word" = some (.ref f_is_word)
  b_is_word : Binds K fd_is_word ["value"] []
  f_are_words : Addr
  fd_are_words : FuncData
  F_are_words : Fun K "are_words" "are_words" s_are_words f_are_words fd_are_words
  g_are_words : mg "are_words" = some (.ref f_are_words)
  b_are_words : Binds K fd_are_words ["value", "most"] []
  f_law_shelf : Addr
  fd_law_shelf : FuncData
  F_law_shelf : Fun K "_law_shelf" "_law_shelf" s_law_shelf f_law_shelf fd_law_shelf
  g_law_shelf : mg "_law_shelf" = some (.ref f_law_shelf)
  b_law_shelf : Binds K fd_law_shelf ["script"] []
  f_law_reach : Addr
  fd_law_reach : FuncData
  F_law_reach : Fun K "_law_reach" "_law_reach" s_law_reach f_law_reach fd_law_reach
  g_law_reach : mg "_law_reach" = some (.ref f_law_reach)
  b_law_reach : Binds K fd_law_reach ["shelf", "many"] []
  f_law_one_of : Addr
  fd_law_one_of : FuncData
  F_law_one_of : Fun K "_law_one_of" "_law_one_of" s_law_one_of f_law_one_of fd_law_one_of
  g_law_one_of : mg "_law_one_of" = some (.ref f_law_one_of)
  b_law_one_of : Binds K fd_law_one_of ["shelf", "some"] []
  f_law_word : Addr
  fd_law_word : FuncData
  F_law_word : Fun K "_law_word" "_law_word" s_law_word f_law_word fd_law_word
  g_law_word : mg "_law_word" = some (.ref f_law_word)
  b_law_word : Binds K fd_law_word ["shelf", "most", "letters"] []
  f_law_words : Addr
  fd_law_words : FuncData
  F_law_words : Fun K "_law_words" "_law_words" s_law_words f_law_words fd_law_words
  g_law_words : mg "_law_words" = some (.ref f_law_words)
  b_law_words : Binds K fd_law_words ["shelf", "many", "most", "letters"] []
  f_law_heard : Addr
  fd_law_heard : FuncData
  F_law_heard : Fun K "_law_heard" "_law_heard" s_law_heard f_law_heard fd_law_heard
  g_law_heard : mg "_law_heard" = some (.ref f_law_heard)
  b_law_heard : Binds K fd_law_heard ["ask"] []
  f_law_book_right : Addr
  fd_law_book_right : FuncData
  F_law_book_right : Fun K "_law_book_right" "_law_book_right" s_law_book_right f_law_book_right fd_law_book_right
  g_law_book_right : mg "_law_book_right" = some (.ref f_law_book_right)
  b_law_book_right : Binds K fd_law_book_right ["shelf", "words"] []
  n_law_book_right : PySem.W.nsIn K mainGlobals "_law_book_right" = some (some (.ref f_law_book_right))
  f_law : Addr
  fd_law : FuncData
  F_law : Fun K "law" "law" s_law f_law fd_law
  g_law : mg "law" = some (.ref f_law)
  b_law : Binds K fd_law ["script"] []
  n_law : PySem.W.nsIn K mainGlobals "law" = some (some (.ref f_law))
  f_Book_init : Addr
  fd_Book_init : FuncData
  F_Book_init : Fun K "__init__" "Book.__init__" s_Book_init f_Book_init fd_Book_init
  b_Book_init : Binds K fd_Book_init ["self", "words"] []
  f_Book_eq : Addr
  fd_Book_eq : FuncData
  F_Book_eq : Fun K "__eq__" "Book.__eq__" s_Book_eq f_Book_eq fd_Book_eq
  b_Book_eq : Binds K fd_Book_eq ["self", "other"] []
  f_Book_number : Addr
  fd_Book_number : FuncData
  F_Book_number : Fun K "number" "Book.number" s_Book_number f_Book_number fd_Book_number
  b_Book_number : Binds K fd_Book_number ["self", "word"] []
  C_Book : Addr
  gC_Book : mg "Book" = some (.ref C_Book)
  cl_Book : Cls K C_Book
  mk_Book : Mk K C_Book f_Book_init
  ob_Book : PySem.W.mroIn K C_Book (.type "object") = some true
  ne_Book : PySem.W.findIn K (.ref C_Book) "__ne__" = some (some (.builtin "object.__ne__"))
  oc_Book : PySem.W.findIn K (.ref C_Book) "__class__" = some (some (.builtin "object.__class__"))
  on_Book : PySem.W.specialIn K (.builtin "object.__class__") "__get__" = some (some (.builtin "getset_descriptor.__get__"))
  ot_Book : PySem.W.takesIn K (.builtin "object.__class__") = some true
  kc_Book : PySem.W.isClsIn K C_Book = true
  kt_Book : PySem.W.typeIn K (.ref C_Book) = some (.type "type")
  na_Book_words : NoAttr K C_Book "words"
  me_Book_eq : Meth K C_Book "__eq__" f_Book_eq
  me_Book_number : Meth K C_Book "number" f_Book_number
  k_TooMany : Addr
  gk_TooMany : mg "TooMany" = some (.ref k_TooMany)
  kc_TooMany : PySem.W.isClsIn K k_TooMany = true
  kt_TooMany : PySem.W.typeIn K (.ref k_TooMany) = some (.type "type")
  k_BadBook : Addr
  gk_BadBook : mg "BadBook" = some (.ref k_BadBook)
  kc_BadBook : PySem.W.isClsIn K k_BadBook = true
  kt_BadBook : PySem.W.typeIn K (.ref k_BadBook) = some (.type "type")
  k_BadWord : Addr
  gk_BadWord : mg "BadWord" = some (.ref k_BadWord)
  kc_BadWord : PySem.W.isClsIn K k_BadWord = true
  kt_BadWord : PySem.W.typeIn K (.ref k_BadWord) = some (.type "type")
  su_BadBook_TooMany : PySem.W.subIn K (.ref k_BadBook) (.ref k_TooMany) = some false
  su_BadBook_BadBook : PySem.W.subIn K (.ref k_BadBook) (.ref k_BadBook) = some true
  su_BadBook_BadWord : PySem.W.subIn K (.ref k_BadBook) (.ref k_BadWord) = some false
  su_BadWord_TooMany : PySem.W.subIn K (.ref k_BadWord) (.ref k_TooMany) = some false
  su_BadWord_BadBook : PySem.W.subIn K (.ref k_BadWord) (.ref k_BadBook) = some false
  su_BadWord_BadWord : PySem.W.subIn K (.ref k_BadWord) (.ref k_BadWord) = some true
  m_isinstance : mg "isinstance" = none
  m_list : mg "list" = none
  m_tuple : mg "tuple" = none
  m_str : mg "str" = none
  m_len : mg "len" = none
  m_all : mg "all" = none
  m_set : mg "set" = none
  m_int : mg "int" = none
  m_abs : mg "abs" = none
  m_range : mg "range" = none
  m_repr : mg "repr" = none
  e_BadBook : Er K mg "BadBook" "BadBook.__init__" s_BadBook_init "LetterError"
  e_BadWord : Er K mg "BadWord" "BadWord.__init__" s_BadWord_init "LetterError"
  t_MOST_LETTERS : Tok
  c_MOST_LETTERS : mg "MOST_LETTERS" = some (.int 12 t_MOST_LETTERS)
  t_MOST_WORDS : Tok
  c_MOST_WORDS : mg "MOST_WORDS" = some (.int 40 t_MOST_WORDS)
section
variable {P : Program} {w : World} {K : PySem.W.Frag} {mg : Str → Option Value} {base : Heap} (T : Tx K mg)
/-! ### checks -/
def sp_is_list (K : PySem.W.Frag) : Sp := fun vs H Q _ => ∃ (x : V) (n : String) (b : Bool), vs = [x] ∧ TyX K H x (.type n) ∧ PySem.W.kitAny K (.type n) [.type "list", .type "tuple"] = some b ∧ ∀ H', Same H H' → Q (.bl b) H'
theorem ok_is_list : FnOk P w K mg base CX0 1 T.f_is_list T.fd_is_list ["value"] (sp_is_list K) := by
  refine T.F_is_list.ok sc_is_list (fun vs H Q E h => ?_) (fun cdv A outer s H vs Q E hr h => ?_)
  · obtain ⟨x, n, b, rfl, _⟩ := h
    rfl
  · obtain ⟨x, n, b, rfl, ht, hk, q⟩ := h
    refine ⟨_, (pss_one (ps_ret (pe_callB call_isiT (by rfl) T.m_isinstance (by decide +kernel) (pa_cons (pv 0) (pa_cons (pe_tup (pa_cons (pe_bltn (v := .ty "list") (by rfl) T.m_list (by decide +kernel) rfl) (pa_cons (pe_bltn (v := .ty "tuple") (by rfl) T.m_tuple (by decide +kernel) rfl) pa_nil))) pa_nil))))), ?_⟩
    refine ⟨x, rfl, by show 2 ≤ sizeLine; decide, fun p np => ?_⟩
    exact ⟨x, p, _, _, _, b, rfl, upd_same, .cons (.ty _) (.cons (.ty _) .nil), tyx_same (same_new np) ht, hk, q _ (same_new np)⟩
/-! ### words, signs, texts -/
def sp_are_letters (K : PySem.W.Frag) : Sp := fun vs H Q _ => ∃ (l : List Nat), vs = [.str (S l)] ∧ Q (.bl (lowB l)) H
theorem ok_are_letters : FnOk P w K mg base CX0 1 T.f_are_letters T.fd_are_letters ["text"] (sp_are_letters K) := by
  refine T.F_are_letters.ok sc_are_letters (fun vs H Q E h => ?_) (fun cdv A outer s H vs Q E hr h => ?_)
  · obtain ⟨l, rfl, _⟩ := h
    rfl
  · obtain ⟨l, rfl, q⟩ := h
    rw [← letters_S] at q
    refine ⟨_, (pss_one (ps_ret (pe_and (pe_m0 PySem.F.slot_str_isascii PySem.F.type_str_isascii mt_isascii (pv 0)) (pe_and (pe_m0 PySem.F.slot_str_isalpha PySem.F.type_str_isalpha mt_isalpha (pv 0)) (pe_one (pe_m0 PySem.F.slot_str_islower PySem.F.type_str_islower mt_islower (pv 0))))))), ?_⟩
    refine ⟨_, rfl, ⟨_, rfl⟩, S l, rfl, rfl, trivial, _, rfl, iteC (fun e => ?_) (fun e => ?_)⟩
    · rw [e] at q
      refine ⟨_, rfl, ⟨_, rfl⟩, S l, rfl, rfl, trivial, _, rfl, iteC (fun e => ?_) (fun e => ?_)⟩
      · rw [e] at q
        exact ⟨_, rfl, ⟨_, rfl⟩, S l, rfl, rfl, trivial, q⟩
      · rw [e] at q
        exact q
    · rw [e] at q
      exact q
/-- a text, or what is none -/
def StrIs (K : PySem.W.Frag) (H : Hp) (x : V) (o : Option (List Nat)) : Prop := match o with
  | some l => x = .str (S l) ∧ l.length ≤ 1000000
  | none => ∃ n, TyX K H x (.type n) ∧ kitB n "str" = some false
theorem StrIs.same {K : PySem.W.Frag} {H H' : Hp} {x : V} {o : Option (List Nat)} (e : Same H H') (h : StrIs K H x o) : StrIs K H' x o := by
  cases o with
  | some l => exact h
  | none =>
    obtain ⟨n, h1, h2⟩ := h
    exact ⟨n, tyx_same e h1, h2⟩
theorem kit_str : kitB "str" "str" = some true := by decide +kernel
def wordB (l : List Nat) : Bool := decide (l.length ≤ 12) && lowB l
def signB (l : List Nat) : Bool := decide (l.length = 1) && l.all sg
def sp_is_word (K : PySem.W.Frag) : Sp := fun vs H Q _ => ∃ (x : V) (o : Option (List Nat)), vs = [x] ∧ StrIs K H x o ∧ Q (.bl (o.elim false wordB)) H
theorem ok_is_word : FnOk P w K mg base CX0 2 T.f_is_word T.fd_is_word ["value"] (sp_is_word K) := by
  refine T.F_is_word.ok sc_is_word (fun vs H Q E h => ?_) (fun cdv A outer s H vs Q E hr h => ?_)
  · obtain ⟨x, o, rfl, _⟩ := h
    rfl
  · obtain ⟨x, o, rfl, hx, q⟩ := h
    refine ⟨_, (pss_one (ps_ret (pe_and (pe_callB call_isi (by rfl) T.m_isinstance (by decide +kernel) (pa_cons (pv 0) (pa_cons (pe_bltn (v := .ty "str") (by rfl) T.m_str (by decide +kernel) rfl) pa_nil))) (pe_and (pe_cmpR op_le (pe_callB call_len_str (by rfl) T.m_len PySem.boot_len (pa_cons (pv 0) pa_nil)) (pe_glob (v := .int 12) (by rfl) T.c_MOST_LETTERS ⟨_, rfl⟩) (nomark _)) (pe_one (pe_call (ok_are_letters T) (hr.mono (by decide)) (by rfl) T.g_are_letters T.F_are_letters.kp T.b_are_letters .nil pass0 (pa_cons (pv 0) pa_nil))))))), ?_⟩
    cases o with
    | none =>
      obtain ⟨n, h1, h2⟩ := hx
      exact ⟨x, rfl, x, _, _, _, false, rfl, .ty _, h1, kit_ty h2, _, rfl, iteF q⟩
    | some l =>
      obtain ⟨rfl, hl⟩ := hx
      refine ⟨_, rfl, _, _, _, _, true, rfl, .ty _, .base (.str (S l)), kit_ty kit_str, _, rfl, ?_⟩
      refine iteT (B := _) ?_
      have q' : Q (.bl (decide (l.length ≤ 12) && lowB l)) H := q
      have e1 : decide (((S l).length : Int) ≤ 12) = decide (l.length ≤ 12) := by
        rw [S_len]
        by_cases h : l.length ≤ 12
        · rw [decide_eq_true h, decide_eq_true (by omega)]
        · rw [decide_eq_false h, decide_eq_false (by omega)]
      refine ⟨_, rfl, S l, rfl, by rw [S_len]; exact Nat.le_trans hl (by decide), _, _, rfl, rfl, _, rfl, ?_⟩
      rw [e1]
      cases h : decide (l.length ≤ 12) with
      | true =>
        rw [h] at q'
        refine iteT (B := _) ?_
        exact ⟨_, rfl, l, rfl, q'⟩
      | false =>
        rw [h] at q'
        exact iteF q'
theorem StrIs.ext {K : PySem.W.Frag} {H H' : Hp} {x : V} {o : Option (List Nat)} (e : ExtN H H') (h : StrIs K H x o) : StrIs K H' x o := by
  cases o with
  | none =>
    obtain ⟨n, h1, h2⟩ := h
    exact ⟨n, tyx_ext e h1, h2⟩
  | some l => exact h
/-! ### books -/
def tx (l : List Nat) : V := .str (S l)
def txtV : V → Option (List Nat)
  | .str x => some x.cps.toList
  | _ => none
theorem txt_tx (l : List Nat) : txtV (tx l) = some l := by
  unfold txtV tx
  simp [S]
theorem tx_txt {v : V} {l : List Nat} (h : txtV v = some l) : v = tx l := by
  cases v with
  | str x =>
    have e : x.cps.toList = l := Option.some.inj h
    show V.str x = V.str (S l)
    rw [← e, S_of]
  | _ => cases h
theorem nodup_some {α : Type} : ∀ {l : List α}, l.Nodup → (l.map some).Nodup
  | [], _ => List.nodup_nil
  | a :: r, h => by
    rw [List.nodup_cons] at h
    rw [List.map_cons, List.nodup_cons]
    refine ⟨fun m => ?_, nodup_some h.2⟩
    obtain ⟨b, hb, e⟩ := List.mem_map.mp m
    exact h.1 (Option.some.inj e ▸ hb)
def wordV (v : V) : Bool := (txtV v).elim false wordB
theorem words_strs : ∀ (vs : List V), vs.all wordV = true → ∃ ls : List (List Nat), vs = ls.map tx ∧ vs.map txtV = ls.map some
  | [], _ => ⟨[], rfl, rfl⟩
  | v :: r, h => by
    rw [List.all_cons, Bool.and_eq_true] at h
    obtain ⟨ls, e1, e2⟩ := words_strs r h.2
    have h1 := h.1
    unfold wordV at h1
    cases ht : txtV v with
    | none =>
      rw [ht] at h1
      cases h1
    | some l => exact ⟨l :: ls, by rw [List.map_cons, ← e1, tx_txt ht], by rw [List.map_cons, List.map_cons, e2, ht]⟩
theorem nodup_map_S : ∀ (ls : List (List Nat)), (ls.map S).Nodup ↔ (ls.map some).Nodup
  | [] => by simp
  | l :: r => by
    rw [List.map_cons, List.map_cons, List.nodup_cons, List.nodup_cons, nodup_map_S r]
    have e : S l ∈ r.map S ↔ some l ∈ r.map some := by
      constructor
      · intro m
        obtain ⟨k, hk, e⟩ := List.mem_map.mp m
        have : k = l := by
          have := congrArg (fun z : Str => z.cps.toList) e
          simpa [S] using this
        rw [← this]
        exact List.mem_map.mpr ⟨k, hk, rfl⟩
      · intro m
        obtain ⟨k, hk, e⟩ := List.mem_map.mp m
        cases e
        exact List.mem_map.mpr ⟨l, hk, rfl⟩
    rw [e]
def wordsB (m : Nat) (os : List (Option (List Nat))) : Bool := decide (1 ≤ os.length) && decide (os.length ≤ m) && (os.all (fun o => o.elim false wordB) && decide os.Nodup)
/-- what is told as words, and which they are if they are any -/
def WArg (K : PySem.W.Frag) (H : Hp) (x : V) (m : Nat) (o : Option (List (List Nat))) : Prop :=
  (o = none ∧ ∃ n, TyX K H x (.type n) ∧ PySem.W.kitAny K (.type n) [.type "list", .type "tuple"] = some false) ∨
  ∃ (a : Addr) (vs : List V), x = .ref a ∧ SqQ K H a vs ∧ vs.length ≤ 4000 ∧ (∀ v ∈ vs, StrIs K H v (txtV v)) ∧ wordsB m (vs.map txtV) = o.isSome ∧ ∀ ws, o = some ws → vs = ws.map tx
theorem WArg.same {K : PySem.W.Frag} {H H' : Hp} {x : V} {m : Nat} {o : Option (List (List Nat))} (e : Same H H') (h : WArg K H x m o) : WArg K H' x m o := by
  rcases h with ⟨h1, n, h2, h3⟩ | ⟨a, vs, h1, h2, h3, h4, h5, h6⟩
  · exact .inl ⟨h1, n, tyx_same e h2, h3⟩
  · exact .inr ⟨a, vs, h1, Same.q e h2, h3, fun v m => (h4 v m).same e, h5, h6⟩
theorem WArg.ext {K : PySem.W.Frag} {H H' : Hp} {x : V} {m : Nat} {o : Option (List (List Nat))} (e : ExtN H H') (h : WArg K H x m o) : WArg K H' x m o := by
  rcases h with ⟨h1, n, h2, h3⟩ | ⟨a, vs, h1, h2, h3, h4, h5, h6⟩
  · exact .inl ⟨h1, n, tyx_ext e h2, h3⟩
  · exact .inr ⟨a, vs, h1, h2.imp (sqL_ext e) (sqT_ext e), h3, fun v m => (h4 v m).ext e, h5, h6⟩
theorem words_arg {K : PySem.W.Frag} {H : Hp} {a : Addr} {ws : List (List Nat)} {m : Nat} (h : SqQ K H a (ws.map tx)) (l1 : 1 ≤ ws.length) (l2 : ws.length ≤ m) (l3 : m ≤ 4000) (hw : ∀ w ∈ ws, wordB w = true) (nd : ws.Nodup) : WArg K H (.ref a) m (some ws) := by
  refine .inr ⟨a, _, rfl, h, by rw [List.length_map]; omega, fun v hv => ?_, ?_, fun ws' e => by cases e; rfl⟩
  · obtain ⟨w, hwm, rfl⟩ := List.mem_map.mp hv
    rw [txt_tx]
    refine ⟨rfl, ?_⟩
    have := hw w hwm
    unfold wordB at this
    rw [Bool.and_eq_true, decide_eq_true_eq] at this
    omega
  · have e : (ws.map tx).map txtV = ws.map some := by
      rw [List.map_map]
      refine List.map_congr_left fun w _ => ?_
      exact txt_tx w
    rw [e]
    unfold wordsB
    rw [List.length_map, decide_eq_true l1, decide_eq_true l2]
    simp only [Bool.true_and, Option.isSome_some, Bool.and_eq_true, decide_eq_true_eq]
    refine ⟨?_, ?_⟩
    · rw [List.all_map, List.all_eq_true]
      exact fun w hwm => hw w hwm
    · exact nodup_some nd
def sp_are_words (K : PySem.W.Frag) : Sp := fun vs H Q _ => ∃ (x : V) (m : Nat) (o : Option (List (List Nat))), vs = [x, .int m] ∧ WArg K H x m o ∧ ∀ H', Same H H' → Q (.bl o.isSome) H'
theorem ok_are_words : FnOk P w K mg base CX0 3 T.f_are_words T.fd_are_words ["value", "most"] (sp_are_words K) := by
  refine T.F_are_words.ok sc_are_words (fun vs H Q E h => ?_) (fun cdv A outer s H vs Q E hr h => ?_)
  · obtain ⟨x, m, o, rfl, _⟩ := h
    rfl
  · obtain ⟨x, m, o, rfl, h, q⟩ := h
    refine ⟨_, (pss_cons (ps_if (PW.pt (pw_or (pt_not (pt_val (pe_call (ok_is_list T) (hr.mono (by decide)) (by rfl) T.g_is_list T.F_is_list.kp T.b_is_list .nil pass0 (pa_cons (pv 0) pa_nil)))) (pw_or1 (pt_not (pt_chain op_le op_le pe_int (pe_callB call_len_seq (by rfl) T.m_len PySem.boot_len (pa_cons (pv 0) pa_nil)) (pv 1))))))
      (pss_one (ps_ret pe_bl))
      pss_nil)
    (pss_one (ps_ret (pe_and (pe_callB (cr_all rfl) (by rfl) T.m_all (by decide +kernel) (pa_cons (pe_lc (own := [("word", 2)]) rfl sc_are_words.nd (pi_seq (pv 0)) (blkOk_by (own := [("word", 2)]) (N := ["value", "most", "word"]) (sc := defScope s_are_words) (by decide +kernel)) (fun _ _ _ _ _ => (pg_name (i := 2) sc_are_words.nd rfl (.inl rfl))) (fun _ _ _ _ _ => pts_nil) (fun _ _ _ _ _ => (pe_call (ok_is_word T) (hr.mono (by decide)) (by rfl) T.g_is_word T.F_is_word.kp T.b_is_word .nil pass0 (pa_cons (pv 2) pa_nil)))) pa_nil)) (pe_one (pe_cmpR op_eq (pe_lenSetN (by rfl) T.m_len (by rfl) T.m_set (pv 0)) (pe_callB call_len_seq (by rfl) T.m_len PySem.boot_len (pa_cons (pv 0) pa_nil)) (nomark _))))))), ?_⟩
    rcases h with ⟨rfl, n, ht, hk⟩ | ⟨a, ws, rfl, hq, hl, hw, hb, _⟩
    · refine go_seq (go_if (go_or2 (go_not (go_b ⟨x, rfl, x, n, false, rfl, ht, hk, fun H1 e1 => ⟨_, rfl, iteT (B := _) (iteT (B := _) (go_ret (q H1 e1)))⟩⟩))))
    · obtain ⟨n, ht, hk⟩ := isl_q hq
      refine go_seq (go_if (go_or2 (go_not (go_b ⟨_, rfl, _, n, true, rfl, ht, hk, fun H1 e1 => ⟨_, rfl, iteF (A := _) ?_⟩⟩))))
      have hb' : (decide (1 ≤ ws.length) && decide (ws.length ≤ m) && (ws.all wordV && decide (ws.map txtV).Nodup)) = o.isSome := by
        rw [← hb]
        unfold wordsB
        rw [List.length_map, List.all_map]
        rfl
      have f1 : decide ((1 : Int) ≤ (ws.length : Int)) = decide (1 ≤ ws.length) := by
        by_cases h : 1 ≤ ws.length
        · rw [decide_eq_true h, decide_eq_true (by omega)]
        · rw [decide_eq_false h, decide_eq_false (by omega)]
      have f2 : decide ((ws.length : Int) ≤ (m : Int)) = decide (ws.length ≤ m) := by
        by_cases h : ws.length ≤ m
        · rw [decide_eq_true h, decide_eq_true (by omega)]
        · rw [decide_eq_false h, decide_eq_false (by omega)]
      refine go_not (go_test (go_chain (go_c (go_cb (go_cons (go_var rfl (go_nil ⟨a, ws, rfl, Same.q e1 hq, ?_⟩)))))))
      refine ⟨_, _, rfl, rfl, _, rfl, ?_⟩
      rw [f1]
      refine iteC (fun h1 => ?_) (fun h1 => ?_)
      · refine go_var rfl ⟨_, _, rfl, rfl, _, rfl, ?_⟩
        rw [f2]
        rw [h1, Bool.true_and] at hb'
        refine iteC (fun h2 => ?_) (fun h2 => ?_)
        · have h2 : decide (ws.length ≤ m) = false := by simpa using h2
          rw [h2, Bool.false_and] at hb'
          rw [← hb'] at q
          exact go_ret (q H1 e1)
        · have h2 : decide (ws.length ≤ m) = true := by simpa using h2
          rw [h2, Bool.true_and] at hb'
          dsimp only [tNext]
          refine go_ret (go_and (go_cb (go_cons (lc_seqmap (a := a) (xs := ws) (fun v => .bl (wordV v)) (by exact rfl) (Same.q e1 hq) (by omega) (fun i v Hc Q' R' hv e2 q' => ?_) (fun D Hc e2 hD => ?_)))))
          · refine ⟨rfl, ?_⟩
            refine iteT (B := True) ?_
            exact ⟨_, rfl, v, txtV v, rfl, ((hw v (List.mem_of_getElem? hv)).same e1).same e2, q' Hc (Same.refl _)⟩
          · refine ⟨D, ws.map wordV, rfl, .inl (.inl (by rw [hD, List.map_map]; rfl)), ?_⟩
            rw [List.all_map]
            refine ⟨_, rfl, iteC (fun h3 => ?_) (fun h3 => ?_)⟩
            · have h3 : ws.all wordV = true := h3
              rw [h3, Bool.true_and] at hb'
              obtain ⟨ls, e3, e4⟩ := words_strs ws h3
              refine go_op ⟨_, rfl, a, ls.map S, rfl, ?_, ?_, ?_⟩
              · have : (ls.map S).map V.str = ws := by
                  rw [List.map_map, e3]
                  rfl
                rw [this]
                exact Same.q (e1.trans e2) hq
              · rw [List.length_map]
                rw [e3, List.length_map] at hl
                exact hl
              refine go_cb (go_cons (go_var rfl (go_nil ⟨a, ws, rfl, Same.q (e1.trans e2) hq, rfl, ?_⟩)))
              have e5 : decide (V.int ((onceS (ls.map S)).length : Nat) = V.int (ws.length : Nat)) = o.isSome := by
                rw [← hb', e4]
                have hz : ws.length = (ls.map S).length := by rw [e3, List.length_map, List.length_map]
                have h := (onceS_nodup (ls.map S)).trans (nodup_map_S ls)
                by_cases hd : (ls.map some).Nodup
                · rw [decide_eq_true hd, decide_eq_true]
                  rw [h.mpr hd, hz]
                · rw [decide_eq_false hd, decide_eq_false]
                  intro e
                  injection e with e
                  exact hd (h.mp (by omega))
              rw [e5]
              exact q _ (e1.trans e2)
            · have h3 : ws.all wordV = false := h3
              rw [h3, Bool.false_and] at hb'
              rw [← hb'] at q
              exact q _ (e1.trans e2)
      · rw [h1, Bool.false_and, Bool.false_and] at hb'
        rw [← hb'] at q
        exact ⟨_, rfl, iteT (B := _) (go_ret (q H1 e1))⟩
end
end K09
namespace K09
open PySem PySem.Spec PyProof.Rows L2 Kx SX LamX
section
variable {P : Program} {w : World} {K : PySem.W.Frag} {mg : Str → Option Value} {base : Heap} (T : Tx K mg)
/-! ### Book -/
def BookAt (K : PySem.W.Frag) (C : Addr) (H : Hp) (p : Addr) (ws : List (List Nat)) : Prop := ∃ dx t, H p = some (.ins C dx [("words", .ref t)]) ∧ SqT K H t (ws.map tx) ∧ TupN K H t
theorem BookAt.same {C : Addr} {H H' : Hp} {p : Addr} {ws : List (List Nat)} (e : Same H H') (h : BookAt K C H p ws) : BookAt K C H' p ws := by
  obtain ⟨dx, t, h1, h2, h3⟩ := h
  exact ⟨dx, t, e _ _ h1, Same.t e h2, h3.same e⟩
theorem BookAt.ext {C : Addr} {H H' : Hp} {p : Addr} {ws : List (List Nat)} (e : ExtN H H') (h : BookAt K C H p ws) : BookAt K C H' p ws := by
  obtain ⟨dx, t, h1, h2, h3⟩ := h
  exact ⟨dx, t, ext_at e h1, sqT_ext e h2, h3.ext e⟩
def WSeq (K : PySem.W.Frag) (H : Hp) (x : V) (ws : List (List Nat)) : Prop := ∃ a, x = .ref a ∧ (SqL K H a (ws.map tx) ∨ (SqT K H a (ws.map tx) ∧ TupN K H a))
theorem WSeq.same {H H' : Hp} {x : V} {ws : List (List Nat)} (e : Same H H') (h : WSeq K H x ws) : WSeq K H' x ws := by
  obtain ⟨a, h1, h2 | ⟨h2, h3⟩⟩ := h
  · exact ⟨a, h1, .inl (e.seq h2)⟩
  · exact ⟨a, h1, .inr ⟨Same.t e h2, h3.same e⟩⟩
theorem BookAt.put {C : Addr} {H : Hp} {p q : Addr} {ws : List (List Nat)} {xs : List V} {o : HO} (hq : H q = some (.lst xs)) (h : BookAt K C H p ws) : BookAt K C (upd H q o) p ws := by
  obtain ⟨dx, t, h1, h2, h3⟩ := h
  refine ⟨dx, t, by rw [upd_ne (ne_of_two h1 hq (fun z => by cases z))]; exact h1, ?_, ?_⟩
  · rcases h2 with (h | ⟨ob, h⟩) | h
    · exact .inl (.inl (by rw [upd_ne (ne_of_two h hq (fun z => by cases z))]; exact h))
    · exact .inl (.inr ⟨ob, by rw [upd_ne (ne_of_two h hq (fun z => by cases z))]; exact h⟩)
    · exact .inr h
  · rcases h3 with ⟨ob, ys, h, d⟩ | h
    · exact .inl ⟨ob, ys, by rw [upd_ne (ne_of_two h hq (fun z => by cases z))]; exact h, d⟩
    · exact .inr h
def sp_Book_init (K : PySem.W.Frag) (C CB : Addr) : Sp := fun vs H Q E => ∃ (p dx : Addr) (x : V) (o : Option (List (List Nat))), vs = [.ref p, x] ∧ H p = some (.ins C dx []) ∧ WArg K H x 40 o ∧ (∀ ws, o = some ws → WSeq K H x ws) ∧ (o = none → RaisedPart E CB H "words") ∧
  ∀ ws, o = some ws → ∀ H', (∀ b u, H b = some u → b ≠ p → H' b = some u) → BookAt K C H' p ws → Q .non H'
theorem ok_Book_init : FnOk P w K mg base (L2.CX P w) 7 T.f_Book_init T.fd_Book_init ["self", "words"] (sp_Book_init K T.C_Book T.e_BadBook.C) := by
  refine T.F_Book_init.okX sc_Book_init (fun vs H Q E h => ?_) (fun cdv A outer s H vs Q E hr h => ?_)
  · obtain ⟨p, dx, x, o, rfl, _⟩ := h
    rfl
  · obtain ⟨p, dx, x, o, rfl, hp, hW, hN, he, q⟩ := h
    refine ⟨_, (pss_cons (ps_if (pt_not (pt_val (pe_call (ok_are_words T) (hr.mono (by decide)) (by rfl) T.g_are_words T.F_are_words.kp T.b_are_words .nil pass0 (pa_cons (pv 1) (pa_cons (pe_glob (v := .int 40) (by rfl) T.c_MOST_WORDS ⟨_, rfl⟩) pa_nil)))))
      (pss_one (ps_raise rfl (takes_of rfl rfl rfl rfl) (pmk_oex T.e_BadBook.oex T.e_BadBook.iC T.e_BadBook.tI (ok_init T.e_BadBook in_BadBook) (hr.mono (by decide)) T.e_BadBook.b .nil pass0 (by rfl) T.e_BadBook.gC (pa_cons pe_str pa_nil))))
      pss_nil)
    (pss_one (ps_fld (pv 0) (pe_callTy call_tuple_frz (by rfl) T.m_tuple (by decide +kernel) (pa_cons (pv 1) pa_nil)) rfl))), ?_⟩
    refine go_seq (go_if (go_not (go_b ⟨x, rfl, x, 40, o, rfl, hW, fun H1 e1 => ⟨_, rfl, ?_⟩⟩)))
    cases o with
    | none =>
      refine iteT (B := _) ?_
      exact mk_part T.e_BadBook.oex T.e_BadBook.np fun d H' e2 hd => he rfl d H' (e1.trans e2) hd
    | some ws =>
      refine iteF (A := _) ?_
      dsimp only [tNext]
      obtain ⟨a, rfl, hq⟩ := hN ws rfl
      have hp1 := e1 _ _ hp
      rcases hq with hq | ⟨hq, hn⟩
      · refine ⟨_, rfl, a, _, rfl, .inl ⟨e1.seq hq, fun t ob nt hd => ?_⟩⟩
        have hpt : p ≠ t := ne_of_none hp1 nt
        refine ⟨_, rfl, p, T.C_Book, dx, [], rfl, by rw [upd_ne hpt]; exact hp1, T.cl_Book, T.na_Book_words, by show 0 < 1000; decide, ?_⟩
        refine q ws rfl _ (fun b u hb hne => ?_) ⟨dx, t, upd_same, .inl (.inr ⟨ob, by rw [upd_ne (Ne.symm hpt), upd_same]⟩), .inl ⟨ob, _, by rw [upd_ne (Ne.symm hpt), upd_same], hd⟩⟩
        have hb1 := e1 _ _ hb
        rw [upd_ne hne, upd_ne (ne_of_none hb1 nt)]
        exact hb1
      · have hn := hn.same e1
        have hq1 := Same.t e1 hq
        refine ⟨_, rfl, a, _, rfl, .inr ⟨hq1, ?_⟩⟩
        refine ⟨_, rfl, p, T.C_Book, dx, [], rfl, hp1, T.cl_Book, T.na_Book_words, by show 0 < 1000; decide, ?_⟩
        refine q ws rfl _ (fun b u hb hne => ?_) ⟨dx, a, upd_same, sqT_put hp1 hq1, tupN_put hp1 hn⟩
        rw [upd_ne hne]
        exact e1 _ _ hb
/-- Book(x), x right words -/
theorem book_new {E : XK} {C CB x dx : Addr} {H : Hp} {v : V} {ws : List (List Nat)} {P : VK} (nx : H x = none) (ndx : H dx = none) (hW : WArg K H v 40 (some ws)) (hS : WSeq K H v ws) (q : ∀ H', Same H H' → BookAt K C H' x ws → P .non H') :
    sp_Book_init K C CB [.ref x, v] (upd (upd H dx (.own x)) x (.ins C dx [])) P E := by
  have s1 : Same H (upd (upd H dx (.own x)) x (.ins C dx [])) := fun b u h => by
    rw [upd_ne (ne_of_none h nx), upd_ne (ne_of_none h ndx)]
    exact h
  refine ⟨x, dx, v, some ws, rfl, upd_same, hW.same s1, fun ws' e => ?_, (fun e => by cases e), fun ws' e H' keep hb => q H' (fun b u h => keep b u (s1 _ _ h) (ne_of_none h nx)) ?_⟩
  · cases e
    exact hS.same s1
  · cases e
    exact hb
/-- Book(x), x no words -/
theorem book_none {E : XK} {C CB x dx : Addr} {H : Hp} {v : V} {P : VK} (nx : H x = none) (ndx : H dx = none) (hW : WArg K H v 40 none) (he : ∀ d H', Same H H' → H' d = some (.xd [("part", .str "words")]) → E (.ref CB) (some d) H') :
    sp_Book_init K C CB [.ref x, v] (upd (upd H dx (.own x)) x (.ins C dx [])) P E := by
  have s1 : Same H (upd (upd H dx (.own x)) x (.ins C dx [])) := fun b u h => by
    rw [upd_ne (ne_of_none h nx), upd_ne (ne_of_none h ndx)]
    exact h
  exact ⟨x, dx, v, none, rfl, upd_same, hW.same s1, fun ws' e => (by cases e), fun _ d H' e hd => he d H' (s1.trans e) hd, fun ws' e => by cases e⟩
def sp_Book_eq (K : PySem.W.Frag) (C : Addr) : Sp := fun vs H Q _ => ∃ (a : Addr) (y : V) (ws : List (List Nat)) (r : Bool), vs = [.ref a, y] ∧ BookAt K C H a ws ∧ (∀ w ∈ ws, cdC w) ∧
  ((∃ b ws', y = .ref b ∧ BookAt K C H b ws' ∧ (∀ w ∈ ws', cdC w) ∧ r = decide (ws = ws')) ∨ ((∃ b xs, y = .ref b ∧ SqQ K H b xs) ∧ r = false)) ∧ Q (.bl r) H
theorem ok_Book_eq : FnOk P w K mg base CX0 1 T.f_Book_eq T.fd_Book_eq ["self", "other"] (sp_Book_eq K T.C_Book) := by
  refine T.F_Book_eq.ok sc_Book_eq (fun vs H Q E h => ?_) (fun cdv A outer s H vs Q E hr h => ?_)
  · obtain ⟨a, y, ws, r, rfl, _⟩ := h
    rfl
  · obtain ⟨a, y, ws, r, rfl, ⟨dx, t, ha, ht, _⟩, hc, hy, q⟩ := h
    refine ⟨_, (pss_one (ps_ret (pe_and (pe_callB call_isi (by rfl) T.m_isinstance (by decide +kernel) (pa_cons (pv 1) (pa_cons (pe_glob (v := .ref T.C_Book) (by rfl) T.gC_Book rfl) pa_nil))) (pe_one (pe_cmpR (op_eqD hr.units) (pe_fld (pv 0) rfl) (pe_fld (pv 1) rfl) (nomark _)))))), ?_⟩
    rcases hy with ⟨b, ws', rfl, ⟨dy, t', hb, ht', _⟩, hc', rfl⟩ | ⟨⟨b, xs, rfl, hq⟩, rfl⟩
    · refine ⟨_, rfl, .ref b, _, _, _, true, rfl, .own _, .base (.ins hb T.cl_Book T.oc_Book T.on_Book T.ot_Book T.ob_Book), kitOne_self, _, rfl, iteT (B := _) ?_⟩
      refine ⟨_, rfl, a, T.C_Book, dx, _, .ref t, rfl, ha, T.cl_Book, T.na_Book_words, rfl, _, rfl, b, T.C_Book, dy, _, .ref t', rfl, hb, T.cl_Book, T.na_Book_words, rfl, ?_⟩
      refine ⟨_, _, .tup ht (dpAll_map _ fun w _ => .str (S w)), .tup ht' (dpAll_map _ fun w _ => .str (S w)), (Pl.tup fun d m => ?_).shaped (k := 1) (by decide), (Pl.tup fun d m => ?_).shaped (k := 1) (by decide), ?_⟩
      · obtain ⟨w, hw, rfl⟩ := List.mem_map.mp m
        exact pl_text (hc w hw)
      · obtain ⟨w, hw, rfl⟩ := List.mem_map.mp m
        exact pl_text (hc' w hw)
      · rw [eqv_texts]
        exact q
    · rcases hq with hq | hq
      · exact ⟨_, rfl, .ref b, _, _, _, false, rfl, .own _, tyL hq, kitOne_no T.kc_Book T.kt_Book sub_list, _, rfl, iteF (A := _) q⟩
      · exact ⟨_, rfl, .ref b, _, _, _, false, rfl, .own _, tyT hq, kitOne_no T.kc_Book T.kt_Book sub_tuple, _, rfl, iteF (A := _) q⟩
def sp_Book_number (K : PySem.W.Frag) (C CW : Addr) : Sp := fun vs H Q E => ∃ (a : Addr) (v : V) (ws : List (List Nat)), vs = [.ref a, v] ∧ BookAt K C H a ws ∧ (∀ w ∈ ws, wordB w = true) ∧ StrIs K H v (txtV v) ∧ ((∀ w ∈ ws, v ≠ tx w) → RaisedPart E CW H "word") ∧
  ∀ (j : Nat) (w : List Nat), v = tx w → ws[j]? = some w → (∀ m, m < j → ws[m]? ≠ some w) → Q (.int (j : Nat)) H
theorem first_at {α : Type} [DecidableEq α] : ∀ (l : List α) (x : α), x ∈ l → ∃ j : Nat, l[j]? = some x ∧ ∀ m, m < j → l[m]? ≠ some x
  | [], _, h => by cases h
  | y :: r, x, h => by
    by_cases e : y = x
    · exact ⟨0, by rw [e]; rfl, fun m hm => by omega⟩
    · obtain ⟨j, h1, h2⟩ := first_at r x ((List.mem_cons.mp h).resolve_left (fun z => e z.symm))
      refine ⟨j + 1, h1, fun m hm => ?_⟩
      cases m with
      | zero => exact fun z => e (Option.some.inj z)
      | succ m => exact h2 m (by omega)
theorem ok_Book_number : FnOk P w K mg base (L2.CX P w) 6 T.f_Book_number T.fd_Book_number ["self", "word"] (sp_Book_number K T.C_Book T.e_BadWord.C) := by
  refine T.F_Book_number.okX sc_Book_number (fun vs H Q E h => ?_) (fun cdv A outer s H vs Q E hr h => ?_)
  · obtain ⟨a, v, ws, rfl, _⟩ := h
    rfl
  · obtain ⟨a, v, ws, rfl, ⟨dx, t, ha, ht, hn⟩, hw, hv, he, q⟩ := h
    refine ⟨_, (pss_cons (ps_if (PW.pt (pw_or (pt_not (pt_val (pe_call (ok_is_word T) (hr.mono (by decide)) (by rfl) T.g_is_word T.F_is_word.kp T.b_is_word .nil pass0 (pa_cons (pv 1) pa_nil)))) (pw_or1 (pt_cmpR op_notIn_seq (pv 1) (pe_fld (pv 0) rfl) rfl))))
      (pss_one (ps_raise rfl (takes_of rfl rfl rfl rfl) (pmk_oex T.e_BadWord.oex T.e_BadWord.iC T.e_BadWord.tI (ok_init T.e_BadWord in_BadWord) (hr.mono (by decide)) T.e_BadWord.b .nil pass0 (by rfl) T.e_BadWord.gC (pa_cons pe_str pa_nil))))
      pss_nil)
    (pss_one (ps_ret (pe_tm PySem.F.slot_tuple_index PySem.F.type_tuple_index mt_tup_index (pe_fld (pv 0) rfl) (pa_cons (pv 1) pa_nil))))), ?_⟩
    refine go_seq (go_if (go_or2 (go_not (go_b ⟨v, rfl, v, txtV v, rfl, hv, _, rfl, ?_⟩))))
    have fl : (ws.map tx).all flatV = true := by
      rw [List.all_map, List.all_eq_true]
      exact fun w _ => rfl
    cases hb : (txtV v).elim false wordB with
    | false =>
      refine iteT (B := _) (iteT (B := _) ?_)
      refine mk_part T.e_BadWord.oex T.e_BadWord.np fun d H' e2 hd => he (fun w hwm e => ?_) d H' e2 hd
      rw [e, txt_tx] at hb
      have := hw w hwm
      have hb : wordB w = false := hb
      rw [this] at hb
      cases hb
    | true =>
      refine iteF (A := _) ?_
      have fv : flatV v = true := by
        cases v with
        | str x => rfl
        | _ => cases hb
      refine go_test (go_op (go_var rfl ⟨_, rfl, a, T.C_Book, dx, _, .ref t, rfl, ha, T.cl_Book, T.na_Book_words, rfl, t, _, rfl, .inr ht, fv, fl, _, rfl, ?_⟩))
      show if (!inV v (ws.map tx)) = true then _ else _
      by_cases hm : inV v (ws.map tx) = true
      · rw [hm]
        refine iteF (A := _) ?_
        dsimp only [tNext]
        obtain ⟨w, hwm, rfl⟩ := (inV_texts ws).mp hm
        obtain ⟨j, h1, h2⟩ := first_at ws w hwm
        refine go_ret ⟨_, rfl, a, T.C_Book, dx, _, .ref t, rfl, ha, T.cl_Book, T.na_Book_words, rfl, ⟨t, rfl, hn⟩, _, rfl, t, ws.map S, S w, j, rfl, rfl, ?_, ?_, ?_, q j w rfl h1 h2⟩
        · have e : (ws.map S).map V.str = ws.map tx := by
            rw [List.map_map]
            rfl
          rw [e]
          exact ht
        · rw [List.getElem?_map, h1]
          rfl
        · intro m hm e
          rw [List.getElem?_map] at e
          cases hz : ws[m]? with
          | none => rw [hz] at e; cases e
          | some u =>
            rw [hz] at e
            have e' : S u = S w := Option.some.inj e
            have : u = w := by
              have := congrArg (fun z : Str => z.cps.toList) e'
              simpa [S] using this
            exact h2 m hm (by rw [hz, this])
      · have hm : inV v (ws.map tx) = false := by simpa using hm
        rw [hm]
        refine iteT (B := _) ?_
        refine mk_part T.e_BadWord.oex T.e_BadWord.np fun d H' e2 hd => he (fun w hwm e => ?_) d H' e2 hd
        have h : inV v (ws.map tx) = true := (inV_texts ws).mpr ⟨w, hwm, e⟩
        rw [h] at hm
        cases hm
end
end K09
namespace K09
open PySem PySem.Spec PyProof.Rows L2 Kx SX LamX
section
variable {P : Program} {w : World} {K : PySem.W.Frag} {mg : Str → Option Value} {base : Heap} (T : Tx K mg)
/-! ### draws -/
def sp_law_reach (K : PySem.W.Frag) : Sp := fun vs H Q _ => ∃ (a c : Addr) (m : Int) (n : Nat), vs = [.ref a, .int m] ∧ 0 < m ∧ m ≤ 1000000 ∧ Wh H a c n ∧ n < 1000000 ∧ ∀ (r : Int) (H' : Hp), 0 ≤ r → r < m → Mv a H H' → Wh H' a c (n + 1) → Q (.int r) H'
theorem ok_law_reach : FnOk P w K mg base CX0 1 T.f_law_reach T.fd_law_reach ["shelf", "many"] (sp_law_reach K) := by
  refine T.F_law_reach.ok sc_law_reach (fun vs H Q E h => ?_) (fun cdv A outer s H vs Q E hr h => ?_)
  · obtain ⟨a, c, m, n, rfl, _⟩ := h
    rfl
  · obtain ⟨a, c, m, n, rfl, hm, hM, ⟨cs, t, l, h1, h2, h3, h4, h5⟩, hn, q⟩ := h
    refine ⟨_, (pss_cons (ps_if (pt_cmpR (op_eqE hr.units) (pe_ix ix_list (pv 0) pe_int (fun _ _ => rfl)) (pe_lst pa_nil) (nomark _))
      (pss_one (ps_ret pe_int))
      pss_nil)
    (pss_cons (ps_if (pt_cmpR op_gt (pe_ix ix_list (pv 0) pe_int (fun _ _ => rfl)) pe_int (nomark _))
      (pss_cons (ps_set (i := 2) sc_law_reach.nd rfl (.inl rfl) (pe_callTy call_int1 (by rfl) T.m_int (by decide +kernel) (pa_cons (pe_ix ix_list (pv 0) pe_int (fun _ _ => rfl)) pa_nil)))
      (pss_cons (ps_asg (pe_op op_fdivN (pv 2) (pv 1)) (pg_sub (pv 0) pe_int set_list))
      (pss_one (ps_ret (pe_op op_modN (pe_callTy call_int1 (by rfl) T.m_int (by decide +kernel) (pa_cons (pv 2) pa_nil)) (pv 1))))))
      pss_nil)
    (pss_cons (ps_set (i := 3) sc_law_reach.nd rfl (.inl rfl) (pe_ix ix_list (pv 0) pe_int (fun _ _ => rfl)))
    (pss_cons (ps_asg (pe_op op_add (pv 3) pe_int) (pg_sub (pv 0) pe_int set_list))
    (pss_cons (ps_set (i := 4) sc_law_reach.nd rfl (.inl rfl) (pe_ix ix_list (pe_ix ix_list (pv 0) pe_int (fun _ _ => rfl)) (pe_op op_modN (pe_callTy call_int1 (by rfl) T.m_int (by decide +kernel) (pa_cons (pv 3) pa_nil)) (pe_callB call_len_seq (by rfl) T.m_len PySem.boot_len (pa_cons (pe_ix ix_list (pv 0) pe_int (fun _ _ => rfl)) pa_nil))) (fun _ _ => rfl)))
    (pss_cons (ps_if (PW.pt (pw_and (pt_cmpR op_lt (pv 3) (pe_callB call_len_seq (by rfl) T.m_len PySem.boot_len (pa_cons (pe_ix ix_list (pv 0) pe_int (fun _ _ => rfl)) pa_nil)) (nomark _)) (pw_and1 (pt_cmpR op_ge (pe_callB call_abs (by rfl) T.m_abs (by decide +kernel) (pa_cons (pv 4) pa_nil)) (pe_op op_pow pe_int pe_int) (nomark _)))))
      (pss_cons (ps_set (i := 2) sc_law_reach.nd rfl (.inl rfl) (pe_op op_add (pe_op op_mul pe_int (pe_op op_sub (pe_callB call_abs (by rfl) T.m_abs (by decide +kernel) (pa_cons (pv 4) pa_nil)) (pe_op op_pow pe_int pe_int))) (pe_callTy call_int1 (by rfl) T.m_int (by decide +kernel) (pa_cons (pe_cmpR op_lt (pv 4) pe_int (nomark _)) pa_nil))))
      (pss_cons (ps_asg (pe_op op_fdivN (pe_callTy call_int1 (by rfl) T.m_int (by decide +kernel) (pa_cons (pv 2) pa_nil)) (pv 1)) (pg_sub (pv 0) pe_int set_list))
      (pss_one (ps_ret (pe_op op_modN (pe_callTy call_int1 (by rfl) T.m_int (by decide +kernel) (pa_cons (pv 2) pa_nil)) (pv 1))))))
      pss_nil)
    (pss_cons (ps_set (i := 5) sc_law_reach.nd rfl (.inl rfl) (pe_op op_modN (pe_callTy call_int1 (by rfl) T.m_int (by decide +kernel) (pa_cons (pe_op op_pow (pe_op op_add (pe_op op_add (pe_op op_modN (pe_callTy call_int1 (by rfl) T.m_int (by decide +kernel) (pa_cons (pv 4) pa_nil)) pe_int) (pe_op op_mul pe_int (pv 3))) pe_int) pe_int) pa_nil)) pe_int))
    (pss_cons (ps_set (i := 5) sc_law_reach.nd rfl (.inl rfl) (pe_op op_modN (pe_callTy call_int1 (by rfl) T.m_int (by decide +kernel) (pa_cons (pe_op op_pow (pe_op op_add (pe_op op_add (pe_op op_mul (pv 5) (pe_op op_add (pe_op op_mul pe_int (pv 3)) pe_int)) (pe_op op_mul (pe_op op_mul pe_int (pv 3)) (pv 3))) pe_int) pe_int) pa_nil)) pe_int))
    (pss_one (ps_ret (pe_op op_modN (pe_callTy call_int1 (by rfl) T.m_int (by decide +kernel) (pa_cons (pe_op op_fdivN (pv 5) pe_int) pa_nil)) (pv 1)))))))))))), ?_⟩
    have hac := wh_ac h1 h2
    have m0 : m ≠ 0 := by omega
    have mS : m.natAbs < 1073741824 := by omega
    have fin : ∀ (x y z : Int) (H' : Hp), Mv a H H' → H' a = some (.lst [.ref c, .int y, .int z]) → 0 ≤ y → y ≤ n + 1 → Q (.int (x.fmod m)) H' := fun x y z H' mv ha y0 y1 =>
      q _ _ (Int.fmod_nonneg_of_pos _ hm) (Int.fmod_lt_of_pos _ hm) mv ⟨cs, y, z, ha, mv c _ (fun e => hac e.symm) h2, h3, y0, by omega⟩
    refine ⟨_, rfl, a, _, 0, .ref c, rfl, rfl, .inl (.inl h1), rfl, Nat.zero_le _, fun p np => ⟨c, p, _, rfl, rfl, same_new np _ _ h2, upd_same, _, rfl, iteC (fun e => ?_) (fun e => ?_)⟩⟩
    · exact q 0 _ (Int.le_refl _) hm (Mv.of (same_new np)) ⟨cs, t, l, same_new np _ _ h1, same_new np _ _ h2, h3, h4, by omega⟩
    have cs0 : cs ≠ [] := fun z => by
      rw [z] at e
      cases e
    have s0 := same_new (o := HO.lst []) np
    have mv0 : Mv a H (upd H p (HO.lst [])) := Mv.of s0
    have h1 := s0 _ _ h1
    have h2' := s0 _ _ h2
    generalize upd H p (HO.lst []) = H0 at mv0 h1 h2' ⊢
    clear e s0 np
    dsimp only [tNext]
    refine ⟨_, rfl, a, _, 2, .int l, rfl, rfl, .inl (.inl h1), rfl, _, _, rfl, rfl, _, rfl, iteC (fun e => ?_) (fun e => ?_)⟩
    · refine ⟨_, rfl, a, _, 2, .int l, rfl, rfl, .inl (.inl h1), rfl, .inl ⟨l, rfl, ?_⟩⟩
      refine ⟨_, rfl, _, rfl, l, m, rfl, rfl, ⟨m0, mS⟩, _, rfl, a, _, 2, 2, rfl, rfl, h1, rfl, ?_⟩
      refine ⟨_, rfl, .inl ⟨l, rfl, _, rfl, l, m, rfl, rfl, m0, ?_⟩⟩
      exact fin _ t (l.fdiv m) _ (mv0.trans (Mv.upd _ _ _)) upd_same h4 (by omega)
    clear e
    refine ⟨_, rfl, a, _, 1, .int t, rfl, rfl, .inl (.inl h1), rfl, ?_⟩
    refine ⟨_, rfl, t, 1, rfl, rfl, _, rfl, a, _, 1, 1, rfl, rfl, h1, rfl, ?_⟩
    generalize hH1 : upd H0 a (HO.lst ([V.ref c, .int t, .int l].set 1 (.int (t + 1)))) = H2
    have a2 : H2 a = some (.lst [.ref c, .int (t + 1), .int l]) := by rw [← hH1]; exact upd_same
    have c2 : H2 c = some (.lst (cs.map V.int)) := by rw [← hH1, upd_ne (fun e => hac e.symm)]; exact h2'
    have mv2 : Mv a H H2 := by rw [← hH1]; exact mv0.trans (Mv.upd _ _ _)
    have z0 : (0 : Int) < (cs.map V.int).length := by
      cases cs with
      | nil => exact absurd rfl cs0
      | cons x xs => simp
    obtain ⟨v, hv, ev⟩ : ∃ v, v ∈ cs.map V.int ∧ atI (cs.map V.int) (t.fmod ((cs.map V.int).length : Int)) = some v := at_lt (Int.fmod_nonneg_of_pos _ z0) (Int.fmod_lt_of_pos _ z0)
    obtain ⟨i, _, rfl⟩ := List.mem_map.mp hv
    have z : ((cs.map V.int).length : Int) ≠ 0 := by omega
    refine ⟨_, rfl, a, _, 0, .ref c, rfl, rfl, .inl (.inl a2), rfl, ?_⟩
    refine ⟨_, rfl, .inl ⟨t, rfl, ?_⟩⟩
    refine ⟨_, rfl, a, _, 0, .ref c, rfl, rfl, .inl (.inl a2), rfl, c, _, rfl, .inl (.inl (.inl c2)), ?_⟩
    refine ⟨t, _, rfl, rfl, z, c, _, _, _, rfl, rfl, .inl (.inl c2), ev, ?_⟩
    refine genI (P := fun v => gName 4 v _ _ _) (fun cell => ?_)
    refine ⟨_, rfl, _, rfl, a, _, 0, .ref c, rfl, rfl, .inl (.inl a2), rfl, c, _, rfl, .inl (.inl (.inl c2)), _, _, rfl, rfl, _, rfl, cutP (fun _ r => iteF r) (fun r e => ?_) ?_⟩
    · refine ⟨_, rfl, cell, rfl, _, _, rfl, rfl, ⟨by decide, by decide, by decide⟩, _, _, rfl, rfl, _, rfl, iteC (fun e2 => ?_) (fun e2 => r)⟩
      refine ⟨_, rfl, cell, rfl, _, _, rfl, rfl, ⟨by decide, by decide, by decide⟩, _, _, rfl, rfl, _, _, rfl, rfl, .inl ⟨by decide, by decide⟩, _, rfl, _, _, rfl, rfl, .inr ⟨_, rfl, _, _, rfl, rfl, ?_⟩⟩
      refine genI (P := fun v => gName 2 v _ _ _) (fun rest => ?_)
      refine ⟨_, rfl, .inl ⟨rest, rfl, _, rfl, _, _, rfl, rfl, ⟨m0, mS⟩, _, rfl, a, _, 2, 2, rfl, rfl, a2, rfl, ?_⟩⟩
      refine ⟨_, rfl, .inl ⟨rest, rfl, _, rfl, _, _, rfl, rfl, m0, ?_⟩⟩
      exact fin _ (t + 1) _ _ (mv2.trans (Mv.upd _ _ _)) upd_same (by omega) (by omega)
    · refine ⟨_, rfl, .inl ⟨cell, rfl, _, _, rfl, rfl, (by show (_ : Int) ≠ 0; decide), _, rfl, _, _, rfl, rfl, .inl ⟨by decide, by decide⟩, _, _, rfl, rfl, _, _, rfl, rfl, _, _, rfl, rfl, ⟨by decide, by decide, bnd5 (by decide) (by decide) h4 (by omega) (by decide) (by decide) (by decide) (by decide)⟩, .inl ⟨_, rfl, _, _, rfl, rfl, (by show (_ : Int) ≠ 0; decide), ?_⟩⟩⟩
      refine genIB (P := fun v => gName 5 v _ _ _) (by decide) (fun m1 m1a m1b => ?_)
      have m1c : m1 ≤ 4294967296 := Int.le_trans (Int.le_of_lt m1b) (by decide)
      refine ⟨_, rfl, _, rfl, _, _, rfl, rfl, .inl ⟨by decide, by decide⟩, _, _, rfl, rfl, _, _, rfl, rfl, .inl ⟨by omega, by omega⟩, _, rfl, _, _, rfl, rfl, .inl ⟨by decide, by decide⟩, _, rfl, _, _, rfl, rfl, .inr ⟨by omega, by omega⟩, _, _, rfl, rfl, _, _, rfl, rfl, _, _, rfl, rfl, ⟨by decide, by decide, bnd3 m1a m1c h4 (by omega) (by decide) (by decide) (by decide) (by decide) (by decide) (by decide)⟩, .inl ⟨_, rfl, _, _, rfl, rfl, (by show (_ : Int) ≠ 0; decide), ?_⟩⟩
      refine genI (P := fun v => gName 5 v _ _ _) (fun m2 => ?_)
      refine ⟨_, rfl, _, _, rfl, rfl, ⟨by decide, by decide⟩, .inl ⟨_, rfl, _, rfl, _, _, rfl, rfl, m0, ?_⟩⟩
      exact fin _ (t + 1) _ _ mv2 a2 (by omega) (by omega)
/-- one of some things -/
def sp_law_one_of (K : PySem.W.Frag) : Sp := fun vs H Q _ => ∃ (a b c : Addr) (xs : List V) (n : Nat), vs = [.ref a, .ref b] ∧ SqL K H b xs ∧ xs ≠ [] ∧ xs.length ≤ 1000000 ∧ Wh H a c n ∧ n < 1000000 ∧ (∀ H', Mv a H H' → SqL K H' b xs) ∧ ∀ (v : V) (H' : Hp), v ∈ xs → Mv a H H' → Wh H' a c (n + 1) → Q v H'
theorem ok_law_one_of : FnOk P w K mg base CX0 2 T.f_law_one_of T.fd_law_one_of ["shelf", "some"] (sp_law_one_of K) := by
  refine T.F_law_one_of.ok sc_law_one_of (fun vs H Q E h => ?_) (fun cdv A outer s H vs Q E hr h => ?_)
  · obtain ⟨a, b, c, xs, n, rfl, _⟩ := h
    rfl
  · obtain ⟨a, b, c, xs, n, rfl, hs, hx, hl, hw, hn, hm, q⟩ := h
    refine ⟨_, (pss_one (ps_ret (pe_ix ix_list (pv 1) (pe_call (ok_law_reach T) (hr.mono (by decide)) (by rfl) T.g_law_reach T.F_law_reach.kp T.b_law_reach .nil pass0 (pa_cons (pv 0) (pa_cons (pe_callB call_len_seq (by rfl) T.m_len PySem.boot_len (pa_cons (pv 1) pa_nil)) pa_nil))) (fun _ _ => rfl)))), ?_⟩
    have z : 0 < xs.length := by
      cases xs with
      | nil => exact absurd rfl hx
      | cons x t => simp
    refine ⟨_, rfl, _, rfl, _, rfl, b, xs, rfl, .inl hs, a, c, _, n, rfl, by omega, by omega, hw, hn, fun r H' r0 r1 mv w' => ?_⟩
    obtain ⟨v, hv, ev⟩ := at_lt r0 r1
    exact ⟨b, xs, r, v, rfl, rfl, hm _ mv, ev, q v H' hv mv w'⟩
def sp_law_shelf (K : PySem.W.Frag) : Sp := fun vs H Q _ => ∃ (b : Addr) (xs : List Int), vs = [.ref b] ∧ SqL K H b (xs.map V.int) ∧ ∀ (a c : Addr) (H' : Hp), H a = none → Same H H' → Wh H' a c 0 → Q (.ref a) H'
theorem ok_law_shelf : FnOk P w K mg base CX0 1 T.f_law_shelf T.fd_law_shelf ["script"] (sp_law_shelf K) := by
  refine T.F_law_shelf.ok sc_law_shelf (fun vs H Q E h => ?_) (fun cdv A outer s H vs Q E hr h => ?_)
  · obtain ⟨b, xs, rfl, _⟩ := h
    rfl
  · obtain ⟨b, xs, rfl, hs, q⟩ := h
    refine ⟨_, (pss_one (ps_ret (pe_lst (pa_cons (pe_lc (own := [("cell", 1)]) rfl sc_law_shelf.nd (pi_list (pe_slice sl_list (pv 0) po_none (po_some pe_int))) (blkOk_by (own := [("cell", 1)]) (N := ["script", "cell"]) (sc := defScope s_law_shelf) (by decide +kernel)) (fun _ _ _ _ _ => (pg_name (i := 1) sc_law_shelf.nd rfl (.inl rfl))) (fun _ _ _ _ _ => pts_nil) (fun _ _ _ _ _ => (pe_callTy call_int1 (by rfl) T.m_int (by decide +kernel) (pa_cons (pv 1) pa_nil)))) (pa_cons pe_int (pa_cons pe_int pa_nil)))))), ?_⟩
    refine ⟨_, rfl, _, rfl, b, _, rfl, hs, fun p np => ?_⟩
    have hc : cutV (xs.map V.int) none (some 60) = (xs.take 60).map V.int := by
      rw [List.map_take]
      exact cut_to _ 60
    rw [hc]
    refine ⟨p, rfl, ⟨_, .inl (.inl upd_same)⟩, fun D nD => lc_mapL id (.inl (.inl upd_same)) nD (by rw [List.length_map, List.length_take]; omega) (fun i x Hc Q' R' hx e1 q' => ?_) (fun Hc e1 hD => ?_)⟩
    · obtain ⟨j, _, rfl⟩ := List.mem_map.mp (List.mem_of_getElem? hx)
      refine ⟨rfl, ?_⟩
      refine iteT (B := True) ?_
      exact ⟨_, rfl, .inl ⟨j, rfl, q' Hc (Same.refl _)⟩⟩
    · rw [List.map_id] at hD
      have s0 := (same_new np).trans e1
      refine ⟨by show 3 ≤ sizeLine; decide, fun a na => q a D _ (s0.free na) (s0.trans (same_new na)) ⟨xs.take 60, 0, 0, upd_same, (same_new na) _ _ hD, ?_, by omega, by omega⟩⟩
      rw [List.length_take]
      omega
def abc : List Nat := (List.range 26).map (· + 97)
def sp_law_word (K : PySem.W.Frag) : Sp := fun vs H Q _ => ∃ (a c : Addr) (most letters : Int) (n : Nat), vs = [.ref a, .int most, .int letters] ∧ 1 ≤ most ∧ most ≤ 12 ∧ 1 ≤ letters ∧ letters ≤ 26 ∧ Wh H a c n ∧ n < 900000 ∧
  ∀ (l : List Nat) (H' : Hp), wordB l = true → Mv a H H' → Wh H' a c (n + 14) → Q (.str (S l)) H'
theorem ok_law_word : FnOk P w K mg base CX0 2 T.f_law_word T.fd_law_word ["shelf", "most", "letters"] (sp_law_word K) := by
  refine T.F_law_word.ok sc_law_word (fun vs H Q E h => ?_) (fun cdv A outer s H vs Q E hr h => ?_)
  · obtain ⟨a, c, m, l, n, rfl, _⟩ := h
    rfl
  · obtain ⟨a, c, most, letters, n, rfl, hm0, hm1, hl0, hl1, wh, hn, q⟩ := h
    refine ⟨_, (pss_one (ps_ret (pe_join pe_str (pe_lc (own := [("turn", 3)]) rfl sc_law_word.nd (pi_range1 (by rfl) T.m_range (pa_cons (pe_op op_add pe_int (pe_call (ok_law_reach T) (hr.mono (by decide)) (by rfl) T.g_law_reach T.F_law_reach.kp T.b_law_reach .nil pass0 (pa_cons (pv 0) (pa_cons (pv 1) pa_nil)))) pa_nil)) (blkOk_by (own := [("turn", 3)]) (N := ["shelf", "most", "letters", "turn"]) (sc := defScope s_law_word) (by decide +kernel)) (fun _ _ _ _ _ => (pg_name (i := 3) sc_law_word.nd rfl (.inl rfl))) (fun _ _ _ _ _ => pts_nil) (fun _ _ _ _ _ => (pe_ix ix_str pe_str (pe_call (ok_law_reach T) (hr.mono (by decide)) (by rfl) T.g_law_reach T.F_law_reach.kp T.b_law_reach .nil pass0 (pa_cons (pv 0) (pa_cons (pv 2) pa_nil))) (fun _ _ => rfl))))))), ?_⟩
    refine ⟨⟨_, rfl⟩, _, rfl, _, rfl, a, c, most, n, rfl, by omega, by omega, wh, by omega, fun k0 H1 k00 k01 m1 w1 => ⟨_, _, rfl, rfl, ?_⟩⟩
    obtain ⟨k, rfl⟩ : ∃ k : Nat, k0 = k := ⟨k0.toNat, by omega⟩
    refine ⟨1 + (k : Int), rfl, by omega, by omega, fun D nD => lc_range (lo := 0) (n := (1 + (k : Int)).toNat) (fun j H' => ∃ xs : List Nat, H' D = some (.lst (signsV xs)) ∧ Mv a H1 H' ∧ Wh H' a c (n + 1 + j) ∧ xs.length = j ∧ xs.all low = true)
      ⟨[], upd_same, Mv.of (same_new nD), w1.new nD, rfl, rfl⟩ (fun j Hd hj h => ?_) (fun Hd h => ?_)⟩
    · obtain ⟨xs, hD, m4, w4, lx, vx⟩ := h
      refine ⟨rfl, ?_⟩
      refine iteT (B := True) ?_
      refine ⟨_, rfl, _, rfl, a, c, letters, _, rfl, by omega, by omega, w4, by omega, fun r H5 r0 r1 m5 w5 => ?_⟩
      obtain ⟨r, rfl⟩ : ∃ z : Nat, r = z := ⟨r.toNat, by omega⟩
      have hr26 : r < 26 := by omega
      have hDa := w1.ne nD
      have ea : atI (Str.ofString "abcdefghijklmnopqrstuvwxyz").cps.toList (r : Int) = some (r + 97) := by
        have e : (Str.ofString "abcdefghijklmnopqrstuvwxyz").cps.toList = abc := by decide +kernel
        rw [e, at_nat (by unfold abc; simp; omega)]
        unfold abc
        simp
      refine ⟨_, (r : Int), r + 97, rfl, rfl, (show 26 ≤ sizeLine by decide), ea, ?_⟩
      refine ⟨_, m5 _ _ hDa hD, ?_, xs ++ [r + 97], ?_, ?_, ?_, ?_, ?_⟩
      · have e : (signsV xs).length = j := (List.length_map ..).trans lx
        rw [e]
        exact Nat.lt_of_lt_of_le (show j < 31 by omega) (by decide)
      · rw [upd_same]
        unfold signsV
        rw [List.map_append]
        rfl
      · intro b o' nb h
        rw [upd_ne (ne_of_none h nD)]
        exact (m4.trans m5) b o' nb h
      · exact (w5.lt (show n + 1 + j + 1 ≤ n + 1 + (j + 1) by omega)).set hDa (w1.nc nD)
      · rw [List.length_append, lx]
        rfl
      · rw [List.all_append, vx]
        have : low (r + 97) = true := by
          unfold low
          rw [decide_eq_true (by omega), decide_eq_true (by omega)]
          rfl
        simp [this]
    · obtain ⟨xs, hD, m4, w4, lx, vx⟩ := h
      rw [signs_map] at hD
      refine ⟨"", D, xs.map fun c => S [c], rfl, rfl, .inl (.inl (.inl hD)), ?_, ?_⟩
      · rw [sum_signs, List.length_map]
        show xs.length + xs.length * 0 ≤ 16777216
        omega
      rw [join_signs]
      refine q xs Hd ?_ (m1.trans m4) (w4.lt (by omega))
      unfold wordB lowB
      have l1 : xs.length = 1 + k := by omega
      rw [decide_eq_true (show xs.length ≤ 12 by omega), vx]
      cases xs with
      | nil =>
        rw [List.length_nil] at l1
        omega
      | cons x t => rfl
def WordsAt (K : PySem.W.Frag) (H : Hp) (p : Addr) (ws : List (List Nat)) : Prop := H p = some (.lst (ws.map tx)) ∧ 1 ≤ ws.length ∧ ws.length ≤ 40 ∧ (∀ w ∈ ws, wordB w = true) ∧ ws.Nodup
def sp_law_words (K : PySem.W.Frag) : Sp := fun vs H Q _ => ∃ (a c : Addr) (many most letters : Int) (n : Nat), vs = [.ref a, .int many, .int most, .int letters] ∧ 1 ≤ many ∧ many ≤ 40 ∧ 1 ≤ most ∧ most ≤ 12 ∧ 1 ≤ letters ∧ letters ≤ 26 ∧ Wh H a c n ∧ n < 800000 ∧
  ∀ (p : Addr) (ws : List (List Nat)) (H' : Hp), WordsAt K H' p ws → p ≠ a → Mv a H H' → Wh H' a c (n + 600) → Q (.ref p) H'
theorem ok_law_words : FnOk P w K mg base CX0 3 T.f_law_words T.fd_law_words ["shelf", "many", "most", "letters"] (sp_law_words K) := by
  refine T.F_law_words.ok sc_law_words (fun vs H Q E h => ?_) (fun cdv A outer s H vs Q E hr h => ?_)
  · obtain ⟨a, c, m, m2, l, n, rfl, _⟩ := h
    rfl
  · obtain ⟨a, c, many, most, letters, n, rfl, hy0, hy1, hm0, hm1, hl0, hl1, wh, hn, q⟩ := h
    refine ⟨_, (pss_cons (ps_set (i := 4) sc_law_words.nd rfl (.inl rfl) (pe_lst pa_nil))
    (pss_cons (ps_for PassesOwn.never rfl (pi_range1 (by rfl) T.m_range (pa_cons (pv 1) pa_nil)) (pg_name (i := 5) sc_law_words.nd rfl (.inl rfl))
      (pss_cons (ps_set (i := 6) sc_law_words.nd rfl (.inl rfl) (pe_call (ok_law_word T) (hr.mono (by decide)) (by rfl) T.g_law_word T.F_law_word.kp T.b_law_word .nil pass0 (pa_cons (pv 0) (pa_cons (pv 2) (pa_cons (pv 3) pa_nil)))))
      (pss_one (ps_if (pt_cmpR op_notIn_seq (pv 6) (pv 4) rfl)
        (pss_one (ps_expr (pe_bm PySem.F.plainAttrs_list PySem.F.slot_list_append PySem.F.type_list_append mt_append (pv 4) (pa_cons (pv 6) pa_nil))))
        pss_nil))))
    (pss_one (ps_ret (pv 4))))), ?_⟩
    obtain ⟨k, rfl⟩ : ∃ k : Nat, many = k := ⟨many.toNat, by omega⟩
    refine ⟨Nat.zero_le _, fun D nD => ?_⟩
    have hDa := wh.ne nD
    refine ⟨_, rfl, k, rfl, by omega, by omega, for_range (lo := 0) (n := (k : Int).toNat) (fun i σ H' => ∃ (o5 o6 : Option V) (ws : List (List Nat)), σ = [some (.ref a), some (.int k), some (.int most), some (.int letters), some (.ref D), o5, o6] ∧ H' D = some (.lst (ws.map tx)) ∧ (i = 0 ∨ 1 ≤ ws.length) ∧ ws.length ≤ i ∧ (∀ w ∈ ws, wordB w = true) ∧ ws.Nodup ∧ Mv a H H' ∧ Wh H' a c (n + 14 * i))
      ⟨none, none, [], rfl, upd_same, .inl rfl, Nat.le_refl _, (fun _ m => by cases m), List.nodup_nil, Mv.of (same_new nD), wh.new nD⟩ (fun i σ' Hc hi h => ?_) (fun σ' Hc h => ?_)⟩
    · obtain ⟨o5, o6, ws, rfl, hD, h0, h1, h2, h3, mv, w⟩ := h
      refine ⟨_, rfl, _, rfl, _, rfl, a, c, most, letters, _, rfl, hm0, hm1, hl0, hl1, w, by omega, fun l H2 hl mv2 w2 => ?_⟩
      have hD2 := mv2 _ _ hDa hD
      have fl : (ws.map tx).all flatV = true := by
        rw [List.all_map, List.all_eq_true]
        exact fun w _ => rfl
      refine ⟨_, rfl, _, rfl, D, _, rfl, .inl (.inl (.inl hD2)), rfl, fl, _, rfl, ?_⟩
      show if (!inV (.str (S l)) (ws.map tx)) = true then _ else _
      by_cases hm : inV (.str (S l)) (ws.map tx) = true
      · rw [hm]
        refine iteF (A := _) ?_
        refine ⟨_, _, ws, rfl, hD2, .inr ?_, by omega, h2, h3, mv.trans mv2, w2.lt (by omega)⟩
        obtain ⟨w, hw, _⟩ := (inV_texts ws).mp hm
        cases ws with
        | nil => cases hw
        | cons _ _ => simp
      · have hm' : inV (.str (S l)) (ws.map tx) = false := by simpa using hm
        rw [hm']
        refine iteT (B := _) ?_
        refine ⟨_, rfl, .inl ⟨rfl, _, .inl (.inl hD2)⟩, _, rfl, D, _, _, rfl, rfl, hD2, ?_, ?_⟩
        · rw [List.length_map]
          exact Nat.lt_of_lt_of_le (show ws.length < 41 by omega) (by decide)
        · refine ⟨_, _, ws ++ [l], rfl, ?_, .inr (by rw [List.length_append]; simp), by rw [List.length_append]; simp; omega, fun w hw => ?_, ?_, ?_, ?_⟩
          · rw [upd_same, List.map_append]
            rfl
          · rcases List.mem_append.mp hw with z | z
            · exact h2 w z
            · rw [List.mem_singleton.mp z]
              exact hl
          · refine List.nodup_append.mpr ⟨h3, by simp, fun x hx y hy e => ?_⟩
            rw [List.mem_singleton.mp hy] at e
            exact hm ((inV_texts ws).mpr ⟨x, hx, by rw [e]⟩)
          · intro b o' nb h
            rw [upd_ne (ne_of_none h nD)]
            exact (mv.trans mv2) b o' nb h
          · exact (w2.lt (show n + 14 * i + 14 ≤ n + 14 * (i + 1) by omega)).set hDa (wh.nc nD)
    · obtain ⟨o5, o6, ws, rfl, hD, h0, h1, h2, h3, mv, w⟩ := h
      exact ⟨_, rfl, q D ws Hc ⟨hD, by omega, by omega, h2, h3⟩ hDa mv (w.lt (by omega))⟩
end
end K09
namespace K09
open PySem PySem.Spec PyProof.Rows L2 Kx SX LamX
/-- the part of an error of one of two classes, with its word; None without one -/
def TTh (CB CW : Addr) : (XK → Hp → VK → Prop) → Hp → VK → Prop := fun tl H Q => ∀ N : VK, (∀ v H', (∀ H'', Same H' H'' → Q .non H'') → N v H') →
  tl (fun cls d H' => ∃ (dd : Addr) (p : V), (cls = .ref CB ∨ cls = .ref CW) ∧ d = some dd ∧ H' dd = some (.xd [("part", p)]) ∧ ∀ t H'', Same H' H'' → H'' t = some (.tup [.str (if cls = .ref CB then "book" else "word"), p]) → Q (.ref t) H'') H N
/-- how isinstance answers for the three classes -/
structure KitA (K : PySem.W.Frag) (D kT kB kW : Addr) (bB bW : Bool) : Prop where
  t : PySem.W.kitOne K (.ref D) (.ref kT) = some false
  b : PySem.W.kitOne K (.ref D) (.ref kB) = some bB
  w : PySem.W.kitOne K (.ref D) (.ref kW) = some bW
  one : bB = true ∨ bW = true
theorem kitA_B {K : PySem.W.Frag} {mg : Str → Option Value} (T : Tx K mg) : KitA K T.e_BadBook.C T.k_TooMany T.e_BadBook.C T.e_BadWord.C true false := by
  have eB : T.e_BadBook.C = T.k_BadBook := same_ref T.e_BadBook.gC T.gk_BadBook
  have eW : T.e_BadWord.C = T.k_BadWord := same_ref T.e_BadWord.gC T.gk_BadWord
  refine ⟨?_, kitOne_self, ?_, .inl rfl⟩
  · rw [eB]
    exact kitOne_other T.kc_TooMany T.kt_TooMany T.su_BadBook_TooMany T.su_BadBook_BadBook
  · rw [eB, eW]
    exact kitOne_other T.kc_BadWord T.kt_BadWord T.su_BadBook_BadWord T.su_BadBook_BadBook
theorem kitA_W {K : PySem.W.Frag} {mg : Str → Option Value} (T : Tx K mg) : KitA K T.e_BadWord.C T.k_TooMany T.e_BadBook.C T.e_BadWord.C false true ∧ T.e_BadWord.C ≠ T.e_BadBook.C := by
  have eB : T.e_BadBook.C = T.k_BadBook := same_ref T.e_BadBook.gC T.gk_BadBook
  have eW : T.e_BadWord.C = T.k_BadWord := same_ref T.e_BadWord.gC T.gk_BadWord
  refine ⟨⟨?_, ?_, kitOne_self, .inr rfl⟩, ?_⟩
  · rw [eW]
    exact kitOne_other T.kc_TooMany T.kt_TooMany T.su_BadWord_TooMany T.su_BadWord_BadWord
  · rw [eB, eW]
    exact kitOne_other T.kc_BadBook T.kt_BadBook T.su_BadWord_BadBook T.su_BadWord_BadWord
  · rw [eB, eW]
    intro e
    have h1 := T.su_BadWord_BadBook
    have h2 := T.su_BadWord_BadWord
    rw [← e, h2] at h1
    cases h1
theorem heard_gives {X : Cx} (T : Tx X.K X.mg) {q : Str} {g : Addr} {cdg : Value} : GivesTo X ["ask", "caught", "error", "told", "word", "is_so"] "_law_heard" (defScope s_law_heard) g cdg (defBody s_law_heard) "ask" q (TTh T.e_BadBook.C T.e_BadWord.C) := by
  intro f c' s H Q tl act hc h
  have hr := (0 : Nat)
  refine ⟨_, pss_cons (ps_set (i := 1) sc_law_heard.nd rfl (.inl rfl) pe_non) (pss_cons (ps_keep (X := (cxOf C8.CX0 X.prog X.w X.K X.mg X.base ["ask", "caught", "error", "told", "word", "is_so"] "_law_heard" (defScope s_law_heard) g cdg X.A X.stack s H C8.E0).nox) (c := .ref T.e_BadBook.L) (i := 2) (j := 1) (n := "error") (y := "caught")
      (tb := fun W D σ H => ∃ Ech : XK, (∀ cls d σ' H', Ech cls d H' → W cls d σ' H') ∧ σ[0]? = some (some (.ref f)) ∧ H c' = some (CodeO c' q) ∧ tl Ech H fun _ H' => D.nx σ H')
      rfl rfl rfl sc_law_heard.nd rfl rfl rfl rfl rfl ⟨rfl, by decide, .inl T.e_BadBook.gL⟩ (by decide) (by decide) (fun W pn xe tk _ => ?_))
      (pss_cons (ps_if (pt_val (pe_callB call_isiX (by rfl) T.m_isinstance (by decide +kernel) (pa_cons (pv 1) (pa_cons (pe_glob (v := .ref T.k_TooMany) (by rfl) T.gk_TooMany rfl) pa_nil))))
      (pss_one (ps_ret (pe_tup (pa_cons (pe_xp (pv 1)) (pa_cons (pe_xp (pv 1)) pa_nil)))))
      pss_nil)
    (pss_cons (ps_set (i := 3) sc_law_heard.nd rfl (.inl rfl) (pe_lst (pa_cons (pe_tup (pa_cons pe_str (pa_cons (pe_callB call_isiX (by rfl) T.m_isinstance (by decide +kernel) (pa_cons (pv 1) (pa_cons (pe_glob (v := .ref T.e_BadBook.C) (by rfl) T.e_BadBook.gC rfl) pa_nil))) pa_nil))) (pa_cons (pe_tup (pa_cons pe_str (pa_cons (pe_callB call_isiX (by rfl) T.m_isinstance (by decide +kernel) (pa_cons (pv 1) (pa_cons (pe_glob (v := .ref T.e_BadWord.C) (by rfl) T.e_BadWord.gC rfl) pa_nil))) pa_nil))) pa_nil))))
    (pss_cons (ps_for PassesOwn.never rfl (pi_list (pv 3)) (pg_tup rfl (pgs_cons (pg_name (i := 4) sc_law_heard.nd rfl (.inl rfl)) (pgs_cons (pg_name (i := 5) sc_law_heard.nd rfl (.inl rfl)) pgs_nil)))
      (pss_one (ps_if (pt_val (pv 5))
        (pss_one (ps_ret (pe_tup (pa_cons (pv 4) (pa_cons (pe_xp (pv 1)) pa_nil)))))
        pss_nil)))
    (pss_one (ps_ret (pe_ifExp (pt_cmpR op_isN (pv 1) pe_non (nomark _)) pe_non (pe_tup (pa_cons pe_str (pa_cons pe_non pa_nil)))))))))), ?_⟩
  · refine ⟨fun pins s' σ H' D I h' => ?_⟩
    obtain ⟨Ech, hW, h1, h2, h3⟩ := h'
    exact (pss_one (ps_expr (act W pn xe Ech _ _ tk hW))).run pins s' σ H' D I ⟨h1, h2, h3⟩
  · refine go_seq (go_asg (go_c ?_))
    dsimp only [gName]
    refine go_seq ⟨_, fun cls d σ' H' h' => ?_, rfl, hc, h _ fun v H' hq => ?_⟩
    · obtain ⟨dd, p, hcls, rfl, hd, hq⟩ := h'
      obtain ⟨D, bB, bW, rfl, kt, ex, xf, np, em, ew⟩ : ∃ (D : Addr) (bB bW : Bool), cls = .ref D ∧ KitA X.K D T.k_TooMany T.e_BadBook.C T.e_BadWord.C bB bW ∧ ExcC X.K D ∧ XfC X.K D ∧ PySem.W.findIn X.K (.ref D) "part" = some none ∧ PySem.W.exmOne X.K (.ref D) (.ref T.e_BadBook.L) = some true ∧
          (Value.ref D = .ref T.e_BadBook.C ∧ bB = true ∨ ¬ Value.ref D = .ref T.e_BadBook.C ∧ bB = false) := by
        rcases hcls with rfl | rfl
        · exact ⟨_, true, false, rfl, kitA_B T, T.e_BadBook.exc, T.e_BadBook.xf, T.e_BadBook.np, T.e_BadBook.em, .inl ⟨rfl, rfl⟩⟩
        · have eL : T.e_BadWord.L = T.e_BadBook.L := same_ref T.e_BadWord.gL T.e_BadBook.gL
          exact ⟨_, false, true, rfl, (kitA_W T).1, T.e_BadWord.exc, T.e_BadWord.xf, T.e_BadWord.np, eL ▸ T.e_BadWord.em, .inr ⟨fun e => (kitA_W T).2 (by injection e), rfl⟩⟩
      refine ⟨em, fun a na hl => ?_⟩
      have hd1 := same_new (o := exT a (.ref D) (some dd)) na _ _ hd
      have s0 := same_new (o := exT a (.ref D) (some dd)) na
      match σ', hl with
      | [x0, x1, x2, x3, x4, x5], _ =>
        dsimp only
        refine go_seq (go_if (go_b ?_))
        refine ⟨_, rfl, .inr ⟨a, D, dd, _, .ref T.k_TooMany, .ref T.k_TooMany, false, rfl, upd_same, hd1, ex, fun u r => r, kt.t, _, rfl, iteF (A := _) ?_⟩⟩
        dsimp only [tNext]
        refine go_seq (go_asg ?_)
        refine ⟨_, rfl, .inr ⟨a, D, dd, _, .ref T.e_BadBook.C, .ref T.e_BadBook.C, bB, rfl, upd_same, hd1, ex, fun u r => r, kt.b, sz2, fun t1 n1 => ?_⟩⟩
        have s1 := same_new (o := HO.tup [.str "book", .bl bB]) n1
        refine ⟨_, rfl, .inr ⟨a, D, dd, _, .ref T.e_BadWord.C, .ref T.e_BadWord.C, bW, rfl, s1 _ _ upd_same, s1 _ _ hd1, ex, fun u r => r, kt.w, sz2, fun t2 n2 => ⟨sz2, fun pl n3 => ?_⟩⟩⟩
        have s2 := same_new (o := HO.tup [.str "word", .bl bW]) n2
        have s3 := same_new (o := HO.lst [.ref t1, .ref t2]) n3
        have s23 := s2.trans s3
        have s13 := s1.trans s23
        have ha := s13 _ _ (upd_same (H := H') (a := a) (o := exT a (.ref D) (some dd)))
        have hd3 := s13 _ _ hd1
        have ht1 := s23 _ _ (upd_same (H := upd H' a (exT a (.ref D) (some dd))) (a := t1) (o := HO.tup [.str "book", .bl bB]))
        have ht2 := s3 _ _ (upd_same (a := t2) (o := HO.tup [.str "word", .bl bW]))
        have hpl := upd_same (H := upd (upd (upd H' a (exT a (.ref D) (some dd))) t1 (HO.tup [.str "book", .bl bB])) t2 (HO.tup [.str "word", .bl bW])) (a := pl) (o := HO.lst [.ref t1, .ref t2])
        have sA := s0.trans s13
        generalize upd (upd (upd (upd H' a (exT a (.ref D) (some dd))) t1 (HO.tup [.str "book", .bl bB])) t2 (HO.tup [.str "word", .bl bW])) pl (HO.lst [.ref t1, .ref t2]) = H4 at ha hd3 ht1 ht2 hpl sA ⊢
        clear s1 s2 s3 s23 s13 n1 n2 n3 hd1 s0
        dsimp only [gName]
        have fin : ∀ (wd : Str) (H5 : Hp), Same H4 H5 → wd = (if Value.ref D = .ref T.e_BadBook.C then ("book" : Str) else ("word" : Str)) → ∀ t, H5 t = none → Q (.ref t) (upd H5 t (.tup [.str wd, p])) := fun wd H5 e5 ewd t nt =>
          hq t _ ((sA.trans e5).trans (same_new nt)) (by rw [upd_same, ewd])
        refine go_seq ⟨_, rfl, pl, rfl, ⟨_, .inl (.inl hpl)⟩, for_list (xs := [V.ref t1, V.ref t2]) (fun i σ H5 => ∃ o4 o5, σ = [x0, some (.ref a), none, some (.ref pl), o4, o5] ∧ Same H4 H5 ∧ (1 ≤ i → bB = false) ∧ (2 ≤ i → bW = false))
          ⟨x4, x5, rfl, Same.refl _, fun h => absurd h (by decide), fun h => absurd h (by decide)⟩ (fun i σ2 H5 _ h => ?_) (fun i v σ2 H5 hv h => ?_) (fun σ2 H5 h => ?_)⟩
        · obtain ⟨_, _, _, e, _⟩ := h
          exact .inl (.inl (e _ _ hpl))
        · obtain ⟨o4, o5, rfl, e5, hB, hW⟩ := h
          have hi : i = 0 ∨ i = 1 := by
            have := (List.getElem?_eq_some_iff.mp hv).1
            simp at this
            omega
          rcases hi with rfl | rfl
          · cases hv
            refine ⟨t1, _, rfl, .inl (.inl (e5 _ _ ht1)), rfl, _, _, rfl, _, _, rfl, rfl, ?_⟩
            refine ⟨_, rfl, _, rfl, iteC (fun hb => ?_) (fun hb => ?_)⟩
            · refine ⟨_, rfl, _, rfl, a, D, dd, _, p, rfl, e5 _ _ ha, e5 _ _ hd3, xf, np, rfl, sz2, fun t nt => fin _ H5 e5 ?_ t nt⟩
              rcases ew with ⟨e, _⟩ | ⟨_, e⟩
              · rw [if_pos e]
              · rw [e] at hb
                cases hb
            · exact ⟨_, _, rfl, e5, fun _ => hb, fun h => absurd h (by decide)⟩
          · cases hv
            refine ⟨t2, _, rfl, .inl (.inl (e5 _ _ ht2)), rfl, _, _, rfl, _, _, rfl, rfl, ?_⟩
            refine ⟨_, rfl, _, rfl, iteC (fun hb => ?_) (fun hb => ?_)⟩
            · refine ⟨_, rfl, _, rfl, a, D, dd, _, p, rfl, e5 _ _ ha, e5 _ _ hd3, xf, np, rfl, sz2, fun t nt => fin _ H5 e5 ?_ t nt⟩
              rcases ew with ⟨_, e⟩ | ⟨e, _⟩
              · rw [hB (Nat.le_refl 1)] at e
                cases e
              · rw [if_neg e]
            · exact ⟨_, _, rfl, e5, fun _ => hB (Nat.le_refl 1), fun _ => hb⟩
        · obtain ⟨o4, o5, rfl, e5, hB, hW⟩ := h
          have h1 := hB (show 1 ≤ 2 by decide)
          have h2 := hW (show 2 ≤ 2 by decide)
          rcases kt.one with z | z
          · rw [h1] at z
            cases z
          · rw [h2] at z
            cases z
    · dsimp only
      refine go_seq (go_if (go_b ?_))
      have no : ∀ (kX : Addr), PySem.W.isClsIn X.K kX = true → PySem.W.typeIn X.K (.ref kX) = some (.type "type") → PySem.W.kitOne X.K (.type "NoneType") (.ref kX) = some false := fun kX h1 h2 => kitOne_no h1 h2 sub_non
      have eB : T.e_BadBook.C = T.k_BadBook := same_ref T.e_BadBook.gC T.gk_BadBook
      have eW : T.e_BadWord.C = T.k_BadWord := same_ref T.e_BadWord.gC T.gk_BadWord
      have kB : PySem.W.kitOne X.K (.type "NoneType") (.ref T.e_BadBook.C) = some false := by
        rw [eB]
        exact no _ T.kc_BadBook T.kt_BadBook
      have kW : PySem.W.kitOne X.K (.type "NoneType") (.ref T.e_BadWord.C) = some false := by
        rw [eW]
        exact no _ T.kc_BadWord T.kt_BadWord
      refine ⟨_, rfl, .inl ⟨.non, .ref T.k_TooMany, _, _, false, rfl, .own _, .base .non, no _ T.kc_TooMany T.kt_TooMany, _, rfl, iteF (A := _) ?_⟩⟩
      dsimp only [tNext]
      refine go_seq (go_asg ?_)
      refine ⟨_, rfl, .inl ⟨.non, .ref T.e_BadBook.C, _, _, false, rfl, .own _, .base .non, kB, sz2, fun t1 n1 => ?_⟩⟩
      refine ⟨_, rfl, .inl ⟨.non, .ref T.e_BadWord.C, _, _, false, rfl, .own _, .base .non, kW, sz2, fun t2 n2 => ⟨sz2, fun pl n3 => ?_⟩⟩⟩
      have s1 := same_new (o := HO.tup [.str "book", .bl false]) n1
      have s2 := same_new (o := HO.tup [.str "word", .bl false]) n2
      have s3 := same_new (o := HO.lst [.ref t1, .ref t2]) n3
      have s23 := s2.trans s3
      have ht1 := s23 _ _ (upd_same (H := H') (a := t1) (o := HO.tup [.str "book", .bl false]))
      have ht2 := s3 _ _ (upd_same (a := t2) (o := HO.tup [.str "word", .bl false]))
      have hpl := upd_same (H := upd (upd H' t1 (HO.tup [.str "book", .bl false])) t2 (HO.tup [.str "word", .bl false])) (a := pl) (o := HO.lst [.ref t1, .ref t2])
      have sA := s1.trans s23
      generalize upd (upd (upd H' t1 (HO.tup [.str "book", .bl false])) t2 (HO.tup [.str "word", .bl false])) pl (HO.lst [.ref t1, .ref t2]) = H4 at ht1 ht2 hpl sA ⊢
      clear s1 s2 s3 s23 n1 n2 n3
      dsimp only [gName]
      refine go_seq ⟨_, rfl, pl, rfl, ⟨_, .inl (.inl hpl)⟩, for_list (xs := [V.ref t1, V.ref t2]) (fun i σ H5 => ∃ o4 o5, σ = [some (.ref f), some .non, none, some (.ref pl), o4, o5] ∧ Same H4 H5)
        ⟨none, none, rfl, Same.refl _⟩ (fun i σ2 H5 _ h => ?_) (fun i v σ2 H5 hv h => ?_) (fun σ2 H5 h => ?_)⟩
      · obtain ⟨_, _, _, e⟩ := h
        exact .inl (.inl (e _ _ hpl))
      · obtain ⟨o4, o5, rfl, e5⟩ := h
        have hi : i = 0 ∨ i = 1 := by
          have := (List.getElem?_eq_some_iff.mp hv).1
          simp at this
          omega
        rcases hi with rfl | rfl
        · cases hv
          exact ⟨t1, _, rfl, .inl (.inl (e5 _ _ ht1)), rfl, _, _, rfl, _, _, rfl, rfl, _, rfl, _, rfl, iteF (A := _) ⟨_, _, rfl, e5⟩⟩
        · cases hv
          exact ⟨t2, _, rfl, .inl (.inl (e5 _ _ ht2)), rfl, _, _, rfl, _, _, rfl, rfl, _, rfl, _, rfl, iteF (A := _) ⟨_, _, rfl, e5⟩⟩
      · obtain ⟨o4, o5, rfl, e5⟩ := h
        exact ⟨_, rfl, rfl, _, rfl, iteT (B := _) (hq _ (sA.trans e5))⟩
end K09
namespace K09
open PySem PySem.Spec PyProof.Rows L2 Kx SX LamX
section
variable {P : Program} {w : World} {K : PySem.W.Frag} {mg : Str → Option Value} {base : Heap} (T : Tx K mg)
theorem kb_Book_init_0_words : KBn K T.fd_Book_init ["self", "words"] 1 ["words"] selfG selfG := kbn_self T.F_Book_init fun _ _ _ _ _ _ _ _ => rfl
theorem kb_Book_number_0_word : KBinds K T.fd_Book_number ["self", "word"] ["word"] selfG selfG := kb_self T.F_Book_number fun _ _ _ _ _ _ _ _ => rfl
theorem nodup_at : ∀ {ws : List (List Nat)} {i j : Nat} {w : List Nat}, ws.Nodup → ws[i]? = some w → ws[j]? = some w → i = j
  | [], _, _, _, _, h, _ => by cases h
  | x :: r, 0, 0, _, _, _, _ => rfl
  | x :: r, 0, j + 1, w, nd, h1, h2 => by
    rw [List.nodup_cons] at nd
    cases h1
    have h2' : r[j]? = some x := h2
    exact absurd (List.mem_of_getElem? h2') nd.1
  | x :: r, i + 1, 0, w, nd, h1, h2 => by
    rw [List.nodup_cons] at nd
    cases h2
    have h1' : r[i]? = some x := h1
    exact absurd (List.mem_of_getElem? h1') nd.1
  | x :: r, i + 1, j + 1, w, nd, h1, h2 => by
    rw [List.nodup_cons] at nd
    rw [nodup_at nd.2 h1 h2]
theorem reach_le : ∀ (ws : List (List Nat)), (∀ w ∈ ws, w.length ≤ 12) → reachA 0 ws ≤ 13 * ws.length
  | [], _ => Nat.le_refl _
  | x :: r, h => by
    have h1 := h x List.mem_cons_self
    have h2 := reach_le r fun w m => h w (List.mem_cons_of_mem _ m)
    have e : reachA 0 (x :: r) = x.length + 1 + reachA 0 r := by
      show reachA (0 + x.length + 1) r = _
      rw [reachA_add]
      omega
    rw [e, List.length_cons]
    omega
theorem word_cd {l : List Nat} (h : wordB l = true) : cdC l ∧ l.length ≤ 12 ∧ 1 ≤ l.length := by
  unfold wordB lowB at h
  simp only [Bool.and_eq_true, decide_eq_true_eq] at h
  refine ⟨low_cd h.2.2, h.1, ?_⟩
  cases l with
  | nil => simp at h
  | cons _ _ => simp
/-- texts, one behind another, shown as a tuple -/
theorem sh_words {ws : List (List Nat)} (hw : ∀ w ∈ ws, wordB w = true) (hl : ws.length ≤ 40) : Sh 1 600 (.tuple (ws.map fun l => PyData.str (S l))) := by
  have h := (shA_texts (k := 0) ws fun w m => (word_cd (hw w m)).1).tup
  refine h.up (Nat.le_refl _) ?_
  have := reach_le ws fun w m => (word_cd (hw w m)).2.1
  omega
theorem dp_words {ws : List (List Nat)} {H : Hp} {t : Addr} (h : SqT K H t (ws.map tx)) : Dp K H (.ref t) (.tuple (ws.map fun l => PyData.str (S l))) := .tup h (dpAll_map _ fun w _ => .str (S w))
theorem str_tx {H : Hp} {w : List Nat} (h : wordB w = true) : StrIs K H (tx w) (txtV (tx w)) := by
  rw [txt_tx]
  have := (word_cd h).2.1
  exact ⟨rfl, by omega⟩
theorem last_at : ∀ {ws : List (List Nat)}, 1 ≤ ws.length → ∃ wl, ws[ws.length - 1]? = some wl ∧ atI (ws.map tx) (-1) = some (tx wl) := fun {ws} h => by
  rcases nil_or_snoc ws with rfl | ⟨ini, wl, rfl⟩
  · cases h
  · refine ⟨wl, by simp, ?_⟩
    rw [List.map_append]
    exact atI_last _ _
theorem rev_ne {ws : List (List Nat)} (h : 2 ≤ ws.length) (nd : ws.Nodup) : ws ≠ ws.reverse := fun e => by
  obtain ⟨w, hw⟩ : ∃ w, ws[0]? = some w := ⟨_, List.getElem?_eq_getElem (by omega)⟩
  have h2 : ws[ws.length - 1]? = some w := by
    have h3 : ws.reverse[0]? = some w := by rw [← e]; exact hw
    rw [List.getElem?_reverse (by omega)] at h3
    exact h3
  have := nodup_at nd hw h2
  omega
theorem BookAt.mv {C a c p : Addr} {n : Nat} {H H' : Hp} {ws : List (List Nat)} (w : Wh H a c n) (m : Mv a H H') (h : BookAt K C H p ws) : BookAt K C H' p ws := by
  obtain ⟨cs, x, l', g1, _⟩ := w
  obtain ⟨dx, t, h1, h2, h3⟩ := h
  refine ⟨dx, t, m _ _ (ne_of_two h1 g1 (fun z => by cases z)) h1, ?_, ?_⟩
  · rcases h2 with (h | ⟨ob, h⟩) | h
    · exact .inl (.inl (m _ _ (ne_of_two h g1 (fun z => by cases z)) h))
    · exact .inl (.inr ⟨ob, m _ _ (ne_of_two h g1 (fun z => by cases z)) h⟩)
    · exact .inr h
  · rcases h3 with ⟨ob, ys, h, d⟩ | h
    · exact .inl ⟨ob, ys, m _ _ (ne_of_two h g1 (fun z => by cases z)) h, d⟩
    · exact .inr h
theorem str_any {H : Hp} (y : Str) (h : y.length ≤ 1000000) : StrIs K H (.str y) (txtV (.str y)) := by
  show V.str y = V.str (S y.cps.toList) ∧ _
  refine ⟨by rw [S_of], ?_⟩
  rw [Array.length_toList]
  exact h
theorem str_no {H : Hp} {v : V} {n : String} (h : txtV v = none) (t : TyX K H v (.type n)) (k : kitB n "str" = some false) : StrIs K H v (txtV v) := by
  rw [h]
  exact ⟨n, t, k⟩
def sp_law_book_right (K : PySem.W.Frag) (TT : List (Addr × Str)) : Sp := fun vs H Q _ => ∃ (a c b : Addr) (ws : List (List Nat)) (n : Nat), vs = [.ref a, .ref b] ∧ WordsAt K H b ws ∧ b ≠ a ∧ Wh H a c n ∧ n < 800000 ∧ Tabs TT H ∧ ∀ H', ExtN (core a H) H' → Wh H' a c (n + 10) → Tabs TT H' → Q (.bl true) H'
theorem ok_law_book_right {c Pt : Addr} (FC : FunC K "_law_book_right" "_law_book_right" s_law_book_right T.f_law_book_right T.fd_law_book_right c) (TB : TabB base mg c Pt) {TT : List (Addr × Str)} (hm : (Pt, ("_law_book_right.<locals>.<lambda>" : Str)) ∈ TT) (hu : ∀ p ∈ TT, p.1 = Pt → p.2 = "_law_book_right.<locals>.<lambda>") : FnG P w K mg base CX0 13 T.f_law_book_right T.fd_law_book_right ["shelf", "words"] (sp_law_book_right K TT) := by
  obtain ⟨oc, od, kV, doc, pm, an, cdv, ct, osl, efd, lk, hcd⟩ := T.F_law_heard.ex
  rw [efd] at lk
  have hbd : Binds K _ ["ask"] [] := efd ▸ T.b_law_heard
  refine okC FC sc_law_book_right (fun vs H Q E h => ?_) (fun A outer s H vs Q E hg hr h => ?_)
  · obtain ⟨a, c, b, ws, n, rfl, _⟩ := h
    rfl
  · obtain ⟨a, wc, b, ws, n, rfl, hW, hba, wh, hn, hT, q⟩ := h
    refine ⟨_, (pss_cons (ps_set (i := 2) sc_law_book_right.nd rfl (.inl rfl) (pe_callTy call_list_of (by rfl) T.m_list (by decide +kernel) (pa_cons (pv 1) pa_nil)))
    (pss_cons (ps_set (i := 3) sc_law_book_right.nd rfl (.inr rfl) (pe_make T.mk_Book (ok_Book_init T) (hr.mono (by decide)) (by rfl) T.gC_Book T.b_Book_init .nil passF (pa_cons (pv 2) pa_nil)))
    (pss_cons (ps_expr (pe_bm PySem.F.plainAttrs_list PySem.F.slot_list_append PySem.F.type_list_append mt_append (pv 2) (pa_cons pe_str pa_nil)))
    (pss_cons (ps_asg pe_str (pg_sub (pv 2) pe_int set_list))
    (pss_cons (ps_if (PW.pt (pw_or (pt_cmpR op_ne (pe_callB (call_reprD hg hr.units) (by rfl) T.m_repr (by decide +kernel) (pa_cons (pe_fld (pv 3) rfl) pa_nil)) (pe_callB (call_reprD hg hr.units) (by rfl) T.m_repr (by decide +kernel) (pa_cons (pe_callTy call_tuple_frz (by rfl) T.m_tuple (by decide +kernel) (pa_cons (pv 1) pa_nil)) pa_nil)) (nomark _)) (pw_or (pt_cmpR (op_neI (ok_Book_eq T) T.b_Book_eq (hr.mono (by decide)) T.me_Book_eq.at_ T.me_Book_eq.fn T.ob_Book T.ne_Book) (pv 3) (pe_makeK0 T.mk_Book (ok_Book_init T) (hr.mono (by decide)) (by rfl) T.gC_Book (kb_Book_init_0_words T) passF (pk_cons (pe_callTy call_tuple_frz (by rfl) T.m_tuple (by decide +kernel) (pa_cons (pv 1) pa_nil)) pk_nil)) (nomark _)) (pw_or (pt_cmpR (op_eqI (ok_Book_eq T) T.b_Book_eq (hr.mono (by decide)) T.me_Book_eq.at_ T.me_Book_eq.fn) (pv 3) (pe_callTy call_tuple_frz (by rfl) T.m_tuple (by decide +kernel) (pa_cons (pv 1) pa_nil)) (nomark _)) (pw_or1 (pt_cmpR (op_eqI (ok_Book_eq T) T.b_Book_eq (hr.mono (by decide)) T.me_Book_eq.at_ T.me_Book_eq.fn) (pv 3) (pv 1) (nomark _)))))))
      (pss_one (ps_ret pe_bl))
      pss_nil)
    (pss_cons (ps_if (pt_cmpR op_ne (pe_callB (call_reprD hg hr.units) (by rfl) T.m_repr (by decide +kernel) (pa_cons (pe_lc (own := [("word", 4)]) rfl sc_law_book_right.nd (pi_list (pv 1)) (blkOk_by (own := [("word", 4)]) (N := ["shelf", "words", "passed", "book", "word", "near", "some", "odd", "is_there"]) (sc := defScope s_law_book_right) (by decide +kernel)) (fun _ _ _ _ _ => (pg_name (i := 4) sc_law_book_right.nd rfl (.inl rfl))) (fun _ _ _ _ _ => pts_nil) (fun _ _ _ _ _ => (pe_meth (pv 3) T.cl_Book T.me_Book_number (ok_Book_number T) (hr.mono (by decide)) T.b_Book_number .nil passF (pa_cons (pv 4) pa_nil)))) pa_nil)) (pe_callB (call_reprD hg hr.units) (by rfl) T.m_repr (by decide +kernel) (pa_cons (pe_listRg rfl (by rfl) T.m_list (prg_1 (by rfl) T.m_range (pe_callB call_len_seq (by rfl) T.m_len PySem.boot_len (pa_cons (pv 1) pa_nil)))) pa_nil)) (nomark _))
      (pss_one (ps_ret pe_bl))
      pss_nil)
    (pss_cons (ps_if (pt_cmpR op_ne (pe_methK0 (pv 3) T.cl_Book T.me_Book_number (ok_Book_number T) (hr.mono (by decide)) (kb_Book_number_0_word T) passF (pk_cons (pe_ix ix_list (pv 1) (pe_un un_neg pe_int) (fun _ _ => rfl)) pk_nil)) (pe_op op_sub (pe_callB call_len_seq (by rfl) T.m_len PySem.boot_len (pa_cons (pv 1) pa_nil)) pe_int) (nomark _))
      (pss_one (ps_ret pe_bl))
      pss_nil)
    (pss_cons (ps_if (PW.pt (pw_and (pt_cmpR op_gt (pe_callB call_len_seq (by rfl) T.m_len PySem.boot_len (pa_cons (pv 1) pa_nil)) pe_int (nomark _)) (pw_and1 (PW.pt (pw_or (pt_cmpR (op_eqI (ok_Book_eq T) T.b_Book_eq (hr.mono (by decide)) T.me_Book_eq.at_ T.me_Book_eq.fn) (pv 3) (pe_make T.mk_Book (ok_Book_init T) (hr.mono (by decide)) (by rfl) T.gC_Book T.b_Book_init .nil passF (pa_cons (pe_slice sl_list (pv 1) (po_some pe_int) po_none) pa_nil)) (nomark _)) (pw_or1 (pt_cmpR (op_eqI (ok_Book_eq T) T.b_Book_eq (hr.mono (by decide)) T.me_Book_eq.at_ T.me_Book_eq.fn) (pv 3) (pe_make T.mk_Book (ok_Book_init T) (hr.mono (by decide)) (by rfl) T.gC_Book T.b_Book_init .nil passF (pa_cons (pe_revL (pv 1)) pa_nil)) (nomark _))))))))
      (pss_one (ps_ret pe_bl))
      pss_nil)
    (pss_cons (ps_set (i := 5) sc_law_book_right.nd rfl (.inl rfl) (pe_ix ix_list (pv 1) (pe_call (ok_law_reach T) (hr.mono (by decide)) (by rfl) T.g_law_reach T.F_law_reach.kp T.b_law_reach .nil pass0 (pa_cons (pv 0) (pa_cons (pe_callB call_len_seq (by rfl) T.m_len PySem.boot_len (pa_cons (pv 1) pa_nil)) pa_nil))) (fun _ _ => rfl)))
    (pss_cons (ps_set (i := 6) sc_law_book_right.nd rfl (.inl rfl) (pe_lst (pa_cons (pe_op op_add_str (pv 5) pe_str) (pa_cons (pe_slice C8.sl_txt (pv 5) (po_some pe_int) po_none) (pa_cons (pe_upper (pv 5)) (pa_cons (pe_op op_add_str (pv 5) pe_str) (pa_cons (pe_op op_add_str pe_str (pv 5)) pa_nil)))))))
    (pss_cons (ps_set (i := 6) sc_law_book_right.nd rfl (.inl rfl) (pe_op op_cat (pv 6) (pe_lst (pa_cons pe_non (pa_cons pe_int (pa_cons pe_bl (pa_cons (pe_lst (pa_cons (pv 5) pa_nil)) (pa_cons (pe_tup (pa_cons (pv 5) pa_nil)) pa_nil))))))))
    (pss_cons (ps_set (i := 7) sc_law_book_right.nd rfl (.inr rfl) (pe_call (ok_law_one_of T) (hr.mono (by decide)) (by rfl) T.g_law_one_of T.F_law_one_of.kp T.b_law_one_of .nil pass0 (pa_cons (pv 0) (pa_cons (pe_op op_cat (pv 6) (pe_lst (pa_cons pe_str (pa_cons (pe_slice C8.sl_txt (pv 5) po_none (po_some (pe_un un_neg pe_int))) (pa_cons (pe_revS (pv 5)) (pa_cons (pe_op op_repS pe_str pe_int) pa_nil)))))) pa_nil))))
    (pss_cons (ps_set (i := 8) sc_law_book_right.nd rfl (.inl rfl) (pe_and (pe_callB call_isi (by rfl) T.m_isinstance (by decide +kernel) (pa_cons (pv 7) (pa_cons (pe_bltn (v := .ty "str") (by rfl) T.m_str (by decide +kernel) rfl) pa_nil))) (pe_one (pe_cmpR op_in_seq (pv 7) (pv 1) rfl))))
    (pss_one (ps_ret (pe_cmpR (op_eqD hr.units) (pe_lamcall (T := TT) (c := c) (P := Pt) (k := 6) (by rfl) T.g_law_heard T.F_law_heard.kp lk hcd hbd sc_law_heard rfl (.inl rfl) (heard_gives T) TB rfl hm hu (hr.mono (by decide)) (lamS_by (sc := defScope s_law_book_right) (by decide +kernel)) rfl (fun _ _ _ _ _ => rfl) (fun A outer s H E f c' hr2 => (pe_meth (pv 3) T.cl_Book T.me_Book_number (ok_Book_number T) (hr2.mono (by decide)) T.b_Book_number .nil (passes_call (takes_of rfl rfl rfl rfl) (fun _ _ _ _ h => h)) (pa_cons (pv 7) pa_nil)))) (pe_ifExp (pt_val (pv 8)) pe_non (pe_tup (pa_cons pe_str (pa_cons pe_str pa_nil)))) (nomark _))))))))))))))))), ?_⟩
    obtain ⟨hb, l1, l2, hw, nd⟩ := hW
    have cds : ∀ w ∈ ws, cdC w := fun w m => (word_cd (hw w m)).1
    have mkW : ∀ {HH : Hp} {p : Addr}, SqL K HH p (ws.map tx) → WArg K HH (.ref p) 40 (some ws) := fun h => words_arg (.inl h) l1 l2 (by decide) hw nd
    refine go_set (go_cb (go_cons (go_var rfl (go_nil ⟨b, _, rfl, .inl (.inl (.inl hb)), fun pl npl => ?_⟩))))
    have sL : SqL K (upd H pl (.lst (ws.map tx))) pl (ws.map tx) := .inl (.inl upd_same)
    refine go_set (go_cons (go_var rfl (go_nil fun bk dx0 nbk ndx _ => book_new nbk ndx (mkW sL) ⟨pl, rfl, .inl sL⟩ fun H2 e2 hB2 => ⟨rfl, ?_⟩)))
    have hp2 := e2 _ _ (upd_same (H := H) (a := pl) (o := HO.lst (ws.map tx)))
    refine go_seq ⟨_, rfl, .inl ⟨rfl, _, .inl (.inl hp2)⟩, pl, _, _, rfl, rfl, hp2, by rw [List.length_map]; exact Nat.lt_of_le_of_lt l2 (by decide), ?_⟩
    refine go_seq ⟨_, rfl, pl, _, 0, 0, rfl, rfl, upd_same, ?_, ?_⟩
    · unfold ixN
      rw [if_pos (Int.le_refl 0), if_pos (by rw [List.length_append]; simp)]
      rfl
    rw [L2.upd_upd]
    have s4 : Same H (upd H2 pl (.lst ((ws.map tx ++ [V.str "zz"]).set 0 (V.str "q")))) := same_set ((same_new npl).trans e2) npl
    have hB4 := BookAt.put (o := .lst ((ws.map tx ++ [V.str "zz"]).set 0 (V.str "q"))) hp2 hB2
    have hb4 := s4 _ _ hb
    have w4 := wh.same s4
    have T4 := Tabs.same hT s4
    generalize upd H2 pl (.lst ((ws.map tx ++ [V.str "zz"]).set 0 (V.str "q"))) = H4 at s4 hB4 hb4 w4 T4 ⊢
    clear e2 hB2 hp2 sL npl
    have shW := sh_words hw l2
    dsimp only
    have sqb : ∀ {HH : Hp}, HH b = some (.lst (ws.map tx)) → SqL K HH b (ws.map tx) := fun h => .inl (.inl h)
    -- the four comparisons
    refine go_seq (go_if (go_or2 (nerepr_t (.tuple (ws.map fun l => PyData.str (S l))) shW (by decide) (by decide) (fun Q q => ?_) (fun H0 e0 Q q => ?_) (fun H5 e5 => iteF (A := _) ?_))))
    · obtain ⟨dx, t, h1, h2, h3⟩ := hB4
      exact ⟨_, rfl, bk, T.C_Book, dx, _, .ref t, rfl, h1, T.cl_Book, T.na_Book_words, rfl, q t H4 (Same.refl _) (dp_words h2)⟩
    · exact go_cb (go_cons (go_var rfl (go_nil ⟨b, _, rfl, .inl ⟨sqb (e0 _ _ hb4), fun t o nt hd => q t _ (same_new nt) (dp_words (.inl (.inr ⟨o, upd_same⟩)))⟩⟩)))
    have hB5 := hB4.same e5
    have hb5 := e5 _ _ hb4
    have s5 := s4.trans e5
    have w5 := w4.same e5
    have T5 := Tabs.same T4 e5
    clear s4 hB4 hb4 w4 T4 e5
    refine go_or2 (go_test (go_op (go_var rfl ?_)))
    refine go_nil (go_cons (go_cb (go_cons (go_var rfl (go_nil ⟨b, _, rfl, .inl ⟨sqb hb5, fun t o nt hd => ?_⟩⟩)))))
    have st := same_new (o := HO.frz o (.tup (ws.map tx))) nt
    have sqt : SqT K (upd H5 t (HO.frz o (.tup (ws.map tx)))) t (ws.map tx) := .inl (.inr ⟨o, upd_same⟩)
    have tn : TupN K (upd H5 t (HO.frz o (.tup (ws.map tx)))) t := .inl ⟨o, _, upd_same, hd⟩
    refine go_nil ⟨rfl, rfl, fun b2 dx0 nb2 ndx2 _ => book_new nb2 ndx2 (words_arg (.inr sqt) l1 l2 (by decide) hw nd) ⟨t, rfl, .inr ⟨sqt, tn⟩⟩ fun H6 e6 hB6 => ⟨rfl, ?_⟩⟩
    have e56 := st.trans e6
    have hB56 := hB5.same e56
    obtain ⟨dx5, t5, hi5, _, _⟩ := id hB56
    obtain ⟨dx6, t6, hi6, _, _⟩ := id hB6
    refine ⟨bk, dx5, _, rfl, hi5, ⟨b2, rfl, .inl ⟨dx6, _, hi6⟩⟩, bk, .ref b2, ws, decide (ws = ws), rfl, hB56, cds, .inl ⟨b2, ws, rfl, hB6, cds, rfl⟩, _, rfl, _, rfl, ?_⟩
    rw [decide_eq_true rfl]
    refine iteF (A := _) ?_
    have s6 := s5.trans e56
    have hb6 := e56 _ _ hb5
    have w6 := w5.same e56
    have T6 := Tabs.same T5 e56
    clear st sqt tn e6 hB6 hi5 hi6 s5 hb5 w5 T5 hB5 nt
    clear nb2 ndx2
    refine go_or2 (go_test (go_op (go_var rfl (go_cb (go_cons (go_var rfl (go_nil ⟨b, _, rfl, .inl ⟨sqb hb6, fun t o nt hd => ?_⟩⟩)))))))
    have e67 := same_new (o := HO.frz o (.tup (ws.map tx))) nt
    have hB7 := hB56.same e67
    obtain ⟨dx7, t7, hi7, _, _⟩ := id hB7
    have oth : ∃ b' xs, V.ref t = .ref b' ∧ SqQ K (upd H6 t (HO.frz o (.tup (ws.map tx)))) b' xs := ⟨t, _, rfl, .inr (.inl (.inr ⟨o, upd_same⟩))⟩
    refine ⟨bk, dx7, _, rfl, hi7, ⟨t, rfl, .inr ⟨_, .inr (.inl (.inr ⟨o, upd_same⟩))⟩⟩, bk, .ref t, ws, false, rfl, hB7, cds, .inr ⟨oth, rfl⟩, _, rfl, _, rfl, iteF (A := _) ?_⟩
    have hb7 := e67 _ _ hb6
    refine go_test (go_op (go_var rfl (go_var rfl ⟨bk, dx7, _, rfl, hi7, ⟨b, rfl, .inr ⟨_, .inl (sqb hb7)⟩⟩, bk, .ref b, ws, false, rfl, hB7, cds, .inr ⟨⟨b, _, rfl, .inl (sqb hb7)⟩, rfl⟩, _, rfl, _, rfl, iteF (A := _) ?_⟩)))
    have s7 := s6.trans e67
    have w7 := w6.same e67
    have T7 := Tabs.same T6 e67
    generalize upd H6 t (HO.frz o (.tup (ws.map tx))) = H7 at e67 hB7 hi7 oth hb7 s7 w7 T7 ⊢
    clear s6 hb6 w6 T6 hB56 oth e67 nt e56
    dsimp only [tNext]
    -- the numbers
    let ix : List Int := (List.range ws.length).map fun i : Nat => (i : Int)
    have lix : ix.length = ws.length := by
      show ((List.range ws.length).map fun i : Nat => (i : Int)).length = _
      rw [List.length_map, List.length_range]
    have shI : Sh 1 40 (.list (ix.map PyData.int)) := (shA_ints (k := 0) ix (fun i m => by
      obtain ⟨j, hj, rfl⟩ := List.mem_map.mp m
      have := List.mem_range.mp hj
      show j < 1000000000000
      omega)).lst.up (Nat.le_refl _) (by omega)
    refine go_seq (nerepr_if (.list (ix.map PyData.int)) shI (by decide) (by decide) (fun Q q => ?_) (fun H0 e0 Q q => ?_) (fun H8 e8 => ?_))
    · refine lc_lst (zs := ix.map V.int) ((List.length_map ..).trans (lix.trans (List.length_map ..).symm)) (by exact rfl) (sqb hb7) (by rw [List.length_map]; omega) (fun i x z Hc Q' R' hx hz e q' => ?_) (fun D Hc e hD => q D Hc e (dp_ints (.inl (.inl hD))))
      obtain ⟨w, hw1, rfl⟩ := map_at hx
      obtain ⟨z1, hz1, rfl⟩ := map_at hz
      obtain ⟨i', hi', rfl⟩ := map_at hz1
      obtain rfl : i' = i := by
        have h := List.getElem?_eq_some_iff.mp hi'
        obtain ⟨h1, h2⟩ := h
        rw [List.getElem_range] at h2
        exact h2.symm
      refine ⟨rfl, ?_⟩
      refine iteT (B := True) ?_
      have hBc := hB7.same e
      obtain ⟨dxc, tc, hic, _, _⟩ := id hBc
      have hwm := hw w (List.mem_of_getElem? hw1)
      refine ⟨_, rfl, bk, dxc, _, rfl, hic, rfl, _, rfl, bk, tx w, ws, rfl, hBc, hw, str_tx hwm, fun h => absurd rfl (h w (List.mem_of_getElem? hw1)), fun j w' ew hj hmin => ?_⟩
      have : w = w' := by
        have h := congrArg txtV ew
        rw [txt_tx, txt_tx] at h
        exact Option.some.inj h
      subst this
      rw [nodup_at nd hj hw1]
      exact q' Hc (Same.refl _)
    · have hrg : rgV 0 ((ws.map tx).length : Int) = ix.map V.int := by
        unfold rgV
        show _ = ((List.range ws.length).map fun i : Nat => (i : Int)).map V.int
        rw [List.map_map, List.length_map]
        have : ((ws.length : Int) - 0).toNat = ws.length := by omega
        rw [this]
        refine List.map_congr_left fun i _ => ?_
        show V.int (0 + (i : Int)) = V.int i
        rw [Int.zero_add]
      refine ⟨_, rfl, b, _, rfl, .inl (sqb (e0 _ _ hb7)), _, rfl, RgOk.of_le (Int.le_refl 0) (by rw [List.length_map]; omega) (by decide) (by omega), fun p np => ?_⟩
      rw [hrg]
      exact q p _ (same_new np) (dp_ints (.inl (.inl upd_same)))
    have hB8 := hB7.same e8
    have hb8 := e8 _ _ hb7
    have s8 := s7.trans e8
    have w8 := w7.same e8
    have T8 := Tabs.same T7 e8
    clear hB7 hb7 s7 w7 T7 e8 hi7
    dsimp only [tNext]
    obtain ⟨dx8, t8, hi8, _, _⟩ := id hB8
    obtain ⟨wl, hwl, hlast⟩ := last_at l1
    refine go_seq (go_if (go_test (go_op ⟨_, rfl, bk, dx8, _, rfl, hi8, rfl, _, rfl, _, rfl, b, _, _, _, rfl, rfl, sqb hb8, hlast, bk, tx wl, ws, rfl, hB8, hw, str_tx (hw wl (List.mem_of_getElem? hwl)), fun h => absurd rfl (h wl (List.mem_of_getElem? hwl)), fun j w' ew hj hmin => ?_⟩)))
    have ew2 : wl = w' := by
      have h := congrArg txtV ew
      rw [txt_tx, txt_tx] at h
      exact Option.some.inj h
    subst ew2
    obtain rfl := nodup_at nd hj hwl
    refine go_op (go_cb (go_cons (go_var rfl (go_nil ⟨b, _, rfl, .inl (sqb hb8), _, _, rfl, rfl, rfl, _, rfl, ?_⟩))))
    have e9 : (!decide (V.int ((ws.length - 1 : Nat) : Int) = V.int (((ws.map tx).length : Int) - 1))) = false := by
      rw [List.length_map, decide_eq_true]
      · rfl
      · congr 1
        omega
    rw [e9]
    refine iteF (A := _) ?_
    clear hj hmin ew e9
    dsimp only [tNext]
    -- other books
    refine go_seq (if_same (fun Q q => ?_) (fun H9 s89 => ?_))
    · refine go_and2 (go_test (go_op (go_cb (go_cons (go_var rfl (go_nil ⟨b, _, rfl, .inl (sqb hb8), _, _, rfl, rfl, _, rfl, ?_⟩))))))
      refine iteC (fun hlen => ?_) (fun hlen => q H8 (Same.refl _))
      · have hl2 : 2 ≤ ws.length := by
          have h := of_decide_eq_true hlen
          rw [List.length_map] at h
          omega
        refine go_or2 (go_test (go_op (go_var rfl (go_cons ⟨_, rfl, _, rfl, b, _, rfl, sqb hb8, fun p np => ?_⟩))))
        have hc : cutV (ws.map tx) (some 1) none = (ws.drop 1).map tx := by
          rw [List.map_drop]
          exact cut_from _ 1
        rw [hc]
        have sq1 : SqL K (upd H8 p (.lst ((ws.drop 1).map tx))) p ((ws.drop 1).map tx) := .inl (.inl upd_same)
        refine go_nil fun b3 dx0 nb3 ndx3 _ => book_new nb3 ndx3 (words_arg (.inl sq1) (by rw [List.length_drop]; omega) (by rw [List.length_drop]; omega) (by decide) (fun w m => hw w (List.mem_of_mem_drop m)) (nd.sublist (List.drop_sublist 1 ws))) ⟨p, rfl, .inl sq1⟩ fun H9 e9 hB9 => ⟨rfl, ?_⟩
        have e89 := (same_new (o := HO.lst ((ws.drop 1).map tx)) np).trans e9
        have hBk9 := hB8.same e89
        obtain ⟨dx9, t9, hi9, _, _⟩ := id hBk9
        obtain ⟨dy9, u9, hj9, _, _⟩ := id hB9
        have ne1 : decide (ws = ws.drop 1) = false := decide_eq_false fun e => by
          have := congrArg List.length e
          rw [List.length_drop] at this
          omega
        refine ⟨bk, dx9, _, rfl, hi9, ⟨b3, rfl, .inl ⟨dy9, _, hj9⟩⟩, bk, .ref b3, ws, decide (ws = ws.drop 1), rfl, hBk9, cds, .inl ⟨b3, _, rfl, hB9, (fun w m => cds w (List.mem_of_mem_drop m)), rfl⟩, _, rfl, _, rfl, ?_⟩
        rw [ne1]
        refine iteF (A := _) ?_
        have hb9 := e89 _ _ hb8
        refine go_test (go_op (go_var rfl (go_cons ⟨_, rfl, b, _, rfl, sqb hb9, fun p2 np2 => ?_⟩)))
        rw [← List.map_reverse]
        have sq2 : SqL K (upd H9 p2 (.lst (ws.reverse.map tx))) p2 (ws.reverse.map tx) := .inl (.inl upd_same)
        refine go_nil fun b4 dx0 nb4 ndx4 _ => book_new nb4 ndx4 (words_arg (.inl sq2) (by rw [List.length_reverse]; omega) (by rw [List.length_reverse]; omega) (by decide) (fun w m => hw w (List.mem_reverse.mp m)) (nodup_rev nd)) ⟨p2, rfl, .inl sq2⟩ fun H10 e10 hB10 => ⟨rfl, ?_⟩
        have e910 := (same_new (o := HO.lst (ws.reverse.map tx)) np2).trans e10
        have hBk10 := hBk9.same e910
        obtain ⟨dx10, t10, hi10, _, _⟩ := id hBk10
        obtain ⟨dy10, u10, hj10, _, _⟩ := id hB10
        refine ⟨bk, dx10, _, rfl, hi10, ⟨b4, rfl, .inl ⟨dy10, _, hj10⟩⟩, bk, .ref b4, ws, decide (ws = ws.reverse), rfl, hBk10, cds, .inl ⟨b4, _, rfl, hB10, (fun w m => cds w (List.mem_reverse.mp m)), rfl⟩, _, rfl, _, rfl, ?_⟩
        rw [decide_eq_false (rev_ne hl2 nd)]
        exact q H10 (e89.trans e910)
    have hB9 := hB8.same s89
    have hb9 := s89 _ _ hb8
    have s9 := s8.trans s89
    have w9 := w8.same s89
    have T9 := Tabs.same T8 s89
    clear hB8 hb8 s8 w8 T8 s89 hi8
    dsimp only [tNext]
    obtain ⟨lw, hlw⟩ : ∃ lw : Nat, lw = ws.length := ⟨_, rfl⟩
    refine go_set (go_op (go_var rfl ⟨_, rfl, _, rfl, b, _, rfl, .inl (sqb hb9), a, wc, _, n, rfl, by rw [List.length_map]; omega, by rw [List.length_map]; omega, w9, by omega, fun r H10 r0 r1 m10 w10 => ?_⟩))
    have hb10 := m10 _ _ hba hb9
    obtain ⟨v, hv, ev⟩ := at_lt (xs := ws.map tx) r0 r1
    obtain ⟨nw, hnw, rfl⟩ := List.mem_map.mp hv
    refine ⟨b, _, r, tx nw, rfl, rfl, sqb hb10, ev, ?_⟩
    have hB10 := hB9.mv w9 m10
    have T10 := Tabs.mv T9 w9 m10
    have c10 : Same (core a H) H10 := core_mvO (core_sub.trans s9) m10
    have wN := word_cd (hw nw hnw)
    clear hB9 hb9 T9 s9 w9 m10 r0 r1 ev hv
    have lN : (S nw).length ≤ 12 := by rw [S_len]; exact wN.2.1
    have lN2 : (S nw).length ≤ sizeLine := Nat.le_trans lN (by decide)
    have lN3 : ∀ k, k ≤ 1 → (S nw).length + k ≤ sizeLine := fun k hk => Nat.le_trans (Nat.add_le_add lN hk) (by decide)
    have lN4 : ∀ k, k ≤ 1 → k + (S nw).length ≤ sizeLine := fun k hk => by
      rw [Nat.add_comm]
      exact lN3 k hk
    refine go_set ⟨_, rfl, S nw, "a", rfl, rfl, lN3 1 (Nat.le_refl 1), _, rfl, _, rfl, S nw, rfl, lN2, _, rfl, ⟨_, rfl⟩, S nw, rfl, rfl, Nat.le_trans lN (by decide), _, rfl, S nw, " ", rfl, rfl, lN3 1 (Nat.le_refl 1), _, rfl, " ", S nw, rfl, rfl, lN4 1 (Nat.le_refl 1), sz5, fun q1 n1 => ?_⟩
    refine go_set (go_op (go_var rfl ⟨_, rfl, sz1, fun q2 n2 => ⟨_, rfl, sz1, fun q3 n3 => ⟨sz5, fun q4 n4 => ?_⟩⟩⟩))
    have hq1 := (((same_new (o := HO.lst [tx nw]) n2).trans (same_new (o := HO.tup [tx nw]) n3)).trans (same_new (o := HO.lst [.non, .int 0, .bl true, .ref q2, .ref q3]) n4)) _ _ (upd_same (H := H10) (a := q1))
    refine ⟨q1, q4, _, _, rfl, rfl, hq1, upd_same, (show 10 ≤ sizeLine by decide), fun q5 n5 => ?_⟩
    refine go_set ⟨_, rfl, _, rfl, _, rfl, _, rfl, _, rfl, S nw, rfl, lN2, _, rfl, nw, rfl, by omega, [97], 13, rfl, rfl, by decide, by decide, sz4, fun q6 n6 => ?_⟩
    refine ⟨q5, q6, _, _, rfl, rfl, (same_new n6) _ _ upd_same, upd_same, (show 14 ≤ sizeLine by decide), fun q7 n7 => ?_⟩
    have x1 := same_new (o := HO.lst [.str (S nw ++ "a"), .str (Txt.slice (S nw) (some 1) none), .str (Txt.upper (S nw)), .str (S nw ++ " "), .str (" " ++ S nw)]) n1
    have x2 := same_new (o := HO.lst [tx nw]) n2
    have x3 := same_new (o := HO.tup [tx nw]) n3
    have x4 := same_new (o := HO.lst [.non, .int 0, .bl true, .ref q2, .ref q3]) n4
    have x5 := same_new (o := HO.lst ([.str (S nw ++ "a"), .str (Txt.slice (S nw) (some 1) none), .str (Txt.upper (S nw)), .str (S nw ++ " "), .str (" " ++ S nw)] ++ [.non, .int 0, .bl true, .ref q2, .ref q3])) n5
    have x6 := same_new (o := HO.lst [.str "", .str (Txt.slice (S nw) none (some (-1))), .str (S nw.reverse), .str (S ((List.replicate 13 [97]).flatten))]) n6
    have x7 := same_new (o := HO.lst (([.str (S nw ++ "a"), .str (Txt.slice (S nw) (some 1) none), .str (Txt.upper (S nw)), .str (S nw ++ " "), .str (" " ++ S nw)] ++ [.non, .int 0, .bl true, .ref q2, .ref q3]) ++ [.str "", .str (Txt.slice (S nw) none (some (-1))), .str (S nw.reverse), .str (S ((List.replicate 13 [97]).flatten))])) n7
    have u1 := w10.same x1
    have u2 := u1.same x2
    have u3 := u2.same x3
    have u4 := u3.same x4
    have u5 := u4.same x5
    have u6 := u5.same x6
    have u7 := u6.same x7
    have x67 := x6.trans x7
    have x57 := x5.trans x67
    have x47 := x4.trans x57
    have x37 := x3.trans x47
    have x17 := (x1.trans x2).trans x37
    have d7 := u6.ne n7
    have g2 := x37 _ _ (upd_same (a := q2) (o := HO.lst [tx nw]))
    have g3 := x47 _ _ (upd_same (a := q3) (o := HO.tup [tx nw]))
    have d2 := u1.ne n2
    have d3 := u2.ne n3
    refine ⟨a, q7, wc, _, _, rfl, .inl (.inl upd_same), by simp, by show 14 ≤ 1000000; decide, u7, by omega, fun H' m => .inl (.inl (m _ _ d7 upd_same)), fun odd H11 hodd m11 w11 => ?_⟩
    have g2' := m11 _ _ d2 g2
    have g3' := m11 _ _ d3 g3
    have hb11 := m11 _ _ hba (x17 _ _ hb10)
    have hB11 := (hB10.same x17).mv u7 m11
    have T11 := Tabs.mv (Tabs.same T10 x17) u7 m11
    have c11 : Same (core a H) H11 := core_mvO (c10.trans x17) m11
    have hodd' : StrIs K H11 odd (txtV odd) := by
      have la : ∀ y : Str, y.length ≤ 40 → StrIs K H11 (.str y) (txtV (.str y)) := fun y h => str_any y (by omega)
      have ls : ∀ lo hi, (Txt.slice (S nw) lo hi).length ≤ 12 := fun lo hi => by
        rw [← C8.cutS_slice]
        exact Nat.le_trans (cutS_length _ _ _) lN
      simp only [List.cons_append, List.nil_append, List.mem_cons, List.not_mem_nil, or_false] at hodd
      rcases hodd with rfl | rfl | rfl | rfl | rfl | rfl | rfl | rfl | rfl | rfl | rfl | rfl | rfl | rfl
      · exact la _ (by rw [show (Str.ofString "a") = S [97] from rfl, S_cat, S_len, List.length_append]; simp; omega)
      · exact la _ (Nat.le_trans (ls _ _) (by decide))
      · refine la _ ?_
        have := PyProof.Rows.len_upper (S nw)
        omega
      · exact la _ (by rw [show (Str.ofString " ") = S [32] from rfl, S_cat, S_len, List.length_append]; simp; omega)
      · exact la _ (by rw [show (Str.ofString " ") = S [32] from rfl, S_cat, S_len, List.length_append]; simp; omega)
      · exact str_no rfl (.base .non) (by decide +kernel)
      · exact str_no rfl (.base (.int 0)) (by decide +kernel)
      · exact str_no rfl (.base (.bl true)) (by decide +kernel)
      · exact str_no rfl (tyL (.inl (.inl g2'))) (by decide +kernel)
      · exact str_no rfl (tyT (.inl (.inl g3'))) (by decide +kernel)
      · exact la _ (by decide)
      · exact la _ (Nat.le_trans (ls _ _) (by decide))
      · exact la _ (by rw [S_len, List.length_reverse]; omega)
      · exact la _ (by rw [S_len, rep_len]; decide)
    clear hodd m11 g2 g3 g2' g3' d2 d3 d7 x1 x2 x3 x4 x5 x6 x7 x67 x57 x47 x37 x17 u1 u2 u3 u4 u5 u6 u7 n1 n2 n3 n4 n5 n6 n7 hq1 hb10 hB10 T10 c10 w10
    have fl : (ws.map tx).all flatV = true := by
      rw [List.all_map, List.all_eq_true]
      exact fun w _ => rfl
    have isth : ∀ (σ : L2.St) (Q : VK), σ[7]? = some (some odd) → σ[1]? = some (some (.ref b)) → Q (.bl (inV odd (ws.map tx))) H11 →
        tAndV (tCB (rIsi K) (tCons (tVar 7) (tCons (tC (V.ty "str")) tNil))) (tOp (rIn K false) (tVar 7) (tVar 1)) σ H11 Q := fun σ Q h7 h1 q => by
      cases ht : txtV odd with
      | some l =>
        have eo := tx_txt ht
        subst eo
        refine go_and ⟨_, h7, .str (S l), _, _, _, true, rfl, .ty _, .base (.str (S l)), kit_ty kit_str, _, rfl, iteT (B := _) ?_⟩
        exact go_op (go_var h7 (go_var h1 ⟨b, _, rfl, .inl (sqb hb11), rfl, fl, q⟩))
      | none =>
        rw [ht] at hodd'
        obtain ⟨n', ty, k1⟩ := hodd'
        have e : inV odd (ws.map tx) = false := by
          cases h : inV odd (ws.map tx) with
          | false => rfl
          | true =>
            obtain ⟨w, _, e⟩ := (inV_texts ws).mp h
            rw [e] at ht
            cases ht
        rw [e] at q
        exact go_and ⟨_, h7, odd, _, _, _, false, rfl, .ty _, ty, kit_ty k1, _, rfl, iteF (A := _) q⟩
    refine go_set (isth _ _ rfl rfl ?_)
    have fin : ∀ H', ExtN H11 H' → Tabs TT H' → Q (.bl true) H' := fun H' e t => q H' ((ExtN.of c11).trans e) ((w11.ext e).lt (by omega)) t
    refine go_ret (go_op ?_)
    refine ⟨T11, fun H12 e12 T12 N hN => ?_⟩
    have hB12 := hB11.ext e12
    obtain ⟨dx12, t12, hi12, _, _⟩ := id hB12
    refine ⟨_, rfl, bk, dx12, _, rfl, hi12, rfl, _, rfl, bk, odd, ws, rfl, hB12, hw, hodd'.ext e12, fun h => ?_, fun j w e hj hmin => ?_⟩
    · have e0 : inV odd (ws.map tx) = false := by
        cases hz : inV odd (ws.map tx) with
        | false => rfl
        | true =>
          obtain ⟨w, hwm, e⟩ := (inV_texts ws).mp hz
          exact absurd e (h w hwm)
      intro d H13 e13 hd
      refine ⟨d, .str "word", .inr rfl, rfl, hd, fun t H14 e14 ht => ?_⟩
      rw [if_neg (fun e => (kitA_W T).2 (by injection e))] at ht
      refine ⟨_, rfl, _, rfl, ?_⟩
      rw [e0]
      refine iteF (A := _) ⟨sz2, fun t2 nt2 => ?_⟩
      refine eq_data (d := .tuple [.str "word", .str "word"]) (e := .tuple [.str "word", .str "word"]) (.tup (.inl (.inl (same_new nt2 _ _ ht))) (.cons (.str _) (.cons (.str _) .nil))) (.tup (.inl (.inl upd_same)) (.cons (.str _) (.cons (.str _) .nil))) (by decide +kernel) (by decide +kernel) ?_
      rw [show (PyData.eqv (.tuple [.str "word", .str "word"]) (.tuple [.str "word", .str "word"])) = true by decide +kernel]
      have e15 := (e13.trans e14).trans (same_new (o := HO.tup [.str "word", .str "word"]) nt2)
      exact fin _ (e12.trans (ExtN.of e15)) (T12.ext e15)
    · have e0 : inV odd (ws.map tx) = true := (inV_texts ws).mpr ⟨w, List.mem_of_getElem? hj, e⟩
      refine hN _ _ fun H13 e13 => ?_
      refine ⟨_, rfl, _, rfl, ?_⟩
      rw [e0]
      refine iteT (B := _) ⟨.none, .none, .non, .non, rfl, rfl, ?_⟩
      exact fin _ (e12.trans (ExtN.of e13)) (T12.ext e13)
end
end K09
namespace K09
open PySem PySem.Spec PyProof.Rows L2 Kx SX LamX
section
variable {P : Program} {w : World} {K : PySem.W.Frag} {mg : Str → Option Value} {base : Heap} (T : Tx K mg)
theorem go_fld {ta : TE} {f : Str} {σ : L2.St} {H : Hp} {Q : VK} (h : ta σ H fun x H1 => ∃ a C dx fs v, x = .ref a ∧ H1 a = some (.ins C dx fs) ∧ Cls K C ∧ NoAttr K C f ∧ fs.lookup f = some v ∧ Q v H1) : tFld K ta f σ H Q := h
/-- what is put among words so that they are none -/
def OddV (K : PySem.W.Frag) (H : Hp) (ws : List (List Nat)) (v : V) : Prop := StrIs K H v (txtV v) ∧ ((txtV v).elim false wordB = false ∨ ∃ w ∈ ws, v = tx w)
theorem OddV.same {H H' : Hp} {ws : List (List Nat)} {v : V} (e : Same H H') (h : OddV K H ws v) : OddV K H' ws v := ⟨h.1.same e, h.2⟩
theorem odd_none {H : Hp} {ws : List (List Nat)} {v : V} {k m : Nat} (h : OddV K H ws v) : wordsB m (((ws.take k).map tx ++ [v] ++ (ws.drop k).map tx).map txtV) = false := by
  have e : ∀ xs : List (List Nat), (xs.map tx).map txtV = xs.map some := fun xs => by
    rw [List.map_map]
    exact List.map_congr_left fun w _ => txt_tx w
  rw [List.map_append, List.map_append, e, e]
  unfold wordsB
  rcases h.2 with h | ⟨w, hw, rfl⟩
  · have : (List.map some (ws.take k) ++ List.map txtV [v] ++ List.map some (ws.drop k)).all (fun o => o.elim false wordB) = false := by
      rw [List.all_append, List.all_append]
      simp [h]
    rw [this, Bool.false_and, Bool.and_false]
  · have : ¬ (List.map some (ws.take k) ++ List.map txtV [tx w] ++ List.map some (ws.drop k)).Nodup := fun nd => by
      rw [← List.take_append_drop k ws] at hw
      have e2 : List.map txtV [tx w] = [some w] := by
        show [txtV (tx w)] = _
        rw [txt_tx]
      rw [e2] at nd
      rw [List.nodup_append] at nd
      obtain ⟨n1, n2, n3⟩ := nd
      rw [List.nodup_append] at n1
      obtain ⟨n4, n5, n6⟩ := n1
      rcases List.mem_append.mp hw with hw | hw
      · exact n6 _ (List.mem_map.mpr ⟨w, hw, rfl⟩) _ (List.mem_singleton.mpr rfl) rfl
      · exact n3 _ (List.mem_append.mpr (.inr (List.mem_singleton.mpr rfl))) _ (List.mem_map.mpr ⟨w, hw, rfl⟩) rfl
    rw [decide_eq_false this, Bool.and_false, Bool.and_false]
def two (i : Nat) : List Nat := [97 + i % 7, 97 + i / 7]
def many (n : Nat) : List (List Nat) := (List.range n).map two
theorem at7 : ∀ j : Nat, j < 42 → atI (Str.ofString "abcdefg").cps.toList ((0 + (j : Int)).fmod 7) = some (97 + j % 7) ∧ atI (Str.ofString "abcdef").cps.toList ((0 + (j : Int)).fdiv 7) = some (97 + j / 7) := by decide +kernel
def twoTabs (Pt Pu : Addr) : List (Addr × Str) := [(Pt, "_law_book_right.<locals>.<lambda>"), (Pu, "law.<locals>.<lambda>")]
def sp_law (K : PySem.W.Frag) (Pt Pu : Addr) : Sp := fun vs H Q _ => ∃ (a : Addr) (ns : List Int), vs = [.ref a] ∧ SqL K H a (ns.map V.int) ∧ H Pt = some (.tbl #[]) ∧ H Pu = some (.tbl #[]) ∧ ∀ H', Q (.bl true) H'
theorem ok_law {d Pt c Pu : Addr} (FC : FunC K "_law_book_right" "_law_book_right" s_law_book_right T.f_law_book_right T.fd_law_book_right d) (TBr : TabB base mg d Pt) (FL : FunC K "law" "law" s_law T.f_law T.fd_law c) (TB : TabB base mg c Pu) (hne : Pt ≠ Pu) : FnG P w K mg base CX0 18 T.f_law T.fd_law ["script"] (sp_law K Pt Pu) := by
  have hmL : (Pu, ("law.<locals>.<lambda>" : Str)) ∈ twoTabs Pt Pu := List.mem_cons_of_mem _ List.mem_cons_self
  have huL : ∀ p ∈ twoTabs Pt Pu, p.1 = Pu → p.2 = "law.<locals>.<lambda>" := fun p hp e => by
    rcases List.mem_cons.mp hp with rfl | hp
    · exact absurd e hne
    · rw [List.mem_singleton.mp hp]
  have FG_law_book_right := ok_law_book_right (P := P) (w := w) (base := base) T FC TBr (TT := twoTabs Pt Pu) List.mem_cons_self (fun p hp e => by
    rcases List.mem_cons.mp hp with rfl | hp
    · rfl
    · rw [List.mem_singleton.mp hp] at e
      exact absurd e.symm hne)
  obtain ⟨oc, od, kV, doc, pm, an, cdv, ct, osl, efd, lk, hcd⟩ := T.F_law_heard.ex
  rw [efd] at lk
  have hbd : Binds K _ ["ask"] [] := efd ▸ T.b_law_heard
  refine okC FL sc_law (fun vs H Q E h => ?_) (fun A outer s H vs Q E hg hr h => ?_)
  · obtain ⟨a, ns, rfl, _⟩ := h
    rfl
  · obtain ⟨a, ns, rfl, hs, hPt, hPu, q⟩ := h
    refine ⟨_, (pss_cons (ps_set (i := 1) sc_law.nd rfl (.inl rfl) (pe_call (ok_law_shelf T) (hr.mono (by decide)) (by rfl) T.g_law_shelf T.F_law_shelf.kp T.b_law_shelf .nil pass0 (pa_cons (pv 0) pa_nil)))
    (pss_cons (ps_for PassesOwn.never rfl (pi_range1 (by rfl) T.m_range (pa_cons pe_int pa_nil)) (pg_name (i := 2) sc_law.nd rfl (.inl rfl))
      (pss_cons (ps_set (i := 3) sc_law.nd rfl (.inl rfl) (pe_call (ok_law_words T) (hr.mono (by decide)) (by rfl) T.g_law_words T.F_law_words.kp T.b_law_words .nil pass0 (pa_cons (pv 1) (pa_cons (pe_call (ok_law_one_of T) (hr.mono (by decide)) (by rfl) T.g_law_one_of T.F_law_one_of.kp T.b_law_one_of .nil pass0 (pa_cons (pv 1) (pa_cons (pe_lst (pa_cons pe_int (pa_cons pe_int (pa_cons pe_int (pa_cons pe_int pa_nil))))) pa_nil))) (pa_cons (pe_call (ok_law_one_of T) (hr.mono (by decide)) (by rfl) T.g_law_one_of T.F_law_one_of.kp T.b_law_one_of .nil pass0 (pa_cons (pv 1) (pa_cons (pe_lst (pa_cons pe_int (pa_cons pe_int (pa_cons pe_int pa_nil)))) pa_nil))) (pa_cons (pe_call (ok_law_one_of T) (hr.mono (by decide)) (by rfl) T.g_law_one_of T.F_law_one_of.kp T.b_law_one_of .nil pass0 (pa_cons (pv 1) (pa_cons (pe_lst (pa_cons pe_int (pa_cons pe_int (pa_cons pe_int pa_nil)))) pa_nil))) pa_nil))))))
      (pss_cons (ps_if (pt_not (pt_val (pe_callG FG_law_book_right hg (hr.mono (by decide)) (by rfl) T.g_law_book_right T.F_law_book_right.kp T.b_law_book_right (pa_cons (pv 1) (pa_cons (pv 3) pa_nil)))))
        (pss_one (ps_ret pe_bl))
        pss_nil)
      (pss_cons (ps_set (i := 4) sc_law.nd rfl (.inl rfl) (pe_call (ok_law_reach T) (hr.mono (by decide)) (by rfl) T.g_law_reach T.F_law_reach.kp T.b_law_reach .nil pass0 (pa_cons (pv 1) (pa_cons (pe_op op_add (pe_callB call_len_seq (by rfl) T.m_len PySem.boot_len (pa_cons (pv 3) pa_nil)) pe_int) pa_nil))))
      (pss_cons (ps_set (i := 5) sc_law.nd rfl (.inl rfl) (pe_call (ok_law_one_of T) (hr.mono (by decide)) (by rfl) T.g_law_one_of T.F_law_one_of.kp T.b_law_one_of .nil pass0 (pa_cons (pv 1) (pa_cons (pe_lst (pa_cons pe_str (pa_cons pe_str (pa_cons pe_str (pa_cons (pe_op op_repS pe_str pe_int) (pa_cons pe_non (pa_cons pe_int (pa_cons (pe_lst (pa_cons pe_str pa_nil)) (pa_cons pe_str (pa_cons pe_str (pa_cons pe_bl (pa_cons (pe_ix ix_list (pv 3) pe_int (fun _ _ => rfl)) (pa_cons pe_str pa_nil))))))))))))) pa_nil))))
      (pss_cons (ps_setLc (i := 7) (own := [("place", 6)]) rfl sc_law.nd rfl rfl (sw_true rfl rfl rfl (by decide +kernel)) (pi_range1 (by rfl) T.m_range (pa_cons pe_int pa_nil)) (blkOk_by (own := [("place", 6)]) (N := ["script", "shelf", "turn", "words", "at", "odd", "place", "many", "none"]) (sc := defScope s_law) (by decide +kernel)) (fun _ _ _ _ _ => (pg_name (i := 6) sc_law.nd rfl (.inl rfl))) (fun _ _ _ _ _ => pts_nil) (fun _ _ _ _ _ => (pe_op op_add_str (pe_ix ix_str pe_str (pe_op op_modN (pe_callTy call_int1 (by rfl) T.m_int (by decide +kernel) (pa_cons (pv 6) pa_nil)) pe_int) (fun _ _ => rfl)) (pe_ix ix_str pe_str (pe_op op_fdivN (pv 6) pe_int) (fun _ _ => rfl)))))
      (pss_cons (ps_set (i := 8) sc_law.nd rfl (.inr rfl) (pe_call (ok_law_one_of T) (hr.mono (by decide)) (by rfl) T.g_law_one_of T.F_law_one_of.kp T.b_law_one_of .nil pass0 (pa_cons (pv 1) (pa_cons (pe_lst (pa_cons (pe_op op_cat (pe_op op_cat (pe_slice sl_list (pv 3) po_none (po_some (pv 4))) (pe_lst (pa_cons (pv 5) pa_nil))) (pe_slice sl_list (pv 3) (po_some (pv 4)) po_none)) (pa_cons (pe_lst pa_nil) (pa_cons (pe_tup pa_nil) (pa_cons pe_non (pa_cons pe_int (pa_cons pe_str (pa_cons (pe_disp (pps_cons pe_str pe_int pps_nil) (by rfl) (by rfl) (fun z => by cases z) (by decide)) (pa_cons (pe_slice sl_list (pv 7) po_none (po_some pe_int)) (pa_cons (pe_lst (pa_cons (pe_lst (pa_cons pe_str pa_nil)) pa_nil)) pa_nil)))))))))) pa_nil))))
      (pss_one (ps_if (PW.pt (pw_or (pt_cmpR (op_neD hr.units) (pe_lamcall (T := (twoTabs Pt Pu)) (c := c) (P := Pu) (k := 8) (by rfl) T.g_law_heard T.F_law_heard.kp lk hcd hbd sc_law_heard rfl (.inl rfl) (heard_gives T) TB rfl hmL huL (hr.mono (by decide)) (lamS_by (sc := defScope s_law) (by decide +kernel)) rfl (fun _ _ _ _ _ => rfl) (fun A outer s H E f c' hr2 => (pe_make T.mk_Book (ok_Book_init T) (hr2.mono (by decide)) (by rfl) T.gC_Book T.b_Book_init .nil (passes_call (takes_of rfl rfl rfl rfl) (fun _ _ _ _ h => h)) (pa_cons (pv 8) pa_nil)))) (pe_tup (pa_cons pe_str (pa_cons pe_str pa_nil))) (nomark _)) (pw_or1 (pt_cmpR op_ne (pe_callB call_len_seq (by rfl) T.m_len PySem.boot_len (pa_cons (pe_fld (pe_make T.mk_Book (ok_Book_init T) (hr.mono (by decide)) (by rfl) T.gC_Book T.b_Book_init .nil passF (pa_cons (pe_slice sl_list (pv 7) po_none (po_some pe_int)) pa_nil)) rfl) pa_nil)) pe_int (nomark _)))))
        (pss_one (ps_ret pe_bl))
        pss_nil)))))))))
    (pss_one (ps_ret pe_bl)))), ?_⟩
    refine go_seq (go_asg ⟨_, rfl, a, ns, rfl, hs, fun w1 wc H1 nw e1 w0 => ?_⟩)
    have T1 : Tabs (twoTabs Pt Pu) H1 := fun p hp => by
      rcases List.mem_cons.mp hp with rfl | hp
      · exact TabS.nil (e1 _ _ hPt)
      · rw [List.mem_singleton.mp hp]
        exact TabS.nil (e1 _ _ hPu)
    dsimp only [gName]
    refine go_seq ⟨3, rfl, by decide, by decide, for_range (lo := 0) (n := 3) (fun i σ H' => ∃ (o2 o3 o4 o5 o6 o7 o8 : Option V), σ = [some (.ref a), some (.ref w1), o2, o3, o4, o5, o6, o7, o8] ∧ Wh H' w1 wc (1000 * i) ∧ Tabs (twoTabs Pt Pu) H')
      ⟨none, none, none, none, none, none, none, rfl, w0, T1⟩ (fun i σ' Hc hi h => ?_) (fun σ' Hc h => ?_)⟩
    · obtain ⟨o2, o3, o4, o5, o6, o7, o8, rfl, wi, Ti⟩ := h
      have mk : ∀ {xs : List V} {H0 : Hp} {p : Addr} {n : Nat} {Q : VK}, H0 p = none → Wh H0 w1 wc n → n < 1000000 → xs ≠ [] → xs.length ≤ 1000000 → (∀ v H', v ∈ xs → Mv w1 H0 H' → Wh H' w1 wc (n + 1) → Q v H') → sp_law_one_of K [.ref w1, .ref p] (upd H0 p (.lst xs)) Q E0 := fun {xs H0 p n Q} np w hn h0 hl q => by
        have hpw := w.ne np
        refine ⟨w1, p, wc, xs, n, rfl, .inl (.inl upd_same), h0, hl, w.new np, hn, fun H' m => .inl (.inl (m _ _ hpw upd_same)), fun v H' hv m w' => q v H' hv ((Mv.of (same_new np)).trans m) w'⟩
      refine go_seq (go_asg ⟨_, rfl, _, rfl, sz4, fun p1 n1 => mk n1 wi (by omega) (by simp) (show 4 ≤ 1000000 by decide) fun v1 H1 hv1 m1 w1' => ⟨_, rfl, sz3, fun p2 n2 => mk n2 w1' (by omega) (by simp) (show 3 ≤ 1000000 by decide) fun v2 H2 hv2 m2 w2' => ⟨_, rfl, sz3, fun p3 n3 => mk n3 w2' (by omega) (by simp) (show 3 ≤ 1000000 by decide) fun v3 H3 hv3 m3 w3' => ?_⟩⟩⟩)
      obtain ⟨i1, rfl, a1, b1⟩ : ∃ z : Int, v1 = .int z ∧ 1 ≤ z ∧ z ≤ 40 := by
        simp only [List.mem_cons, List.not_mem_nil, or_false] at hv1
        rcases hv1 with rfl | rfl | rfl | rfl <;> exact ⟨_, rfl, by decide, by decide⟩
      obtain ⟨i2, rfl, a2, b2⟩ : ∃ z : Int, v2 = .int z ∧ 1 ≤ z ∧ z ≤ 12 := by
        simp only [List.mem_cons, List.not_mem_nil, or_false] at hv2
        rcases hv2 with rfl | rfl | rfl <;> exact ⟨_, rfl, by decide, by decide⟩
      obtain ⟨i3, rfl, a3, b3⟩ : ∃ z : Int, v3 = .int z ∧ 1 ≤ z ∧ z ≤ 26 := by
        simp only [List.mem_cons, List.not_mem_nil, or_false] at hv3
        rcases hv3 with rfl | rfl | rfl <;> exact ⟨_, rfl, by decide, by decide⟩
      refine ⟨w1, wc, i1, i2, i3, _, rfl, a1, b1, a2, b2, a3, b3, w3', by omega, fun b ws H4 hW hba m4 w4 => ?_⟩
      have mv4 := ((m1.trans m2).trans m3).trans m4
      have T4 := Tabs.mv Ti wi mv4
      clear hv1 hv2 hv3 m1 m2 m3 m4 mv4 n1 n2 n3 w1' w2' w3' Ti wi
      dsimp only [gName]
      refine go_seq (go_if (go_not (go_b ⟨_, rfl, _, rfl, w1, wc, b, ws, _, rfl, hW, hba, w4, by omega, T4, fun H5 e5 w5 T5 => ⟨_, rfl, iteF (A := _) ?_⟩⟩)))
      obtain ⟨hb4, l1, l2, hw, nd⟩ := hW
      have hb5 : H5 b = some (.lst (ws.map tx)) := ext_at e5 (core_at hb4 hba (fun ps z => by cases z))
      clear e5 w4 T4 hb4
      dsimp only [tNext]
      have sqb : ∀ {HH : Hp}, HH b = some (.lst (ws.map tx)) → SqL K HH b (ws.map tx) := fun h => .inl (.inl h)
      refine go_seq (go_asg ⟨_, rfl, go_cons (go_op (go_cb (go_cons (go_var rfl (go_nil ⟨b, _, rfl, .inl (sqb hb5), _, _, rfl, rfl, go_nil ⟨w1, wc, _, _, rfl, by omega, by rw [List.length_map]; omega, w5, by omega, fun at_ H6 r0 r1 m6 w6 => ?_⟩⟩)))))⟩)
      rw [List.length_map] at r1
      obtain ⟨k, rfl⟩ : ∃ k : Nat, at_ = k := ⟨at_.toNat, by omega⟩
      have hb6 := m6 _ _ hba hb5
      have T6 := Tabs.mv T5 w5 m6
      clear m6 w5 T5 hb5
      dsimp only [gName]
      obtain ⟨wz, hwz, hz⟩ : ∃ wz, wz ∈ ws ∧ atI (ws.map tx) 0 = some (tx wz) := by
        match ws, l1 with
        | x :: r, _ =>
          refine ⟨x, List.mem_cons_self, ?_⟩
          show atI _ ((0 : Nat) : Int) = _
          rw [at_nat (by simp)]
          rfl
      refine go_seq (go_asg ⟨_, rfl, [97], 13, rfl, rfl, by decide, by decide, sz1, fun p1 n1 => ⟨_, rfl, b, _, 0, _, rfl, rfl, sqb (same_new n1 _ _ hb6), hz, (show 12 ≤ sizeLine by decide), fun p2 n2 => ?_⟩⟩)
      have pw := w6.ne n1
      have s1 := same_new (o := HO.lst [V.str (Str.ofString "a")]) n1
      have w7 := w6.same s1
      have T7 := Tabs.same T6 s1
      have hb7 := s1 _ _ hb6
      have hx7 : upd H6 p1 (HO.lst [V.str (Str.ofString "a")]) p1 = _ := upd_same
      refine mk n2 w7 (by omega) (by simp) (show 12 ≤ 1000000 by decide) fun odd H8 ho m8 w8 => ?_
      have hO : OddV K (core w1 H8) ws odd := by
        refine OddV.same (core_core (core_mv m8)) ?_
        have g1 := core_at (a := w1) hx7 pw (fun ps z => by cases z)
        simp only [List.mem_cons, List.not_mem_nil, or_false] at ho
        rcases ho with rfl | rfl | rfl | rfl | rfl | rfl | rfl | rfl | rfl | rfl | rfl | rfl
        · exact ⟨str_any _ (by decide), .inl (by decide +kernel)⟩
        · exact ⟨str_any _ (by decide), .inl (by decide +kernel)⟩
        · exact ⟨str_any _ (by decide), .inl (by decide +kernel)⟩
        · exact ⟨str_any _ (by rw [S_len, rep_len]; decide), .inl (by decide +kernel)⟩
        · exact ⟨str_no rfl (.base .non) (by decide +kernel), .inl rfl⟩
        · exact ⟨str_no rfl (.base (.int 5)) (by decide +kernel), .inl rfl⟩
        · exact ⟨str_no rfl (tyL (.inl (.inl g1))) (by decide +kernel), .inl rfl⟩
        · exact ⟨str_any _ (by decide), .inl (by decide +kernel)⟩
        · exact ⟨str_any _ (by decide), .inl (by decide +kernel)⟩
        · exact ⟨str_no rfl (.base (.bl true)) (by decide +kernel), .inl rfl⟩
        · exact ⟨str_tx (hw wz hwz), .inr ⟨wz, hwz, rfl⟩⟩
        · exact ⟨str_any _ (by decide), .inl (by decide +kernel)⟩
      have hb8 := m8 _ _ hba hb7
      have T8 := Tabs.mv T7 w7 m8
      clear ho m8 w7 T7 hb7 hx7 pw s1 n1 n2 w6 T6 hb6
      dsimp only [gName]
      refine go_seq (go_asg ⟨42, rfl, by decide, by decide, fun D nD => lc_range (lo := 0) (n := 42) (fun j H' => H' D = some (.lst ((many j).map tx)) ∧ Same H8 H') ⟨upd_same, same_new nD⟩ (fun j Hd hj h => ?_) (fun H9 h => ?_)⟩)
      · obtain ⟨hD, e⟩ := h
        refine ⟨rfl, ?_⟩
        refine iteT (B := True) ?_
        refine ⟨_, rfl, .inl ⟨_, rfl, _, _, rfl, rfl, (show (7 : Int) ≠ 0 by decide), _, _, _, rfl, rfl, (show 7 ≤ sizeLine by decide), (at7 j hj).1, _, rfl, _, _, rfl, rfl, ⟨by decide, by decide⟩, _, _, _, rfl, rfl, (show 6 ≤ sizeLine by decide), (at7 j hj).2, _, _, rfl, rfl, (show 2 ≤ sizeLine by decide), ?_⟩⟩
        refine ⟨_, hD, ?_, ?_, ?_⟩
        · rw [List.length_map]
          show ((List.range j).map two).length < sizeLine
          rw [List.length_map, List.length_range]
          exact Nat.lt_of_lt_of_le hj (by decide)
        · rw [upd_same]
          show _ = some (HO.lst (((List.range (j + 1)).map two).map tx))
          rw [List.range_succ, List.map_append, List.map_append]
          rfl
        · exact same_set e nD
      obtain ⟨hD9, e9⟩ := h
      have hO9 := hO.same (core_core (core_sub.trans e9))
      have hb9 := e9 _ _ hb8
      have T9 := Tabs.same T8 e9
      have w9 := w8.same e9
      have hDw := (w8.ne nD)
      clear hO hb8 T8 w8 e9 nD
      dsimp only [gName]
      have c1 : cutV (ws.map tx) none (some (k : Int)) = (ws.take k).map tx := by rw [cut_to, List.map_take]
      have c2 : cutV (ws.map tx) (some (k : Int)) none = (ws.drop k).map tx := by rw [cut_from, List.map_drop]
      have t1 : (ws.take k).length ≤ 40 := Nat.le_trans (List.length_take_le' ..) l2
      have t2 : (ws.drop k).length ≤ 40 := by rw [List.length_drop]; omega
      refine go_seq (go_asg ⟨_, rfl, _, rfl, _, rfl, _, rfl, b, _, rfl, sqb hb9, fun q1 m1 => ?_⟩)
      rw [c1]
      refine ⟨_, rfl, sz1, fun q2 m2 => ⟨q1, q2, _, _, rfl, rfl, same_new m2 _ _ upd_same, upd_same, ?_, fun q3 m3 => ?_⟩⟩
      · rw [List.length_map]
        exact Nat.le_trans (Nat.add_le_add_right t1 1) (show 41 ≤ sizeLine by decide)
      have e3 := ((same_new (o := HO.lst ((ws.take k).map tx)) m1).trans (same_new (o := HO.lst [odd]) m2)).trans (same_new (o := HO.lst ((ws.take k).map tx ++ [odd])) m3)
      have h3 := upd_same (H := upd (upd H9 q1 (HO.lst ((ws.take k).map tx))) q2 (HO.lst [odd])) (a := q3) (o := HO.lst ((ws.take k).map tx ++ [odd]))
      generalize upd (upd (upd H9 q1 (HO.lst ((ws.take k).map tx))) q2 (HO.lst [odd])) q3 (HO.lst ((ws.take k).map tx ++ [odd])) = H10 at e3 h3 ⊢
      clear m1 m2 m3 q1 q2
      refine ⟨_, rfl, _, rfl, _, rfl, b, _, rfl, sqb (e3 _ _ hb9), fun q4 m4 => ?_⟩
      rw [c2]
      refine ⟨q3, q4, _, _, rfl, rfl, same_new m4 _ _ h3, upd_same, ?_, fun q5 m5 => ?_⟩
      · rw [List.length_map, List.length_append, List.length_map]
        exact Nat.le_trans (show (ws.take k).length + 1 + (ws.drop k).length ≤ 81 by omega) (show 81 ≤ sizeLine by decide)
      have e5 := e3.trans ((same_new (o := HO.lst ((ws.drop k).map tx)) m4).trans (same_new (o := HO.lst ((ws.take k).map tx ++ [odd] ++ (ws.drop k).map tx)) m5))
      have h5 := upd_same (H := upd H10 q4 (HO.lst ((ws.drop k).map tx))) (a := q5) (o := HO.lst ((ws.take k).map tx ++ [odd] ++ (ws.drop k).map tx))
      generalize upd (upd H10 q4 (HO.lst ((ws.drop k).map tx))) q5 (HO.lst ((ws.take k).map tx ++ [odd] ++ (ws.drop k).map tx)) = H11 at e5 h5 ⊢
      have d5 := (w9.same (e3.trans (same_new (o := HO.lst ((ws.drop k).map tx)) m4))).ne m5
      clear m4 m5 q3 q4 e3 h3 H10
      refine ⟨Nat.zero_le _, fun q6 m6 => ⟨Nat.zero_le _, fun q7 m7 q8 m8 => ⟨upd_same, [(.inr (Str.ofString "a"), .int 1)], rfl, by decide, ?_⟩⟩⟩
      have s7 := (same_new (o := HO.lst []) m6).trans (same_new (o := HO.tup []) m7)
      have s8 := same_set (o := HO.dK (mergeK [] [(Sum.inr (Str.ofString "a"), V.int 1)])) (same_new (o := HO.dK []) m8) m8
      have e8 := e5.trans (s7.trans s8)
      have h58 := (s7.trans s8) _ _ h5
      have h68 := ((same_new (o := HO.tup []) m7).trans s8) _ _ (upd_same (a := q6) (H := H11) (o := HO.lst []))
      have h78 := s8 _ _ (upd_same (a := q7) (H := upd H11 q6 (HO.lst [])) (o := HO.tup []))
      have h88 := upd_same (H := upd (upd (upd H11 q6 (HO.lst [])) q7 (HO.tup [])) q8 (HO.dK [])) (a := q8) (o := HO.dK (mergeK [] [(Sum.inr (Str.ofString "a"), V.int 1)]))
      generalize upd (upd (upd (upd H11 q6 (HO.lst [])) q7 (HO.tup [])) q8 (HO.dK [])) q8 (HO.dK (mergeK [] [(Sum.inr (Str.ofString "a"), V.int 1)])) = H12 at e8 h58 h68 h78 h88 ⊢
      have d6 := (w9.same e5).ne m6
      have d7 := ((w9.same e5).same (same_new (o := HO.lst []) m6)).ne m7
      have d8 := ((w9.same e5).same ((same_new (o := HO.lst []) m6).trans (same_new (o := HO.tup []) m7))).ne m8
      clear s7 s8 m6 m7 m8 e5 h5 H11
      have c3 : cutV ((many 42).map tx) none (some 41) = (many 41).map tx := by
        show cutV ((many 42).map tx) none (some ((41 : Nat) : Int)) = _
        rw [cut_to, ← List.map_take, show (many 42).take 41 = many 41 by decide]
      refine ⟨_, rfl, _, rfl, D, _, rfl, .inl (.inl (e8 _ _ hD9)), fun q9 m9 => ?_⟩
      rw [c3]
      refine ⟨sz1, fun q10 m10 => ⟨sz1, fun q11 m11 => ?_⟩⟩
      have s10 := same_new (o := HO.lst [V.str (Str.ofString "a")]) m10
      have s11 := same_new (o := HO.lst [V.ref q10]) m11
      have s9 := (same_new (o := HO.lst ((many 41).map tx)) m9).trans (s10.trans s11)
      have e11 := e8.trans s9
      have h5b := s9 _ _ h58
      have h6b := s9 _ _ h68
      have h7b := s9 _ _ h78
      have h8b := s9 _ _ h88
      have h9b := (s10.trans s11) _ _ (upd_same (a := q9) (H := H12) (o := HO.lst ((many 41).map tx)))
      have h10b := s11 _ _ (upd_same (a := q10) (H := upd H12 q9 (HO.lst ((many 41).map tx))) (o := HO.lst [V.str (Str.ofString "a")]))
      have h11b := upd_same (a := q11) (H := upd (upd H12 q9 (HO.lst ((many 41).map tx))) q10 (HO.lst [V.str (Str.ofString "a")])) (o := HO.lst [V.ref q10])
      generalize upd (upd (upd H12 q9 (HO.lst ((many 41).map tx))) q10 (HO.lst [V.str (Str.ofString "a")])) q11 (HO.lst [V.ref q10]) = H13 at e11 h5b h6b h7b h8b h9b h10b h11b ⊢
      have w12 := w9.same e8
      have d9 := w12.ne m9
      have d10 := (w12.same (same_new (o := HO.lst ((many 41).map tx)) m9)).ne m10
      have d11 := (w12.same ((same_new (o := HO.lst ((many 41).map tx)) m9).trans s10)).ne m11
      clear w12 s9 s10 s11 m9 m10 m11 e8 h58 h68 h78 h88 H12
      have w13 := w9.same e11
      have T13 := Tabs.same T9 e11
      have hb13 := e11 _ _ hb9
      have hD13 := e11 _ _ hD9
      have hO13 := hO9.same (core_core (core_sub.trans e11))
      clear e11 w9 T9 hb9 hD9 hO9
      refine ⟨(show 9 ≤ sizeLine by decide), fun q12 m12 => mk m12 w13 (by omega) (by simp) (show 9 ≤ 1000000 by decide) fun nv H14 hnv m14 w14 => ?_⟩
      have mw : ∀ n, ∀ w ∈ many n, n ≤ 42 → wordB w = true := fun n w hm hn => by
        have : ∀ w ∈ many 42, wordB w = true := by decide +kernel
        refine this w ?_
        obtain ⟨j, hj, rfl⟩ := List.mem_map.mp hm
        have := List.mem_range.mp hj
        exact List.mem_map.mpr ⟨j, List.mem_range.mpr (by omega), rfl⟩
      have hW : WArg K H14 nv 40 none := by
        refine WArg.same (core_mv m14) ?_
        have ca : ∀ {p : Addr} {o : HO}, H13 p = some o → p ≠ w1 → (∀ ps, o ≠ .tbl ps) → core w1 H13 p = some o := fun h n t => core_at h n t
        have no : ∀ {v : V} {n : String}, TyX K (core w1 H13) v (.type n) → kitB n "list" = some false → kitB n "tuple" = some false → WArg K (core w1 H13) v 40 none := fun t h1 h2 => .inl ⟨rfl, _, t, no_list h1 h2⟩
        have sq : ∀ {p : Addr} {vs : List V}, SqQ K (core w1 H13) p vs → vs.length ≤ 4000 → (∀ v ∈ vs, StrIs K (core w1 H13) v (txtV v)) → wordsB 40 (vs.map txtV) = false → WArg K (core w1 H13) (.ref p) 40 none := fun h1 h2 h3 h4 => .inr ⟨_, _, rfl, h1, h2, h3, h4, fun ws e => by cases e⟩
        simp only [List.mem_cons, List.not_mem_nil, or_false] at hnv
        rcases hnv with rfl | rfl | rfl | rfl | rfl | rfl | rfl | rfl | rfl
        · refine sq (.inl (.inl (.inl (ca h5b d5 (fun ps z => by cases z))))) ?_ (fun v hv => ?_) (odd_none hO13)
          · rw [List.length_append, List.length_append, List.length_map, List.length_map]
            show (ws.take k).length + 1 + (ws.drop k).length ≤ 4000
            omega
          · rcases List.mem_append.mp hv with hv | hv
            · rcases List.mem_append.mp hv with hv | hv
              · obtain ⟨w, hm, rfl⟩ := List.mem_map.mp hv
                exact str_tx (hw w (List.mem_of_mem_take hm))
              · rw [List.mem_singleton.mp hv]
                exact hO13.1
            · obtain ⟨w, hm, rfl⟩ := List.mem_map.mp hv
              exact str_tx (hw w (List.mem_of_mem_drop hm))
        · exact sq (.inl (.inl (.inl (ca h6b d6 (fun ps z => by cases z))))) (by decide) (fun v hv => by cases hv) rfl
        · exact sq (.inr (.inl (.inl (ca h7b d7 (fun ps z => by cases z))))) (by decide) (fun v hv => by cases hv) rfl
        · exact no (.base .non) (by decide +kernel) (by decide +kernel)
        · exact no (.base (.int 5)) (by decide +kernel) (by decide +kernel)
        · exact no (.base (.str _)) (by decide +kernel) (by decide +kernel)
        · exact no (.base (.dK (ca h8b d8 (fun ps z => by cases z)))) (by decide +kernel) (by decide +kernel)
        · refine sq (.inl (.inl (.inl (ca h9b d9 (fun ps z => by cases z))))) (by decide) (fun v hv => ?_) (by decide +kernel)
          obtain ⟨w, hm, rfl⟩ := List.mem_map.mp hv
          exact str_tx (mw 41 w hm (by decide))
        · refine sq (.inl (.inl (.inl (ca h11b d11 (fun ps z => by cases z))))) (show 1 ≤ 4000 by decide) (fun v hv => ?_) rfl
          rw [List.mem_singleton.mp hv]
          exact str_no rfl (tyL (.inl (.inl (ca h10b d10 (fun ps z => by cases z))))) (by decide +kernel)
      have hb14 := m14 _ _ hba hb13
      have hD14 := m14 _ _ hDw hD13
      have T14 := Tabs.mv T13 w13 m14
      clear hnv m14 w13 T13 hb13 hD13 h5b h6b h7b h8b h9b h10b h11b m12 hO13 d5 d6 d7 d8 d9 d10 d11
      dsimp only [gName]
      refine go_if (go_or2 (go_test (go_op ?_)))
      refine ⟨T14, fun H15 e15 T15 N hN => ?_⟩
      refine go_cons (go_var rfl (go_nil fun bk dx0 nbk ndx _ => book_none nbk ndx (hW.ext e15) fun d H16 e16 hd => ?_))
      refine ⟨d, .str "words", .inl rfl, rfl, hd, fun t H17 e17 ht => ?_⟩
      rw [if_pos rfl] at ht
      refine ⟨sz2, fun t2 nt2 => ?_⟩
      refine ⟨.tuple [.str "book", .str "words"], .tuple [.str "book", .str "words"], .tup (.inl (.inl (same_new nt2 _ _ ht))) (.cons (.str _) (.cons (.str _) .nil)), .tup (.inl (.inl upd_same)) (.cons (.str _) (.cons (.str _) .nil)), by decide +kernel, by decide +kernel, ?_⟩
      rw [show (PyData.eqv (.tuple [.str "book", .str "words"]) (.tuple [.str "book", .str "words"])) = true by decide +kernel]
      have e18 := e15.trans (ExtN.of ((e16.trans e17).trans (same_new (o := HO.tup [.str "book", .str "words"]) nt2)))
      have T18 := T15.ext ((e16.trans e17).trans (same_new (o := HO.tup [.str "book", .str "words"]) nt2))
      have hD18 := ext_at e18 hD14
      have w18 := w14.ext e18
      generalize upd H17 t2 (HO.tup [.str "book", .str "words"]) = H18 at e18 T18 hD18 w18 ⊢
      clear e15 e16 e17 ht nt2 hd T14 T15 hW hb14 hD14 w14
      refine ⟨_, rfl, ?_⟩
      refine iteF (A := _) ?_
      have c4 : cutV ((many 42).map tx) none (some 40) = (many 40).map tx := by
        show cutV ((many 42).map tx) none (some ((40 : Nat) : Int)) = _
        rw [cut_to, ← List.map_take, show (many 42).take 40 = many 40 by decide]
      refine go_test (go_op (go_cb (go_cons (go_fld (go_cons ⟨_, rfl, _, rfl, D, _, rfl, .inl (.inl hD18), fun p np => ?_⟩)))))
      rw [c4]
      refine go_nil fun b3 dx0 nb3 ndx3 _ => book_new nb3 ndx3 (words_arg (.inl (.inl (.inl upd_same))) (by decide) (by decide) (by decide) (fun w m => mw 40 w m (by decide)) (by decide +kernel)) ⟨p, rfl, .inl (.inl (.inl upd_same))⟩ fun H19 e19 hB19 => ⟨rfl, ?_⟩
      obtain ⟨dx, t, g1, g2, g3⟩ := hB19
      refine ⟨b3, T.C_Book, dx, _, .ref t, rfl, g1, T.cl_Book, T.na_Book_words, rfl, go_nil ⟨t, _, rfl, .inr g2, rfl, _, rfl, ?_⟩⟩
      have e40 : (!decide (V.int (((many 40).map tx).length : Nat) = V.int 40)) = false := by decide
      rw [e40]
      refine iteF (A := _) ?_
      exact ⟨_, _, _, _, _, _, _, rfl, (w18.same ((same_new (o := HO.lst ((many 40).map tx)) np).trans e19)).lt (by omega), Tabs.same T18 ((same_new (o := HO.lst ((many 40).map tx)) np).trans e19)⟩
    · exact q _
end
end K09
namespace K09
open PySem PySem.Spec PyProof.Rows L2 Kx SX LamX
def tx_mk {K : PySem.W.Frag} {h : Heap} {mg : Str → Option Value} (X : K.In h) (G : h.Ns mainGlobals mg)
    {f0 : Addr} {od0 an0 : Option Addr} {sl0 : Array (Option Value)} {oc0 kV0 dc0 pm0 cd0 ct0 : Value}
    {f1 : Addr} {od1 an1 : Option Addr} {sl1 : Array (Option Value)} {oc1 kV1 dc1 pm1 cd1 ct1 : Value}
    {f2 : Addr} {od2 an2 : Option Addr} {sl2 : Array (Option Value)} {oc2 kV2 dc2 pm2 cd2 ct2 : Value}
    {f3 : Addr} {od3 an3 : Option Addr} {sl3 : Array (Option Value)} {oc3 kV3 dc3 pm3 cd3 ct3 : Value}
    {f4 : Addr} {od4 an4 : Option Addr} {sl4 : Array (Option Value)} {oc4 kV4 dc4 pm4 cd4 ct4 : Value}
    {f5 : Addr} {od5 an5 : Option Addr} {sl5 : Array (Option Value)} {oc5 kV5 dc5 pm5 cd5 ct5 : Value}
    {f6 : Addr} {od6 an6 : Option Addr} {sl6 : Array (Option Value)} {oc6 kV6 dc6 pm6 cd6 ct6 : Value}
    {f7 : Addr} {od7 an7 : Option Addr} {sl7 : Array (Option Value)} {oc7 kV7 dc7 pm7 cd7 ct7 : Value}
    {f8 : Addr} {od8 an8 : Option Addr} {sl8 : Array (Option Value)} {oc8 kV8 dc8 pm8 cd8 ct8 : Value}
    {f9 : Addr} {od9 an9 : Option Addr} {sl9 : Array (Option Value)} {oc9 kV9 dc9 pm9 cd9 ct9 : Value}
    {f10 : Addr} {od10 an10 : Option Addr} {sl10 : Array (Option Value)} {oc10 kV10 dc10 pm10 cd10 ct10 : Value}
    {f11 : Addr} {od11 an11 : Option Addr} {sl11 : Array (Option Value)} {oc11 kV11 dc11 pm11 cd11 ct11 : Value}
    {mf0 : Addr} {mod0 man0 : Option Addr} {msl0 : Array (Option Value)} {moc0 mkV0 mdc0 mpm0 mcd0 mct0 : Value}
    {mf1 : Addr} {mod1 man1 : Option Addr} {msl1 : Array (Option Value)} {moc1 mkV1 mdc1 mpm1 mcd1 mct1 : Value}
    {mf2 : Addr} {mod2 man2 : Option Addr} {msl2 : Array (Option Value)} {moc2 mkV2 mdc2 mpm2 mcd2 mct2 : Value}
    {KC_Book : Addr}
    {KD_TooMany : Addr}
    {KD_BadBook : Addr}
    {KD_BadWord : Addr}
    {t0 : Tok}
    {t1 : Tok}
    (a0 : PySem.W.nsIn K mainGlobals "is_list" = some (some (.ref f0))) (l0 : K.lookup f0 = some ⟨oc0, od0, .func (PySem.W.fnOf "is_list" "is_list" (defArgs s_is_list) (defBody s_is_list) (defScope s_is_list) .none kV0 dc0 pm0 an0 cd0 ct0), sl0⟩) (c0 : PySem.W.codeIn K cd0 "is_list" = true) (k0 : PySem.W.keepIn K (.ref f0) = true)
    (a1 : PySem.W.nsIn K mainGlobals "are_letters" = some (some (.ref f1))) (l1 : K.lookup f1 = some ⟨oc1, od1, .func (PySem.W.fnOf "are_letters" "are_letters" (defArgs s_are_letters) (defBody s_are_letters) (defScope s_are_letters) .none kV1 dc1 pm1 an1 cd1 ct1), sl1⟩) (c1 : PySem.W.codeIn K cd1 "are_letters" = true) (k1 : PySem.W.keepIn K (.ref f1) = true)
    (a2 : PySem.W.nsIn K mainGlobals "is_word" = some (some (.ref f2))) (l2 : K.lookup f2 = some ⟨oc2, od2, .func (PySem.W.fnOf "is_word" "is_word" (defArgs s_is_word) (defBody s_is_word) (defScope s_is_word) .none kV2 dc2 pm2 an2 cd2 ct2), sl2⟩) (c2 : PySem.W.codeIn K cd2 "is_word" = true) (k2 : PySem.W.keepIn K (.ref f2) = true)
    (a3 : PySem.W.nsIn K mainGlobals "are_words" = some (some (.ref f3))) (l3 : K.lookup f3 = some ⟨oc3, od3, .func (PySem.W.fnOf "are_words" "are_words" (defArgs s_are_words) (defBody s_are_words) (defScope s_are_words) .none kV3 dc3 pm3 an3 cd3 ct3), sl3⟩) (c3 : PySem.W.codeIn K cd3 "are_words" = true) (k3 : PySem.W.keepIn K (.ref f3) = true)
    (a4 : PySem.W.nsIn K mainGlobals "_law_shelf" = some (some (.ref f4))) (l4 : K.lookup f4 = some ⟨oc4, od4, .func (PySem.W.fnOf "_law_shelf" "_law_shelf" (defArgs s_law_shelf) (defBody s_law_shelf) (defScope s_law_shelf) .none kV4 dc4 pm4 an4 cd4 ct4), sl4⟩) (c4 : PySem.W.codeIn K cd4 "_law_shelf" = true) (k4 : PySem.W.keepIn K (.ref f4) = true)
    (a5 : PySem.W.nsIn K mainGlobals "_law_reach" = some (some (.ref f5))) (l5 : K.lookup f5 = some ⟨oc5, od5, .func (PySem.W.fnOf "_law_reach" "_law_reach" (defArgs s_law_reach) (defBody s_law_reach) (defScope s_law_reach) .none kV5 dc5 pm5 an5 cd5 ct5), sl5⟩) (c5 : PySem.W.codeIn K cd5 "_law_reach" = true) (k5 : PySem.W.keepIn K (.ref f5) = true)
    (a6 : PySem.W.nsIn K mainGlobals "_law_one_of" = some (some (.ref f6))) (l6 : K.lookup f6 = some ⟨oc6, od6, .func (PySem.W.fnOf "_law_one_of" "_law_one_of" (defArgs s_law_one_of) (defBody s_law_one_of) (defScope s_law_one_of) .none kV6 dc6 pm6 an6 cd6 ct6), sl6⟩) (c6 : PySem.W.codeIn K cd6 "_law_one_of" = true) (k6 : PySem.W.keepIn K (.ref f6) = true)
    (a7 : PySem.W.nsIn K mainGlobals "_law_word" = some (some (.ref f7))) (l7 : K.lookup f7 = some ⟨oc7, od7, .func (PySem.W.fnOf "_law_word" "_law_word" (defArgs s_law_word) (defBody s_law_word) (defScope s_law_word) .none kV7 dc7 pm7 an7 cd7 ct7), sl7⟩) (c7 : PySem.W.codeIn K cd7 "_law_word" = true) (k7 : PySem.W.keepIn K (.ref f7) = true)
    (a8 : PySem.W.nsIn K mainGlobals "_law_words" = some (some (.ref f8))) (l8 : K.lookup f8 = some ⟨oc8, od8, .func (PySem.W.fnOf "_law_words" "_law_words" (defArgs s_law_words) (defBody s_law_words) (defScope s_law_words) .none kV8 dc8 pm8 an8 cd8 ct8), sl8⟩) (c8 : PySem.W.codeIn K cd8 "_law_words" = true) (k8 : PySem.W.keepIn K (.ref f8) = true)
    (a9 : PySem.W.nsIn K mainGlobals "_law_heard" = some (some (.ref f9))) (l9 : K.lookup f9 = some ⟨oc9, od9, .func (PySem.W.fnOf "_law_heard" "_law_heard" (defArgs s_law_heard) (defBody s_law_heard) (defScope s_law_heard) .none kV9 dc9 pm9 an9 cd9 ct9), sl9⟩) (c9 : PySem.W.codeIn K cd9 "_law_heard" = true) (k9 : PySem.W.keepIn K (.ref f9) = true)
    (a10 : PySem.W.nsIn K mainGlobals "_law_book_right" = some (some (.ref f10))) (l10 : K.lookup f10 = some ⟨oc10, od10, .func (PySem.W.fnOf "_law_book_right" "_law_book_right" (defArgs s_law_book_right) (defBody s_law_book_right) (defScope s_law_book_right) .none kV10 dc10 pm10 an10 cd10 ct10), sl10⟩) (c10 : PySem.W.codeIn K cd10 "_law_book_right" = true) (k10 : PySem.W.keepIn K (.ref f10) = true)
    (a11 : PySem.W.nsIn K mainGlobals "law" = some (some (.ref f11))) (l11 : K.lookup f11 = some ⟨oc11, od11, .func (PySem.W.fnOf "law" "law" (defArgs s_law) (defBody s_law) (defScope s_law) .none kV11 dc11 pm11 an11 cd11 ct11), sl11⟩) (c11 : PySem.W.codeIn K cd11 "law" = true) (k11 : PySem.W.keepIn K (.ref f11) = true)
    (ca_Book : PySem.W.nsIn K mainGlobals "Book" = some (some (.ref KC_Book)))
    (cp_Book : PySem.W.plainGet K KC_Book Str.empty = true)
    (cd_Book : PySem.W.hasDictIn K KC_Book = true)
    (co_Book : PySem.W.plainOver K KC_Book = true)
    (cs_Book : PySem.W.findIn K (.ref KC_Book) "__setattr__" = some (some (.builtin "object.__setattr__")))
    (cm_Book : PySem.W.makesIn K KC_Book = true)
    (ck_Book : PySem.W.keepIn K (.ref KC_Book) = true)
    (cb_Book : PySem.W.mroIn K KC_Book (.type "object") = some true)
    (cn_Book : PySem.W.findIn K (.ref KC_Book) "__ne__" = some (some (.builtin "object.__ne__")))
    (cc_Book : PySem.W.findIn K (.ref KC_Book) "__class__" = some (some (.builtin "object.__class__")))
    (cg_Book : PySem.W.specialIn K (.builtin "object.__class__") "__get__" = some (some (.builtin "getset_descriptor.__get__")))
    (ct_Book : PySem.W.takesIn K (.builtin "object.__class__") = some true)
    (ci_Book : PySem.W.isClsIn K KC_Book = true)
    (cy_Book : PySem.W.typeIn K (.ref KC_Book) = some (.type "type"))
    (cx_Book_words : PySem.W.findIn K (.ref KC_Book) "words" = some none)
    (da_TooMany : PySem.W.nsIn K mainGlobals "TooMany" = some (some (.ref KD_TooMany)))
    (di_TooMany : PySem.W.isClsIn K KD_TooMany = true)
    (dy_TooMany : PySem.W.typeIn K (.ref KD_TooMany) = some (.type "type"))
    (da_BadBook : PySem.W.nsIn K mainGlobals "BadBook" = some (some (.ref KD_BadBook)))
    (di_BadBook : PySem.W.isClsIn K KD_BadBook = true)
    (dy_BadBook : PySem.W.typeIn K (.ref KD_BadBook) = some (.type "type"))
    (da_BadWord : PySem.W.nsIn K mainGlobals "BadWord" = some (some (.ref KD_BadWord)))
    (di_BadWord : PySem.W.isClsIn K KD_BadWord = true)
    (dy_BadWord : PySem.W.typeIn K (.ref KD_BadWord) = some (.type "type"))
    (ds_BadBook_TooMany : PySem.W.subIn K (.ref KD_BadBook) (.ref KD_TooMany) = some false)
    (ds_BadBook_BadBook : PySem.W.subIn K (.ref KD_BadBook) (.ref KD_BadBook) = some true)
    (ds_BadBook_BadWord : PySem.W.subIn K (.ref KD_BadBook) (.ref KD_BadWord) = some false)
    (ds_BadWord_TooMany : PySem.W.subIn K (.ref KD_BadWord) (.ref KD_TooMany) = some false)
    (ds_BadWord_BadBook : PySem.W.subIn K (.ref KD_BadWord) (.ref KD_BadBook) = some false)
    (ds_BadWord_BadWord : PySem.W.subIn K (.ref KD_BadWord) (.ref KD_BadWord) = some true)
    (ma0 : PySem.W.findIn K (.ref KC_Book) "__init__" = some (some (.ref mf0))) (mi0 : PySem.W.isFn K (.ref mf0) = true) (ml0 : K.lookup mf0 = some ⟨moc0, mod0, .func (PySem.W.fnOf "__init__" "Book.__init__" (defArgs s_Book_init) (defBody s_Book_init) (defScope s_Book_init) .none mkV0 mdc0 mpm0 man0 mcd0 mct0), msl0⟩) (mc0 : PySem.W.codeIn K mcd0 "Book.__init__" = true) (mk0 : PySem.W.keepIn K (.ref mf0) = true)
    (ma1 : PySem.W.findIn K (.ref KC_Book) "__eq__" = some (some (.ref mf1))) (mi1 : PySem.W.isFn K (.ref mf1) = true) (ml1 : K.lookup mf1 = some ⟨moc1, mod1, .func (PySem.W.fnOf "__eq__" "Book.__eq__" (defArgs s_Book_eq) (defBody s_Book_eq) (defScope s_Book_eq) .none mkV1 mdc1 mpm1 man1 mcd1 mct1), msl1⟩) (mc1 : PySem.W.codeIn K mcd1 "Book.__eq__" = true) (mk1 : PySem.W.keepIn K (.ref mf1) = true)
    (ma2 : PySem.W.findIn K (.ref KC_Book) "number" = some (some (.ref mf2))) (mi2 : PySem.W.isFn K (.ref mf2) = true) (ml2 : K.lookup mf2 = some ⟨moc2, mod2, .func (PySem.W.fnOf "number" "Book.number" (defArgs s_Book_number) (defBody s_Book_number) (defScope s_Book_number) .none mkV2 mdc2 mpm2 man2 mcd2 mct2), msl2⟩) (mc2 : PySem.W.codeIn K mcd2 "Book.number" = true) (mk2 : PySem.W.keepIn K (.ref mf2) = true)
    (z0 : PySem.W.nsIn K mainGlobals "isinstance" = some none)
    (z1 : PySem.W.nsIn K mainGlobals "list" = some none)
    (z2 : PySem.W.nsIn K mainGlobals "tuple" = some none)
    (z3 : PySem.W.nsIn K mainGlobals "str" = some none)
    (z4 : PySem.W.nsIn K mainGlobals "len" = some none)
    (z5 : PySem.W.nsIn K mainGlobals "all" = some none)
    (z6 : PySem.W.nsIn K mainGlobals "set" = some none)
    (z7 : PySem.W.nsIn K mainGlobals "int" = some none)
    (z8 : PySem.W.nsIn K mainGlobals "abs" = some none)
    (z9 : PySem.W.nsIn K mainGlobals "range" = some none)
    (z10 : PySem.W.nsIn K mainGlobals "repr" = some none)
    (er_BadBook : Er K mg "BadBook" "BadBook.__init__" s_BadBook_init "LetterError")
    (er_BadWord : Er K mg "BadWord" "BadWord.__init__" s_BadWord_init "LetterError")
    (q0 : PySem.W.nsIn K mainGlobals "MOST_LETTERS" = some (some (.int 12 t0)))
    (q1 : PySem.W.nsIn K mainGlobals "MOST_WORDS" = some (some (.int 40 t1))) : Tx K mg :=
  {
    f_is_list := f0
    fd_is_list := _
    F_is_list := fun_mk (st := s_is_list) l0 c0 k0
    g_is_list := PySem.W.mg_of X G a0
    b_is_list := (fun_mk (st := s_is_list) l0 c0 k0).binds (ps := ["value"]) fun _ _ _ _ _ _ us hl => match us, hl with | [_], _ => rfl
    f_are_letters := f1
    fd_are_letters := _
    F_are_letters := fun_mk (st := s_are_letters) l1 c1 k1
    g_are_letters := PySem.W.mg_of X G a1
    b_are_letters := (fun_mk (st := s_are_letters) l1 c1 k1).binds (ps := ["text"]) fun _ _ _ _ _ _ us hl => match us, hl with | [_], _ => rfl
    f_is_word := f2
    fd_is_word := _
    F_is_word := fun_mk (st := s_is_word) l2 c2 k2
    g_is_word := PySem.W.mg_of X G a2
    b_is_word := (fun_mk (st := s_is_word) l2 c2 k2).binds (ps := ["value"]) fun _ _ _ _ _ _ us hl => match us, hl with | [_], _ => rfl
    f_are_words := f3
    fd_are_words := _
    F_are_words := fun_mk (st := s_are_words) l3 c3 k3
    g_are_words := PySem.W.mg_of X G a3
    b_are_words := (fun_mk (st := s_are_words) l3 c3 k3).binds (ps := ["value", "most"]) fun _ _ _ _ _ _ us hl => match us, hl with | [_, _], _ => rfl
    f_law_shelf := f4
    fd_law_shelf := _
    F_law_shelf := fun_mk (st := s_law_shelf) l4 c4 k4
    g_law_shelf := PySem.W.mg_of X G a4
    b_law_shelf := (fun_mk (st := s_law_shelf) l4 c4 k4).binds (ps := ["script"]) fun _ _ _ _ _ _ us hl => match us, hl with | [_], _ => rfl
    f_law_reach := f5
    fd_law_reach := _
    F_law_reach := fun_mk (st := s_law_reach) l5 c5 k5
    g_law_reach := PySem.W.mg_of X G a5
    b_law_reach := (fun_mk (st := s_law_reach) l5 c5 k5).binds (ps := ["shelf", "many"]) fun _ _ _ _ _ _ us hl => match us, hl with | [_, _], _ => rfl
    f_law_one_of := f6
    fd_law_one_of := _
    F_law_one_of := fun_mk (st := s_law_one_of) l6 c6 k6
    g_law_one_of := PySem.W.mg_of X G a6
    b_law_one_of := (fun_mk (st := s_law_one_of) l6 c6 k6).binds (ps := ["shelf", "some"]) fun _ _ _ _ _ _ us hl => match us, hl with | [_, _], _ => rfl
    f_law_word := f7
    fd_law_word := _
    F_law_word := fun_mk (st := s_law_word) l7 c7 k7
    g_law_word := PySem.W.mg_of X G a7
    b_law_word := (fun_mk (st := s_law_word) l7 c7 k7).binds (ps := ["shelf", "most", "letters"]) fun _ _ _ _ _ _ us hl => match us, hl with | [_, _, _], _ => rfl
    f_law_words := f8
    fd_law_words := _
    F_law_words := fun_mk (st := s_law_words) l8 c8 k8
    g_law_words := PySem.W.mg_of X G a8
    b_law_words := (fun_mk (st := s_law_words) l8 c8 k8).binds (ps := ["shelf", "many", "most", "letters"]) fun _ _ _ _ _ _ us hl => match us, hl with | [_, _, _, _], _ => rfl
    f_law_heard := f9
    fd_law_heard := _
    F_law_heard := fun_mk (st := s_law_heard) l9 c9 k9
    g_law_heard := PySem.W.mg_of X G a9
    b_law_heard := (fun_mk (st := s_law_heard) l9 c9 k9).binds (ps := ["ask"]) fun _ _ _ _ _ _ us hl => match us, hl with | [_], _ => rfl
    f_law_book_right := f10
    fd_law_book_right := _
    F_law_book_right := fun_mk (st := s_law_book_right) l10 c10 k10
    g_law_book_right := PySem.W.mg_of X G a10
    b_law_book_right := (fun_mk (st := s_law_book_right) l10 c10 k10).binds (ps := ["shelf", "words"]) fun _ _ _ _ _ _ us hl => match us, hl with | [_, _], _ => rfl
    n_law_book_right := a10
    f_law := f11
    fd_law := _
    F_law := fun_mk (st := s_law) l11 c11 k11
    g_law := PySem.W.mg_of X G a11
    b_law := (fun_mk (st := s_law) l11 c11 k11).binds (ps := ["script"]) fun _ _ _ _ _ _ us hl => match us, hl with | [_], _ => rfl
    n_law := a11
    f_Book_init := mf0
    fd_Book_init := _
    F_Book_init := fun_mk (st := s_Book_init) ml0 mc0 mk0
    b_Book_init := (fun_mk (st := s_Book_init) ml0 mc0 mk0).binds (ps := ["self", "words"]) fun _ _ _ _ _ _ us hl => match us, hl with | [_, _], _ => rfl
    mk_Book := ⟨cm_Book, ma0, mi0, ck_Book⟩
    f_Book_eq := mf1
    fd_Book_eq := _
    F_Book_eq := fun_mk (st := s_Book_eq) ml1 mc1 mk1
    b_Book_eq := (fun_mk (st := s_Book_eq) ml1 mc1 mk1).binds (ps := ["self", "other"]) fun _ _ _ _ _ _ us hl => match us, hl with | [_, _], _ => rfl
    me_Book_eq := ⟨ma1, mi1, mk1⟩
    f_Book_number := mf2
    fd_Book_number := _
    F_Book_number := fun_mk (st := s_Book_number) ml2 mc2 mk2
    b_Book_number := (fun_mk (st := s_Book_number) ml2 mc2 mk2).binds (ps := ["self", "word"]) fun _ _ _ _ _ _ us hl => match us, hl with | [_, _], _ => rfl
    me_Book_number := ⟨ma2, mi2, mk2⟩
    na_Book_words := cx_Book_words
    C_Book := KC_Book
    gC_Book := PySem.W.mg_of X G ca_Book
    cl_Book := ⟨cp_Book, cd_Book, co_Book, cs_Book⟩
    ob_Book := cb_Book
    ne_Book := cn_Book
    oc_Book := cc_Book
    on_Book := cg_Book
    ot_Book := ct_Book
    kc_Book := ci_Book
    kt_Book := cy_Book
    k_TooMany := KD_TooMany
    gk_TooMany := PySem.W.mg_of X G da_TooMany
    kc_TooMany := di_TooMany
    kt_TooMany := dy_TooMany
    k_BadBook := KD_BadBook
    gk_BadBook := PySem.W.mg_of X G da_BadBook
    kc_BadBook := di_BadBook
    kt_BadBook := dy_BadBook
    k_BadWord := KD_BadWord
    gk_BadWord := PySem.W.mg_of X G da_BadWord
    kc_BadWord := di_BadWord
    kt_BadWord := dy_BadWord
    su_BadBook_TooMany := ds_BadBook_TooMany
    su_BadBook_BadBook := ds_BadBook_BadBook
    su_BadBook_BadWord := ds_BadBook_BadWord
    su_BadWord_TooMany := ds_BadWord_TooMany
    su_BadWord_BadBook := ds_BadWord_BadBook
    su_BadWord_BadWord := ds_BadWord_BadWord
    m_isinstance := PySem.W.mg_none_of X G z0
    m_list := PySem.W.mg_none_of X G z1
    m_tuple := PySem.W.mg_none_of X G z2
    m_str := PySem.W.mg_none_of X G z3
    m_len := PySem.W.mg_none_of X G z4
    m_all := PySem.W.mg_none_of X G z5
    m_set := PySem.W.mg_none_of X G z6
    m_int := PySem.W.mg_none_of X G z7
    m_abs := PySem.W.mg_none_of X G z8
    m_range := PySem.W.mg_none_of X G z9
    m_repr := PySem.W.mg_none_of X G z10
    e_BadBook := er_BadBook
    e_BadWord := er_BadWord
    t_MOST_LETTERS := t0
    c_MOST_LETTERS := PySem.W.mg_of X G q0
    t_MOST_WORDS := t1
    c_MOST_WORDS := PySem.W.mg_of X G q1 }
end K09
open PySem PySem.W PyProof.Rows
set_option maxHeartbeats 0 in
theorem PySem.Challenge.cw_anyletter_k09_books_kept_and_refused_holds : PySem.Challenge.rw_anyletter_k09_books_kept_and_refused.Holds := by
  w_on; o_law; k_head; (case hw => w_witness2)
  k_fill
  refine Kx.walkL2 (l := PySem.Challenge.rw_anyletter_k09_books_kept_and_refused) (n := 63) (k := 18) (x := "script") (y := "_law_book_right") (z := "law") K09.sp_law rfl (by decide) rfl ⟨rfl, by decide, by decide⟩ (fun w h Y => PySem.W.km_in_of Y) ?hcs ?FF (fun K Pt Pu H a ns hl ht hu hS => ⟨a, ns, rfl, hS, ht, hu, fun _ => rfl⟩)
  case hcs =>
    intro p
    refine' ⟨⟨⟨_, rfl⟩, ⟨_, rfl⟩⟩, _, _, _, _, Kx.tab_at ?ta ?tl ?te ?tl2 ?tv ?tn, Kx.tab_at ?ua ?ul ?ue ?ul2 ?uv ?un, ?dif⟩
    case ta => k_is
    case tl => k_is
    case te => rfl
    case tl2 => k_is
    case tv => rfl
    case tn => rfl
    case ua => k_is
    case ul => k_is
    case ue => rfl
    case ul2 => k_is
    case uv => rfl
    case un => rfl
    case dif => decide
  case FF =>
    intro w mg fa h KX G hmg
    refine' Kx.useIt (K09.tx_mk KX G ?a0 ?l0 ?c0 ?k0 ?a1 ?l1 ?c1 ?k1 ?a2 ?l2 ?c2 ?k2 ?a3 ?l3 ?c3 ?k3 ?a4 ?l4 ?c4 ?k4 ?a5 ?l5 ?c5 ?k5 ?a6 ?l6 ?c6 ?k6 ?a7 ?l7 ?c7 ?k7 ?a8 ?l8 ?c8 ?k8 ?a9 ?l9 ?c9 ?k9 ?a10 ?l10 ?c10 ?k10 ?a11 ?l11 ?c11 ?k11 ?ca_Book ?cp_Book ?cd_Book ?co_Book ?cs_Book ?cm_Book ?ck_Book ?cb_Book ?cn_Book ?cc_Book ?cg_Book ?ct_Book ?ci_Book ?cy_Book ?cx_Book_words ?da_TooMany ?di_TooMany ?dy_TooMany ?da_BadBook ?di_BadBook ?dy_BadBook ?da_BadWord ?di_BadWord ?dy_BadWord ?ds_BadBook_TooMany ?ds_BadBook_BadBook ?ds_BadBook_BadWord ?ds_BadWord_TooMany ?ds_BadWord_BadBook ?ds_BadWord_BadWord ?ma0 ?mi0 ?ml0 ?mc0 ?mk0 ?ma1 ?mi1 ?ml1 ?mc1 ?mk1 ?ma2 ?mi2 ?ml2 ?mc2 ?mk2 ?z0 ?z1 ?z2 ?z3 ?z4 ?z5 ?z6 ?z7 ?z8 ?z9 ?z10 ?er_BadBook ?er_BadWord ?q0 ?q1) (fun T => ?main)
    (case a0 => k_is)
    (case l0 => k_is)
    (case c0 => k_is)
    (case k0 => k_is)
    (case a1 => k_is)
    (case l1 => k_is)
    (case c1 => k_is)
    (case k1 => k_is)
    (case a2 => k_is)
    (case l2 => k_is)
    (case c2 => k_is)
    (case k2 => k_is)
    (case a3 => k_is)
    (case l3 => k_is)
    (case c3 => k_is)
    (case k3 => k_is)
    (case a4 => k_is)
    (case l4 => k_is)
    (case c4 => k_is)
    (case k4 => k_is)
    (case a5 => k_is)
    (case l5 => k_is)
    (case c5 => k_is)
    (case k5 => k_is)
    (case a6 => k_is)
    (case l6 => k_is)
    (case c6 => k_is)
    (case k6 => k_is)
    (case a7 => k_is)
    (case l7 => k_is)
    (case c7 => k_is)
    (case k7 => k_is)
    (case a8 => k_is)
    (case l8 => k_is)
    (case c8 => k_is)
    (case k8 => k_is)
    (case a9 => k_is)
    (case l9 => k_is)
    (case c9 => k_is)
    (case k9 => k_is)
    (case a10 => k_is)
    (case l10 => k_is)
    (case c10 => k_is)
    (case k10 => k_is)
    (case a11 => k_is)
    (case l11 => k_is)
    (case c11 => k_is)
    (case k11 => k_is)
    (case ca_Book => k_is)
    (case cp_Book => k_is)
    (case cd_Book => k_is)
    (case co_Book => k_is)
    (case cs_Book => k_is)
    (case cm_Book => k_is)
    (case ck_Book => k_is)
    (case cb_Book => k_is)
    (case cn_Book => k_is)
    (case cc_Book => k_is)
    (case cg_Book => k_is)
    (case ct_Book => k_is)
    (case ci_Book => k_is)
    (case cy_Book => k_is)
    (case cx_Book_words => k_is)
    (case da_TooMany => k_is)
    (case di_TooMany => k_is)
    (case dy_TooMany => k_is)
    (case da_BadBook => k_is)
    (case di_BadBook => k_is)
    (case dy_BadBook => k_is)
    (case da_BadWord => k_is)
    (case di_BadWord => k_is)
    (case dy_BadWord => k_is)
    (case ds_BadBook_TooMany => k_is)
    (case ds_BadBook_BadBook => k_is)
    (case ds_BadBook_BadWord => k_is)
    (case ds_BadWord_TooMany => k_is)
    (case ds_BadWord_BadBook => k_is)
    (case ds_BadWord_BadWord => k_is)
    (case ma0 => k_is)
    (case mi0 => k_is)
    (case ml0 => k_is)
    (case mc0 => k_is)
    (case mk0 => k_is)
    (case ma1 => k_is)
    (case mi1 => k_is)
    (case ml1 => k_is)
    (case mc1 => k_is)
    (case mk1 => k_is)
    (case ma2 => k_is)
    (case mi2 => k_is)
    (case ml2 => k_is)
    (case mc2 => k_is)
    (case mk2 => k_is)
    (case z0 => k_is)
    (case z1 => k_is)
    (case z2 => k_is)
    (case z3 => k_is)
    (case z4 => k_is)
    (case z5 => k_is)
    (case z6 => k_is)
    (case z7 => k_is)
    (case z8 => k_is)
    (case z9 => k_is)
    (case z10 => k_is)
    (case er_BadBook =>
      refine' Kx.er_mk KX G ?waC ?waL ?wxL ?whbm ?wsa ?weC ?wtC ?wkC ?wa1 ?wt1 ?wl1 ?wc1 ?wk1 ?wb1 ?wnb ?wga ?wgg ?whd ?whc ?whn ?wht ?whm ?weL ?wdL ?wtL ?wsCL
      (case waC => k_is); (case waL => k_is); (case wxL => k_is); (case whbm => rfl); (case wsa => k_is); (case weC => k_is); (case wtC => k_is); (case wkC => k_is); (case wa1 => k_is); (case wt1 => k_is); (case wl1 => k_is); (case wc1 => k_is); (case wk1 => k_is)
      (case wb1 => exact fun _ _ _ _ _ _ us hl => match us, hl with | [_, _], _ => rfl)
      (case wnb => k_is); (case wga => k_is); (case wgg => k_is); (case whd => k_is); (case whc => k_is); (case whn => k_is); (case wht => k_is); (case whm => k_is); (case weL => k_is); (case wdL => k_is); (case wtL => k_is); (case wsCL => k_is))
    (case er_BadWord =>
      refine' Kx.er_mk KX G ?waC ?waL ?wxL ?whbm ?wsa ?weC ?wtC ?wkC ?wa1 ?wt1 ?wl1 ?wc1 ?wk1 ?wb1 ?wnb ?wga ?wgg ?whd ?whc ?whn ?wht ?whm ?weL ?wdL ?wtL ?wsCL
      (case waC => k_is); (case waL => k_is); (case wxL => k_is); (case whbm => rfl); (case wsa => k_is); (case weC => k_is); (case wtC => k_is); (case wkC => k_is); (case wa1 => k_is); (case wt1 => k_is); (case wl1 => k_is); (case wc1 => k_is); (case wk1 => k_is)
      (case wb1 => exact fun _ _ _ _ _ _ us hl => match us, hl with | [_, _], _ => rfl)
      (case wnb => k_is); (case wga => k_is); (case wgg => k_is); (case whd => k_is); (case whc => k_is); (case whn => k_is); (case wht => k_is); (case whm => k_is); (case weL => k_is); (case wdL => k_is); (case wtL => k_is); (case wsCL => k_is))
    (case q0 => k_is)
    (case q1 => k_is)
    case main =>
      obtain rfl := Kx.same_ref (x := "law") T.g_law hmg
      exact ⟨T.fd_law, Kx.binds_one T.F_law (fun _ _ _ _ _ _ _ => rfl), fun c Pt d Pu ht hu hne base hk hg hTB hUB => K09.ok_law T (Kx.funC_of T.F_law_book_right T.n_law_book_right ht) hTB (Kx.funC_of T.F_law T.n_law hu) hUB hne⟩
