import PyProof.Rows.All
import Wide.All
import OpenK.AllK
import Wide.FinOn
import PyProof.EqAt
import PyProof.EqKinds
import PyProof.TupleCall
import HandS.ForMost
import HandS.Exc
import HandS.IsInst
import HandS.StrMore
import HandS.Replace
import HandS.ReplaceDef
import HandS.ReplaceLit
import HandS.ReplaceList
import HandS.Defaults
import HandS.Style
import HandS.Zip
import HandS.Conv
import HandS.Lambda
import HandS.Codes
import HandS.Evl
import HandS.ExcValue
import HandS.ExcInit
import HandS.ExcIs
import HandS.ExcField
import KE.KDflt
import KE.KExcIs
import HandS.EndTab
import PyProof.ReprRoads
import PyProof.ReprBulk
import HandS.ExcOwn
import HandS.WordsExc
import HandS.Walk
import PyProof.Rows.StrStrike
import PyProof.Draws
import PyProof.ListStr
import PyProof.Rows.RegStrFacts
import PyProof.Rows.RegReprOcc
import KE.KxIndex
import PySem.Challenge.RW_anyletter_k01_plain_values_and_items
set_option Elab.async false
set_option linter.all false
set_option maxRecDepth 100000
set_option maxHeartbeats 4000000
set_option autoImplicit false
namespace Kx
open PySem PySem.Spec PyProof.Rows L2
/-! ### a def that is promised only where no repr runs around it -/
structure FnG (P : Program) (w : World) (K : PySem.W.Frag) (mg : Str → Option Value) (base : Heap) (CX : CXT) (k : Nat) (f : Addr) (fd : FuncData) (ps : List Str) (sp : Sp) : Prop where
  len : ∀ vs H Q E, sp vs H Q E → vs.length = ps.length
  go : ∀ (A : Around) (outer : List Env) (s : Shared) (H : Hp) (args : Args) (us : List Value) (vs : List V) (Q : VK) (E : XK), A.guards = some [] → Room k A → Env0 P w K mg base A outer s H →
    BindsTo s fd args (ps.zip us) → Vals vs us → sp vs H Q E → codeAny (model P w) A (.call (.ref f) args) (CR CX outer P w H s Q E) s
section
variable {P : Program} {w : World} {K : PySem.W.Frag} {mg : Str → Option Value} {base : Heap}
theorem FnG.of {CX : CXT} {k : Nat} {f : Addr} {fd : FuncData} {ps : List Str} {sp : Sp} (F : FnOk P w K mg base CX k f fd ps sp) : FnG P w K mg base CX k f fd ps sp :=
  ⟨F.len, fun A outer s H args us vs Q E _ => F.run A outer s H args us vs Q E⟩
/-- the body's rule, guards told -/
theorem okG {x qual : Str} {st : Stmt} {f : Addr} {fd : FuncData} {N ps : List Str} {k : Nat} {sp : Sp} (F : Fun K x qual st f fd) (S : FnScope N ps (defScope st)) (len : ∀ vs H Q E, sp vs H Q E → vs.length = ps.length)
    (hbody : ∀ (cdv : Value) (A : Around) (outer : List Env) (s : Shared) (H : Hp) (vs : List V) (Q : VK) (E : XK), A.guards = some [] → Room k (A.deeper (envOfC qual (defScope st) s.heap.objs.size f cdv)) → sp vs H Q E →
      ∃ t, PSs (cxOf CX0 P w K mg base N qual (defScope st) f cdv A outer s H E).nox (defBody st) t ∧ t { nx := fun _ H' => Q .non H', rt := Q } (start N vs) H) :
    FnG P w K mg base CX0 (k + 1) f fd ps sp := by
  obtain ⟨oc, od, kV, doc, pm, an, cdv, ct, osl, rfl, lk, hcd⟩ := F.ex
  refine ⟨len, fun A outer s H args us vs Q E hg hr e0 hb r hsp => ?_⟩
  refine LamX.run_ofS lk hcd S hr e0 hb r (len _ _ _ _ hsp) fun hr' => ?_
  obtain ⟨t, h, q⟩ := hbody cdv A outer s H vs Q E hg hr' hsp
  exact ⟨t, h.nox, q⟩
end
/-! ### the law's own call, guards told -/
section
variable {P : Program} {w : World} {K : PySem.W.Frag} {mg mb : Str → Option Value} {k : Nat} {fa a : Addr} {fd : FuncData} {x : Str} {sp : Sp} {s : Shared} {vs : List Value} {ns : List Int}
/-- what the law's call has to leave -/
def LawEnd (s : Shared) (r : Result) (t : Shared) : Prop := r = .ok (.ret (.bool true)) ∧ OldK s.heap t.heap ∧ t.os = s.os ∧ AllBare t.gens
theorem lawG_of (KX : K.In s.heap) (G : s.heap.Ns mainGlobals mg) (B : s.heap.Ns builtinsNs mb) (BB : ∀ y : Str, y ≠ "__name__" → mb y = bootBuiltins y) (NL : s.heap.NoLimit) (g0 : s.gens = #[])
    (hr : Room k callerA) (F : ∀ base : Heap, K.In base → base.Ns mainGlobals mg → FnG P w K mg base CX0 k fa fd [x] sp) (bd : ∀ (t : Shared) (u : Value), BindsTo t fd ⟨[u], []⟩ [(x, u)])
    (H : Hp) (one : ∀ b u, H b = some u → b = a ∧ K.lookup a = none ∧ (∃ o xs, u = .frz o (.lst xs)) ∧ ∀ o es ep, s.heap.get? a = some o → o.data ≠ .dict es ep) (ok : HOk P w H s.heap)
    (pr : sp [.ref a] H (fun v _ => v = .bl true) fun _ _ _ => False) : codeAny (model P w) callerA (.call (.ref fa) ⟨[.ref a], []⟩) (LawEnd s) s := by
  have stay : ∀ {b : Addr} {o : Obj}, s.heap.get? b = some o → H b = none → (hidT s.heap H).get? b = some o := fun e n => hidT_get e n
  have nodict : ∀ {b : Addr} {m : Str → Option Value}, s.heap.Ns b m → (hidT s.heap H).Ns b m := by
    rintro b m ⟨o, es, ep, e, d, r⟩
    refine ⟨o, es, ep, stay e ?_, d, r⟩
    cases q : H b with
    | none => rfl
    | some u =>
      obtain ⟨rfl, _, _, nd⟩ := one b u q
      exact absurd d (nd o es ep e)
  have Kb : K.In (hidT s.heap H) := by
    intro b o e
    refine stay (KX b o e) ?_
    cases q : H b with
    | none => rfl
    | some u =>
      obtain ⟨rfl, z, _, _⟩ := one b u q
      rw [z] at e
      cases e
  obtain ⟨ml, l1, l2⟩ := NL
  have E0 : Env0 P w K mg (hidT s.heap H) callerA [] s H :=
    { frames := rfl
      mod := { kin := Kb, glob := nodict G, blt := ⟨mb, nodict B, BB⟩, nolimit := ⟨ml, nodict l1, l2⟩ }
      bs := fun b o e => of_hidT e
      bsz := Nat.le_of_eq (hidT_size _ _)
      funs := trivial
      frf := fun b hb => absurd hb (List.not_mem_nil)
      hok := ok
      bare := .of_eq g0 }
  refine codeAny_mono ((F _ Kb (nodict G)).go callerA [] s H ⟨[.ref a], []⟩ [.ref a] [.ref a] _ _ rfl hr E0 (bd s (.ref a)) (.cons rfl .nil) pr) ?_
  intro r t h
  match r, h with
  | .error e, h =>
    exact (show False from h).elim
  | .ok .next, h => exact False.elim h
  | .ok .brk, h => exact False.elim h
  | .ok .cont, h => exact False.elim h
  | .ok (.ret u), h =>
    obtain ⟨v, H', h1, h2, un, ok', rv, rfl⟩ := h
    cases rv
    refine ⟨rfl, OldK.of_keep fun b o e => ?_, h1, h2⟩
    cases q : H b with
    | none => exact un.keep b o e q List.not_mem_nil List.not_mem_nil
    | some u =>
      obtain ⟨rfl, _, ⟨ob, xs, rfl⟩, _⟩ := one b u q
      have e1 := (ok b _ q).1
      have e2 := (ok' b _ (un.frzs b ob _ q)).1
      rw [e] at e1
      cases e1
      exact e2
theorem lawG (KX : K.In s.heap) (G : s.heap.Ns mainGlobals mg) (B : s.heap.Ns builtinsNs mb) (BB : ∀ y : Str, y ≠ "__name__" → mb y = bootBuiltins y) (NL : s.heap.NoLimit) (g0 : s.gens = #[])
    (ha : s.heap.get? a = some { cls := .type "list", data := .seq vs.toArray }) (hi : IntsAre vs ns) (hl : ns.length ≤ sizeLine)
    (hr : Room k callerA) (F : ∀ base : Heap, K.In base → base.Ns mainGlobals mg → FnG P w K mg base CX0 k fa fd [x] sp) (bd : ∀ (t : Shared) (u : Value), BindsTo t fd ⟨[u], []⟩ [(x, u)])
    (pr : ∀ H : Hp, Only H → SqL K H a (ns.map V.int) → sp [.ref a] H (fun v _ => v = .bl true) fun _ _ _ => False) : codeAny (model P w) callerA (.call (.ref fa) ⟨[.ref a], []⟩) (LawEnd s) s := by
  have rv := vals_ints hi
  have lv := hi.length
  have nd : ∀ o es ep, s.heap.get? a = some o → o.data ≠ .dict es ep := by
    intro o es ep e d
    rw [ha] at e
    cases e
    cases d
  cases hk : K.lookup a with
  | some o =>
    have e := KX a o hk
    rw [ha] at e
    cases e
    have z : ∀ (b : Addr) (u : HO), (none : Option HO) = some u → False := fun _ _ q => nomatch q
    refine lawG_of KX G B BB NL g0 hr F bd (fun _ => none) (fun b u q => (z b u q).elim) (fun b u q => (z b u q).elim) (pr _ (fun _ => .inl rfl) (.inr ⟨_, vs.toArray, _, hk, rfl, rfl, rfl, ?_, by simpa using rv⟩))
    rw [List.size_toArray, lv]
    exact hl
  | none =>
    let o0 : Obj := { cls := .type "list", data := .seq vs.toArray }
    let Ha : Hp := fun b => if b = a then some (.frz o0 (.lst (ns.map V.int))) else none
    have at_a : Ha a = some (.frz o0 (.lst (ns.map V.int))) := if_pos rfl
    have but : ∀ b u, Ha b = some u → b = a ∧ u = .frz o0 (.lst (ns.map V.int)) := by
      intro b u q
      by_cases hb : b = a
      · subst hb
        rw [at_a] at q
        exact ⟨rfl, (Option.some.inj q).symm⟩
      · have q' : (none : Option HO) = some u := (if_neg hb).symm.trans q
        cases q'
    refine lawG_of KX G B BB NL g0 hr F bd Ha (fun b u q => ?_) (fun b u q => ?_) (pr _ (fun b => ?_) (.inl (.inr ⟨o0, at_a⟩)))
    · obtain ⟨e1, e2⟩ := but b u q
      exact ⟨e1, hk, ⟨_, _, e2⟩, nd⟩
    · obtain ⟨rfl, rfl⟩ := but b u q
      exact ⟨ha, by rw [List.length_map]; exact hl, vs, _, rv, ha⟩
    · by_cases hb : b = a
      · exact .inr ⟨_, _, by rw [hb]; exact at_a⟩
      · exact .inl (if_neg hb)
end
open PySem.W in
/-- the goal that the head leaves -/
theorem walkG {l : OpenLaw} {n k : Nat} {q : Program} {loose : List Str} {XP : (Str → Option Value) → Heap → Prop} {YP : World → Heap → Prop} {d : DefRec} {K : Params → Frag} {sp : Frag → Sp} {x : Str}
    (hn : l.most = some n) (hz : n ≤ sizeLine) (h0 : d.params.defaults = []) (hr : Room k callerA) (hY : ∀ (w : World) (h : Heap), YP w h → (K w.params).In h)
    (F : ∀ (w : World) (mg : Str → Option Value) (fa : Addr) (h : Heap), (K w.params).In h → h.Ns mainGlobals mg → mg d.name = some (.ref fa) → ∃ fd : FuncData,
      (∀ (t : Shared) (u : Value), BindsTo t fd ⟨[u], []⟩ [(x, u)]) ∧ ∀ base : Heap, (K w.params).In base → base.Ns mainGlobals mg → FnG l.prog w (K w.params) mg base CX0 k fa fd [x] (sp (K w.params)))
    (pr : ∀ (K : Frag) (H : Hp) (a : Addr) (ns : List Int), ns.length ≤ n → Only H → SqL K H a (ns.map V.int) → sp K [.ref a] H (fun v _ => v = .bl true) fun _ _ _ => False) :
    WalkO q loose XP YP l.row.toRowW d [] (fun f us => PySem.call f us) := by
  refine Att.attach_call hn h0 ?_
  intro w s₀ s₁ mg mb fa o pm cd doc a us ns G Y ho hd hcd hm hobj hints hlen hg
  obtain ⟨fd, hb, hF⟩ := F w mg fa _ (hY w _ Y) G.T.g hm
  exact lawG (hY w _ Y) G.T.g G.T.b G.T.builtins G.T.nolimit hg hobj hints (Nat.le_trans hlen hz) hr hF hb fun H hO hS => pr _ H a ns hlen hO hS
end Kx
namespace Kx
open PySem PySem.Spec PyProof.Rows L2 SX
/-! ### heaps -/
theorem same_new {H : Hp} {p : Addr} {o : HO} (h : H p = none) : Same H (upd H p o) := fun b u e => by
  rw [upd_ne (ne_of_none e h)]
  exact e
theorem Same.t {K : PySem.W.Frag} {H H' : Hp} {a : Addr} {xs : List V} (e : Same H H') (h : SqT K H a xs) : SqT K H' a xs := by
  rcases h with (h | ⟨o, h⟩) | h
  · exact .inl (.inl (e _ _ h))
  · exact .inl (.inr ⟨o, e _ _ h⟩)
  · exact .inr h
/-- a list or a tuple -/
def SqQ (K : PySem.W.Frag) (H : Hp) (a : Addr) (xs : List V) : Prop := SqL K H a xs ∨ SqT K H a xs
theorem Same.q {K : PySem.W.Frag} {H H' : Hp} {a : Addr} {xs : List V} (e : Same H H') (h : SqQ K H a xs) : SqQ K H' a xs := h.imp e.seq (Same.t e)
theorem tyL {K : PySem.W.Frag} {H : Hp} {a : Addr} {xs : List V} (h : SqL K H a xs) : TyX K H (.ref a) (.type "list") := by
  rcases h with (h | ⟨o, h⟩) | ⟨o, vs, n, h, hc, _⟩
  · exact .base (.lst h)
  · exact .base (.frz h)
  · exact .kList h hc
theorem tyT {K : PySem.W.Frag} {H : Hp} {a : Addr} {xs : List V} (h : SqT K H a xs) : TyX K H (.ref a) (.type "tuple") := by
  rcases h with (h | ⟨o, h⟩) | ⟨o, vs, n, h, hc, _⟩
  · exact .base (.tup h)
  · exact .fTuple h
  · exact .kTuple h hc
theorem kit_at {K : PySem.W.Frag} {n : String} {a b : Bool} (h1 : kitB n "list" = some a) (h2 : kitB n "tuple" = some b) : PySem.W.kitAny K (.type n) [.type "list", .type "tuple"] = some (a || b) := by
  refine kitAny_cons (kit_ty h1) (fun e => ?_) (fun e => by rw [e]; rfl)
  rw [e, Bool.false_or]
  exact kitAny_cons (kit_ty h2) (fun e => by rw [e]; exact kitAny_nil) (fun e => e)
theorem isl_q {K : PySem.W.Frag} {H : Hp} {a : Addr} {xs : List V} (h : SqQ K H a xs) : ∃ n, TyX K H (.ref a) (.type n) ∧ PySem.W.kitAny K (.type n) [.type "list", .type "tuple"] = some true := by
  rcases h with h | h
  · exact ⟨_, tyL h, kit_at (a := true) (b := false) (by decide +kernel) (by decide +kernel)⟩
  · exact ⟨_, tyT h, kit_at (a := false) (b := true) (by decide +kernel) (by decide +kernel)⟩
theorem ix_q {K : PySem.W.Frag} {H : Hp} {a : Addr} {xs : List V} {i : Int} {v : V} {Q : VK} (h : SqQ K H a xs) (hv : atI xs i = some v) (q : Q v H) : rIx K (.ref a) (.int i) H Q := by
  rcases h with h | h
  · exact .inl ⟨a, xs, i, v, rfl, rfl, h, hv, q⟩
  · exact .inr (.inl ⟨a, xs, i, v, rfl, rfl, h, hv, q⟩)
/-- is it data of this form, whatever tracks it -/
theorem dp_same {K : PySem.W.Frag} {H H' : Hp} (e : Same H H') : ∀ (d : PyData) (v : V), Dp K H v d → Dp K H' v d := by
  intro d v h
  exact Dp.rec (motive_1 := fun v d _ => Dp K H' v d) (motive_2 := fun vs ds _ => DpAll K H' vs ds) .non .bl .int .str (fun h _ i => .lst (e.seq h) i) (fun h _ i => .tup (Same.t e h) i) .nil (fun _ _ a b => .cons a b) h
end Kx
namespace Kx
open PySem PySem.Spec PyProof.Rows L2 SX
theorem iteC {c : Bool} {A B : Prop} (h1 : c = true → A) (h2 : c = false → B) : if c = true then A else B := by
  cases c with
  | true => exact iteT (h1 rfl)
  | false => exact iteF (h2 rfl)
/-! ### letters and signs -/
def low (c : Nat) : Bool := decide (97 ≤ c) && decide (c ≤ 122)
def lowB (l : List Nat) : Bool := !l.isEmpty && l.all low
def sg (c : Nat) : Bool := decide (c = 32) || low c
def textB (l : List Nat) : Bool := decide (l.length ≤ 200000) && l.all sg
theorem ascii1 : (List.range 128).all (fun c => (if Unicode.isAlpha c then (Unicode.isLower c && !(Unicode.isUpper c || Unicode.isTitle c)) == low c && ((Unicode.isLower c && !(Unicode.isUpper c || Unicode.isTitle c)) || (Unicode.isUpper c || Unicode.isTitle c)) else !low c)) = true := by decide +kernel
theorem ascii2 (c : Nat) (h : c < 128) : (Unicode.isAlpha c = true → ((Unicode.isUpper c || Unicode.isTitle c) = !low c) ∧ (low c = true → Unicode.isLower c = true)) ∧ (low c = true → Unicode.isAlpha c = true) := by
  have z := List.all_eq_true.mp ascii1 c (List.mem_range.mpr h)
  cases ha : Unicode.isAlpha c <;> cases hl : Unicode.isLower c <;> cases hu : (Unicode.isUpper c || Unicode.isTitle c) <;> cases hw : low c <;> simp_all
theorem low_lt {c : Nat} (h : low c = true) : c < 128 := by
  unfold low at h
  simp only [Bool.and_eq_true, decide_eq_true_eq] at h
  omega
theorem letters_S (l : List Nat) : (Txt.isascii (S l) && (Txt.isalpha (S l) && Txt.islower (S l))) = lowB l := by
  have ea : ∀ p : Nat → Bool, (S l).cps.all p = l.all p := fun p => by simp
  have ey : ∀ p : Nat → Bool, (S l).cps.any p = l.any p := fun p => by simp
  unfold Txt.isascii Txt.isalpha Txt.islower lowB
  rw [ea, ea, ey, ey, S_len]
  cases l with
  | nil => rfl
  | cons d r =>
    have e0 : decide ((d :: r).length > 0) = true := by simp
    rw [e0, Bool.true_and]
    rw [Bool.eq_iff_iff]
    simp only [Bool.and_eq_true, List.all_eq_true, decide_eq_true_eq, List.any_eq_true, Bool.not_eq_true', List.isEmpty_cons, Bool.not_false, true_and]
    constructor
    · rintro ⟨h1, h2, _, h4⟩ c hc
      have k := (ascii2 c (h1 c hc)).1 (h2 c hc)
      have n : (Unicode.isUpper c || Unicode.isTitle c) = false := by
        cases q : (Unicode.isUpper c || Unicode.isTitle c) with
        | false => rfl
        | true =>
          rw [List.any_eq_false] at h4
          exact absurd q (h4 c hc)
      rw [n] at k
      simpa using k.1
    · intro h
      refine ⟨fun c hc => low_lt (h c hc), fun c hc => (ascii2 c (low_lt (h c hc))).2 (h c hc), ⟨d, List.mem_cons_self, ?_⟩, ?_⟩
      · have hd := h d List.mem_cons_self
        exact ((ascii2 d (low_lt hd)).1 ((ascii2 d (low_lt hd)).2 hd)).2 hd
      · rw [List.any_eq_false]
        intro c hc q
        have hd := h c hc
        have k := ((ascii2 c (low_lt hd)).1 ((ascii2 c (low_lt hd)).2 hd)).1
        rw [q, hd] at k
        cases k
end Kx
namespace Kx
open PySem PySem.Spec PyProof.Rows L2 SX
/-! ### an exception that a name keeps behind the suite -/
/-- at a: an exception of the class cls, its own dict at d -/
def exT (a : Addr) (cls : Value) (d : Option Addr) : HO := .ext fun h => ∃ (oe : Obj) (vs : Array Value), h.get? a = some oe ∧ Zc cls d oe ∧ oe.data = .fields vs
section
variable {X : Cx} {pn0 : List (Addr × Obj)} {σ : L2.St} {H : Hp} {s : Shared} {a : Addr} {oe : Obj} {cls : Value} {d : Option Addr}
theorem exT_ne (o : HO) (h : ∀ φ, o ≠ .ext φ) : exT a cls d ≠ o := fun z => h _ z.symm
/-- what stands pinned in the suite is tracked behind it -/
theorem Inv.track {vs : Array Value} (I : Inv X pn0 σ H s) (ha : s.heap.get? a = some oe) (hz : Zc cls d oe) (hd : oe.data = .fields vs) (na : H a = none) (new0 : X.s_0.heap.get? a = none) (nL : a ≠ X.env.locals)
    (np : ∀ p ∈ X.pn ++ pn0, p.1 ≠ a) : Inv X pn0 σ (upd H a (exT a cls d)) s := by
  have off : ∀ {b : Addr} {u : HO}, H b = some u → upd H a (exT a cls d) b = some u := fun {b u} e => by
    rw [upd_ne (ne_of_none e na)]
    exact e
  have un : ∀ {b : Addr}, b ≠ a → H b = none → upd H a (exT a cls d) b = none := fun {b} n e => by
    rw [upd_ne n]
    exact e
  have old : ∀ {b : Addr} {o : Obj}, X.s_0.heap.get? b = some o → b ≠ a := fun {b o} e z => by
    rw [z, new0] at e
    cases e
  exact
    { ok := I.ok
      os := I.os
      bare := I.bare
      base :=
        { keep := I.base.keep
          slot := I.base.slot
          free := fun b o e n x => un (old e) (I.base.free b o e n x)
          there := I.base.there
          tups := fun b xs e => off (I.base.tups b xs e)
          frzs := fun b o u e => off (I.base.frzs b o u e)
          tbls := fun b ps e => by
            obtain ⟨m, q⟩ := I.base.tbls b ps e
            exact ⟨m, off q⟩ }
      loc := I.loc
      cell := I.cell
      free := un (Ne.symm nL) I.free
      freeC := fun y c e => by
        refine un (fun z => ?_) (I.freeC y c e)
        obtain ⟨v, o, e1, e2⟩ := I.cell y c e
        rw [z, ha] at e1
        cases e1
        rw [hd] at e2
        cases e2
      pin := fun p hp => by
        obtain ⟨e, n, r⟩ := I.pin p hp
        exact ⟨e, un (np p hp) n, r⟩
      hok := HOk.laidN (P := X.prog) (w := X.w) I.hok (fun _ _ e => e) na ⟨⟨oe, vs, ha, hz, hd⟩, ⟨oe, ha⟩, fun h1 h2 z k => by
        obtain ⟨o, v, e1, e2⟩ := z
        exact ⟨o, v, k _ e1, e2⟩⟩
      len := I.len }
end
/-- what «try: .. except x as n: y = n» wishes of an exception: it is one of x's; y keeps it -/
def wKeep (K : PySem.W.Frag) (n : Nat) (c : Value) (i j : Nat) (D : Ends) : WX := fun cls d σ H =>
  PySem.W.exmOne K cls c = some true ∧ ∀ a, H a = none → σ.length = n → D.nx ((((σ.set i (some (.ref a))).set j (some (.ref a)))).set i none) (upd H a (exT a cls d))
section
variable {X : Cx} {x n y : Str} {c : Value} {i j : Nat} {body : List Stmt} {p1 p2 p3 np pos pos' : Pos} {tb : WX → TS}
theorem ps_keep (hs : X.stack = X.env :: X.outer) (hex : X.ex = []) (hf : X.env.frame = some X.env.locals) (hN : X.N.Nodup) (hi : X.N[i]? = some n) (hln : X.env.kindOf n = some .local) (hlv : X.env.scope.names.lookup n = some .local)
    (hj : X.N[j]? = some y) (hlj : X.env.scope.names.lookup y = some .local) (hc : Names X x c) (hdb : (n == ("__debug__" : Str)) = false) (hdc : (n == ("__classdict__" : Str)) = false)
    (hb : ∀ (W : WX) (pn : List (Addr × Obj)) (xe : Value → Shared → Prop), Takes (X.tr pn xe) W → PassesOwn (model X.prog X.w) X.A X.env xe → PSs (X.tr pn xe) body (tb W)) :
    PS X (.Try body [.ExceptHandler (some (.Name x np)) (some n) [.Assign [.Name y p1] (.Name n p2) p3] pos'] [] [] pos) (fun D σ H => tb (wKeep X.K X.N.length c i j D) D σ H) := by
  refine ⟨fun pn0 s σ H D I h => ?_⟩
  have ok := I.ok
  have fr : X.A.frames = some (X.env :: X.outer) := by rw [ok.frames, hs]
  apply wpAny_Try_except
  have run := hb (wKeep X.K X.N.length c i j D) (X.pn ++ pn0)
    (fun e t1 => wpAny (model X.prog X.w) X.A (noteFrame e X.env)
      (fun _ t2 => wpAny (model X.prog X.w) X.A (setFlight e none)
        (fun _ t3 => wpAny (model X.prog X.w) X.A (handleBy e X.env [.ExceptHandler (some (.Name x np)) (some n) [.Assign [.Name y p1] (.Name n p2) p3] pos']) (SP X pn0 D) X.xe t3) X.xe t2) X.xe t1) ?take PassesOwn.looking
  case take =>
    rintro u t ⟨a, B, sI, pins', σ', H', cls, d, rfl, J', nb, up, sky, na, os, ag, isOne, hend⟩
    have Jb : Inv X pn0 σ' H' sI := J'.ofTry ok
    rw [show (X.tr (X.pn ++ pn0) _).stack = X.env :: X.outer from hs] at sky
    show wpAny (model X.prog X.w) X.A (noteFrame (.ref a) X.env) _ _ _
    refine Sky.land Zc.steady fr hf sky (fun h3 fl up3 => ?_)
    have J3 : Inv X pn0 σ' H' { t with heap := h3 } := Jb.landed nb fl.1 (up.trans up3) os ag
    have Bn := fl.2.1
    obtain ⟨oz3, vz3, at3, zc3, dt3⟩ := fl.there
    have out : a ∉ frs (X.env :: X.outer) := by
      intro hm
      obtain ⟨_, o', e', hnf⟩ := fl.2.2.1.mem hm
      rw [at3] at e'
      cases e'
      exact hnf _ dt3
    have nL : a ≠ X.env.locals := fun z => out (List.mem_filterMap.mpr ⟨X.env, List.mem_cons_self, by rw [hf, z]⟩)
    have nF : a ∉ X.fs := by
      intro hm
      obtain ⟨e, hme, q⟩ := List.mem_filterMap.mp hm
      exact out (List.mem_filterMap.mpr ⟨e, List.mem_cons_of_mem _ hme, q⟩)
    have gone : ∀ {b : Addr} {o : Obj}, sI.heap.get? b = some o → b ≠ a := by
      intro b o e z
      rw [z] at e
      have q := nb a o e (by rw [hs]; exact out)
      rw [Bn] at q
      cases q
    have new0 : X.s_0.heap.get? a = none := by
      cases q : X.s_0.heap.get? a with
      | none => rfl
      | some o =>
        obtain ⟨o', e'⟩ := Jb.base.there a o q (by rw [hex]; exact List.not_mem_nil)
        exact absurd rfl (gone e')
    have np0 : ∀ p ∈ X.pn ++ pn0, p.1 ≠ a := fun p hp => gone (Jb.pin p hp).1
    have In3 := J3.suite at3 dt3 na nL nF
    refine wpAny_handleBy_cons (codeAny_handlers_test ?_) (by intro q; cases q)
    have lookT : PySem.W.Looks (model X.prog X.w) h3 (typeOf (.ref a)) cls := fun A Q E s k q => wpAny_typeOf_ref (k _ _ at3) (by rw [zc3.1]; exact q)
    have LM := PySem.W.exm_one (M := model X.prog X.w) J3.kIn lookT isOne
    have named : ∀ {Q E : Value → Shared → Prop}, Q c { t with heap := h3 } → wpAny (model X.prog X.w) (X.A.mark (some (.ref a))) (eval (.Name x np) X.env) Q E { t with heap := h3 } := by
      intro Q E q
      obtain ⟨g, gd, g2⟩ := hc
      rcases g2 with m | ⟨m, v, nn⟩
      · exact ld_glob (X := X.suite a ((a, oz3) :: (X.pn ++ pn0))) In3 g m q gd
      · exact ld_blt (X := X.suite a ((a, oz3) :: (X.pn ++ pn0))) In3 g m v q nn gd
    refine named (LM.here ?_)
    refine codeAny_handlers_suite_as (HandSPX.lands_againZ fl fun h4 flr up4 => ?_)
    have J4 : Inv X pn0 σ' H' { t with heap := h4 } := Jb.landed nb flr.1 ((up.trans up3).trans up4) os ag
    obtain ⟨oz4, vz4, at4, zc4, dt4⟩ := flr.there
    have In4 := J4.suite at4 dt4 na nL nF
    refine store_ok (X := X.suite a ((a, oz4) :: (X.pn ++ pn0))) (v := .ref a) In4 hN hi (.inl hlv) rfl (fun s5 S5 => ?_) (.inr hlv)
    have il : i < σ'.length := by
      rw [In4.len]
      exact (List.getElem?_eq_some_iff.mp hi).1
    have suite : PSs (X.suite a ((a, oz4) :: (X.pn ++ pn0))) [.Assign [.Name y p1] (.Name n p2) p3] (tAsg (tVar i) (gName j)) :=
      pss_one (ps_set hN hj (.inl hlj) (pe_var hi (.inl hlv) hdb hdc) rfl (.inr hlj))
    refine wpAny_mono (suite.run [] s5 _ H' { nx := fun σ6 H6 => σ6 = (σ'.set i (some (.ref a))).set j (some (.ref a)) ∧ H6 = H', rt := fun _ _ => False, bk := fun _ _ => False, ct := fun _ _ => False } S5 ⟨_, List.getElem?_set_self il, rfl, rfl⟩) (fun f s6 q => ?_) (fun _ _ z => False.elim z)
    match f, q with
    | .ret _, q =>
      obtain ⟨_, _, _, _, _, z⟩ := q
      exact False.elim z
    | .brk, q =>
      obtain ⟨_, _, _, z⟩ := q
      exact False.elim z
    | .cont, q =>
      obtain ⟨_, _, _, z⟩ := q
      exact False.elim z
    | .next, q =>
      obtain ⟨σ6, H6, S6, rfl, rfl⟩ := q
      have pin := S6.pin (a, oz4) List.mem_cons_self
      have J6 : Inv X pn0 _ _ s6 := S6.unsuite ok
      have J7 := Kx.Inv.track J6 pin.1 zc4 dt4 na new0 nL np0
      refine gone_ok J7 hN hi hln fun s8 J8 => ⟨_, _, J8, hend a na Jb.len⟩
  refine wpAny_mono (run.run [] s σ H D (I.toTry _) h) (fun f s1 q => ?_) fun _ _ z => z
  match f, q with
  | .next, q =>
    obtain ⟨σ', H', J', z⟩ := q
    exact wpAny_execs_nil ⟨σ', H', J'.ofTry ok, z⟩
  | .brk, q =>
    obtain ⟨σ', H', J', z⟩ := q
    exact ⟨σ', H', J'.ofTry ok, z⟩
  | .cont, q =>
    obtain ⟨σ', H', J', z⟩ := q
    exact ⟨σ', H', J'.ofTry ok, z⟩
  | .ret u, q =>
    obtain ⟨v, σ', H', J', r, z⟩ := q
    exact ⟨v, σ', H', J'.ofTry ok, r, z⟩
end
end Kx
namespace Kx
open PySem PySem.Spec PyProof.Rows L2 SX LamX
section
variable {X : Cx} {pn0 : List (Addr × Obj)} {σ : L2.St} {H HZ : Hp} {s sB : Shared}
abbrev lamQ (X : Cx) : Str := X.env.qual ++ "<lambda>"
/-- the lambda as an object, its defaults at dV -/
abbrev lamObj (X : Cx) (params : Arguments) (body : Expr) (scp : Scope) (dV doc pm : Value) (c' : Addr) (ctv : Value) : Obj := PySem.W.kdv_obj "<lambda>" (lamQ X) params (.expr body) scp (cloFrom X.env.cells scp.names []) dV doc pm c' ctv
/-- what the making leaves -/
def Made (X : Cx) (pn0 : List (Addr × Obj)) (σ : L2.St) (H : Hp) (T : List (Addr × Str)) (params : Arguments) (body : Expr) (scp : Scope) (dV : Value) (s0 : Shared) (v : Value) (s' : Shared) : Prop :=
  ∃ (f c' : Addr) (doc pm ctv : Value) (H1 : Hp), v = .ref f ∧ Inv X pn0 σ H1 s' ∧ ExtN H H1 ∧ Tabs T H1 ∧ s'.heap.get? f = some (lamObj X params body scp dV doc pm c' ctv) ∧ H1 f = none ∧ f ∉ frs X.stack ∧ H1 c' = some (CodeO c' (lamQ X)) ∧
    (∀ b o, s0.heap.get? b = some o → (∀ pz, H b ≠ some (.tbl pz)) → s'.heap.get? b = some o) ∧ (∀ b, b < s0.heap.objs.size → H b = none → H1 b = none)
theorem lam_tail {T : List (Addr × Str)} {c P : Addr} {params : Arguments} {body : Expr} {scp : Scope} {pos : Pos} {ln : Nat} {dV : Value} {E : Value → Shared → Prop} (I : Inv X pn0 σ H s) (TB : TabB X.base X.mg c P) (hcode : X.env.code = .ref c)
    (hm : (P, lamQ X) ∈ T) (onlyP : ∀ p ∈ T, p.1 = P → p.2 = lamQ X) (hT : Tabs T H) (hfree : ∀ y ∈ scp.names, y.2 = .free → ∃ c, X.env.cells.lookup y.1 = some c) :
    wpAny (model X.prog X.w) X.A (makeTail "<lambda>" (lamQ X) params (.expr body) scp X.env dV .none none pos ln) (Made X pn0 σ H T params body scp dV s) E s := by
  obtain ⟨pz, eP, tr3, amg⟩ := hT _ hm
  have btP : s.heap.BuiltinsAt X.mg P := TB.bm.keeps I.bk
  have hP' : s.heap.get? P = some { cls := .none, data := .fields pz } := I.hok P _ eP
  have nofr : ∀ f, s.heap.objs.size ≤ f → f ∉ frs X.stack := by
    intro f hf z
    rcases List.mem_cons.mp (I.stkSub _ z) with e | e
    · have h1 := I.lt
      rw [← e] at h1
      exact absurd (Nat.lt_of_lt_of_le h1 hf) (Nat.lt_irrefl _)
    · exact I.nofs hf e
  cases fnd : codeAmong pos pz.toList with
  | none =>
    refine PySem.W.kdv_makeTail (mg := X.mg) (c := c) (P := P) (ps := pz) (closure_ok hfree) I.ok.glob (I.mod.glob.keeps I.bk) hcode (TB.code.keeps I.bk) hP' tr3 fnd TB.gP btP fun c' ctv doc h' tk stP gec ltc rcc tbb => ?_
    obtain ⟨cc2, oc, vs, t, e2, ocE, hd, ovE⟩ := rcc
    cases e2
    have szle : s.heap.objs.size ≤ h'.objs.size := Nat.le_trans gec (Nat.le_of_lt ltc)
    have ncn : H c' = none := I.hok.fresh gec
    have up : ∀ b o, b ≠ P → s.heap.get? b = some o → (h'.push (lamObj X params body scp dV doc ((X.mg "__name__").getD .none) c' ctv)).get? b = some o := fun b o hb e => Heap.get?_push_of_some _ (stP b o hb e)
    have I1 := inv_table (t' := tk) (more := #[rawInt pos.line, rawInt pos.col, .ref c']) (h' := h'.push (lamObj X params body scp dV doc ((X.mg "__name__").getD .none) c' ctv)) I eP up (Heap.get?_push_of_some _ tbb) gec ⟨oc, vs, t, Heap.get?_push_of_some _ ocE, hd, ovE⟩
    have exE : ExtN H (upd (upd H P (.tbl (pz ++ #[rawInt pos.line, rawInt pos.col, .ref c']))) c' (CodeO c' (lamQ X))) := by
      intro b o e n
      rw [upd_ne (ne_of_none e ncn), upd_ne (fun z => n pz (Option.some.inj (e.symm.trans (by rw [z]; exact eP))))]
      exact e
    have ell : (pz ++ #[rawInt pos.line, rawInt pos.col, .ref c']).toList = pz.toList ++ [rawInt pos.line, rawInt pos.col, .ref c'] := by simp
    refine ⟨h'.objs.size, c', doc, _, ctv, _, rfl, I1, exE, fun p hp => ?_, Heap.get?_push_size _ rfl, ?_, nofr _ szle, upd_same, fun b o e n => up b o (fun z => n pz (by rw [z]; exact eP)) e, fun b hb n => ?_⟩
    · by_cases hb : p.1 = P
      · rw [onlyP p hp hb, hb]
        refine ⟨_, by rw [upd_ne (ne_of_none eP ncn), upd_same], by rw [ell]; exact PySem.TriplesOk_snoc _ _ _ _ tr3, fun p' cwv cvE => ?_⟩
        rw [ell] at cvE
        rcases among_app _ tr3 cvE with z | z
        · obtain ⟨cq, e1, e2⟩ := amg p' cwv z
          exact ⟨cq, e1, exE _ _ e2 codeO_ne⟩
        · exact ⟨c', z, upd_same⟩
      · obtain ⟨ps', a1, a2, a3⟩ := hT p hp
        refine ⟨ps', by rw [upd_ne (ne_of_none a1 ncn), upd_ne hb]; exact a1, a2, fun p' cwv cvE => ?_⟩
        obtain ⟨cq, e1, e2⟩ := a3 p' cwv cvE
        exact ⟨cq, e1, exE _ _ e2 codeO_ne⟩
    · rw [upd_ne (Nat.ne_of_gt ltc), upd_ne (Nat.ne_of_gt (Nat.lt_of_lt_of_le (Heap.lt_size hP') szle))]
      exact I.hok.fresh szle
    · have n1 : b ≠ c' := Nat.ne_of_lt (Nat.lt_of_lt_of_le hb gec)
      have n2 : b ≠ P := fun z => by
        rw [z, eP] at n
        cases n
      rw [upd_ne n1, upd_ne n2]
      exact n
  | some cwv =>
    obtain ⟨c', e, hco⟩ := amg pos cwv fnd
    subst e
    refine PySem.W.kdv_makeTailHit (mg := X.mg) (c := c) (P := P) (ps := pz) (closure_ok hfree) I.ok.glob (I.mod.glob.keeps I.bk) hcode (TB.code.keeps I.bk) hP' tr3 fnd btP fun ctv doc h' tk stP szle => ?_
    refine ⟨h'.objs.size, c', doc, (X.mg "__name__").getD .none, ctv, H, rfl, I.kept fun b o e => Heap.get?_push_of_some _ (stP b o e), ExtN.refl H, hT, Heap.get?_push_size _ rfl, I.hok.fresh szle, nofr _ szle, hco, fun b o e _ => Heap.get?_push_of_some _ (stP b o e), fun _ _ n => n⟩
/-- .. with one default, 0 -/
theorem lam_makeD {T : List (Addr × Str)} {c P : Addr} {params : Arguments} {body : Expr} {scp : Scope} {pos cp : Pos} {j : Nat} {E : Value → Shared → Prop} {Qw : Value → Shared → Prop} (I : Inv X pn0 σ H s) (TB : TabB X.base X.mg c P) (hcode : X.env.code = .ref c)
    (hm : (P, lamQ X) ∈ T) (onlyP : ∀ p ∈ T, p.1 = P → p.2 = lamQ X) (hT : Tabs T H) (hfree : ∀ y ∈ scp.names, y.2 = .free → ∃ c, X.env.cells.lookup y.1 = some c)
    (hp : params.defaults = [.Constant (.int 0) j cp]) (hk : params.kw_defaults = [])
    (h : ∀ (t f c' : Addr) (tk : Tok) (doc pm ctv : Value) (H1 : Hp) (s' : Shared), Inv X pn0 σ H1 s' → ExtN H H1 → Tabs T H1 → s'.heap.get? t = some (PySem.W.kdv_tup [.int 0 tk]) → H1 t = none → t ∉ frs X.stack →
      s'.heap.get? f = some (lamObj X params body scp (.ref t) doc pm c' ctv) → H1 f = none → f ∉ frs X.stack → H1 c' = some (CodeO c' (lamQ X)) → Qw (.ref f) s') :
    wpAny (model X.prog X.w) X.A (eval (.Lambda params body scp pos) X.env) Qw E s := by
  refine PySem.W.kdv_lam (by rw [hp]; rfl) hk ?_
  rw [hp]
  refine PySem.W.kdv_all1 (thn ((pe_int (X := X) (i := 0) (j := j) (pos := cp)).run pn0 s σ H (fun v H1 => v = .int 0 ∧ H1 = H) I ⟨rfl, rfl⟩) fun u sB ⟨v, H1, I1, r, e1, e2⟩ => ?_)
  subst e1 e2
  obtain ⟨tk, rfl⟩ := r
  refine PySem.W.kdv_all0 ?_
  rw [makeFunction_eq]
  simp only [List.zip_nil_right, List.filterMap_nil, List.isEmpty_nil, if_true, pure_bind, List.isEmpty_cons, Bool.false_eq_true, if_false]
  refine wpAny_bind (wpAny_newTextTuple ?_)
  have fresh : H1 sB.heap.objs.size = none := I1.hok.fresh (Nat.le_refl _)
  have off : sB.heap.objs.size ∉ frs X.stack := by
    intro z
    rcases List.mem_cons.mp (I1.stkSub _ z) with e | e
    · exact absurd I1.lt (by rw [← e]; exact Nat.lt_irrefl _)
    · exact I1.nofs (Nat.le_refl _) e
  have I2 : Inv X pn0 σ H1 { sB with heap := sB.heap.push (PySem.W.kdv_tup [.int 0 tk]) } := I1.kept (t' := sB.toks) fun b o e => Heap.get?_push_of_some _ e
  refine thn (lam_tail I2 TB hcode hm onlyP hT hfree) fun v s2 ⟨f, c', doc, pm, ctv, H2, ev, I3, eN, T3, hf, nf, off2, hco, keep, fr⟩ => ?_
  subst ev
  refine h sB.heap.objs.size f c' tk doc pm ctv H2 s2 I3 eN T3 (keep _ _ (Heap.get?_push_size _ rfl) fun pz z => ?_) (fr _ ?_ fresh) off hf nf off2 hco
  · rw [fresh] at z
    cases z
  · show sB.heap.objs.size < (sB.heap.push _).objs.size
    rw [Heap.size_push]
    exact Nat.lt_succ_self _
/-! ### its body -/
/-- one parameter, z, with a default; else captured names and globals -/
structure LamP (sc scp : Scope) (z : Str) : Prop where
  kind : scp.kind = .function
  co : scp.isCoroutine = false
  gen : scp.isGenerator = false
  own : ∀ y ∈ scp.names, y.2 ≠ .cell ∧ (y.2 = .local → y.1 = z)
  par : scp.names.lookup z = some .local
  free : ∀ y ∈ scp.names, y.2 = .free → sc.names.lookup y.1 = some .cell ∨ sc.names.lookup y.1 = some .free
theorem LamP.has {X : Cx} {scp : Scope} {z : Str} (L : LamP X.env.scope scp z) (ok : X.Ok) : ∀ y ∈ scp.names, y.2 = .free → ∃ c, X.env.cells.lookup y.1 = some c := fun y hy e => ok.has _ ((L.free y hy e).imp id id)
/-- the slots' names without z -/
def hideN (z : Str) (N : List Str) : List Str := N.map fun y => if y = z then ("%" : Str) else y
/-- the context of such a body -/
def lamCxD (X : Cx) (A : Around) (outer : List Env) (s : Shared) (H : Hp) (E : XK) (scp : Scope) (z : Str) (f c' : Addr) : Cx := { lamCx X A outer s H E scp f c' with N := hideN z X.N }
theorem lam_startD {A : Around} {outer : List Env} {E : XK} {scp : Scope} {z : Str} {f c' : Addr} {h₁ : Heap} {tk : Nat} {u : Value} (I : Inv X pn0 σ H s) (L : LamP X.env.scope scp z) (hz : scp.names.lookup ("%" : Str) = none) (e0 : Env0 X.prog X.w X.K X.mg X.base A outer sB HZ)
    (hd : A.handled = none) (un : Un (frs X.stack) [] H HZ s.heap sB.heap) (hns : h₁.Ns sB.heap.objs.size fun y => ([(z, u)] : List (Str × Value)).reverse.lookup y) (kp : ∀ b o, sB.heap.get? b = some o → h₁.get? b = some o) :
    Inv (lamCxD X A outer sB HZ E scp z f c') [] σ HZ { sB with heap := h₁, toks := tk } := by
  have hfree := L.has I.ok
  have back : ∀ {y c}, (cloFrom X.env.cells scp.names []).lookup y = some c → X.env.cells.lookup y = some c := by
    intro y c e
    rcases cloFrom_mem (PySem.mem_of_lookup e) with hm | ⟨h1, h2⟩
    · cases hm
    · obtain ⟨cc1, fnd⟩ := hfree _ h1 rfl
      have hc' : X.env.cells.lookup y = some cc1 := fnd
      have e2 : c = cc1 := by
        rw [h2]
        show (X.env.cells.lookup y).getD 0 = cc1
        rw [hc'] <;> rfl
      rw [e2]
      exact hc'
  have there : ∀ {y}, scp.names.lookup y = some .free → ∃ c, (cloFrom X.env.cells scp.names []).lookup y = some c := fun {y} hl => mem_lookup (cloFrom_has (cells := X.env.cells) (acc := []) (PySem.mem_of_lookup hl))
  have cellK : ∀ {c : Addr} {v : Option Value}, H c = none → s.heap.IsCell c v → h₁.IsCell c v := by
    rintro c v n ⟨o, ho, hdat⟩
    obtain ⟨sl, q⟩ := un.any ho n List.not_mem_nil
    exact ⟨_, kp _ _ q, hdat⟩
  have noEx : ∀ b : Addr, b ∉ (lamCxD X A outer sB HZ E scp z f c').ex := fun b => List.not_mem_nil
  refine
    { ok :=
        { mod := e0.mod
          kind := L.kind
          glob := rfl
          blt := rfl
          above := Nat.le_refl _
          inj := fun y y2 c e1 e2 => I.ok.inj y y2 c (back e1) (back e2)
          has := fun y hy => ?has
          cab := fun y c q _ => absurd (show false = true from q) Bool.false_ne_true
          hd := fun _ => hd
          frames := Around.frames_deeper e0.frames
          stk := .inr ⟨rfl, rfl⟩
          exf := fun b q => absurd q (noEx b)
          bs := e0.bs
          bsz := e0.bsz
          noex := fun b _ _ => noEx b
          exfs := fun b q => absurd q (noEx b)
          funs := e0.funs
          frf := e0.frf }
      os := rfl
      bare := e0.bare
      base := Un.kept kp
      loc := ⟨_, hns, fun i y v e1 e2 e3 => ?loc⟩
      cell := fun y c e => ?cell
      free := e0.hok.fresh (Nat.le_refl _)
      freeC := fun y c e => ?freeC
      pin := fun q hq => absurd (show q ∈ ([] : List (Addr × Obj)) ++ [] from hq) List.not_mem_nil
      hok := e0.hok.kept kp
      len := ?len }
  case has =>
    rcases (show scp.names.lookup y = some .cell ∨ scp.names.lookup y = some .free from hy) with q | q
    · exact absurd rfl (L.own _ (PySem.mem_of_lookup q)).1
    · exact there q
  case loc =>
    have e3 : Vis scp y := e3
    have e1' : (hideN z X.N)[i]? = some y := e1
    rcases e3 with k | k | k
    · exfalso
      have ez : y = z := (L.own _ (PySem.mem_of_lookup k)).2 rfl
      unfold hideN at e1'
      rw [List.getElem?_map] at e1'
      cases q : X.N[i]? with
      | none =>
        rw [q] at e1'
        cases e1'
      | some n =>
        rw [q] at e1'
        have e4 : (if n = z then ("%" : Str) else n) = y := Option.some.inj e1'
        by_cases hn : n = z
        · rw [if_pos hn] at e4
          rw [← e4, hz] at k
          cases k
        · rw [if_neg hn] at e4
          exact hn (e4.trans ez)
    · exact absurd rfl (L.own _ (PySem.mem_of_lookup k)).1
    · have eN : X.N[i]? = some y := by
        unfold hideN at e1'
        rw [List.getElem?_map] at e1'
        cases q : X.N[i]? with
        | none =>
          rw [q] at e1'
          cases e1'
        | some n =>
          rw [q] at e1'
          have e4 : (if n = z then ("%" : Str) else n) = y := Option.some.inj e1'
          by_cases hn : n = z
          · rw [if_pos hn] at e4
            rw [← e4, hz] at k
            cases k
          · rw [if_neg hn] at e4
            rw [e4]
      obtain ⟨m, hn, hl⟩ := I.loc
      have vis : Vis X.env.scope y := (L.free _ (PySem.mem_of_lookup k) rfl).elim (fun q => .inr (.inl q)) fun q => .inr (.inr q)
      obtain ⟨w', r, q⟩ := hl i y v eN e2 vis
      obtain ⟨cc2, h2⟩ := there k
      refine ⟨w', r, .inr ⟨.inr k, cc2, h2, ?_⟩⟩
      have cc1 := back h2
      rcases q with ⟨k', _⟩ | ⟨_, c3, e', q3⟩
      · have k' : X.env.scope.names.lookup y = some .local := k'
        rcases L.free _ (PySem.mem_of_lookup k) rfl with kk2 | kk2 <;> rw [show X.env.scope.names.lookup y = _ from kk2] at k' <;> cases k'
      · rw [cc1] at e'
        cases e'
        exact cellK (I.freeC y _ cc1) q3
  case cell =>
    obtain ⟨w', q⟩ := I.cell y c (back e)
    exact ⟨w', cellK (I.freeC y c (back e)) q⟩
  case freeC =>
    obtain ⟨v, o, ho, _⟩ := I.cell y c (back e)
    exact un.free c o ho (I.freeC y c (back e)) List.not_mem_nil
  case len =>
    show σ.length = (hideN z X.N).length
    unfold hideN
    rw [List.length_map]
    exact I.len
end
end Kx
namespace Kx
open PySem PySem.Spec PyProof.Rows L2 SX LamX
section
variable {X : Cx} {pn0 : List (Addr × Obj)} {σ : L2.St} {Hm : Hp} {st : Shared}
/-- how the lambda's one default binds -/
def BindD (params : Arguments) (body : Expr) (scp : Scope) (z : Str) : Prop := ∀ (q : Str) (cl : List (Str × Addr)) (t : Addr) (doc pm cv ctv : Value) (tk : Tok), ∃ k,
  bindArgs (PySem.W.kdv_fn "<lambda>" q params (.expr body) scp cl (.ref t) doc pm cv ctv) ⟨[], []⟩ = seqItems? (.ref t) >>= k ∧ k (some #[.int 0 tk]) = pure [(z, .int 0 tk)]
theorem pe_actD {CXg : CXT} {Eg : XK} {Ng : List Str} {qg : Str} {sg : Scope} {g f c' t : Addr} {tk : Tok} {cdg doc pm ctv : Value} {params : Arguments} {body : Expr} {scp : Scope} {z : Str} {k i : Nat} {a : Str} {pn : List (Addr × Obj)} {xe : Value → Shared → Prop} {W : WX} {E : XK} {tb : TE} {p1 p2 : Pos}
    (I : Inv X pn0 σ Hm st) (L : LamP X.env.scope scp z) (hz : scp.names.lookup ("%" : Str) = none)
    (ht : st.heap.get? t = some (PySem.W.kdv_tup [.int 0 tk])) (htn : Hm t = none) (htr : t ∉ frs X.stack)
    (hf : st.heap.get? f = some (lamObj X params body scp (.ref t) doc pm c' ctv)) (hfn : Hm f = none) (hfr : f ∉ frs X.stack) (hbind : BindD params body scp z)
    (tk' : Takes ((cxOf CXg X.prog X.w X.K X.mg X.base Ng qg sg g cdg X.A X.stack st Hm Eg).tr pn xe) W) (hW : ∀ cls d σ' H', E cls d H' → W cls d σ' H') (hr : Room (k + 1) (X.A.deeper (envOfC qg sg st.heap.objs.size g cdg)))
    (hbody : ∀ (A : Around) (outer : List Env) (st : Shared) (Hm : Hp), Room k (A.deeper (lamEnv X scp st.heap.objs.size f c')) → PE (lamCxD X A outer st Hm E scp z f c') body tb)
    (ixN1 : Ng[i]? = some a) (visN : Vis sg a) (dbgN : (a == ("__debug__" : Str)) = false := by decide) (clsN : (a == ("__classdict__" : Str)) = false := by decide) :
    PE ((cxOf CXg X.prog X.w X.K X.mg X.base Ng qg sg g cdg X.A X.stack st Hm Eg).tr pn xe) (.Call (.Name a p1) [] [] p2)
      (fun σZ HZ Q => σZ[i]? = some (some (.ref f)) ∧ HZ c' = some (CodeO c' (lamQ X)) ∧ tb σ HZ Q) := by
  refine ⟨fun pnZ tZ σZ HZ Q IZ h => ?_⟩
  obtain ⟨hs, hc, hq⟩ := h
  refine wpAny_Call_Name_kw (thn ((pe_var (pos := p1) (i := i) ixN1 visN dbgN clsN).run pnZ tZ σZ HZ (fun v H1 => v = .ref f ∧ H1 = HZ) IZ ⟨.ref f, hs, rfl, rfl⟩) fun u s1 hh => ?_)
  obtain ⟨v, H1, I1, r1, rfl, rfl⟩ := hh
  obtain rfl : u = Value.ref f := r1
  have none_ex : ∀ {b : Addr}, b ∉ ([] : List Addr) := fun {b} => List.not_mem_nil
  have f1 := I1.base.keep f _ hf hfn hfr none_ex
  have t1 := I1.base.keep t _ ht htn htr none_ex
  refine PySem.W.callWith_F0 ⟨_, _, _, _, f1⟩ ?_
  have un : Un (frs X.stack) [] Hm H1 st.heap s1.heap := I1.base
  obtain ⟨⟨oc, vs, tq, e1, e2, e3⟩, _, _⟩ := I1.hok c' _ hc
  have run : codeAny (model X.prog X.w) (X.A.deeper (envOfC qg sg st.heap.objs.size g cdg)) (.call (.ref f) ⟨[], []⟩) (CR (L2.CX X.prog X.w) (envOfC qg sg st.heap.objs.size g cdg :: X.stack) X.prog X.w H1 s1 Q E) s1 := by
    refine PySem.W.kla_callFunE hr.depth f1 rfl L.co L.gen rfl ⟨c', oc, vs, tq, rfl, e1, e2, e3⟩ ?_
    obtain ⟨k2, b1, b2⟩ := hbind (lamQ X) (cloFrom X.env.cells scp.names []) t doc pm (.ref c') ctv tk
    refine BindsTo.of_defaults rfl t1 rfl b1 b2 _ _ _ _ ?_
    refine wpAny_newFunctionEnv (fun y hy => (L.own y hy).1) (fun y hy => ?_) (fun h₁ hns sbt => ⟨I1.nolimit.fresh _ sbt, ?_⟩) L.kind
    · obtain rfl := List.mem_singleton.mp hy
      exact L.par
    show codeAny _ _ (.expr body (lamEnv X scp s1.heap.objs.size f c')) _ _
    have kpt : ∀ b o, s1.heap.get? b = some o → h₁.get? b = some o := fun b o e => sbt.extBut b o (Nat.ne_of_lt (Heap.lt_size e)) (Heap.get?_push_of_some _ e)
    have J := lam_startD (E := E) (f := f) (c' := c') (tk := s1.toks + 1) I L hz I1.env0 hr.hd un hns kpt
    refine PySem.W.kla_codeExpr (wpAny_mono ((hbody _ _ s1 H1 (hr.deeper _)).run [] _ _ H1 Q J hq) (fun v s' q => ?_) fun _ _ q => q)
    obtain ⟨w', H', J', rv, q⟩ := q
    exact ⟨w', H', J'.os, J'.bare, J'.base, J'.hok, rv, q⟩
  have pass : Passes (L2.CX X.prog X.w) ((cxOf CXg X.prog X.w X.K X.mg X.base Ng qg sg g cdg X.A X.stack st Hm Eg).tr pn xe) E := passes_call tk' hW
  refine wpAny_call (codeAny_mono run fun r s' q => ?_)
  match r, q with
  | .error e, q => exact pass pnZ σZ H1 s1 e s' I1 q
  | .ok (.ret u), q => exact I1.after q
  | .ok .next, q => exact False.elim q
  | .ok .brk, q => exact False.elim q
  | .ok .cont, q => exact False.elim q
/-- x(lambda z=0: body) -/
theorem pe_lamcallD {T : List (Addr × Str)} {TT : (XK → Hp → VK → Prop) → Hp → VK → Prop} {x a z : Str} {g c P : Addr} {k : Nat} {pg : Arguments} {bg : List Stmt} {sg : Scope} {dV kV doc pm cdw ct oc : Value} {an od : Option Addr} {slg : Array (Option Value)} {Ng : List Str}
    {params : Arguments} {body : Expr} {scp : Scope} {t : XK → TE} {p lps pos cp : Pos} {j : Nat} (hg : Gl X x) (mgx : X.mg x = some (.ref g)) (hk : PySem.W.keepIn X.K (.ref g) = true)
    (lkg : X.K.lookup g = some ⟨oc, od, .func (PySem.W.fnOf x x pg bg sg dV kV doc pm an cdw ct), slg⟩) (cdg2 : PySem.W.codeIn X.K cdw x = true) (bdg : L2.Binds X.K (PySem.W.fnOf x x pg bg sg dV kV doc pm an cdw ct) [a] []) (Sg : FnScope Ng [a] sg) (hNg : Ng[0]? = some a) (hva : Vis sg a)
    (hG : GivesTo X Ng x sg g cdw bg a (lamQ X) TT) (TB : TabB X.base X.mg c P) (hcode : X.env.code = .ref c) (hmT : (P, lamQ X) ∈ T) (hu : ∀ p ∈ T, p.1 = P → p.2 = lamQ X) (hr : Room (k + 2) X.A)
    (L : LamP X.env.scope scp z) (hz : scp.names.lookup ("%" : Str) = none) (hp : params.defaults = [.Constant (.int 0) j cp]) (hkw : params.kw_defaults = []) (hbind : BindD params body scp z)
    (hbody : ∀ (A : Around) (outer : List Env) (st : Shared) (Hm : Hp) (E : XK) (f c' : Addr), Room k (A.deeper (lamEnv X scp st.heap.objs.size f c')) → PE (lamCxD X A outer st Hm E scp z f c') body (t E))
    (dbgX : (x == ("__debug__" : Str)) = false := by decide) (dbgN : (a == ("__debug__" : Str)) = false := by decide) (clsN : (a == ("__classdict__" : Str)) = false := by decide) :
    PE X (.Call (.Name x p) [.Lambda params body scp lps] [] pos) (tLam T TT t) := by
  refine ⟨fun pn0 st σ Hm Q I h => ?_⟩
  obtain ⟨hT, hq⟩ := h
  refine wpAny_Call_Name_kw (ld_glob I hg mgx ?_ dbgX)
  refine PySem.W.callWith_K (h₀ := X.base) I.ok.mod.kin hk ?_ (by rfl) (by rfl)
  show wpAny _ _ (spliced ((false, eval (.Lambda params body scp lps) X.env) :: backTo pos (starEach [] X.env))) _ _ st
  refine Calls.spliced_cons (lam_makeD I TB hcode hmT hu hT (L.has I.ok) hp hkw ?_)
  intro tt f c' tk doc' pm' ctv H1 s' I1 eN T1 ht nt ot hf nf of_ hco
  refine Calls.spliced_nil ⟨I1.kIn, ?_⟩
  have called : codeAny (model X.prog X.w) X.A (.call (.ref g) ⟨[.ref f], []⟩) (CR C8.CX0 X.stack X.prog X.w H1 s' Q C8.E0) s' := by
    refine run_ofS (N := Ng) (ps := [a]) (us := [.ref f]) (vs := [.ref f]) lkg cdg2 Sg hr I1.env0 (bdg s' [.ref f] I1.kIn rfl) (.cons rfl .nil) rfl fun hr' => ?_
    obtain ⟨t', d', q'⟩ := hG f c' s' H1 Q (fun E H' Q' => t E σ H' Q') (fun W pn xe E p1 p2 tk2 hW => pe_actD (i := 0) I1 L hz ht nt ot hf nf of_ hbind tk2 hW hr' (fun A outer st Hm hr2 => hbody A outer st Hm E f c' hr2) hNg hva dbgN clsN) hco (hq H1 eN T1)
    exact ⟨t', d'.nox, q'⟩
  refine wpAny_call (codeAny_mono called fun r s2 q => ?_)
  match r, q with
  | .error e, q => exact (show False from q).elim
  | .ok (.ret u), q => exact I1.after q
  | .ok .next, q => exact False.elim q
  | .ok .brk, q => exact False.elim q
  | .ok .cont, q => exact False.elim q
end
end Kx
namespace Kx
open PySem PySem.Spec PyProof.Rows L2 SX LamX
/-! ### the law's own call: guards told, tables of code objects known -/
section
variable {P : Program} {w : World} {K : PySem.W.Frag} {mg mb : Str → Option Value} {k : Nat} {fa a : Addr} {fd : FuncData} {x : Str} {sp : Sp} {s : Shared} {vs : List Value} {ns : List Int} {cs : List (Addr × Addr)}
abbrev tab0 : Obj := { cls := .none, data := .fields #[] }
abbrev scriptObj (vs : List Value) : Obj := { cls := .type "list", data := .seq vs.toArray }
/-- what is tracked when the law begins: the script, perhaps, and the tables -/
inductive Tr (cs : List (Addr × Addr)) (K : PySem.W.Frag) (a : Addr) (b : Addr) (u : HO) : Prop where
  | script (o : Obj) (xs : List V) (e : b = a) (k : K.lookup a = none) (h : u = .frz o (.lst xs))
  | table (p : Addr × Addr) (m : p ∈ cs) (e : b = p.2) (h : u = .tbl #[])
theorem lawT_of (KX : K.In s.heap) (G : s.heap.Ns mainGlobals mg) (B : s.heap.Ns builtinsNs mb) (BB : ∀ y : Str, y ≠ "__name__" → mb y = bootBuiltins y) (NL : s.heap.NoLimit) (g0 : s.gens = #[])
    (hT : ∀ p ∈ cs, s.heap.get? p.2 = some tab0 ∧ K.lookup p.2 = none ∧ PySem.W.CodeHd s.heap p.1 p.2)
    (bm : ∃ (m : Addr) (ob : Obj), mg "__builtins__" = some (.ref m) ∧ m ≠ builtinsNs ∧ s.heap.get? m = some ob ∧ ob.cls = .type "module" ∧ ob.dict = some builtinsNs ∧ ob.data = .plain)
    (ha : s.heap.get? a = some (scriptObj vs)) (hr : Room k callerA) (F : ∀ base : Heap, K.In base → base.Ns mainGlobals mg → (∀ p ∈ cs, TabB base mg p.1 p.2) → FnG P w K mg base CX0 k fa fd [x] sp)
    (bd : ∀ (t : Shared) (u : Value), BindsTo t fd ⟨[u], []⟩ [(x, u)]) (H : Hp) (tr : ∀ b u, H b = some u → Tr cs K a b u) (ok : HOk P w H s.heap) (all : ∀ p ∈ cs, H p.2 = some (.tbl #[]))
    (pr : sp [.ref a] H (fun v _ => v = .bl true) fun _ _ _ => False) : codeAny (model P w) callerA (.call (.ref fa) ⟨[.ref a], []⟩) (LawEnd s) s := by
  have stay : ∀ {b : Addr} {o : Obj}, s.heap.get? b = some o → H b = none → (hidT s.heap H).get? b = some o := fun e n => hidT_get e n
  -- what is neither a list nor an empty table is not tracked
  have off : ∀ {b : Addr} {o : Obj}, s.heap.get? b = some o → (∀ l n, o.data ≠ .seq l n) → o.data ≠ .fields #[] → H b = none := by
    intro b o e h1 h2
    cases q : H b with
    | none => rfl
    | some u =>
      exfalso
      cases tr b u q with
      | script ob xs eb _ _ =>
        rw [eb, ha] at e
        cases e
        exact h1 _ _ rfl
      | table p m eb _ =>
        rw [eb, (hT p m).1] at e
        cases e
        exact h2 rfl
  have nsK : ∀ {b : Addr} {m : Str → Option Value}, s.heap.Ns b m → (hidT s.heap H).Ns b m := by
    rintro b m ⟨o, es, ep, e, d, r⟩
    exact ⟨o, es, ep, stay e (off e (fun l n z => by rw [d] at z; cases z) (fun z => by rw [d] at z; cases z)), d, r⟩
  have Kb : K.In (hidT s.heap H) := by
    intro b o e
    refine stay (KX b o e) ?_
    cases q : H b with
    | none => rfl
    | some u =>
      exfalso
      cases tr b u q with
      | script ob xs eb kn _ =>
        rw [eb, kn] at e
        cases e
      | table p m eb _ =>
        rw [eb, (hT p m).2.1] at e
        cases e
  obtain ⟨ml, l1, l2⟩ := NL
  have TB : ∀ p ∈ cs, TabB (hidT s.heap H) mg p.1 p.2 := by
    intro p hp
    obtain ⟨t0, _, cd⟩ := hT p hp
    refine { code := ?_, bm := ?_, gP := ?_ }
    · obtain ⟨o, us, fl, tf, fg, tg, iF, tx, tt, e1, r1, r2, r3, r⟩ := cd
      refine ⟨o, us, fl, tf, fg, tg, iF, tx, tt, stay e1 (off e1 (fun l n z => by rw [r2] at z; cases z) fun z => ?_), r1, r2, r3, r⟩
      rw [r2] at z
      cases z
      simp at r3
    · obtain ⟨m, ob, b1, b2, b3, b4, b5, b6⟩ := bm
      have pl : ∀ d : Data, d = .plain → (∀ l n, d ≠ .seq l n) ∧ d ≠ .fields #[] := by
        rintro d rfl
        exact ⟨fun l n z => (by cases z), fun z => (by cases z)⟩
      refine ⟨m, ob, b1, b2, fun q => ?_, fun q => ?_, stay b3 (off b3 (pl _ b6).1 (pl _ b6).2), b4, b5, b6⟩
      · obtain ⟨o, es, ep, e, hd, _⟩ := G
        rw [q, e] at b3
        cases b3
        rw [hd] at b6
        cases b6
      · rw [q, t0] at b3
        cases b3
        cases b6
    · intro z
      obtain ⟨o, es, ep, e, hd, _⟩ := G
      rw [z, t0] at e
      cases e
      cases hd
  have E0 : Env0 P w K mg (hidT s.heap H) callerA [] s H :=
    { frames := rfl
      mod := { kin := Kb, glob := nsK G, blt := ⟨mb, nsK B, BB⟩, nolimit := ⟨ml, nsK l1, l2⟩ }
      bs := fun b o e => of_hidT e
      bsz := Nat.le_of_eq (hidT_size _ _)
      funs := trivial
      frf := fun b hb => absurd hb (List.not_mem_nil)
      hok := ok
      bare := .of_eq g0 }
  refine codeAny_mono ((F _ Kb (nsK G) TB).go callerA [] s H ⟨[.ref a], []⟩ [.ref a] [.ref a] _ _ rfl hr E0 (bd s (.ref a)) (.cons rfl .nil) pr) ?_
  intro r t h
  match r, h with
  | .error e, h =>
    exact (show False from h).elim
  | .ok .next, h => exact False.elim h
  | .ok .brk, h => exact False.elim h
  | .ok .cont, h => exact False.elim h
  | .ok (.ret u), h =>
    obtain ⟨v, H', h1, h2, un, ok', rv, rfl⟩ := h
    cases rv
    have grown : ∀ p ∈ cs, ∃ more : Array Value, t.heap.get? p.2 = some { cls := .none, data := .fields more } := by
      intro p hp
      obtain ⟨more, q⟩ := un.tbls p.2 #[] (all p hp)
      exact ⟨_, ok' p.2 _ q⟩
    have kept : ∀ b o, (∀ p ∈ cs, b ≠ p.2) → s.heap.get? b = some o → t.heap.get? b = some o := by
      intro b o nb e
      cases q : H b with
      | none => exact un.keep b o e q List.not_mem_nil List.not_mem_nil
      | some u =>
        cases tr b u q with
        | script ob xs eb _ eu =>
          rw [eu] at q
          have e1 := (ok b _ q).1
          have e2 := (ok' b _ (un.frzs b ob _ q)).1
          rw [e] at e1
          cases e1
          exact e2
        | table p m eb _ => exact absurd eb (nb p m)
    refine ⟨rfl, ⟨fun b o e => ?_, fun b o e => ?_⟩, h1, h2⟩
    · by_cases hb : ∃ p ∈ cs, b = p.2
      · obtain ⟨p, hp, rfl⟩ := hb
        obtain ⟨t0, _, cd⟩ := hT p hp
        obtain ⟨more, q⟩ := grown p hp
        rw [t0] at e
        cases e
        exact .inr (.inl ⟨(cd.tab t0).isCodeTable, rfl, #[], more, rfl, by rw [Array.empty_append]; exact q⟩)
      · exact .inl (kept b o (fun p hp z => hb ⟨p, hp, z⟩) e)
    · by_cases hb : ∃ p ∈ cs, b = p.2
      · obtain ⟨p, hp, rfl⟩ := hb
        obtain ⟨more, q⟩ := grown p hp
        exact ⟨_, q⟩
      · exact ⟨o, kept b o (fun p hp z => hb ⟨p, hp, z⟩) e⟩
theorem lawT (KX : K.In s.heap) (G : s.heap.Ns mainGlobals mg) (B : s.heap.Ns builtinsNs mb) (BB : ∀ y : Str, y ≠ "__name__" → mb y = bootBuiltins y) (NL : s.heap.NoLimit) (g0 : s.gens = #[])
    (hT : ∀ p ∈ cs, s.heap.get? p.2 = some tab0 ∧ K.lookup p.2 = none ∧ PySem.W.CodeHd s.heap p.1 p.2)
    (bm : ∃ (m : Addr) (ob : Obj), mg "__builtins__" = some (.ref m) ∧ m ≠ builtinsNs ∧ s.heap.get? m = some ob ∧ ob.cls = .type "module" ∧ ob.dict = some builtinsNs ∧ ob.data = .plain)
    (ha : s.heap.get? a = some (scriptObj vs)) (hi : IntsAre vs ns) (hl : ns.length ≤ sizeLine) (hr : Room k callerA)
    (F : ∀ base : Heap, K.In base → base.Ns mainGlobals mg → (∀ p ∈ cs, TabB base mg p.1 p.2) → FnG P w K mg base CX0 k fa fd [x] sp) (bd : ∀ (t : Shared) (u : Value), BindsTo t fd ⟨[u], []⟩ [(x, u)])
    (pr : ∀ H : Hp, (∀ p ∈ cs, H p.2 = some (.tbl #[])) → SqL K H a (ns.map V.int) → (∀ b u, H b = some u → Tr cs K a b u) → sp [.ref a] H (fun v _ => v = .bl true) fun _ _ _ => False) :
    codeAny (model P w) callerA (.call (.ref fa) ⟨[.ref a], []⟩) (LawEnd s) s := by
  have rv := vals_ints hi
  have na : ∀ p ∈ cs, p.2 ≠ a := by
    intro p hp z
    have e := (hT p hp).1
    rw [z, ha] at e
    cases e
  let tabs : Hp := fun b => if b ∈ cs.map (·.2) then some (.tbl #[]) else none
  have isT : ∀ p ∈ cs, tabs p.2 = some (.tbl #[]) := fun p hp => if_pos (List.mem_map.mpr ⟨p, hp, rfl⟩)
  have ofT : ∀ b u, tabs b = some u → ∃ p ∈ cs, b = p.2 ∧ u = .tbl #[] := by
    intro b u q
    by_cases hb : b ∈ cs.map (·.2)
    · obtain ⟨p, hp, e⟩ := List.mem_map.mp hb
      have q' : some (HO.tbl #[]) = some u := (if_pos hb).symm.trans q
      exact ⟨p, hp, e.symm, (Option.some.inj q').symm⟩
    · have q' : (none : Option HO) = some u := (if_neg hb).symm.trans q
      cases q'
  cases hk : K.lookup a with
  | some o =>
    have e := KX a o hk
    rw [ha] at e
    cases e
    have tr : ∀ b u, tabs b = some u → Tr cs K a b u := fun b u q => by
      obtain ⟨p, hp, e1, e2⟩ := ofT b u q
      exact .table p hp e1 e2
    refine lawT_of KX G B BB NL g0 hT bm ha hr F bd tabs tr (fun b u q => ?_) isT (pr tabs isT (.inr ⟨_, vs.toArray, _, hk, rfl, rfl, rfl, ?_, by simpa using rv⟩) tr)
    · obtain ⟨p, hp, rfl, rfl⟩ := ofT b u q
      exact (hT p hp).1
    · rw [List.size_toArray, hi.length]
      exact hl
  | none =>
    let Ha : Hp := fun b => if b = a then some (.frz (scriptObj vs) (.lst (ns.map V.int))) else tabs b
    have at_a : Ha a = some (.frz (scriptObj vs) (.lst (ns.map V.int))) := if_pos rfl
    have but : ∀ b, b ≠ a → Ha b = tabs b := fun b hb => if_neg hb
    have tr : ∀ b u, Ha b = some u → Tr cs K a b u := by
      intro b u q
      by_cases hb : b = a
      · rw [hb, at_a] at q
        exact .script _ _ hb hk (Option.some.inj q).symm
      · rw [but b hb] at q
        obtain ⟨p, hp, e1, e2⟩ := ofT b u q
        exact .table p hp e1 e2
    have isH : ∀ p ∈ cs, Ha p.2 = some (.tbl #[]) := fun p hp => (but _ (na p hp)).trans (isT p hp)
    refine lawT_of KX G B BB NL g0 hT bm ha hr F bd Ha tr (fun b u q => ?_) isH (pr Ha isH (.inl (.inr ⟨scriptObj vs, at_a⟩)) tr)
    by_cases hb : b = a
    · subst hb
      rw [at_a] at q
      cases q
      exact ⟨ha, by rw [List.length_map]; exact hl, vs, _, rv, ha⟩
    · rw [but b hb] at q
      obtain ⟨p, hp, rfl, rfl⟩ := ofT b u q
      exact (hT p hp).1
end
open PySem.W in
/-- the goal that the head leaves; cs: the defs that make lambdas, each with its code object and its table -/
theorem walkT {l : OpenLaw} {n k : Nat} {q : Program} {loose : List Str} {XP : (Str → Option Value) → Heap → Prop} {YP : World → Heap → Prop} {d : DefRec} {K : Params → Frag} {sp : Frag → Sp} {x : Str} {cs : Params → List (Str × Addr × Addr)}
    (hn : l.most = some n) (hz : n ≤ sizeLine) (h0 : d.params.defaults = []) (hr : Room k callerA) (hY : ∀ (w : World) (h : Heap), YP w h → (K w.params).In h)
    (hc : ∀ p, ∀ e ∈ cs p, (∃ r, (recsOf q).find? (fun r => r.name == e.1) = some r) ∧ tabIn (K p) e.1 = some e.2 ∧ (K p).lookup e.2.2 = none)
    (F : ∀ (w : World) (mg : Str → Option Value) (fa : Addr) (h : Heap), (K w.params).In h → h.Ns mainGlobals mg → mg d.name = some (.ref fa) → ∃ fd : FuncData,
      (∀ (t : Shared) (u : Value), BindsTo t fd ⟨[u], []⟩ [(x, u)]) ∧ ∀ base : Heap, (K w.params).In base → base.Ns mainGlobals mg → (∀ e ∈ cs w.params, TabB base mg e.2.1 e.2.2) → FnG l.prog w (K w.params) mg base CX0 k fa fd [x] (sp (K w.params)))
    (pr : ∀ (p : Params) (H : Hp) (a : Addr) (ns : List Int), ns.length ≤ n → (∀ e ∈ cs p, H e.2.2 = some (.tbl #[])) → SqL (K p) H a (ns.map V.int) → (∀ b u, H b = some u → Tr ((cs p).map (·.2)) (K p) a b u) → sp (K p) [.ref a] H (fun v _ => v = .bl true) fun _ _ _ => False) :
    WalkO q loose XP YP l.row.toRowW d [] (fun f us => PySem.call f us) := by
  refine Att.attach_call hn h0 ?_
  intro w s₀ s₁ mg mb fa o pm cd doc a us ns G Y ho hd hcd hm hobj hints hlen hg
  have KX := hY w _ Y
  obtain ⟨fd, hb, hF⟩ := F w mg fa _ KX G.T.g hm
  have lift : ∀ {φ : Addr × Addr → Prop}, (∀ p ∈ (cs w.params).map (·.2), φ p) ↔ ∀ e ∈ cs w.params, φ e.2 := by
    intro φ
    constructor
    · intro h e he
      exact h _ (List.mem_map.mpr ⟨e, he, rfl⟩)
    · intro h p hp
      obtain ⟨e, he, rfl⟩ := List.mem_map.mp hp
      exact h e he
  refine lawT (cs := (cs w.params).map (·.2)) KX G.T.g G.T.b G.T.builtins G.T.nolimit hg (lift.mpr fun e he => ?_) G.T.bmain hobj hints (Nat.le_trans hlen hz) hr (fun base h1 h2 h3 => hF base h1 h2 (lift.mp h3)) hb fun H h1 h2 h3 => pr _ H a ns hlen (lift.mp h1) h2 h3
  obtain ⟨⟨r, e1⟩, e2, e3⟩ := hc w.params e he
  obtain ⟨t1, t2⟩ := tab_of G.T KX e1 e2
  exact ⟨t2, e3, t1⟩
end Kx
namespace Kx
open PySem PySem.Spec PyProof.Rows L2 SX LamX
section
variable {X : Cx}
/-! ### repr of data -/
def rRepr (K : PySem.W.Frag) : List V → Hp → VK → Prop := fun xs H Q => ∃ (a : Addr) (d : PyData), xs = [.ref a] ∧ Dp K H (.ref a) d ∧ d.showable = true ∧ d.hasDict = false ∧ d.depth ≤ 60 ∧ d.shown.length ≤ sizeLine ∧ Q (.str d.shown) H
theorem call_reprD (hg : X.A.guards = some []) (hu : X.A.units + 64 < cLine) : CallR X (.builtin "repr") (rRepr X.K) := by
  intro pins s σ H xs us Q I r h
  obtain ⟨a, d, rfl, hd, hs, hn, hp, hl, q⟩ := h
  cases r with
  | cons r0 rr =>
    cases rr
    obtain ⟨as, rd⟩ := Dp.reads I d _ _ hd r0
    cases r0
    refine repr_of_reads' rd hs (PyData.noDict_hsm hn) hg (by omega) (fun _ _ e => e) (fun h' u tk k => ?_) hl
    exact ⟨.str d.shown, H, I.kept k, ⟨u, rfl⟩, q⟩
/-! ### f(k = v, ..): keywords alone -/
theorem pe_callK0 {CX : CXT} {k : Nat} {f : Addr} {fd : FuncData} {ps ks : List Str} {sp : Sp} {E : XK} {x : Str} {p pos : Pos} {kws : List Keyword} {tk : TA} {g : List Value → List Value → List Value} {gV : List V → List V → List V}
    (F : FnOk X.prog X.w X.K X.mg X.base CX k f fd ps sp) (hr : Room k X.A) (hg : Gl X x) (hm : X.mg x = some (.ref f)) (hk : PySem.W.keepIn X.K (.ref f) = true) (hb : KBinds X.K fd ps ks g gV) (hx : Passes CX X E) (hkw : PK X kws tk)
    (hall : (backToKw pos (keywordEach kws X.env)).all (·.1.isSome) = true := by rfl) (hks : (backToKw pos (keywordEach kws X.env)).filterMap (·.1) = ks := by rfl) (hdb : (x == ("__debug__" : Str)) = false := by decide)
    (hpl : ((backTo pos (starEach [] X.env)).any (·.1) || (backToKw pos (keywordEach kws X.env)).any (·.1.isNone)) = false := by rfl) : PE X (.Call (.Name x p) [] kws pos) (tCallK sp gV E tNil tk) := by
  refine ⟨fun pins s σ H Q I h => ?_⟩
  apply wpAny_Call_Name_kw
  refine ld_glob I hg hm ?_ hdb
  refine PySem.W.callWith_KW0 (h₀ := X.base) I.ok.mod.kin hk hall (thn (hkw.run pos pins s σ H _ I h) fun ws s2 hh => ?_) hpl
  obtain ⟨zs, H2, I2, rz, q2⟩ := hh
  refine ⟨I2.kIn, ?_⟩
  rw [hks]
  exact run_fnk (us := []) F hr hb hx I2 .nil rz q2
/-! ### an exception that a name holds -/
/-- isinstance of it -/
def rIsX (K : PySem.W.Frag) : List V → Hp → VK → Prop := fun xs H Q => ∃ (a D dd : Addr) (fs : List (Str × V)) (c : V) (cv : Value) (b : Bool), xs = [.ref a, c] ∧ H a = some (exT a (.ref D) (some dd)) ∧ H dd = some (.xd fs) ∧ ExcC K D ∧
  (∀ u, RelV c u → u = cv) ∧ PySem.W.kitOne K (.ref D) cv = some b ∧ Q (.bl b) H
theorem exT_at {P : Program} {w : World} {H : Hp} {h : Heap} {a : Addr} {cls : Value} {d : Option Addr} (hok : HOk P w H h) (e : H a = some (exT a cls d)) : ∃ (oe : Obj) (vs : Array Value), h.get? a = some oe ∧ Zc cls d oe ∧ oe.data = .fields vs := by
  have q : ObjOk P w H h a (exT a cls d) := hok a _ e
  exact q.1
theorem inst_at {pins : List (Addr × Obj)} {σ : L2.St} {H : Hp} {s : Shared} {a D dd : Addr} {fs : List (Str × V)} (I : Inv X pins σ H s) (e : H a = some (exT a (.ref D) (some dd))) (ed : H dd = some (.xd fs)) :
    ∃ (oe od : Obj) (mA : Str → Option Value), PySem.W.InstAt s.heap a oe D (some od) ∧ (∀ n, PySem.W.lookIn n od = some (mA n)) ∧ ∀ n, RelO (fs.lookup n) (mA n) := by
  obtain ⟨oe, vs, h1, h2, h3⟩ := exT_at I.hok e
  have hx : ObjOk X.prog X.w H s.heap dd (.xd fs) := I.hok dd _ ed
  obtain ⟨mA, hns, hr⟩ := hx
  obtain ⟨od, ho, hl⟩ := lookIn_ns hns
  refine ⟨oe, od, mA, { at_ := h1, cls := h2.1, no := ?_, dict := ?_ }, hl, hr⟩
  · unfold PySem.W.notCls
    rw [h3] <;> rfl
  · rw [h2.2]
    exact ho
theorem call_isX : CallR X (.builtin "isinstance") (rIsX X.K) := by
  intro pins s σ H xs us Q I r h
  obtain ⟨a, D, dd, fs, c, cv, b, rfl, e, ed, C, hc, hk, q⟩ := h
  obtain ⟨u1, u2, rfl, r1, r2⟩ := vals2 r
  obtain rfl : u1 = Value.ref a := r1
  obtain rfl := hc _ r2
  obtain ⟨oe, od, mA, J, _, _⟩ := inst_at I e ed
  have cls : (PySem.W.clsIn X.K D).isSome = true := by
    obtain ⟨cd, hcd, _⟩ := PySem.W.any_some C.hd
    rw [hcd]
    rfl
  exact PySem.W.kia_one (PySem.W.kitx_exc cls C.hg C.hk C.hs C.ha C.hn C.ht C.hm) I.kIn J hk (fun z => nomatch z) fun tk => ⟨.bl b, H, I.kept (t' := tk) fun _ _ z => z, rfl, q⟩
def rIsiX (K : PySem.W.Frag) : List V → Hp → VK → Prop := fun xs H Q => rIsi K xs H Q ∨ rIsX K xs H Q
theorem call_isiX : CallR X (.builtin "isinstance") (rIsiX X.K) := fun pins s σ H xs us Q I r h => h.elim (call_isi pins s σ H xs us Q I r) (call_isX pins s σ H xs us Q I r)
/-- e.n, e's value such an exception -/
def tXp (K : PySem.W.Frag) (n : Str) (te : TE) : TE := fun σ H Q => te σ H fun x H1 => ∃ (a D dd : Addr) (fs : List (Str × V)) (v : V), x = .ref a ∧ H1 a = some (exT a (.ref D) (some dd)) ∧ H1 dd = some (.xd fs) ∧ XfC K D ∧ PySem.W.findIn K (.ref D) n = some none ∧ fs.lookup n = some v ∧ Q v H1
theorem pe_xp {e : Expr} {te : TE} {n : Str} {pos : Pos} (he : PE X e te) (hb : attributeBase e n X.env (eval e X.env) = eval e X.env := by rfl) : PE X (.Attribute e n pos) (tXp X.K n te) := by
  refine ⟨fun pins s σ H Q I h => ?_⟩
  refine attr_of hb (thn (he.run pins s σ H _ I h) fun u s1 hh => ?_)
  obtain ⟨x, H1, I1, rx, a, D, dd, fs, v, rfl, e1, e2, T, hno, hl, q⟩ := hh
  obtain rfl : u = Value.ref a := rx
  obtain ⟨oe, od, mA, J, look, rel⟩ := inst_at I1 e1 e2
  obtain ⟨w, hw, rw'⟩ := RelO.some_of (v := v) (o := mA n) (by rw [← hl]; exact rel n)
  exact HandSPX.exc_get I1.kIn J T.ga T.gg T.exC (PySem.W.findObj_own T.hdC hno rfl (by rw [look, hw])) (handed_of rw') ⟨v, H1, I1.tok _, rw', q⟩
end
end Kx
namespace Kx
open PySem PySem.Spec PyProof.Rows L2 SX LamX
/-! ### an error class of the program: one field, part -/
structure Er (K : PySem.W.Frag) (mg : Str → Option Value) (x qual : Str) (st : Stmt) (base : Str) where
  C : Addr
  L : Addr
  fI : Addr
  fd : FuncData
  gC : mg x = some (.ref C)
  gL : mg base = some (.ref L)
  oex : OexC K C
  iC : PySem.W.findIn K (.ref C) "__init__" = some (some (.ref fI))
  tI : PySem.W.typeIn K (.ref fI) = some (.type "function")
  F : Fun K "__init__" qual st fI fd
  b : Binds K fd ["self", "part"] []
  np : PySem.W.findIn K (.ref C) "part" = some none
  exc : ExcC K C
  xf : XfC K C
  em : PySem.W.exmOne K (.ref C) (.ref L) = some true
/-- its making, out of what the top left -/
def er_mk {K : PySem.W.Frag} {h : Heap} {mg : Str → Option Value} (X : K.In h) (G : h.Ns mainGlobals mg) {x qual : Str} {st : Stmt} {base : Str} {C L fI N : Addr} {nm q : Str} {bs bm : List Value} {sn : List Str} {sub : List Value} {ab : Bool} {col : Option Bool} {dd : Option Addr} {m0 m1 m2 m3 m5 : Option Value}
    {od an : Option Addr} {sl : Array (Option Value)} {oc kV dc pm cd ct : Value} (aC : PySem.W.nsIn K mainGlobals x = some (some (.ref C))) (aL : PySem.W.nsIn K mainGlobals base = some (some (.ref L)))
    (xL : K.lookup C = some (excClassObj nm q C N bs bm true sn sub ab col dd m0 m1 m2 m3 m5 "ValueError.__new__")) (hbm : PySem.HandSPX.refsVE bm = true)
    (sa : PySem.W.findIn K (.ref C) "__setattr__" = some (some (.builtin "object.__setattr__"))) (eC : PySem.W.subIn K (.ref C) (.type "BaseException") = some true) (tC : PySem.W.typeIn K (.ref C) = some (.type "type")) (kC : PySem.W.keepIn K (.ref C) = true)
    (a1 : PySem.W.findIn K (.ref C) "__init__" = some (some (.ref fI))) (t1 : PySem.W.typeIn K (.ref fI) = some (.type "function"))
    (l1 : K.lookup fI = some ⟨oc, od, .func (PySem.W.fnOf "__init__" qual (defArgs st) (defBody st) (defScope st) .none kV dc pm an cd ct), sl⟩) (c1 : PySem.W.codeIn K cd qual = true) (k1 : PySem.W.keepIn K (.ref fI) = true)
    (b1 : ∀ (kV doc pm : Value) (an : Option Addr) (cdv ct : Value) (us : List Value), us.length = (["self", "part"] : List Str).length → bindArgs (PySem.W.fnOf "__init__" qual (defArgs st) (defBody st) (defScope st) .none kV doc pm an cdv ct) ⟨us, []⟩ = pure ((["self", "part"] : List Str).zip us))
    (nb : PySem.W.findIn K (.ref C) "part" = some none) (ga : PySem.W.findIn K (.ref C) "__getattribute__" = some (some (.builtin "BaseException.__getattribute__"))) (gg : PySem.W.findIn K (.ref C) "__getattr__" = some none) (hd : PySem.W.hasDictIn K C = true)
    (hc : PySem.W.findIn K (.ref C) "__class__" = some (some (.builtin "object.__class__"))) (hn : PySem.W.specialIn K (.builtin "object.__class__") "__get__" = some (some (.builtin "getset_descriptor.__get__"))) (ht : PySem.W.takesIn K (.builtin "object.__class__") = some true)
    (hm : PySem.W.mroIn K C (.type "object") = some true) (eL : PySem.W.subIn K (.ref L) (.type "BaseException") = some true) (dL : PySem.W.hasDictIn K L = true) (tL : PySem.W.typeIn K (.ref L) = some (.type "type")) (sCL : PySem.W.subIn K (.ref C) (.ref L) = some true) : Er K mg x qual st base where
  C := C
  L := L
  fI := fI
  fd := _
  gC := PySem.W.mg_of X G aC
  gL := PySem.W.mg_of X G aL
  oex := ⟨⟨nm, q, N, bs, bm, sn, sub, ab, col, dd, m0, m1, m2, m3, m5, xL, hbm⟩, sa, eC, tC, kC⟩
  iC := a1
  tI := t1
  F := fun_mk (st := st) l1 c1 k1
  b := (fun_mk (st := st) l1 c1 k1).binds (ps := ["self", "part"]) b1
  np := nb
  exc := ⟨ga, gg, eC, hd, hc, hn, ht, hm⟩
  xf := ⟨ga, gg, eC, hd⟩
  em := PySem.W.exm_ref eL dL tL sCL
theorem passF {X : Cx} : Passes (L2.CX X.prog X.w) X (fun _ _ _ => False) := fun _ _ _ _ _ _ _ z => by
  obtain ⟨_, _, _, _, _, _, _, _, _, _, _, _, f⟩ := z
  exact f.elim
/-- the promise of such an __init__: self.part = part -/
def sp_init (K : PySem.W.Frag) : Sp := fun vs H Q _ => ∃ (a C : Addr) (y : V), vs = [.ref a, y] ∧ OexC K C ∧ PySem.W.findIn K (.ref C) "part" = some none ∧ H a = some (exo a C none) ∧
  ∀ dx, H dx = none → dx ≠ a → Q .non (upd (upd H dx (exd dx [("part", y)])) a (exo a C (some dx)))
section
variable {P : Program} {w : World} {K : PySem.W.Frag} {mg : Str → Option Value} {base : Heap}
/-- the body of such an __init__ -/
def IsInit (st : Stmt) : Prop := ∃ p1 p2 p3 p4, defBody st = [.Assign [.Attribute (.Name "self" p1) "part" p2] (.Name "part" p3) p4] ∧ FnScope ["self", "part"] ["self", "part"] (defScope st) ∧ (defScope st).names.lookup ("self" : Str) = some .local ∧ (defScope st).names.lookup ("part" : Str) = some .local
theorem ok_init {x qual : Str} {st : Stmt} {bs : Str} (e : Er K mg x qual st bs) (h : IsInit st) : FnOk P w K mg base CX0 1 e.fI e.fd ["self", "part"] (sp_init K) := by
  obtain ⟨p1, p2, p3, p4, hb, sc, v1, v2⟩ := h
  refine e.F.ok sc (fun vs H Q E h => ?_) (fun cdv A outer s H vs Q E hr h => ?_)
  · obtain ⟨a, C, y, rfl, _⟩ := h
    rfl
  · obtain ⟨a, C, y, rfl, o, n, ha, q⟩ := h
    rw [hb]
    refine ⟨_, pss_one (ps_ost (pv 0 rfl (.inl v1)) (pv 1 rfl (.inl v2))), ?_⟩
    exact ⟨y, rfl, .ref a, rfl, a, C, rfl, o, n, .inl ⟨ha, q⟩⟩
end
/-! ### a choice of rules -/
section
variable {X : Cx}
theorem pi_either {tg it : Expr} {w1 w2 : TI} (h1 : PI X tg it w1) (h2 : PI X tg it w2) : PI X tg it (fun σ H R => w1 σ H R ∨ w2 σ H R) := ⟨fun pins s σ H R I h => h.elim (h1.run pins s σ H R I) (h2.run pins s σ H R I)⟩
theorem pe_either {e : Expr} {t1 t2 : TE} (h1 : PE X e t1) (h2 : PE X e t2) : PE X e (fun σ H Q => t1 σ H Q ∨ t2 σ H Q) := ⟨fun pins s σ H Q I h => h.elim (h1.run pins s σ H Q I) (h2.run pins s σ H Q I)⟩
theorem pi_seq {tg it : Expr} {tl : TE} (h : PE X it tl) : PI X tg it (fun σ H R => iList X.K tl σ H R ∨ iTup X.K tl σ H R) := pi_either (pi_list h) (pi_tup h)
end
end Kx
namespace Kx
open PySem PySem.Spec PyProof.Rows L2 SX LamX
theorem tyx_same {K : PySem.W.Frag} {H H' : Hp} {x : V} {n : String} (e : Same H H') (h : TyX K H x (.type n)) : TyX K H' x (.type n) := by
  cases h with
  | base b =>
    cases b with
    | non => exact .base .non
    | bl y => exact .base (.bl y)
    | int i => exact .base (.int i)
    | str z => exact .base (.str z)
    | flt z => exact .base (.flt z)
    | lst h => exact .base (.lst (e _ _ h))
    | frz h => exact .base (.frz (e _ _ h))
    | tup h => exact .base (.tup (e _ _ h))
    | dK h => exact .base (.dK (e _ _ h))
    | dT h => exact .base (.dT (e _ _ h))
  | byt b => exact .byt b
  | set h => exact .set (e _ _ h)
  | kList h c => exact .kList h c
  | kTuple h c => exact .kTuple h c
  | kDict h c => exact .kDict h c
  | fTuple h => exact .fTuple (e _ _ h)
  | fDict h => exact .fDict (e _ _ h)
/-! ### integers with bounds, of any value -/
def isIntV : V → Bool
  | .int _ => true
  | _ => false
/-- what the checks ask of a value's type -/
def HasInt (K : PySem.W.Frag) (H : Hp) (x : V) : Prop := ∃ (n : String) (a b : Bool), TyX K H x (.type n) ∧ kitB n "int" = some a ∧ kitB n "bool" = some b ∧ (a && !b) = isIntV x
theorem HasInt.same {K : PySem.W.Frag} {H H' : Hp} {x : V} (e : Same H H') (h : HasInt K H x) : HasInt K H' x := by
  obtain ⟨n, a, b, t, r⟩ := h
  exact ⟨n, a, b, tyx_same e t, r⟩
theorem hasInt_int {K : PySem.W.Frag} {H : Hp} (i : Int) : HasInt K H (.int i) := ⟨"int", true, false, .base (.int i), by decide +kernel, by decide +kernel, rfl⟩
theorem hasInt_bl {K : PySem.W.Frag} {H : Hp} (i : Bool) : HasInt K H (.bl i) := ⟨"bool", true, true, .base (.bl i), by decide +kernel, by decide +kernel, rfl⟩
theorem hasInt_str {K : PySem.W.Frag} {H : Hp} (i : Str) : HasInt K H (.str i) := ⟨"str", false, false, .base (.str i), by decide +kernel, by decide +kernel, rfl⟩
theorem hasInt_non {K : PySem.W.Frag} {H : Hp} : HasInt K H .non := ⟨"NoneType", false, false, .base .non, by decide +kernel, by decide +kernel, rfl⟩
theorem hasInt_lst {K : PySem.W.Frag} {H : Hp} {a : Addr} {xs : List V} (h : SqL K H a xs) : HasInt K H (.ref a) := ⟨"list", false, false, tyL h, by decide +kernel, by decide +kernel, rfl⟩
theorem hasInt_tup {K : PySem.W.Frag} {H : Hp} {a : Addr} {xs : List V} (h : SqT K H a xs) : HasInt K H (.ref a) := ⟨"tuple", false, false, tyT h, by decide +kernel, by decide +kernel, rfl⟩
/-- a bound: none, or an int -/
def bdV : Option Int → V
  | none => .non
  | some i => .int i
def loB (i : Int) : Option Int → Bool
  | none => true
  | some l => decide (l ≤ i)
def hiB (i : Int) : Option Int → Bool
  | none => true
  | some h => decide (i ≤ h)
def withinB (i : Int) (lo hi : Option Int) : Bool := loB i lo && hiB i hi
def withinV (x : V) (lo hi : Option Int) : Bool := match x with
  | .int i => withinB i lo hi
  | _ => false
end Kx
namespace Kx
open PySem PySem.Spec PyProof.Rows L2 SX LamX
/-! ### the draws' wheel: cells, how many were begun, what is left -/
def Wh (H : Hp) (a c : Addr) (n : Nat) : Prop := ∃ (cs : List Int) (t l : Int), H a = some (.lst [.ref c, .int t, .int l]) ∧ H c = some (.lst (cs.map V.int)) ∧ cs.length ≤ 60 ∧ 0 ≤ t ∧ t ≤ n
/-- all that was tracked, but for what stands at a, is as it was -/
def Mv (a : Addr) (H H' : Hp) : Prop := ∀ b o, b ≠ a → H b = some o → H' b = some o
theorem Mv.refl (a : Addr) (H : Hp) : Mv a H H := fun _ _ _ h => h
theorem Mv.trans {a : Addr} {H H1 H2 : Hp} (x : Mv a H H1) (y : Mv a H1 H2) : Mv a H H2 := fun b o n h => y b o n (x b o n h)
theorem Mv.of {a : Addr} {H H1 : Hp} (x : Same H H1) : Mv a H H1 := fun b o _ h => x b o h
theorem Mv.upd (a : Addr) (H : Hp) (o : HO) : Mv a H (upd H a o) := fun b p n h => by rw [upd_ne n]; exact h
theorem Mv.same {a : Addr} {H H1 : Hp} (x : Mv a H H1) (h : H a = none) : Same H H1 := fun b o e => x b o (fun z => by rw [z, h] at e; cases e) e
theorem Wh.lt {H : Hp} {a c : Addr} {n m : Nat} (h : Wh H a c n) (l : n ≤ m) : Wh H a c m := by
  obtain ⟨cs, t, l', h1, h2, h3, h4, h5⟩ := h
  exact ⟨cs, t, l', h1, h2, h3, h4, by omega⟩
theorem Wh.same {H H' : Hp} {a c : Addr} {n : Nat} (h : Wh H a c n) (e : Same H H') : Wh H' a c n := by
  obtain ⟨cs, t, l', h1, h2, h3⟩ := h
  exact ⟨cs, t, l', e _ _ h1, e _ _ h2, h3⟩
theorem wh_set {H : Hp} {a c : Addr} {cs : List Int} {t l : Int} {n : Nat} {u : List V} (h1 : H a = some (.lst u)) (h2 : H c = some (.lst (cs.map V.int))) (hac : a ≠ c) (h3 : cs.length ≤ 60) (h4 : 0 ≤ t) (h5 : t ≤ n) : Wh (upd H a (.lst [.ref c, .int t, .int l])) a c n :=
  ⟨cs, t, l, upd_same, by rw [upd_ne (fun e => hac e.symm)]; exact h2, h3, h4, h5⟩
theorem wh_ac {H : Hp} {a c : Addr} {cs : List Int} {t l : Int} (h1 : H a = some (.lst [.ref c, .int t, .int l])) (h2 : H c = some (.lst (cs.map V.int))) : a ≠ c := by
  intro e
  rw [← e, h1] at h2
  injection h2 with h2
  injection h2 with h2
  cases cs with
  | nil => cases h2
  | cons x xs => injection h2 with h2 _; cases h2
/-! ### data: lists that are laid, compared -/
theorem canLayAll_of : ∀ (ds : List PyData), (∀ d ∈ ds, d.canLay0 = true) → PyData.canLayAll0 ds = true
  | [], _ => rfl
  | d :: ds, h => by
    have h1 := h d (List.mem_cons_self ..)
    have h2 := canLayAll_of ds fun e m => h e (List.mem_cons_of_mem _ m)
    show (d.canLay0 && PyData.canLayAll0 ds) = true
    rw [h1, h2]
    rfl
theorem depthAll_of {k : Nat} : ∀ (ds : List PyData), (∀ d ∈ ds, d.depth ≤ k) → PyData.depthAll ds ≤ k
  | [], _ => Nat.zero_le _
  | d :: ds, h => by
    have h1 := h d (List.mem_cons_self ..)
    have h2 := depthAll_of ds fun e m => h e (List.mem_cons_of_mem _ m)
    show max d.depth (PyData.depthAll ds) ≤ k
    omega
/-- plain data of a depth -/
def Pl (k : Nat) (d : PyData) : Prop := d.canLay0 = true ∧ d.depth ≤ k
theorem Pl.lst {k : Nat} {ds : List PyData} (h : ∀ d ∈ ds, Pl k d) : Pl (k + 1) (.list ds) :=
  ⟨canLayAll_of ds fun d m => (h d m).1, Nat.succ_le_succ (depthAll_of ds fun d m => (h d m).2)⟩
theorem Pl.tup {k : Nat} {ds : List PyData} (h : ∀ d ∈ ds, Pl k d) : Pl (k + 1) (.tuple ds) :=
  ⟨canLayAll_of ds fun d m => (h d m).1, Nat.succ_le_succ (depthAll_of ds fun d m => (h d m).2)⟩
theorem Pl.shaped {k : Nat} {d : PyData} (h : Pl k d) (hk : k ≤ 64) : SeqAt.shaped d = true := by
  show (d.canLay0 && decide (d.depth ≤ 64)) = true
  rw [h.1, decide_eq_true (Nat.le_trans h.2 hk)]
  rfl
theorem pl_int (k : Nat) (i : Int) : Pl k (.int i) := ⟨rfl, Nat.zero_le _⟩
theorem pl_ints (xs : List Int) : Pl 1 (.list (xs.map PyData.int)) := Pl.lst fun d m => by
  obtain ⟨i, _, rfl⟩ := List.mem_map.mp m
  exact pl_int 0 i
theorem dpAll_map {K : PySem.W.Frag} {H : Hp} {α : Type} {f : α → V} {g : α → PyData} : ∀ (xs : List α), (∀ x ∈ xs, Dp K H (f x) (g x)) → DpAll K H (xs.map f) (xs.map g)
  | [], _ => .nil
  | x :: xs, h => .cons (h x (List.mem_cons_self ..)) (dpAll_map xs fun y m => h y (List.mem_cons_of_mem _ m))
theorem dp_ints {K : PySem.W.Frag} {H : Hp} {a : Addr} {xs : List Int} (h : SqL K H a (xs.map V.int)) : Dp K H (.ref a) (.list (xs.map PyData.int)) := .lst h (dpAll_map xs fun x _ => .int x)
theorem eqvAll_map {α : Type} [DecidableEq α] {g : α → PyData} (hg : ∀ x y, PyData.eqv (g x) (g y) = decide (x = y)) : ∀ (xs ys : List α), PyData.eqvAll (xs.map g) (ys.map g) = decide (xs = ys)
  | [], [] => rfl
  | [], _ :: _ => rfl
  | _ :: _, [] => rfl
  | x :: xs, y :: ys => by
    show (PyData.eqv (g x) (g y) && PyData.eqvAll (xs.map g) (ys.map g)) = _
    rw [hg, eqvAll_map hg xs ys]
    by_cases e : x = y
    · by_cases e2 : xs = ys
      · subst e e2; simp
      · simp [e, e2]
    · simp [e]
theorem eqv_int (x y : Int) : PyData.eqv (.int x) (.int y) = decide (x = y) := by
  show (x == y) = _
  by_cases e : x = y <;> simp [e]
theorem eqv_ints (xs ys : List Int) : PyData.eqv (.list (xs.map PyData.int)) (.list (ys.map PyData.int)) = decide (xs = ys) := eqvAll_map eqv_int xs ys
/-- «xs != []» -/
theorem ne_nil {K : PySem.W.Frag} {H : Hp} {a p : Addr} {xs : List Int} {Q : VK} (h1 : SqL K H a (xs.map V.int)) (h2 : H p = some (.lst [])) (q : Q (.bl (!decide (xs = []))) H) : rNeD K (.ref a) (.ref p) H Q :=
  ⟨_, _, dp_ints h1, dp_ints (xs := []) (.inl (.inl h2)), (pl_ints xs).shaped (by decide), (pl_ints []).shaped (by decide), by rw [eqv_ints]; exact q⟩
/-! ### places -/
theorem at_nat {α : Type} {xs : List α} {i : Nat} (h : i < xs.length) : atI xs (i : Int) = some xs[i] := by
  unfold atI ixN
  rw [if_pos (by omega), if_pos (by omega)]
  show xs[(i : Int).toNat]? = _
  rw [Int.toNat_natCast, List.getElem?_eq_getElem h]
theorem at_lt {α : Type} {xs : List α} {i : Int} (h0 : 0 ≤ i) (h : i < xs.length) : ∃ v, v ∈ xs ∧ atI xs i = some v := by
  obtain ⟨k, rfl⟩ : ∃ k : Nat, i = k := ⟨i.toNat, by omega⟩
  exact ⟨_, List.getElem_mem (by omega), at_nat (by omega)⟩
theorem at_last {α : Type} {xs : List α} {x : α} : atI (xs ++ [x]) (-1) = some x := by
  unfold atI ixN
  rw [if_neg (by omega), if_pos (by simp; omega)]
  show (xs ++ [x])[_]? = _
  rw [show (-1 + ((xs ++ [x]).length : Int)).toNat = xs.length by simp; omega]
  simp
/-- one way on from two branches, for all values that they leave -/
theorem cutI {c : Bool} {A B : Prop} {R : Int → Prop} (y : Int) (h2 : c = false → R y → B) (h1 : (∀ z, R z) → c = true → A) (key : ∀ z, R z) : if c = true then A else B := iteC (h1 key) fun e => h2 e (key y)
theorem genI {P : V → Prop} {x : Int} (h : ∀ z : Int, P (.int z)) : P (.int x) := h x
theorem genIB {P : V → Prop} {x M : Int} (hM : 0 < M) (h : ∀ z : Int, 0 ≤ z → z < M → P (.int z)) : P (.int (x.fmod M)) := h _ (Int.fmod_nonneg_of_pos _ hM) (Int.fmod_lt_of_pos _ hM)
theorem cutP {c : Bool} {X Y B : Prop} (h2 : c = false → B → Y) (h1 : B → c = true → X) (b : B) : if c = true then X else Y := iteC (h1 b) fun e => h2 e b
theorem mul_bnd {a b A B : Int} (a0 : 0 ≤ a) (a1 : a ≤ A) (b0 : 0 ≤ b) (b1 : b ≤ B) : 0 ≤ a * b ∧ a * b ≤ A * B :=
  ⟨Int.mul_nonneg a0 b0, Int.mul_le_mul a1 b1 b0 (Int.le_trans a0 a1)⟩
theorem bnd5 {c M k t l : Int} (hM : 0 < M) (hM2 : M ≤ 1099511627776) (t0 : 0 ≤ t) (t1 : t ≤ 1000000) (k0 : 0 ≤ k) (k1 : k ≤ 8388608) (l0 : 0 ≤ l) (l1 : l ≤ 1099511627776) : (c.fmod M + k * t + l).natAbs < 2 ^ 64 := by
  have h1 := Int.fmod_nonneg_of_pos c hM
  have h2 := Int.fmod_lt_of_pos c hM
  obtain ⟨h3, h4⟩ := mul_bnd k0 k1 t0 t1
  omega
theorem bnd3 {m t a k l : Int} (m0 : 0 ≤ m) (m1 : m ≤ 4294967296) (t0 : 0 ≤ t) (t1 : t ≤ 1000000) (a0 : 0 ≤ a) (a1 : a ≤ 8388608) (k0 : 0 ≤ k) (k1 : k ≤ 8388608) (l0 : 0 ≤ l) (l1 : l ≤ 1099511627776) : (m * (2 * t + a) + k * t * t + l).natAbs < 2 ^ 64 := by
  obtain ⟨h1, h2⟩ := mul_bnd (b := 2 * t + a) (B := 10388608) m0 m1 (by omega) (by omega)
  obtain ⟨h3, h4⟩ := mul_bnd k0 k1 t0 t1
  obtain ⟨h5, h6⟩ := mul_bnd h3 h4 t0 t1
  omega
/-! ### slices -/
theorem cut_to (xs : List V) (k : Nat) : cutV xs none (some (k : Int)) = xs.take k := by
  unfold cutV
  rw [HT.sIx_none, HT.sIx_nat, List.drop_zero, Nat.sub_zero]
  by_cases h : k ≤ xs.length
  · rw [Nat.min_eq_left h]
  · rw [Nat.min_eq_right (by omega), List.take_of_length_le (Nat.le_refl _), List.take_of_length_le (by omega)]
theorem cut_from (xs : List V) (k : Nat) : cutV xs (some (k : Int)) none = xs.drop k := by
  unfold cutV
  rw [HT.sIx_none, HT.sIx_nat]
  by_cases h : k ≤ xs.length
  · rw [Nat.min_eq_left h, List.take_of_length_le (by rw [List.length_drop]; omega)]
  · rw [Nat.min_eq_right (by omega), Nat.sub_self, List.take_zero, List.drop_eq_nil_of_le (by omega)]
/-! ### comprehensions, item by item -/
section
variable {K : PySem.W.Frag} {a : Addr} {xs : List V} {g : TG} {tt : TT} {te : TE} {vs : List Nat} {σ : L2.St} {H1 : Hp} {D : Addr} {Qd : Hp → Prop}
theorem lc_mapL (f : V → V) (hq : SqL K H1 a xs) (nD : H1 D = none) (len : xs.length ≤ 100000)
    (turn : ∀ (i : Nat) (x : V) (Hc : Hp) (Q' : VK) (R' : Hp → Prop), xs[i]? = some x → Same H1 Hc → (∀ H4, Same Hc H4 → Q' (f x) H4) → g x (wipe σ vs) Hc fun σ2 H2 => wipe σ2 vs = wipe σ vs ∧ tt σ2 H2 fun b H3 => if b = true then te σ2 H3 Q' else R' H3)
    (fin : ∀ Hc, Same H1 Hc → Hc D = some (.lst (xs.map f)) → Qd Hc) :
    ∃ W : Nat → Nat → Hp → Prop, (∃ m, W 0 m (upd H1 D (.lst []))) ∧ ∀ i m H, W i m H →
      ((Itl K a).stop i H ∧ Qd H) ∨ ((Itl K a).go i H ∧ ∃ Nx : Hp → Prop, (∀ H', Nx H' → ∃ m', m' < m ∧ W (i + 1) m' H') ∧ ∀ x H', (Itl K a).yld i H x H' → g x (wipe σ vs) H' fun σ2 H2 => wipe σ2 vs = wipe σ vs ∧ tt σ2 H2 fun b H3 =>
        if b = true then te σ2 H3 fun y H4 => ∃ acc, H4 D = some (.lst acc) ∧ acc.length < sizeLine ∧ Nx (upd H4 D (.lst (acc ++ [y]))) else Nx H3) := by
  refine lc_list (fun i Hc => Same H1 Hc ∧ Hc D = some (.lst ((xs.take i).map f))) ⟨same_new nD, upd_same⟩ (fun i H _ p => p.1.seq hq) (fun i x Hc hx p => ?_) (fun Hc p => ?_)
  · refine turn i x Hc _ _ hx p.1 (fun H4 e4 => ⟨_, e4 _ _ p.2, ?_, ?_⟩)
    · rw [List.length_map, List.length_take]
      exact Nat.lt_of_le_of_lt (Nat.min_le_right _ _) (Nat.lt_of_le_of_lt len (by decide))
    · refine ⟨fun b o z => ?_, ?_⟩
      · rw [upd_ne (ne_of_none z nD)]
        exact e4 _ _ (p.1 b o z)
      · rw [upd_same, List.take_add_one, hx, List.map_append]
        rfl
  · rw [List.take_length] at p
    exact fin Hc p.1 p.2
theorem lc_mapT (f : V → V) (hq : SqT K H1 a xs) (nD : H1 D = none) (len : xs.length ≤ 100000)
    (turn : ∀ (i : Nat) (x : V) (Hc : Hp) (Q' : VK) (R' : Hp → Prop), xs[i]? = some x → Same H1 Hc → (∀ H4, Same Hc H4 → Q' (f x) H4) → g x (wipe σ vs) Hc fun σ2 H2 => wipe σ2 vs = wipe σ vs ∧ tt σ2 H2 fun b H3 => if b = true then te σ2 H3 Q' else R' H3)
    (fin : ∀ Hc, Same H1 Hc → Hc D = some (.lst (xs.map f)) → Qd Hc) :
    ∃ W : Nat → Nat → Hp → Prop, (∃ m, W 0 m (upd H1 D (.lst []))) ∧ ∀ i m H, W i m H →
      ((Itt K a).stop i H ∧ Qd H) ∨ ((Itt K a).go i H ∧ ∃ Nx : Hp → Prop, (∀ H', Nx H' → ∃ m', m' < m ∧ W (i + 1) m' H') ∧ ∀ x H', (Itt K a).yld i H x H' → g x (wipe σ vs) H' fun σ2 H2 => wipe σ2 vs = wipe σ vs ∧ tt σ2 H2 fun b H3 =>
        if b = true then te σ2 H3 fun y H4 => ∃ acc, H4 D = some (.lst acc) ∧ acc.length < sizeLine ∧ Nx (upd H4 D (.lst (acc ++ [y]))) else Nx H3) := by
  refine lc_tup (fun i Hc => Same H1 Hc ∧ Hc D = some (.lst ((xs.take i).map f))) ⟨same_new nD, upd_same⟩ (fun i H _ p => Same.t p.1 hq) (fun i x Hc hx p => ?_) (fun Hc p => ?_)
  · refine turn i x Hc _ _ hx p.1 (fun H4 e4 => ⟨_, e4 _ _ p.2, ?_, ?_⟩)
    · rw [List.length_map, List.length_take]
      exact Nat.lt_of_le_of_lt (Nat.min_le_right _ _) (Nat.lt_of_le_of_lt len (by decide))
    · refine ⟨fun b o z => ?_, ?_⟩
      · rw [upd_ne (ne_of_none z nD)]
        exact e4 _ _ (p.1 b o z)
      · rw [upd_same, List.take_add_one, hx, List.map_append]
        rfl
  · rw [List.take_length] at p
    exact fin Hc p.1 p.2
end
end Kx
namespace Kx
open PySem PySem.Spec PyProof.Rows L2 SX LamX
theorem paired_get {α β : Type} {F : α → β → Prop} : ∀ {l : List α} {m : List β}, Paired F l m → ∀ {i : Nat} {a : α}, l[i]? = some a → ∃ b, m[i]? = some b ∧ F a b
  | _, _, .cons h t, 0, a, e => by
    simp at e
    subst e
    exact ⟨_, rfl, h⟩
  | _, _, .cons h t, i + 1, a, e => paired_get t (i := i) (by simpa using e)
theorem paired_split {α β : Type} {F : α → β → Prop} : ∀ {l : List α} (m : List β) {b : β}, Paired F l (m ++ [b]) → ∃ l' a, l = l' ++ [a] ∧ Paired F l' m ∧ F a b
  | _, [], _, .cons h .nil => ⟨[], _, rfl, .nil, h⟩
  | _, _ :: m, b, .cons h t => by
    obtain ⟨l', a, rfl, p, f⟩ := paired_split m t
    exact ⟨_ :: l', a, rfl, .cons h p, f⟩
theorem paired_nil {α β : Type} {F : α → β → Prop} {l : List α} (h : Paired F l []) : l = [] := by
  cases h
  rfl
theorem nil_or_snoc {α : Type} (l : List α) : l = [] ∨ ∃ l' a, l = l' ++ [a] := by
  rcases List.eq_nil_or_concat l with h | ⟨l', a, h⟩
  · exact .inl h
  · exact .inr ⟨l', a, by rw [h, List.concat_eq_append]⟩
theorem paired_map {α β γ : Type} {F : α → γ → Prop} {G : α → β → Prop} (f : β → γ) (h : ∀ a b, G a b → F a (f b)) : ∀ {l : List α} {m : List β}, Paired G l m → Paired F l (m.map f)
  | _, _, .nil => .nil
  | _, _, .cons x t => .cons (h _ _ x) (paired_map f h t)
theorem paired_of_map {α β γ : Type} {F : α → γ → Prop} (f : β → α) (g : β → γ) : ∀ {m : List β}, (∀ b ∈ m, F (f b) (g b)) → Paired F (m.map f) (m.map g)
  | [], _ => .nil
  | b :: m, h => .cons (h b (List.mem_cons_self ..)) (paired_of_map f g fun c hc => h c (List.mem_cons_of_mem _ hc))
theorem dpAll_of {K : PySem.W.Frag} {H : Hp} : ∀ {vs : List V} {ds : List PyData}, Paired (fun v d => Dp K H v d) vs ds → DpAll K H vs ds
  | _, _, .nil => .nil
  | _, _, .cons h t => .cons h (dpAll_of t)
/-- «xs != []», any laid items -/
theorem ne_nilD {K : PySem.W.Frag} {H : Hp} {a p : Addr} {vs : List V} {ds : List PyData} {k : Nat} {Q : VK} (h1 : SqL K H a vs) (hd : Paired (fun v d => Dp K H v d) vs ds) (hp : ∀ d ∈ ds, Pl k d) (hk : k ≤ 60) (h2 : H p = some (.lst [])) (q : Q (.bl (!decide (ds = []))) H) : rNeD K (.ref a) (.ref p) H Q :=
  ⟨_, _, .lst h1 (dpAll_of hd), dp_ints (xs := []) (.inl (.inl h2)), (Pl.lst hp).shaped (by omega), (pl_ints []).shaped (by decide), by
    have e : PyData.eqv (.list ds) (.list (([] : List Int).map PyData.int)) = decide (ds = []) := by
      cases ds with
      | nil => rfl
      | cons d t => rfl
    rw [e]
    exact q⟩
/-- a pair of ints -/
def Pr2 (H : Hp) (v : V) (r : Int × Int) : Prop := ∃ t, v = V.ref t ∧ H t = some (.tup [.int r.1, .int r.2])
theorem Pr2.same {H H' : Hp} {v : V} {r : Int × Int} (e : Same H H') (h : Pr2 H v r) : Pr2 H' v r := by
  obtain ⟨t, rfl, h⟩ := h
  exact ⟨t, rfl, e _ _ h⟩
def pr2D (r : Int × Int) : PyData := .tuple [.int r.1, .int r.2]
theorem Pr2.dp {K : PySem.W.Frag} {H : Hp} {v : V} {r : Int × Int} (h : Pr2 H v r) : Dp K H v (pr2D r) := by
  obtain ⟨t, rfl, h⟩ := h
  exact .tup (.inl (.inl h)) (.cons (.int _) (.cons (.int _) .nil))
theorem pl_pr2 (r : Int × Int) : Pl 1 (pr2D r) := Pl.tup fun d m => by
  rcases List.mem_cons.mp m with rfl | m
  · exact pl_int 0 _
  · rcases List.mem_cons.mp m with rfl | m
    · exact pl_int 0 _
    · cases m
/-! ### stretches of like numbers -/
def stepR (rs : List (Int × Int)) (n : Int) : List (Int × Int) :=
  match rs.reverse with
  | [] => [(n, 1)]
  | (m, k) :: t => if m = n then t.reverse ++ [(n, k + 1)] else rs ++ [(n, 1)]
theorem stepR_nil (n : Int) : stepR [] n = [(n, 1)] := rfl
theorem stepR_snoc (rs : List (Int × Int)) (m k n : Int) : stepR (rs ++ [(m, k)]) n = if m = n then rs ++ [(n, k + 1)] else rs ++ [(m, k)] ++ [(n, 1)] := by
  unfold stepR
  simp
def runs (row : List Int) : List (Int × Int) := row.foldl stepR []
theorem runs_snoc (row : List Int) (n : Int) : runs (row ++ [n]) = stepR (runs row) n := by
  unfold runs
  rw [List.foldl_append]
  rfl
theorem stepR_length (rs : List (Int × Int)) (n : Int) : (stepR rs n).length ≤ rs.length + 1 := by
  rcases nil_or_snoc rs with rfl | ⟨rs', ⟨m, k⟩, rfl⟩
  · simp [stepR_nil]
  · rw [stepR_snoc]
    split <;> simp
theorem fold_length : ∀ (row : List Int) (rs : List (Int × Int)), (row.foldl stepR rs).length ≤ rs.length + row.length
  | [], _ => Nat.le_refl _
  | x :: row, rs => by
    have h1 := fold_length row (stepR rs x)
    have h2 := stepR_length rs x
    show (row.foldl stepR (stepR rs x)).length ≤ rs.length + (row.length + 1)
    omega
theorem runs_length (row : List Int) : (runs row).length ≤ row.length := by
  have h := fold_length row []
  rw [List.length_nil, Nat.zero_add] at h
  exact h
/-! ### for and comprehension over a list or a tuple, held by a name -/
section
variable {K : PySem.W.Frag} {a : Addr} {xs : List V} {g : TG} {σ : L2.St} {H : Hp} {k : Nat}
theorem for_seq {tb : TS} {D : Ends} {H0 : Hp} (hi : σ[k]? = some (some (.ref a))) (hq : SqQ K H0 a xs) (e0 : Same H0 H) (Pv : Nat → L2.St → Hp → Prop) (h0 : Pv 0 σ H) (stay : ∀ i σ' H', i ≤ xs.length → Pv i σ' H' → Same H0 H')
    (hs : ∀ i x σ H, xs[i]? = some x → Pv i σ H → g x σ H fun σ2 H2 => tb { D with nx := Pv (i + 1), ct := Pv (i + 1), bk := D.nx } σ2 H2) (hd : ∀ σ H, Pv xs.length σ H → D.nx σ H) :
    tFor (fun σ H R => iList K (tVar k) σ H R ∨ iTup K (tVar k) σ H R) g tb D σ H := by
  rcases hq with h | h
  · exact .inl ⟨_, hi, a, rfl, ⟨_, e0.seq h⟩, for_list Pv h0 (fun i σ' H' l p => (stay i σ' H' l p).seq h) hs hd⟩
  · exact .inr ⟨_, hi, a, rfl, ⟨_, Same.t e0 h⟩, for_tup Pv h0 (fun i σ' H' l p => Same.t (stay i σ' H' l p) h) hs hd⟩
theorem lc_seqmap {tt : TT} {te : TE} {vs : List Nat} {Q : VK} (f : V → V) (hi : σ[k]? = some (some (.ref a))) (hq : SqQ K H a xs) (len : xs.length ≤ 100000)
    (turn : ∀ (i : Nat) (x : V) (Hc : Hp) (Q' : VK) (R' : Hp → Prop), xs[i]? = some x → Same H Hc → (∀ H4, Same Hc H4 → Q' (f x) H4) → g x (wipe σ vs) Hc fun σ2 H2 => wipe σ2 vs = wipe σ vs ∧ tt σ2 H2 fun b H3 => if b = true then te σ2 H3 Q' else R' H3)
    (fin : ∀ (D : Addr) (Hc : Hp), Same H Hc → Hc D = some (.lst (xs.map f)) → Q (.ref D) Hc) :
    tLc (fun σ H R => iList K (tVar k) σ H R ∨ iTup K (tVar k) σ H R) g tt te vs σ H Q := by
  rcases hq with h | h
  · exact .inl ⟨_, hi, a, rfl, ⟨_, h⟩, fun D nD => lc_mapL f h nD len turn (fin D)⟩
  · exact .inr ⟨_, hi, a, rfl, ⟨_, h⟩, fun D nD => lc_mapT f h nD len turn (fin D)⟩
theorem lc_lstmap {tt : TT} {te : TE} {vs : List Nat} {Q : VK} (f : V → V) (hi : σ[k]? = some (some (.ref a))) (hq : SqL K H a xs) (len : xs.length ≤ 100000)
    (turn : ∀ (i : Nat) (x : V) (Hc : Hp) (Q' : VK) (R' : Hp → Prop), xs[i]? = some x → Same H Hc → (∀ H4, Same Hc H4 → Q' (f x) H4) → g x (wipe σ vs) Hc fun σ2 H2 => wipe σ2 vs = wipe σ vs ∧ tt σ2 H2 fun b H3 => if b = true then te σ2 H3 Q' else R' H3)
    (fin : ∀ (D : Addr) (Hc : Hp), Same H Hc → Hc D = some (.lst (xs.map f)) → Q (.ref D) Hc) :
    tLc (iList K (tVar k)) g tt te vs σ H Q := ⟨_, hi, a, rfl, ⟨_, hq⟩, fun D nD => lc_mapL f hq nD len turn (fin D)⟩
end
theorem Pr2.set {H : Hp} {p : Addr} {us : List V} {v : V} {r : Int × Int} {o : HO} (hp : H p = some (.lst us)) (h : Pr2 H v r) : Pr2 (upd H p o) v r := by
  obtain ⟨t, rfl, h⟩ := h
  refine ⟨t, rfl, ?_⟩
  rw [upd_ne (fun e => by rw [e, hp] at h; cases h)]
  exact h
theorem same_set {H Hd : Hp} {p : Addr} {o : HO} (e : Same H Hd) (np : H p = none) : Same H (upd Hd p o) := fun b u h => by
  rw [upd_ne (ne_of_none h np)]
  exact e b u h
theorem Pr2.new {H : Hp} {t : Addr} {x y : Int} : Pr2 (upd H t (.tup [.int x, .int y])) (.ref t) (x, y) := ⟨t, rfl, upd_same⟩
theorem sz1 {x : V} : [x].length ≤ sizeLine := by
  show 1 ≤ sizeLine
  decide
theorem sz2 {x y : V} : [x, y].length ≤ sizeLine := by
  show 2 ≤ sizeLine
  decide
theorem sz3 {x y z : V} : [x, y, z].length ≤ sizeLine := by
  show 3 ≤ sizeLine
  decide
theorem sz4 {x y z u : V} : [x, y, z, u].length ≤ sizeLine := by
  show 4 ≤ sizeLine
  decide
theorem ix_last {n : Nat} : ixN (n + 1) (-1) = some n := by
  unfold ixN
  rw [if_neg (by omega), if_pos (by omega)]
  congr 1
  omega
/-- xs[-1] = y, what is set -/
theorem set_last {H : Hp} {p : Addr} {xs : List V} {x y : V} {Q : Hp → Prop} (hp : H p = some (.lst (xs ++ [x]))) (q : Q (upd H p (.lst (xs ++ [y])))) : rSetL (.ref p) (.int (-1)) y H Q :=
  ⟨p, _, -1, xs.length, rfl, rfl, hp, by rw [List.length_append]; exact ix_last, by rw [show (xs ++ [x]).set xs.length y = xs ++ [y] by simp]; exact q⟩
end Kx
namespace Kx
open PySem PySem.Spec PyProof.Rows L2 SX LamX
/-! ### rules that name the frame, within a comprehension -/
section
variable {X : Cx} {K : PySem.W.Frag}
theorem inK_ix_list (e : X.K = K) : IxR X (rIxL K) := e ▸ ix_list
theorem inK_ix_tup (e : X.K = K) : IxR X (rIxT K) := e ▸ ix_tup
theorem inK_call_len_seq (e : X.K = K) : CallR X (.builtin "len") (fun xs H Q => ∃ p ys, xs = [.ref p] ∧ (SqL K H p ys ∨ SqT K H p ys) ∧ Q (.int ys.length) H) := e ▸ call_len_seq
theorem inK_sl_list (e : X.K = K) : SlR X (rSlL K) := e ▸ sl_list
theorem inK_op_eqD (e : X.K = K) (hu : X.A.units + 64 < cLine) : OpR X (compareOp .Eq) (rEqD K) := e ▸ op_eqD hu
theorem inK_op_neD (e : X.K = K) (hu : X.A.units + 64 < cLine) : OpR X (compareOp .NotEq) (rNeD K) := e ▸ op_neD hu
theorem inK_pg_tup {es : List Expr} {k : Nat} {t : TGs} {n : Nat} {pos : Pos} (e : X.K = K) (hc : X.calm = true) (h : PGs X es t) (hn : (assignEach es X.env).length = n := by rfl) (hst : (assignEach es X.env).findIdx? (·.1) = none := by rfl) : PG X (.Tuple es k pos) (gTup K n t) := e ▸ pg_tup hc h hn hst
end
end Kx
namespace Kx
open PySem PySem.Spec PyProof.Rows L2 SX LamX
/-- an error is made with its part -/
theorem mk_part {K : PySem.W.Frag} {C : Addr} {σ : L2.St} {H : Hp} {Q : XK} {v : V} (o : OexC K C) (n : PySem.W.findIn K (.ref C) "part" = some none)
    (q : ∀ d H', Same H H' → H' d = some (.xd [("part", v)]) → Q (.ref C) (some d) H') : tMkO C (sp_init K) [] (tCons (tC v) tNil) σ H Q := by
  refine ⟨by show 1 ≤ 1000; decide, fun a na => ⟨a, C, v, rfl, o, n, upd_same, fun dx nd hne => ⟨rfl, dx, [("part", v)], upd_same, ?_, ?_, q dx _ ?_ upd_same⟩⟩⟩
  · rw [upd_ne hne, upd_same]
  · rw [upd_ne hne] at nd
    exact nd
  · rw [upd_ne hne] at nd
    intro b u h
    rw [upd_ne (ne_of_none h nd)]
    show (if b = a then none else _) = some u
    rw [if_neg (ne_of_none h na), upd_ne (ne_of_none h na), upd_ne (ne_of_none h nd), upd_ne (ne_of_none h na)]
    exact h
end Kx
namespace Kx
open PySem PySem.Spec PyProof.Rows L2 SX LamX
section
variable {K : PySem.W.Frag} {J : It} {n : Nat} {G : Hp → Prop} {Y : Nat → Hp → V → Hp → Prop} {g : TG} {tt : TT} {te : TE} {vs : List Nat} {σ : L2.St} {H1 : Hp} {D : Addr} {Qd : Hp → Prop}
/-- a comprehension whose items are told ahead -/
theorem lc_out (w : Walk J n G Y) (zs : List V) (hz : zs.length = n) (nD : H1 D = none) (len : n ≤ 100000) (hG : ∀ Hc, Same H1 Hc → G Hc)
    (turn : ∀ (i : Nat) (x z : V) (Hc Hx : Hp) (Q' : VK) (R' : Hp → Prop), i < n → zs[i]? = some z → Same H1 Hc → Y i Hc x Hx → (∀ H4, Same Hc H4 → Q' z H4) → g x (wipe σ vs) Hx fun σ2 H2 => wipe σ2 vs = wipe σ vs ∧ tt σ2 H2 fun b H3 => if b = true then te σ2 H3 Q' else R' H3)
    (fin : ∀ Hc, Same H1 Hc → Hc D = some (.lst zs) → Qd Hc) :
    ∃ W : Nat → Nat → Hp → Prop, (∃ m, W 0 m (upd H1 D (.lst []))) ∧ ∀ i m H, W i m H →
      (J.stop i H ∧ Qd H) ∨ (J.go i H ∧ ∃ Nx : Hp → Prop, (∀ H', Nx H' → ∃ m', m' < m ∧ W (i + 1) m' H') ∧ ∀ x H', J.yld i H x H' → g x (wipe σ vs) H' fun σ2 H2 => wipe σ2 vs = wipe σ vs ∧ tt σ2 H2 fun b H3 =>
        if b = true then te σ2 H3 fun y H4 => ∃ acc, H4 D = some (.lst acc) ∧ acc.length < sizeLine ∧ Nx (upd H4 D (.lst (acc ++ [y]))) else Nx H3) := by
  refine lc_it w (fun i Hc => Same H1 Hc ∧ Hc D = some (.lst (zs.take i))) ⟨same_new nD, upd_same⟩ (fun i H _ p => hG H p.1) (fun i x Hc Hx hi p y => ?_) (fun Hc p => ?_)
  · have hzi : zs[i]? = some (zs[i]'(by omega)) := List.getElem?_eq_getElem (by omega)
    refine turn i x _ Hc Hx _ _ hi hzi p.1 y (fun H4 e4 => ⟨_, e4 _ _ p.2, ?_, ?_⟩)
    · rw [List.length_take]
      exact Nat.lt_of_le_of_lt (Nat.min_le_right _ _) (Nat.lt_of_le_of_lt (by omega) (by decide : 100000 < sizeLine))
    · refine ⟨fun b o z => ?_, ?_⟩
      · rw [upd_ne (ne_of_none z nD)]
        exact e4 _ _ (p.1 b o z)
      · rw [upd_same, List.take_add_one, hzi]
        rfl
  · rw [← hz, List.take_length] at p
    exact fin Hc p.1 p.2
end
section
variable {K : PySem.W.Frag} {a b : Addr} {xs ys : List V} {g : TG} {tt : TT} {te : TE} {vs : List Nat} {σ : L2.St} {H : Hp} {k l : Nat} {Q : VK}
/-- [e for x in NAME], NAME a list: the items told ahead -/
theorem lc_lst (zs : List V) (hz : zs.length = xs.length) (hi : σ[k]? = some (some (.ref a))) (hq : SqL K H a xs) (len : xs.length ≤ 100000)
    (turn : ∀ (i : Nat) (x z : V) (Hc : Hp) (Q' : VK) (R' : Hp → Prop), xs[i]? = some x → zs[i]? = some z → Same H Hc → (∀ H4, Same Hc H4 → Q' z H4) → g x (wipe σ vs) Hc fun σ2 H2 => wipe σ2 vs = wipe σ vs ∧ tt σ2 H2 fun b H3 => if b = true then te σ2 H3 Q' else R' H3)
    (fin : ∀ (D : Addr) (Hc : Hp), Same H Hc → Hc D = some (.lst zs) → Q (.ref D) Hc) :
    tLc (iList K (tVar k)) g tt te vs σ H Q := ⟨_, hi, a, rfl, ⟨_, hq⟩, fun D nD => lc_out walk_list zs hz nD len (fun Hc e => e.seq hq) (fun i x z Hc Hx Q' R' _ hzi e y q => by
      obtain ⟨rfl, hx⟩ := y
      exact turn i x z _ Q' R' hx hzi e q) (fin D)⟩
/-- [e for x, y in zip(NAME, NAME)], both lists -/
theorem lc_zip (zs : List V) (hz : zs.length = min xs.length ys.length) (hi : σ[k]? = some (some (.ref a))) (hj : σ[l]? = some (some (.ref b))) (hq : SqL K H a xs) (hp : SqL K H b ys) (len : xs.length ≤ 100000)
    (turn : ∀ (i : Nat) (x y z : V) (t : Addr) (Hc : Hp) (Q' : VK) (R' : Hp → Prop), xs[i]? = some x → ys[i]? = some y → zs[i]? = some z → Same H Hc → Hc t = some (.tup [x, y]) → (∀ H4, Same Hc H4 → Q' z H4) → g (.ref t) (wipe σ vs) Hc fun σ2 H2 => wipe σ2 vs = wipe σ vs ∧ tt σ2 H2 fun b H3 => if b = true then te σ2 H3 Q' else R' H3)
    (fin : ∀ (D : Addr) (Hc : Hp), Same H Hc → Hc D = some (.lst zs) → Q (.ref D) Hc) :
    tLc (iZip K (tCons (tVar k) (tCons (tVar l) tNil))) g tt te vs σ H Q := ⟨_, hi, _, hj, a, b, xs, ys, rfl, hq, hp, fun D nD => lc_out (walk_zip rfl) zs hz nD (by omega) (fun Hc e => ⟨e.seq hq, e.seq hp⟩) (fun i x z Hc Hx Q' R' _ hzi e y q => by
      obtain ⟨t, x', y', rfl, nt, rfl, hx, hy⟩ := y
      exact turn i x' y' z t _ Q' R' hx hy hzi (e.trans (same_new nt)) upd_same (fun H4 e4 => q H4 ((same_new nt).trans e4))) (fin D)⟩
end
/-- «xs != ys», ints -/
theorem ne_ints {K : PySem.W.Frag} {H : Hp} {a b : Addr} {xs ys : List Int} {Q : VK} (h1 : SqL K H a (xs.map V.int)) (h2 : SqL K H b (ys.map V.int)) (q : Q (.bl (!decide (xs = ys))) H) : rNeD K (.ref a) (.ref b) H Q :=
  ⟨_, _, dp_ints h1, dp_ints h2, (pl_ints xs).shaped (by decide), (pl_ints ys).shaped (by decide), by rw [eqv_ints]; exact q⟩
theorem paired_at {α β : Type} {F : α → β → Prop} {l : List α} {m : List β} (h : Paired F l m) {i : Nat} {a : α} {b : β} (ha : l[i]? = some a) (hb : m[i]? = some b) : F a b := by
  obtain ⟨b', e, f⟩ := paired_get h ha
  rw [hb] at e
  cases e
  exact f
theorem map_at {α β : Type} {f : α → β} {l : List α} {i : Nat} {z : β} (h : (l.map f)[i]? = some z) : ∃ x, l[i]? = some x ∧ z = f x := by
  rw [List.getElem?_map] at h
  cases e : l[i]? with
  | none => rw [e] at h; cases h
  | some x => rw [e] at h; exact ⟨x, rfl, (Option.some.inj h).symm⟩
/-! ### one step into a reading -/
section
variable {D : Ends} {σ : L2.St} {H : Hp}
theorem go_seq {t u : TS} (h : t { D with nx := u D } σ H) : tSeq t u D σ H := h
theorem go_if {c : TT} {t u : TS} (h : c σ H fun b H1 => if b = true then t D σ H1 else u D σ H1) : tIfS c t u D σ H := h
theorem go_test {te : TE} {Q : Bool → Hp → Prop} (h : te σ H fun x H' => ∃ k, x = .bl k ∧ Q k H') : tTest te σ H Q := h
theorem go_op {r : R2} {ta tb : TE} {Q : VK} (h : ta σ H fun x H1 => tb σ H1 fun y H2 => r x y H2 Q) : tOp r ta tb σ H Q := h
theorem go_ret {te : TE} (h : te σ H D.rt) : tRet te D σ H := h
theorem go_asg {te : TE} {g : TG} (h : te σ H fun x H1 => g x σ H1 D.nx) : tAsg te g D σ H := h
theorem go_cb {r : List V → Hp → VK → Prop} {t : TA} {Q : VK} (h : t σ H fun vs H1 => r vs H1 Q) : tCB r t σ H Q := h
theorem go_cons {te : TE} {t : TA} {Q : List V → Hp → Prop} (h : te σ H fun x H1 => t σ H1 fun xs H2 => Q (x :: xs) H2) : tCons te t σ H Q := h
end
theorem cut_toI {xs : List Int} {k : Int} (h : 0 ≤ k) : cutV (xs.map V.int) none (some k) = (xs.take k.toNat).map V.int := by
  obtain ⟨n, rfl⟩ : ∃ n : Nat, k = n := ⟨k.toNat, by omega⟩
  rw [cut_to, List.map_take, Int.toNat_natCast]
theorem cut_fromI {xs : List Int} {k : Int} (h : 0 ≤ k) : cutV (xs.map V.int) (some k) none = (xs.drop k.toNat).map V.int := by
  obtain ⟨n, rfl⟩ : ∃ n : Nat, k = n := ⟨k.toNat, by omega⟩
  rw [cut_from, List.map_drop, Int.toNat_natCast]
theorem ne_of_two {H : Hp} {a b : Addr} {o u : HO} (ha : H a = some o) (hb : H b = some u) (h : o ≠ u) : a ≠ b := fun e => by
  rw [e, hb] at ha
  exact h (Option.some.inj ha).symm
theorem Wh.held {H : Hp} {a c : Addr} {n : Nat} (h : Wh H a c n) : ∃ o, H a = some o := by
  obtain ⟨cs, t, l, h1, _⟩ := h
  exact ⟨_, h1⟩
theorem Wh.ne {H : Hp} {a c p : Addr} {n : Nat} (h : Wh H a c n) (np : H p = none) : p ≠ a := fun e => by
  obtain ⟨o, h⟩ := h.held
  rw [← e, np] at h
  cases h
theorem Wh.new {H : Hp} {a c p : Addr} {n : Nat} {o : HO} (h : Wh H a c n) (np : H p = none) : Wh (upd H p o) a c n := h.same (same_new np)
theorem Mv.new {H H' : Hp} {a p : Addr} {o : HO} (h : Mv a H H') (np : H' p = none) : Mv a H (L2.upd H' p o) := h.trans (Mv.of (same_new np))
theorem Wh.cell {H : Hp} {a c : Addr} {n : Nat} (h : Wh H a c n) : ∃ o, H c = some o := by
  obtain ⟨cs, t, l, _, h2, _⟩ := h
  exact ⟨_, h2⟩
/-- a list of the law's own is written: the wheel stays -/
theorem Wh.set {H : Hp} {a c p : Addr} {n : Nat} {o : HO} (h : Wh H a c n) (h1 : p ≠ a) (h2 : p ≠ c) : Wh (upd H p o) a c n := by
  obtain ⟨cs, t, l, g1, g2, g3⟩ := h
  exact ⟨cs, t, l, by rw [upd_ne h1.symm]; exact g1, by rw [upd_ne h2.symm]; exact g2, g3⟩
theorem Wh.nc {H : Hp} {a c p : Addr} {n : Nat} (h : Wh H a c n) (np : H p = none) : p ≠ c := fun e => by
  obtain ⟨o, h⟩ := h.cell
  rw [← e, np] at h
  cases h
end Kx
namespace Kx
open PySem
/-- other can be cut into pieces, none empty, one for each number of row -/
inductive Th : List Int → List Int → Prop
  | nil : Th [] []
  | more {r o : List Int} (x : Int) (k : Nat) : Th r o → Th (r ++ [x]) (o ++ List.replicate (k + 1) x)
def LeR (p q : Int × Int) : Prop := p.1 = q.1 ∧ p.2 ≤ q.2
theorem snoc_inj {α : Type} {l m : List α} {a b : α} (h : l ++ [a] = m ++ [b]) : l = m ∧ a = b := by
  have h2 := List.append_inj' h rfl
  exact ⟨h2.1, by simpa using h2.2⟩
theorem snoc_ne {α : Type} {l : List α} {a : α} : l ++ [a] ≠ [] := by
  intro h
  have := congrArg List.length h
  simp at this
theorem stepR_le {rs ss : List (Int × Int)} (h : Paired LeR rs ss) (x : Int) : Paired LeR (stepR rs x) (stepR ss x) := by
  rcases nil_or_snoc ss with rfl | ⟨ss', ⟨m, d⟩, rfl⟩
  · cases paired_nil h
    exact .cons ⟨rfl, Int.le_refl _⟩ .nil
  · obtain ⟨rs', ⟨m', c⟩, rfl, h1, h2, h3⟩ := paired_split ss' h
    have e : m' = m := h2
    subst e
    rw [stepR_snoc, stepR_snoc]
    by_cases e : m' = x
    · rw [if_pos e, if_pos e]
      exact Paired.snoc h1 ⟨rfl, by have : c ≤ d := h3; show c + 1 ≤ d + 1; omega⟩
    · rw [if_neg e, if_neg e]
      exact Paired.snoc (Paired.snoc h1 ⟨rfl, h3⟩) ⟨rfl, Int.le_refl _⟩
theorem stepR_up (rs : List (Int × Int)) (x : Int) : ∃ rs' c, stepR rs x = rs' ++ [(x, c)] := by
  rcases nil_or_snoc rs with rfl | ⟨rs', ⟨m, d⟩, rfl⟩
  · exact ⟨[], 1, rfl⟩
  · rw [stepR_snoc]
    by_cases e : m = x
    · exact ⟨rs', d + 1, by rw [if_pos e]⟩
    · exact ⟨rs' ++ [(m, d)], 1, by rw [if_neg e]⟩
theorem more_le {rs ss : List (Int × Int)} {x c : Int} (h : Paired LeR (rs ++ [(x, c)]) ss) : Paired LeR (rs ++ [(x, c)]) (stepR ss x) := by
  rcases nil_or_snoc ss with rfl | ⟨ss', ⟨m, d⟩, rfl⟩
  · exact absurd (paired_nil h) snoc_ne
  · obtain ⟨rs', ⟨m', c'⟩, e, h1, h2, h3⟩ := paired_split ss' h
    obtain ⟨rfl, e2⟩ := snoc_inj e
    cases e2
    have e : x = m := h2
    subst e
    rw [stepR_snoc, if_pos rfl]
    exact Paired.snoc h1 ⟨rfl, by have : c ≤ d := h3; show c ≤ d + 1; omega⟩
theorem runs_rep (o : List Int) (x : Int) : ∀ k : Nat, runs (o ++ List.replicate (k + 1) x) = stepR (runs (o ++ List.replicate k x)) x := fun k => by
  rw [List.replicate_succ', ← List.append_assoc, runs_snoc]
theorem th_le {r o : List Int} (h : Th r o) : Paired LeR (runs r) (runs o) := by
  induction h with
  | nil => exact .nil
  | @more r o x k _ ih =>
    rw [runs_snoc]
    induction k with
    | zero =>
      rw [runs_rep]
      simp only [List.replicate_zero, List.append_nil]
      exact stepR_le ih x
    | succ k ihk =>
      rw [runs_rep]
      obtain ⟨rs', c, e⟩ := stepR_up (runs r) x
      rw [e] at ihk ⊢
      exact more_le ihk
theorem fold_pos : ∀ (o : List Int) (rs : List (Int × Int)), (∀ p ∈ rs, 1 ≤ p.2) → ∀ p ∈ o.foldl stepR rs, 1 ≤ p.2
  | [], _, h => h
  | x :: o, rs, h => by
    refine fold_pos o (stepR rs x) fun p m => ?_
    rcases nil_or_snoc rs with rfl | ⟨rs', ⟨y, d⟩, rfl⟩
    · rcases List.mem_singleton.mp m with rfl
      exact Int.le_refl _
    · have hd : (1 : Int) ≤ d := h (y, d) (by simp)
      rw [stepR_snoc] at m
      by_cases e : y = x
      · rw [if_pos e] at m
        rcases List.mem_append.mp m with m | m
        · exact h p (List.mem_append_left _ m)
        · rcases List.mem_singleton.mp m with rfl
          show (1 : Int) ≤ d + 1
          omega
      · rw [if_neg e] at m
        rcases List.mem_append.mp m with m | m
        · exact h p m
        · rcases List.mem_singleton.mp m with rfl
          exact Int.le_refl _
theorem runs_pos (o : List Int) : ∀ p ∈ runs o, 1 ≤ p.2 := fold_pos o [] (fun _ m => by cases m)
theorem runs_nil {o : List Int} (h : runs o = []) : o = [] := by
  rcases nil_or_snoc o with rfl | ⟨o', x, rfl⟩
  · rfl
  · rw [runs_snoc] at h
    obtain ⟨rs', c, e⟩ := stepR_up (runs o') x
    rw [e] at h
    exact absurd h snoc_ne
theorem runs_last {o : List Int} {ss : List (Int × Int)} {x d : Int} (h : runs o = ss ++ [(x, d)]) : ∃ o', o = o' ++ [x] ∧ ((d = 1 ∧ runs o' = ss) ∨ (2 ≤ d ∧ runs o' = ss ++ [(x, d - 1)])) := by
  rcases nil_or_snoc o with rfl | ⟨o', y, rfl⟩
  · exact absurd h.symm snoc_ne
  · rw [runs_snoc] at h
    rcases nil_or_snoc (runs o') with e | ⟨rs', ⟨m, c⟩, e⟩
    · rw [e] at h
      obtain ⟨h1, h2⟩ := snoc_inj (l := []) h
      cases h2
      exact ⟨o', rfl, .inl ⟨rfl, by rw [e, h1]⟩⟩
    · have hc : (1 : Int) ≤ c := runs_pos o' (m, c) (by rw [e]; simp)
      rw [e, stepR_snoc] at h
      by_cases em : m = y
      · rw [if_pos em] at h
        obtain ⟨h1, h2⟩ := snoc_inj h
        cases h2
        subst em h1
        exact ⟨o', rfl, .inr ⟨by omega, by rw [e, Int.add_sub_cancel]⟩⟩
      · rw [if_neg em] at h
        obtain ⟨h1, h2⟩ := snoc_inj h
        cases h2
        exact ⟨o', rfl, .inl ⟨rfl, by rw [e, h1]⟩⟩
theorem runs_piece {x : Int} {ss : List (Int × Int)} : ∀ (n : Nat) {o : List Int}, runs o = ss ++ [(x, (n : Int) + 1)] → ∃ o', o = o' ++ List.replicate (n + 1) x ∧ runs o' = ss
  | 0, o, h => by
    obtain ⟨o', e, h1 | h1⟩ := runs_last h
    · exact ⟨o', e, h1.2⟩
    · omega
  | n + 1, o, h => by
    obtain ⟨o', rfl, h1 | h1⟩ := runs_last h
    · omega
    · rw [show ((n + 1 : Nat) : Int) + 1 - 1 = (n : Int) + 1 by omega] at h1
      obtain ⟨o2, rfl, e2⟩ := runs_piece n h1.2
      exact ⟨o2, by rw [List.replicate_succ' (n := n + 1), List.append_assoc], e2⟩
theorem le_th : ∀ (n : Nat) {r o : List Int}, r.length = n → Paired LeR (runs r) (runs o) → Th r o
  | 0, r, o, hn, h => by
    cases r with
    | nil =>
      have e : runs o = [] := by
        cases h' : runs o with
        | nil => rfl
        | cons p t => rw [h'] at h; cases h
      rw [runs_nil e]
      exact .nil
    | cons _ _ => simp at hn
  | n + 1, r, o, hn, h => by
    rcases nil_or_snoc r with rfl | ⟨r', x, rfl⟩
    · simp at hn
    · have hn' : r'.length = n := by simpa using hn
      rw [runs_snoc] at h
      obtain ⟨rs', c, e⟩ := stepR_up (runs r') x
      rw [e] at h
      rcases nil_or_snoc (runs o) with eo | ⟨ss, ⟨y, d⟩, eo⟩
      · rw [eo] at h
        exact absurd (paired_nil h) snoc_ne
      · rw [eo] at h
        obtain ⟨q', ⟨x', c'⟩, e1, h1, h2, h3⟩ := paired_split ss h
        obtain ⟨e3, e2⟩ := snoc_inj e1
        cases e2
        subst e3
        have e4 : x = y := h2
        subst e4
        have h3 : c ≤ d := h3
        have hpos : (1 : Int) ≤ d := runs_pos o (x, d) (by rw [eo]; simp)
        rcases nil_or_snoc (runs r') with er | ⟨ts, ⟨m, c2⟩, er⟩
        · rw [er] at e
          obtain ⟨e5, e6⟩ := snoc_inj (l := []) e
          subst e5
          obtain ⟨o', rfl, eo'⟩ := runs_piece (d - 1).toNat (o := o) (ss := ss) (x := x) (by rw [eo]; congr 3; omega)
          exact .more x _ (le_th n hn' (by rw [er, eo']; exact h1))
        · have hc2 : (1 : Int) ≤ c2 := runs_pos r' (m, c2) (by rw [er]; simp)
          rw [er, stepR_snoc] at e
          by_cases em : m = x
          · rw [if_pos em] at e
            obtain ⟨e5, e6⟩ := snoc_inj e
            cases e6
            subst e5 em
            obtain ⟨o', rfl, hh | ⟨_, hh⟩⟩ := runs_last eo
            · omega
            · exact .more m 0 (le_th n hn' (by rw [er, hh]; exact Paired.snoc h1 ⟨rfl, by show c2 ≤ d - 1; omega⟩))
          · rw [if_neg em] at e
            obtain ⟨e5, e6⟩ := snoc_inj e
            cases e6
            subst e5
            obtain ⟨o', rfl, eo'⟩ := runs_piece (d - 1).toNat (o := o) (ss := ss) (x := x) (by rw [eo]; congr 3; omega)
            exact .more x _ (le_th n hn' (by rw [er, eo']; exact h1))
theorem leR_iff : ∀ (rs ss : List (Int × Int)), (decide (rs.map Prod.fst = ss.map Prod.fst) && (rs.zip ss).all fun p => decide (p.1.2 ≤ p.2.2)) = true ↔ Paired LeR rs ss
  | [], [] => ⟨fun _ => .nil, fun _ => rfl⟩
  | [], q :: ss => ⟨fun h => by simp at h, fun h => by cases h⟩
  | p :: rs, [] => ⟨fun h => by simp at h, fun h => by cases h⟩
  | p :: rs, q :: ss => by
    have ih := leR_iff rs ss
    constructor
    · intro h
      simp only [List.map_cons, List.zip_cons_cons, List.all_cons, Bool.and_eq_true, decide_eq_true_eq, List.cons.injEq] at h
      obtain ⟨⟨h1, h2⟩, h3, h4⟩ := h
      refine .cons ⟨h1, h3⟩ (ih.mp ?_)
      simp only [Bool.and_eq_true, decide_eq_true_eq]
      exact ⟨h2, h4⟩
    · intro h
      cases h with
      | cons h1 h2 =>
        have h3 := ih.mpr h2
        simp only [Bool.and_eq_true, decide_eq_true_eq] at h3
        simp only [List.map_cons, List.zip_cons_cons, List.all_cons, Bool.and_eq_true, decide_eq_true_eq, List.cons.injEq]
        exact ⟨⟨h1.1, h3.1⟩, h1.2, h3.2⟩
theorem th_iff (r o : List Int) : (decide ((runs r).map Prod.fst = (runs o).map Prod.fst) && ((runs r).zip (runs o)).all fun p => decide (p.1.2 ≤ p.2.2)) = true ↔ Th r o :=
  (leR_iff _ _).trans ⟨le_th _ rfl, th_le⟩
end Kx
namespace Kx
open PySem PySem.Spec PyProof.Rows L2 SX LamX
/-- a def whose code object is known -/
def FunC (K : PySem.W.Frag) (x qual : Str) (st : Stmt) (f : Addr) (fd : FuncData) (c : Addr) : Prop :=
  ∃ (oc : Value) (od : Option Addr) (kV doc pm : Value) (an : Option Addr) (ct : Value) (osl : Array (Option Value)), fd = PySem.W.fnOf x qual (defArgs st) (defBody st) (defScope st) .none kV doc pm an (.ref c) ct ∧
    K.lookup f = some ⟨oc, od, .func (PySem.W.fnOf x qual (defArgs st) (defBody st) (defScope st) .none kV doc pm an (.ref c) ct), osl⟩ ∧ PySem.W.codeIn K (.ref c) qual = true
section
variable {P : Program} {w : World} {K : PySem.W.Frag} {mg : Str → Option Value} {base : Heap}
/-- the body's rule: guards told, the code object known -/
theorem okC {x qual : Str} {st : Stmt} {f c : Addr} {fd : FuncData} {N ps : List Str} {k : Nat} {sp : Sp} (F : FunC K x qual st f fd c) (S : FnScope N ps (defScope st)) (len : ∀ vs H Q E, sp vs H Q E → vs.length = ps.length)
    (hbody : ∀ (A : Around) (outer : List Env) (s : Shared) (H : Hp) (vs : List V) (Q : VK) (E : XK), A.guards = some [] → Room k (A.deeper (envOfC qual (defScope st) s.heap.objs.size f (.ref c))) → sp vs H Q E →
      ∃ t, PSs (cxOf CX0 P w K mg base N qual (defScope st) f (.ref c) A outer s H E).nox (defBody st) t ∧ t { nx := fun _ H' => Q .non H', rt := Q } (start N vs) H) :
    FnG P w K mg base CX0 (k + 1) f fd ps sp := by
  obtain ⟨oc, od, kV, doc, pm, an, ct, osl, rfl, lk, hcd⟩ := F
  refine ⟨len, fun A outer s H args us vs Q E hg hr e0 hb r hsp => ?_⟩
  refine LamX.run_ofS lk hcd S hr e0 hb r (len _ _ _ _ hsp) fun hr' => ?_
  obtain ⟨t, h, q⟩ := hbody A outer s H vs Q E hg hr' hsp
  exact ⟨t, h.nox, q⟩
theorem funC_mk {x qual : Str} {st : Stmt} {f c : Addr} {oc : Value} {od an : Option Addr} {osl : Array (Option Value)} {kV doc pm ct : Value} (l : K.lookup f = some ⟨oc, od, .func (PySem.W.fnOf x qual (defArgs st) (defBody st) (defScope st) .none kV doc pm an (.ref c) ct), osl⟩)
    (h : PySem.W.codeIn K (.ref c) qual = true) : FunC K x qual st f (PySem.W.fnOf x qual (defArgs st) (defBody st) (defScope st) .none kV doc pm an (.ref c) ct) c := ⟨oc, od, kV, doc, pm, an, ct, osl, rfl, l, h⟩
theorem funC_of {x qual : Str} {st : Stmt} {f c Pt : Addr} {fd : FuncData} (F : Fun K x qual st f fd) (g : PySem.W.nsIn K mainGlobals x = some (some (.ref f))) (t : PySem.W.tabIn K x = some (c, Pt)) : FunC K x qual st f fd c := by
  obtain ⟨oc, od, kV, doc, pm, an, cdv, ct, osl, rfl, lk, hcd⟩ := F.ex
  unfold PySem.W.tabIn at t
  rw [g] at t
  simp only [lk] at t
  have e : (PySem.W.fnOf x qual (defArgs st) (defBody st) (defScope st) .none kV doc pm an cdv ct).code = cdv := rfl
  clear e
  cases cdv with
  | ref c' =>
    simp only at t
    split at t
    · split at t
      · injection t with t
        injection t with t1 t2
        subst t1
        exact ⟨oc, od, kV, doc, pm, an, ct, osl, rfl, lk, hcd⟩
      · cases t
    · cases t
  | _ => simp at t
end
/-- no positional value, two by name: exchanged -/
def swapG {α : Type} (us ws : List α) : List α := match us, ws with | [], [v, u] => [u, v] | _, _ => []
/-- f(b = .., a = ..): two parameters, both by name, the other way round -/
theorem kb_swap {K : PySem.W.Frag} {x qual : Str} {st : Stmt} {f : Addr} {fd : FuncData} {a b : Str} (F : Fun K x qual st f fd)
    (h : ∀ (kV doc pm : Value) (an : Option Addr) (cdv ct : Value) (u v : Value), bindArgs (PySem.W.fnOf x qual (defArgs st) (defBody st) (defScope st) .none kV doc pm an cdv ct) ⟨[], [(b, v), (a, u)]⟩ = pure [(a, u), (b, v)]) :
    KBinds K fd [a, b] [b, a] swapG swapG := by
  obtain ⟨oc, od, kV, doc, pm, an, cdv, ct, osl, rfl, lk, hcd⟩ := F.ex
  refine ⟨fun s us ws X l => ?_, fun {vs us zs ws} r1 r2 => ?_⟩
  · match us, ws, l with
    | [], [v, u], _ => exact .of_eq (h kV doc pm an cdv ct u v)
    | [], [], l => cases l
    | [], [_], l => cases l
    | [], _ :: _ :: _ :: _, l => cases l
    | _ :: _, _, l => cases l
  · cases r1 with
    | cons _ _ => exact .nil
    | nil =>
      cases r2 with
      | nil => exact .nil
      | cons h1 r2 =>
        cases r2 with
        | nil => exact .nil
        | cons h2 r2 =>
          cases r2 with
          | nil => exact .cons h2 (.cons h1 .nil)
          | cons _ _ => exact .nil
/-! ### the scope of a lambda with one default, checked -/
def lamPB (sc scope : Scope) (z : Str) : Bool :=
  decide (scope.kind = .function) && !scope.isCoroutine && !scope.isGenerator && decide (scope.names.lookup z = some .local) && scope.names.all fun y => !decide (y.2 = .cell) && (!decide (y.2 = .local) || decide (y.1 = z)) && (!decide (y.2 = .free) || decide (sc.names.lookup y.1 = some .cell) || decide (sc.names.lookup y.1 = some .free))
theorem lamP_by {sc scope : Scope} {z : Str} (h : lamPB sc scope z = true) : LamP sc scope z := by
  unfold lamPB at h
  simp only [Bool.and_eq_true, Bool.or_eq_true, Bool.not_eq_true', decide_eq_true_eq, decide_eq_false_iff_not, List.all_eq_true] at h
  obtain ⟨⟨⟨⟨h1, h2⟩, h3⟩, h5⟩, h4⟩ := h
  refine { kind := h1, co := h2, gen := h3, own := fun y hy => ⟨(h4 y hy).1.1, fun e => ?_⟩, par := h5, free := fun y hy e => ?_ }
  · rcases (h4 y hy).1.2 with z | z
    · exact absurd e z
    · exact z
  · rcases (h4 y hy).2 with (z | z) | z
    · exact absurd e z
    · exact .inl z
    · exact .inr z
open PySem.W in
/-- the goal that the head leaves, of a law that makes lambdas: x its def's name, P its table -/
theorem walkL {l : OpenLaw} {n k : Nat} {q : Program} {loose : List Str} {XP : (Str → Option Value) → Heap → Prop} {YP : World → Heap → Prop} {d : DefRec} {K : Params → Frag} {x y : Str} (sp : Frag → Addr → Sp)
    (hn : l.most = some n) (hz : n ≤ sizeLine) (h0 : d.params.defaults = []) (hr : Room k callerA) (hY : ∀ (w : World) (h : Heap), YP w h → (K w.params).In h)
    (hc : ∀ p, (∃ r, (recsOf q).find? (fun r => r.name == y) = some r) ∧ ∃ c Pt, tabIn (K p) y = some (c, Pt) ∧ (K p).lookup Pt = none)
    (F : ∀ (w : World) (mg : Str → Option Value) (fa : Addr) (h : Heap), (K w.params).In h → h.Ns mainGlobals mg → mg d.name = some (.ref fa) → ∃ fd : FuncData,
      (∀ (t : Shared) (u : Value), BindsTo t fd ⟨[u], []⟩ [(x, u)]) ∧ ∀ (c Pt : Addr), tabIn (K w.params) y = some (c, Pt) → ∀ base : Heap, (K w.params).In base → base.Ns mainGlobals mg → TabB base mg c Pt → FnG l.prog w (K w.params) mg base CX0 k fa fd [x] (sp (K w.params) Pt))
    (pr : ∀ (K : Frag) (Pt : Addr) (H : Hp) (a : Addr) (ns : List Int), ns.length ≤ n → H Pt = some (.tbl #[]) → SqL K H a (ns.map V.int) → sp K Pt [.ref a] H (fun v _ => v = .bl true) fun _ _ _ => False) :
    WalkO q loose XP YP l.row.toRowW d [] (fun f us => PySem.call f us) := by
  refine walkT (x := x) (K := K) (cs := fun p => [(y, ((tabIn (K p) y).getD (0, 0)))]) (sp := fun K => sp K ((tabIn K y).getD (0, 0)).2) hn hz h0 hr hY (fun p e he => ?_) (fun w mg fa h KX G hmg => ?_) (fun p H a ns hl ht hS _ => pr _ _ H a ns hl (ht _ (List.mem_singleton.mpr rfl)) hS)
  · obtain ⟨h1, c, Pt, h2, h3⟩ := hc p
    cases List.mem_singleton.mp he
    refine ⟨h1, ?_, ?_⟩
    · rw [h2]
      rfl
    · rw [h2]
      exact h3
  · obtain ⟨fd, hb, hF⟩ := F w mg fa h KX G hmg
    obtain ⟨_, c, Pt, h2, _⟩ := hc w.params
    refine ⟨fd, hb, fun base hk hg ht => ?_⟩
    have hT := ht _ (List.mem_singleton.mpr rfl)
    simp only [h2, Option.getD_some] at hT ⊢
    exact hF c Pt h2 base hk hg hT
theorem useIt {α : Type} {P : Prop} (x : α) (h : α → P) : P := h x
theorem binds_one {K : PySem.W.Frag} {x qual a : Str} {st : Stmt} {f : Addr} {fd : FuncData} (F : Fun K x qual st f fd)
    (h : ∀ (kV doc pm : Value) (an : Option Addr) (cdv ct u : Value), bindArgs (PySem.W.fnOf x qual (defArgs st) (defBody st) (defScope st) .none kV doc pm an cdv ct) ⟨[u], []⟩ = pure [(a, u)]) : ∀ (t : Shared) (u : Value), BindsTo t fd ⟨[u], []⟩ [(a, u)] := by
  obtain ⟨oc, od, kV, doc, pm, an, cdv, ct, osl, rfl, lk, hcd⟩ := F.ex
  exact fun t u => .of_eq (h kV doc pm an cdv ct u)
theorem same_ref {mg : Str → Option Value} {x : Str} {a b : Addr} (h : mg x = some (.ref a)) (k : mg x = some (.ref b)) : a = b := by
  rw [h] at k
  injection k with k
  injection k
theorem tabIn_of {K : PySem.W.Frag} {x : Str} {f c Pt : Addr} {oc oc2 : Value} {od od2 : Option Addr} {osl osl2 : Array (Option Value)} {fd : FuncData} {vs : Array Value} (a : PySem.W.nsIn K mainGlobals x = some (some (.ref f)))
    (l : K.lookup f = some ⟨oc, od, .func fd, osl⟩) (e : fd.code = .ref c) (l2 : K.lookup c = some ⟨oc2, od2, .fields vs, osl2⟩) (v : (vs[11]? : Option Value) = some (.ref Pt)) (n : K.lookup Pt = none) :
    ∃ c Pt, PySem.W.tabIn K x = some (c, Pt) ∧ K.lookup Pt = none := by
  refine ⟨c, Pt, ?_, n⟩
  unfold PySem.W.tabIn
  rw [a]
  simp only [l, e, l2, v]
end Kx
namespace Kx
open PySem PySem.Spec PyProof.Rows L2 SX LamX
/-! ### what stays through draws and through the making of lambdas -/
/-- H without what stands at a and without tables -/
def core (a : Addr) (H : Hp) : Hp := fun b => if b = a then none else match H b with | some (.tbl _) => none | o => o
theorem core_at {a b : Addr} {H : Hp} {o : HO} (h : H b = some o) (n : b ≠ a) (t : ∀ ps, o ≠ .tbl ps) : core a H b = some o := by
  unfold core
  rw [if_neg n, h]
  cases o with
  | tbl ps => exact absurd rfl (t ps)
  | _ => rfl
theorem of_core {a b : Addr} {H : Hp} {o : HO} (h : core a H b = some o) : b ≠ a ∧ H b = some o ∧ ∀ ps, o ≠ .tbl ps := by
  unfold core at h
  by_cases e : b = a
  · rw [if_pos e] at h
    cases h
  · rw [if_neg e] at h
    cases q : H b with
    | none => rw [q] at h; cases h
    | some u =>
      rw [q] at h
      cases u with
      | tbl ps => cases h
      | _ =>
        have h' := Option.some.inj h
        subst h'
        exact ⟨e, rfl, fun ps z => by cases z⟩
theorem core_mv {a : Addr} {H H' : Hp} (m : Mv a H H') : Same (core a H) H' := fun b o h => m b o (of_core h).1 (of_core h).2.1
theorem core_ext {a : Addr} {H0 H H' : Hp} (s : Same (core a H0) H) (e : ExtN H H') : Same (core a H0) H' := fun b o h => e b o (s b o h) (of_core h).2.2
theorem Wh.ext {H H' : Hp} {a c : Addr} {n : Nat} (h : Wh H a c n) (e : ExtN H H') : Wh H' a c n := by
  obtain ⟨cs, t, l', h1, h2, h3⟩ := h
  exact ⟨cs, t, l', e _ _ h1 (fun ps z => by cases z), e _ _ h2 (fun ps z => by cases z), h3⟩
theorem Wh.tab {H : Hp} {a c P : Addr} {n : Nat} {ps : Array Value} (h : Wh H a c n) (t : H P = some (.tbl ps)) : P ≠ a := by
  obtain ⟨cs, x, l', h1, _⟩ := h
  exact ne_of_two t h1 (fun z => by cases z)
/-! ### what never is a list or tuple -/
theorem no_list {K : PySem.W.Frag} {n : String} (h1 : kitB n "list" = some false) (h2 : kitB n "tuple" = some false) : PySem.W.kitAny K (.type n) [.type "list", .type "tuple"] = some false := kit_at h1 h2
theorem flat_rep (n : Nat) (xs : List Int) : (List.replicate n (xs.map V.int)).flatten = ((List.replicate n xs).flatten).map V.int := by
  rw [List.map_flatten, List.map_replicate]
theorem rep_one (n : Nat) (x : Int) : (List.replicate n [V.int x]).flatten = (List.replicate n x).map V.int := by
  rw [List.map_replicate]
  induction n with
  | zero => rfl
  | succ j ih => rw [List.replicate_succ, List.flatten_cons, ih, List.replicate_succ]; rfl
theorem flat_length (n : Nat) (xs : List Int) : ((List.replicate n xs).flatten).length = n * xs.length := by
  induction n with
  | zero => simp
  | succ j ih => rw [List.replicate_succ, List.flatten_cons, List.length_append, ih, Nat.succ_mul, Nat.add_comm]
theorem flat_mem {n : Nat} {xs : List Int} {i : Int} (h : i ∈ (List.replicate n xs).flatten) : i ∈ xs := by
  obtain ⟨l, hl, hi⟩ := List.mem_flatten.mp h
  rw [List.eq_of_mem_replicate hl] at hi
  exact hi
/-- one and the same truth, twice -/
theorem dp_bb {K : PySem.W.Frag} {H : Hp} {p : Addr} {b : Bool} (h : H p = some (.lst [.bl b, .bl b])) : Dp K H (.ref p) (.list [.bool b, .bool b]) := .lst (.inl (.inl h)) (.cons (.bl b) (.cons (.bl b) .nil))
/-- [b, b] is shown -/
theorem bb1 (b : Bool) : (PyData.list [.bool b, .bool b]).showable = true := by cases b <;> rfl
theorem bb2 (b : Bool) : (PyData.list [.bool b, .bool b]).hasDict = false := by cases b <;> rfl
theorem bb3 (b : Bool) : (PyData.list [.bool b, .bool b]).depth ≤ 60 := by cases b <;> decide
theorem bb4 (b : Bool) : (PyData.list [.bool b, .bool b]).shown.length ≤ sizeLine := by cases b <;> decide +kernel
theorem bool_of {P : Prop} {a b : Bool} (h1 : a = true ↔ P) (h2 : b = true ↔ P) : a = b := Bool.eq_iff_iff.mpr (h1.trans h2.symm)
theorem ne_self {x : V} : (!decide (x = x)) = false := by simp
theorem th_refl : ∀ (n : Nat) (r : List Int), r.length = n → Th r r
  | 0, r, h => by
    cases r with
    | nil => exact .nil
    | cons _ _ => simp at h
  | n + 1, r, h => by
    rcases nil_or_snoc r with rfl | ⟨r', x, rfl⟩
    · simp at h
    · exact .more x 0 (th_refl n r' (by simpa using h))
end Kx
namespace Kx
open PySem PySem.Spec PyProof.Rows L2 SX LamX
/-! ### a def that calls replace: a token is out when it begins -/
section
variable {X : Cx}
theorem pst_set {i : Nat} {x : Str} {e : Expr} {te : TE} {pos pos' : Pos} (hN : X.N.Nodup) (hi : X.N[i]? = some x) (hx : Loc X.env.scope x) (he : PET X e te) (hs : swapsWith e (some (.Name x pos')) pos.line X.env = pure false := by rfl)
    (hf : X.fn x = true ∨ X.env.scope.names.lookup x = some .local := by first | exact .inl rfl | exact .inr rfl | assumption) : PST X (.Assign [.Name x pos'] e pos) (tAsg te (gName i)) := by
  intro pins s σ H D h0 I h
  refine wpAny_Assign_Name (thn (he pins s σ H _ h0 I h) fun v s1 hh => ?_) hs
  obtain ⟨y, H1, I1, r1, q1⟩ := hh
  exact store_ok I1 hN hi hx r1 (fun s2 I2 => ⟨_, H1, I2, q1⟩) hf
end
theorem okT {P : Program} {w : World} {K : PySem.W.Frag} {mg : Str → Option Value} {base : Heap} {x qual : Str} {st : Stmt} {f : Addr} {fd : FuncData} {N ps : List Str} {k : Nat} {sp : Sp} (F : Fun K x qual st f fd) (S : FnScope N ps (defScope st))
    (hnc : ((defScope st).names.all fun y => !decide (y.2 = .cell)) = true) (hps : 1 ≤ ps.length) (len : ∀ vs H Q E, sp vs H Q E → vs.length = ps.length)
    (hbody : ∀ (cdv : Value) (A : Around) (outer : List Env) (s : Shared) (H : Hp) (vs : List V) (Q : VK) (E : XK), Room k (A.deeper (envOfC qual (defScope st) s.heap.objs.size f cdv)) → sp vs H Q E →
      ∃ t, PSsT (cxOf CX0 P w K mg base N qual (defScope st) f cdv A outer s H E) (defBody st) t ∧ t { nx := fun _ H' => Q .non H', rt := Q } (start N vs) H) :
    FnOk P w K mg base CX0 (k + 1) f fd ps sp := by
  obtain ⟨oc, od, kV, doc, pm, an, cdv, ct, osl, rfl, lk, hcd⟩ := F.ex
  refine fn_ofT lk hcd S (fun y hy e => ?_) hps len fun A outer s H vs Q E hr hsp => hbody cdv A outer s H vs Q E hr hsp
  have h := List.all_eq_true.mp hnc y hy
  rw [e] at h
  exact absurd h (by decide)
/-! ### texts -/
theorem replace_S (l : List Nat) : Txt.replace (S l) ⟨#[32]⟩ ⟨#[]⟩ = S (l.filter (· != 32)) := by
  have h := PyProof.Rows.replace_strikes (S l) 32
  refine TL.ext_tl ?_
  show (Txt.replace (S l) ⟨#[32]⟩ ⟨#[]⟩).cps.toList = (S (l.filter (· != 32))).cps.toList
  rw [h]
theorem S_nil (l : List Nat) : decide (V.str (S l) = V.str "") = l.isEmpty := by
  cases l with
  | nil => rfl
  | cons c t =>
    rw [decide_eq_false]
    · rfl
    · intro e
      injection e with e
      have := congrArg (fun z : Str => z.cps.size) e
      have e0 : (Str.ofString "").cps.size = 0 := rfl
      simp [S] at this
      omega
/-- letters and blanks alone -/
theorem text_filter (l : List Nat) : ((l.filter (· != 32)).isEmpty || lowB (l.filter (· != 32))) = l.all sg := by
  have h : (l.filter (· != 32)).all low = l.all sg := by
    induction l with
    | nil => rfl
    | cons c t ih =>
      by_cases e : c = 32
      · subst e
        rw [List.filter_cons_of_neg (by simp), ih]
        rfl
      · rw [List.filter_cons_of_pos (by simpa using e), List.all_cons, List.all_cons, ih]
        have : sg c = low c := by
          unfold sg
          rw [decide_eq_false e, Bool.false_or]
        rw [this]
  unfold lowB
  rw [h]
  cases hE : (l.filter (· != 32)).isEmpty with
  | true =>
    have : l.filter (· != 32) = [] := List.isEmpty_iff.mp hE
    rw [← h, this]
    rfl
  | false => simp
/-- as an error with its part is raised -/
def RaisedPart (E : XK) (C : Addr) (H : Hp) (part : Str) : Prop := ∀ d H', Same H H' → H' d = some (.xd [("part", .str part)]) → E (.ref C) (some d) H'
/-! ### items between blanks -/
def itemsA (acc : List Nat) : List Nat → List (List Nat)
  | [] => [acc]
  | c :: r => if c = 32 then acc :: itemsA [] r else itemsA (acc ++ [c]) r
theorem pre_blank (c : Nat) (r : List Nat) : TL.pre [32] (c :: r) = decide (c = 32) := by
  by_cases h : c = 32
  · subst h
    simp [TL.pre]
  · have h' : ¬ 32 = c := fun e => h e.symm
    simp [TL.pre, h, h']
theorem spl_items : ∀ (l acc : List Nat), TL.spl [32] 0 acc l = itemsA acc l
  | [], acc => TL.spl_nil _ _ _
  | c :: r, acc => by
    by_cases h : c = 32
    · rw [TL.spl_hit (by rw [pre_blank, decide_eq_true h])]
      show acc :: TL.spl [32] 0 [] r = if c = 32 then acc :: itemsA [] r else itemsA (acc ++ [c]) r
      rw [if_pos h, spl_items r []]
    · rw [TL.spl_miss (by rw [pre_blank, decide_eq_false h])]
      show TL.spl [32] 0 (acc ++ [c]) r = if c = 32 then acc :: itemsA [] r else itemsA (acc ++ [c]) r
      rw [if_neg h, spl_items r (acc ++ [c])]
theorem split_items (l : List Nat) : Txt.split (S l) " " = (itemsA [] l).map S := by
  have h := SX.split_S (a := l) (b := [32]) (by simp) (by decide)
  rw [spl_items] at h
  exact h
def beginsA : Nat → List (List Nat) → List Nat
  | _, [] => []
  | p, x :: xs => p :: beginsA (p + x.length + 1) xs
/-- how far items reach -/
def reachA : Nat → List (List Nat) → Nat
  | p, [] => p
  | p, x :: xs => reachA (p + x.length + 1) xs
theorem beginsA_snoc : ∀ (xs : List (List Nat)) (p : Nat) (x : List Nat), beginsA p (xs ++ [x]) = beginsA p xs ++ [reachA p xs]
  | [], _, _ => rfl
  | y :: ys, p, x => by
    show p :: beginsA (p + y.length + 1) (ys ++ [x]) = p :: (beginsA (p + y.length + 1) ys ++ [reachA (p + y.length + 1) ys])
    rw [beginsA_snoc ys]
theorem reachA_snoc : ∀ (xs : List (List Nat)) (p : Nat) (x : List Nat), reachA p (xs ++ [x]) = reachA p xs + x.length + 1
  | [], _, _ => rfl
  | y :: ys, p, x => reachA_snoc ys _ x
theorem reach_items : ∀ (l acc : List Nat) (p : Nat), reachA p (itemsA acc l) = p + acc.length + l.length + 1
  | [], acc, p => rfl
  | c :: r, acc, p => by
    show reachA p (if c = 32 then acc :: itemsA [] r else itemsA (acc ++ [c]) r) = _
    by_cases h : c = 32
    · rw [if_pos h]
      show reachA (p + acc.length + 1) (itemsA [] r) = _
      rw [reach_items]
      simp
      omega
    · rw [if_neg h, reach_items]
      simp
      omega
theorem items_blank : ∀ (l acc : List Nat), itemsA acc (l ++ [32]) = itemsA acc l ++ [[]]
  | [], acc => rfl
  | c :: r, acc => by
    show (if c = 32 then acc :: itemsA [] (r ++ [32]) else itemsA (acc ++ [c]) (r ++ [32])) = (if c = 32 then acc :: itemsA [] r else itemsA (acc ++ [c]) r) ++ [[]]
    by_cases h : c = 32
    · rw [if_pos h, if_pos h, items_blank]
      rfl
    · rw [if_neg h, if_neg h, items_blank]
theorem items_sign {s : Nat} (hs : s ≠ 32) : ∀ (l acc : List Nat), ∃ xs x, itemsA acc l = xs ++ [x] ∧ itemsA acc (l ++ [s]) = xs ++ [x ++ [s]]
  | [], acc => ⟨[], acc, rfl, by show (if s = 32 then _ else itemsA (acc ++ [s]) []) = _; rw [if_neg hs]; rfl⟩
  | c :: r, acc => by
    by_cases h : c = 32
    · obtain ⟨xs, x, h1, h2⟩ := items_sign hs r []
      refine ⟨acc :: xs, x, ?_, ?_⟩
      · show (if c = 32 then acc :: itemsA [] r else _) = _
        rw [if_pos h, h1]
        rfl
      · show (if c = 32 then acc :: itemsA [] (r ++ [s]) else _) = _
        rw [if_pos h, h2]
        rfl
    · obtain ⟨xs, x, h1, h2⟩ := items_sign hs r (acc ++ [c])
      refine ⟨xs, x, ?_, ?_⟩
      · show (if c = 32 then _ else itemsA (acc ++ [c]) r) = _
        rw [if_neg h, h1]
      · show (if c = 32 then _ else itemsA (acc ++ [c]) (r ++ [s])) = _
        rw [if_neg h, h2]
theorem items_length : ∀ (l acc : List Nat), (itemsA acc l).length = l.count 32 + 1
  | [], acc => rfl
  | c :: r, acc => by
    show (if c = 32 then acc :: itemsA [] r else itemsA (acc ++ [c]) r).length = _
    by_cases h : c = 32
    · subst h
      rw [if_pos rfl, List.length_cons, items_length, List.count_cons_self]
    · rw [if_neg h, items_length, List.count_cons_of_ne h]
theorem join_items : ∀ (l acc : List Nat), TL.joinL [32] (itemsA acc l) = acc ++ l
  | [], acc => by simp [itemsA, TL.joinL]
  | c :: r, acc => by
    show TL.joinL [32] (if c = 32 then acc :: itemsA [] r else itemsA (acc ++ [c]) r) = _
    by_cases h : c = 32
    · subst h
      rw [if_pos rfl]
      have ih := join_items r []
      cases hi : itemsA [] r with
      | nil =>
        have := items_length r []
        rw [hi] at this
        simp at this
      | cons x xs =>
        rw [hi] at ih
        show acc ++ ([32] ++ TL.joinL [32] (x :: xs)) = _
        rw [ih]
        simp
    · rw [if_neg h, join_items]
      simp
theorem beginsA_length : ∀ (xs : List (List Nat)) (p : Nat), (beginsA p xs).length = xs.length
  | [], _ => rfl
  | x :: xs, p => by
    show (beginsA (p + x.length + 1) xs).length + 1 = xs.length + 1
    rw [beginsA_length xs]
theorem item_le : ∀ (l acc it : List Nat), it ∈ itemsA acc l → it.length ≤ acc.length + l.length
  | [], acc, it, h => by
    rw [List.mem_singleton.mp h]
    simp
  | c :: r, acc, it, h => by
    have h : it ∈ (if c = 32 then acc :: itemsA [] r else itemsA (acc ++ [c]) r) := h
    by_cases e : c = 32
    · rw [if_pos e] at h
      rcases List.mem_cons.mp h with rfl | h
      · simp
      · have := item_le r [] it h
        simp at this ⊢
        omega
    · rw [if_neg e] at h
      have := item_le r _ it h
      simp at this ⊢
      omega
end Kx
namespace Kx
open PySem PySem.Spec PyProof.Rows L2 SX LamX
/-! ### an int or a truth is (not) a truth -/
def rNotBI : R2 := fun x y H Q => ∃ b : Bool, y = .bl b ∧ ((∃ i : Int, x = .int i ∧ Q (.bl true) H) ∨ ∃ a : Bool, x = .bl a ∧ Q (.bl (!decide (a = b))) H)
section
variable {X : Cx}
theorem op_notBI : OpR X (compareOp .IsNot) rNotBI := by
  intro pins s σ H x y v u Q I rx ry h
  obtain ⟨b, rfl, h⟩ := h
  rcases h with ⟨i, rfl, q⟩ | ⟨a, rfl, q⟩
  · obtain ⟨t, rfl⟩ := rx
    obtain rfl : u = Value.bool b := ry
    exact wpAny_isNot_other rfl (fun z => nomatch z) ⟨.bl true, H, I, rfl, q⟩
  · exact op_notBl pins s σ H _ _ v u Q I rx ry ⟨a, b, rfl, rfl, q⟩
/-! ### list(text) -/
def signsV (l : List Nat) : List V := l.map fun c => V.str (S [c])
theorem vals_signs : ∀ {l : List Nat} {its : List Value}, l.length = its.length → (∀ (i : Nat) (c : Nat), l[i]? = some c → ∃ u : Tok, its[i]? = some (Value.str (S [c]) u)) → Vals (signsV l) its
  | [], [], _, _ => .nil
  | [], _ :: _, h, _ => by simp at h
  | _ :: _, [], h, _ => by simp at h
  | c :: l, v :: its, hl, h => by
    obtain ⟨u, e⟩ := h 0 c rfl
    have e' : v = .str (S [c]) u := by simpa using e
    exact .cons ⟨u, e'⟩ (vals_signs (by simpa using hl) fun i d hd => by
      have := h (i + 1) d (by simpa using hd)
      simpa using this)
theorem call_list_txt (hc : X.calm = true) : CallR X (.type "list") (fun xs H Q => ∃ l : List Nat, xs = [.str (S l)] ∧ l.length ≤ 1000000 ∧ ∀ p, H p = none → Q (.ref p) (upd H p (.lst (signsV l)))) := by
  intro pins s σ H xs us Q I r h
  obtain ⟨l, rfl, hl, q⟩ := h
  obtain ⟨u, rfl, t, rfl⟩ := vals1 r
  have hz : (S l).cps.size = l.length := by simp [S]
  have hn : (S l).cps.size ≤ sizeLine := by
    rw [hz]
    exact Nat.le_trans hl (by decide)
  refine call_list_str (hn := hn) (I.ok.hd hc) (S l) t fun h' tk acc' c' k e1 e2 => ?_
  obtain ⟨z1, z2⟩ := e2
  rw [hz] at z1
  have rv : Vals (signsV l) acc'.toList := by
    refine vals_signs (l := l) (by have e := Array.length_toList (xs := acc'); omega) fun i c hi => ?_
    have il : i < l.length := by
      rcases Nat.lt_or_ge i l.length with h | h
      · exact h
      · rw [List.getElem?_eq_none h] at hi
        cases hi
    have ia : i < acc'.size := by omega
    obtain ⟨d, u, h3, h4⟩ := z2 i acc'[i] (by simp [ia])
    have h5 : (S l).cps[i]? = l[i]? := by simp [S]
    rw [h5, hi] at h3
    cases h3
    refine ⟨u, ?_⟩
    have h6 : acc'.toList[i]? = some acc'[i] := by simp [ia]
    rw [h6, h4]
  exact ⟨.ref s.heap.objs.size, upd H s.heap.objs.size (.lst (signsV l)), I.laid (t' := tk) k (Nat.le_refl _) (show ObjOk X.prog X.w _ h' _ (.lst (signsV l)) from ⟨by unfold signsV; rw [List.length_map]; exact Nat.le_trans hl (by decide), acc'.toList, c', rv, by simpa using e1⟩), rfl, q _ (I.hok.fresh (Nat.le_refl _))⟩
end
/-! ### enumerate(text) -/
def IteS (x : Str) : It :=
  ⟨fun i _ => i < x.cps.size, fun i H v H' => ∃ T c, v = .ref T ∧ H T = none ∧ H' = upd H T (.tup [.int (i : Nat), .str ⟨#[c]⟩]) ∧ x.cps[i]? = some c, fun i _ => i = x.cps.size⟩
theorem draws_str {prog : Program} {w : World} {A : Around} (hh : A.handled = none) (it : Addr) (x : Str) (t : Tok) :
    Draws prog w A it [it] x.cps.size (fun i v => ∃ c u, x.cps[i]? = some c ∧ v = .str ⟨#[c]⟩ u) (fun i h => h.IsStrIter it (strIterType x) x t i) := by
  unfold strIterType
  cases x.cps.all (· < 128)
  · exact Draws.strWide hh it x t
  · exact Draws.strAscii hh it x t
theorem turn_enumS {P : Program} {w : World} {K : PySem.W.Frag} {elts : List Expr} {kk : Nat} {tpos : Pos} (x : Str) (t : Tok) (e it : Addr) :
    Turn P w K (.Tuple elts kk tpos) (IteS x) [e, it] e (fun i h => (∃ old, IsEnum h e it ((i : Nat) : Int) old) ∧ h.IsStrIter it (strIterType x) x t i ∧ e ≠ it) where
  mem := by simp
  obj := fun i h st b hb => by
    obtain ⟨⟨old, he⟩, ⟨o, ho, hc, hd⟩, _⟩ := st
    rcases (show b = e ∨ b = it by simpa using hb) with z | z
    · rw [z]
      exact ⟨_, he, fun v q => nomatch q⟩
    · rw [z]
      exact ⟨o, ho, fun v q => by rw [hd] at q; cases q⟩
  keep := fun i h h' st k => by
    obtain ⟨⟨old, he⟩, ⟨o, ho, r⟩, hne⟩ := st
    exact ⟨⟨old, k e (by simp) _ he⟩, ⟨o, k it (by simp) _ ho, r⟩, hne⟩
  item := by
    intro X hP hw hK hc i pins s σ H E I hf st hg
    subst hP hw hK
    obtain ⟨⟨old, he⟩, hit, hne⟩ := st
    have el : e < s.heap.objs.size := Heap.lt_size he
    have il : it < s.heap.objs.size := by
      obtain ⟨_, q, _⟩ := hit
      exact Heap.lt_size q
    have D := draws_str (prog := X.prog) (w := X.w) (A := X.A.in1) (I.ok.hd hc) it x t
    refine wpAny_pyNext_enum_itemD D he hit hg hne (by simpa using hne) fun u h' tk hu ho hit' hT hz hk => ?_
    obtain ⟨c, tu, hcx, rfl⟩ := hu
    refine ⟨_, rfl, wpAny_letOwnedTupleGo_enum (s := { s with heap := h', toks := tk + 1 }) ho fun h2 he' sb => ?_⟩
    have T2 := (sb.2 _ (Nat.ne_of_gt el)).trans hT
    have new : ObjOk X.prog X.w (upd H s.heap.objs.size (.tup [.int (i : Nat), .str ⟨#[c]⟩])) h2 s.heap.objs.size (.tup [.int (i : Nat), .str ⟨#[c]⟩]) :=
      ⟨by show 2 ≤ sizeLine; decide, [.int i tk, .str ⟨#[c]⟩ tu], .cons ⟨_, rfl⟩ (.cons ⟨_, rfl⟩ .nil), ⟨_, T2, rfl, _, rfl⟩⟩
    have I1 : Inv X pins σ (upd H s.heap.objs.size (.tup [.int (i : Nat), .str ⟨#[c]⟩])) { s with heap := h2, toks := tk + 1 } :=
      I.turnedNew (ch := [e, it]) (fun b ob hb q => (sb.2 b (fun z => hb (by simp [z]))).trans (hk b ob (fun z => hb (by simp [z])) (fun z => hb (by simp [z])) q)) hf (Nat.le_refl _) new
    refine ⟨.ref s.heap.objs.size, _, I1, rfl, ⟨_, c, rfl, I.hok.fresh (Nat.le_refl _), rfl, hcx⟩, ⟨⟨.str ⟨#[c]⟩ tu, ?_⟩, ?_, hne⟩, fun b hb => ?_⟩
    · rw [show ((i + 1 : Nat) : Int) = (i : Int) + 1 by omega]
      exact he'
    · obtain ⟨o, ho2, r⟩ := hit'
      exact ⟨o, (sb.2 it (Ne.symm hne)).trans ho2, r⟩
    · have hb' : b < s.heap.objs.size := by
        rcases (show b = e ∨ b = it by simpa using hb) with z | z
        · rw [z]
          exact el
        · rw [z]
          exact il
      rw [upd_ne (Nat.ne_of_lt hb')]
      exact (hf b hb).1
  done := by
    intro X hP hw hK hc i pins s σ H E I hf st hg
    subst hP hw hK
    obtain ⟨⟨old, he⟩, hit, hne⟩ := st
    obtain ⟨f0, f1, f2, f3, f4, f5⟩ := hf it (by simp)
    have hg : i = x.cps.size := hg
    subst hg
    have D := draws_str (prog := X.prog) (w := X.w) (A := X.A.in1) (I.ok.hd hc) it x t
    exact wpAny_pyNext_enum_endD D he hit fun h' eb => ⟨rfl, I.turned (t' := s.toks) (fun b o hb q => eb b o hb q) f0 f1 f3 f4 f5⟩
  self := fun A i s Q E st h => by
    obtain ⟨⟨_, he⟩, _⟩ := st
    exact wpAny_pyIter_enum he h
def iEnumS (ta : TA) : TI := fun σ H R => ta σ H fun vs H1 => ∃ x : Str, vs = [.str x] ∧ R (IteS x) H1
theorem pi_enumS {X : Cx} {e : Expr} {ta : TA} {p pos tpos : Pos} {elts : List Expr} {kk : Nat} (hg : Gl X "enumerate") (hm : X.mg "enumerate" = none) (ha : PA X [e] ta) (hs : starEach [e] X.env = [(false, eval e X.env)] := by rfl) :
    PI X (.Tuple elts kk tpos) (.Call (.Name "enumerate" p) [e] [] pos) (iEnumS ta) := by
  refine ⟨fun pins s σ H R I h => ?_⟩
  refine Call_ (ld_blt I hg hm boot_enumerate (PyProof.Rows.callWith_type1 (thn (ha.run pos pins s σ H _ I h) fun us s1 hh => ?_) hs rfl))
  obtain ⟨vs, H1, I1, r1, x, rfl, q⟩ := hh
  obtain ⟨u, rfl, t, rfl⟩ := vals1 r1
  refine call_enumerate_str fun h' he hit hz hk => wpAny_pyIter_enum he ?_
  have I2 : Inv X pins σ H1 { s1 with heap := h' } := I1.kept (t' := s1.toks) hk
  refine ⟨s1.heap.objs.size + 1, [s1.heap.objs.size + 1, s1.heap.objs.size], _, _, H1, rfl, I2, turn_enumS x t (s1.heap.objs.size + 1) s1.heap.objs.size, ⟨⟨.none, he⟩, hit, Nat.succ_ne_self _⟩, fun b hb => ?_, q⟩
  have hle : s1.heap.objs.size ≤ b := by
    rcases (show b = s1.heap.objs.size + 1 ∨ b = s1.heap.objs.size by simpa using hb) with z | z
    · rw [z]
      exact Nat.le_add_right _ _
    · rw [z]
      exact Nat.le_refl _
  exact I1.fpOk hle (I1.hok.fresh hle)
theorem walk_enumS {x : Str} : Walk (IteS x) x.cps.size (fun _ => True) (fun i H v H' => ∃ T c, v = .ref T ∧ H T = none ∧ H' = upd H T (.tup [.int (i : Nat), .str ⟨#[c]⟩]) ∧ x.cps[i]? = some c) :=
  ⟨fun _ _ h _ => h, fun _ _ => rfl, fun _ _ _ _ _ _ y => y⟩
end Kx
namespace Kx
open PySem PySem.Spec PyProof.Rows L2 SX LamX
/-! ### values of all kinds -/
def KindIs (K : PySem.W.Frag) (H : Hp) (x : V) : Prop := (∃ i, x = .int i) ∨ (∃ b, x = .bl b) ∨ (isIntV x = false ∧ ∃ n, TyX K H x (.type n) ∧ kitB n "int" = some false)
section
variable {K : PySem.W.Frag} {H H' : Hp}
theorem KindIs.same {x : V} (e : Same H H') (h : KindIs K H x) : KindIs K H' x := by
  rcases h with h | h | ⟨h, n, h1, h2⟩
  · exact .inl h
  · exact .inr (.inl h)
  · exact .inr (.inr ⟨h, n, tyx_same e h1, h2⟩)
theorem kind_non : KindIs K H .non := .inr (.inr ⟨rfl, "NoneType", .base .non, by decide +kernel⟩)
theorem kind_str (x : Str) : KindIs K H (.str x) := .inr (.inr ⟨rfl, "str", .base (.str x), by decide +kernel⟩)
theorem kind_lst {a : Addr} {ws : List V} (h : SqL K H a ws) : KindIs K H (.ref a) := .inr (.inr ⟨rfl, "list", tyL h, by decide +kernel⟩)
theorem kind_tup {a : Addr} {ws : List V} (h : SqT K H a ws) : KindIs K H (.ref a) := .inr (.inr ⟨rfl, "tuple", tyT h, by decide +kernel⟩)
theorem kind_dk {a : Addr} {kvs : List (Key × V)} (h : H a = some (.dK kvs)) : KindIs K H (.ref a) := .inr (.inr ⟨rfl, "dict", .base (.dK h), by decide +kernel⟩)
theorem hasInt_dk {a : Addr} {kvs : List (Key × V)} (h : H a = some (.dK kvs)) : HasInt K H (.ref a) := ⟨"dict", false, false, .base (.dK h), by decide +kernel, by decide +kernel, rfl⟩
end
/-- an item: of what kind it is -/
def Itm (K : PySem.W.Frag) (H : Hp) (v : V) : Prop := HasInt K H v ∧ KindIs K H v
theorem Itm.same {K : PySem.W.Frag} {H H' : Hp} {x : V} (e : Same H H') (h : Itm K H x) : Itm K H' x := ⟨h.1.same e, h.2.same e⟩
/-- codes of signs -/
def cdC (l : List Nat) : Prop := l.all (fun c => decide (c < 1114112)) = true
theorem cdC.app {l m : List Nat} (h : cdC l) (k : cdC m) : cdC (l ++ m) := by
  unfold cdC at h k ⊢
  rw [List.all_append, h, k]
  rfl
theorem cdC.sub {l m : List Nat} (h : cdC l) (k : ∀ c ∈ m, c ∈ l) : cdC m := by
  unfold cdC at h ⊢
  exact List.all_eq_true.mpr fun c hc => List.all_eq_true.mp h c (k c hc)
theorem ok_ofString (s : String) : cdC (Str.ofString s).cps.toList := by
  rw [Str.ofString_eq_toList]
  unfold cdC
  refine List.all_eq_true.mpr fun n hn => ?_
  obtain ⟨c, _, rfl⟩ := List.mem_map.mp (by simpa using hn)
  refine decide_eq_true ?_
  have hv := c.valid
  show c.val.toNat < 1114112
  rcases hv with h | ⟨_, h⟩
  · have h' : c.val.toNat < 55296 := h
    omega
  · exact h
inductive AnyV (K : PySem.W.Frag) (H : Hp) : V → Prop where
  | non : AnyV K H .non
  | bl (b : Bool) : AnyV K H (.bl b)
  | int (i : Int) : AnyV K H (.int i)
  | str (l : List Nat) (h : l.length ≤ 5000) (v : cdC l) : AnyV K H (.str (S l))
  | lst {a : Addr} {ws : List V} (h : SqL K H a ws) (n : ws.length ≤ 1000) (t : ∀ v ∈ ws, Itm K H v) : AnyV K H (.ref a)
  | tup {a : Addr} {ws : List V} (h : SqT K H a ws) (n : ws.length ≤ 1000) (t : ∀ v ∈ ws, Itm K H v) : AnyV K H (.ref a)
  | dk {a : Addr} {kvs : List (Key × V)} (h : H a = some (.dK kvs)) : AnyV K H (.ref a)
section
variable {K : PySem.W.Frag} {H H' : Hp} {x : V}
theorem AnyV.same (e : Same H H') (h : AnyV K H x) : AnyV K H' x := by
  cases h with
  | non => exact .non
  | bl b => exact .bl b
  | int i => exact .int i
  | str l h v => exact .str l h v
  | lst h n t => exact .lst (e.seq h) n fun v m => (t v m).same e
  | tup h n t => exact .tup (Same.t e h) n fun v m => (t v m).same e
  | dk h => exact .dk (e _ _ h)
theorem AnyV.itm (h : AnyV K H x) : Itm K H x := by
  cases h with
  | non => exact ⟨hasInt_non, kind_non⟩
  | bl b => exact ⟨hasInt_bl b, .inr (.inl ⟨b, rfl⟩)⟩
  | int i => exact ⟨hasInt_int i, .inl ⟨i, rfl⟩⟩
  | str l h v => exact ⟨hasInt_str _, kind_str _⟩
  | lst h n t => exact ⟨hasInt_lst h, kind_lst h⟩
  | tup h n t => exact ⟨hasInt_tup h, kind_tup h⟩
  | dk h => exact ⟨hasInt_dk h, kind_dk h⟩
/-- is it a list or a tuple -/
theorem AnyV.seq (h : AnyV K H x) : (∃ n, TyX K H x (.type n) ∧ PySem.W.kitAny K (.type n) [.type "list", .type "tuple"] = some false) ∨
    ∃ (a : Addr) (ws : List V), x = .ref a ∧ SqQ K H a ws ∧ ws.length ≤ 1000 ∧ ∀ v ∈ ws, Itm K H v := by
  cases h with
  | non => exact .inl ⟨"NoneType", .base .non, no_list (by decide +kernel) (by decide +kernel)⟩
  | bl b => exact .inl ⟨"bool", .base (.bl b), no_list (by decide +kernel) (by decide +kernel)⟩
  | int i => exact .inl ⟨"int", .base (.int i), no_list (by decide +kernel) (by decide +kernel)⟩
  | str l h v => exact .inl ⟨"str", .base (.str _), no_list (by decide +kernel) (by decide +kernel)⟩
  | lst h n t => exact .inr ⟨_, _, rfl, .inl h, n, t⟩
  | tup h n t => exact .inr ⟨_, _, rfl, .inr h, n, t⟩
  | dk h => exact .inl ⟨"dict", .base (.dK h), no_list (by decide +kernel) (by decide +kernel)⟩
/-- is it a text -/
theorem AnyV.str? (h : AnyV K H x) : (∃ l : List Nat, x = .str (S l) ∧ l.length ≤ 5000 ∧ cdC l) ∨ ∃ n, TyX K H x (.type n) ∧ kitB n "str" = some false := by
  cases h with
  | non => exact .inr ⟨"NoneType", .base .non, by decide +kernel⟩
  | bl b => exact .inr ⟨"bool", .base (.bl b), by decide +kernel⟩
  | int i => exact .inr ⟨"int", .base (.int i), by decide +kernel⟩
  | str l h v => exact .inl ⟨l, rfl, h, v⟩
  | lst h n t => exact .inr ⟨"list", tyL h, by decide +kernel⟩
  | tup h n t => exact .inr ⟨"tuple", tyT h, by decide +kernel⟩
  | dk h => exact .inr ⟨"dict", .base (.dK h), by decide +kernel⟩
end
theorem S_of (x : Str) : S x.cps.toList = x := by
  cases x
  simp [S]
theorem any_text {K : PySem.W.Frag} {H : Hp} (x : Str) (h : x.length ≤ 5000) (v : cdC x.cps.toList) : AnyV K H (.str x) := by
  have e := AnyV.str (K := K) (H := H) x.cps.toList (by simpa [Str.length] using h) v
  rw [S_of] at e
  exact e
theorem itms_nil {K : PySem.W.Frag} {H : Hp} : ∀ v ∈ ([] : List V), Itm K H v := fun _ m => by cases m
theorem itms_cons {K : PySem.W.Frag} {H : Hp} {x : V} {xs : List V} (h : Itm K H x) (t : ∀ v ∈ xs, Itm K H v) : ∀ v ∈ x :: xs, Itm K H v := fun v m => by
  rcases List.mem_cons.mp m with rfl | m
  · exact h
  · exact t v m
theorem itm_int {K : PySem.W.Frag} {H : Hp} (i : Int) : Itm K H (.int i) := ⟨hasInt_int i, .inl ⟨i, rfl⟩⟩
theorem itm_bl {K : PySem.W.Frag} {H : Hp} (b : Bool) : Itm K H (.bl b) := ⟨hasInt_bl b, .inr (.inl ⟨b, rfl⟩)⟩
theorem joinL_nil : ∀ (l : List Nat), TL.joinL [] (l.map fun c => [c]) = l
  | [] => rfl
  | [c] => rfl
  | c :: d :: r => by
    have ih := joinL_nil (d :: r)
    show [c] ++ ([] ++ TL.joinL [] ((d :: r).map fun c => [c])) = c :: d :: r
    rw [ih]
    rfl
theorem join_signs (l : List Nat) : Txt.join "" (l.map fun c => S [c]) = S l := by
  have h := SX.join_S [] (l.map fun c => [c])
  rw [joinL_nil, List.map_map] at h
  exact h
theorem sum_signs : ∀ (l : List Nat), ((l.map fun c => S [c]).map (·.length)).sum = l.length
  | [] => rfl
  | c :: r => by
    show (S [c]).length + ((r.map fun c => S [c]).map (·.length)).sum = r.length + 1
    rw [sum_signs r, S_len]
    show 1 + r.length = _
    omega
theorem signs_map (l : List Nat) : signsV l = (l.map fun c => S [c]).map V.str := by
  unfold signsV
  rw [List.map_map]
  rfl
theorem in_signs {l : List Nat} {v : V} (h : v ∈ signsV l) : ∃ c, c ∈ l ∧ v = .str (S [c]) := by
  obtain ⟨c, hc, e⟩ := List.mem_map.mp h
  exact ⟨c, hc, e.symm⟩
end Kx
namespace Kx
open PySem PySem.Spec PyProof.Rows L2 SX LamX
section
variable {K : PySem.W.Frag} {J : It} {n : Nat} {G : Hp → Prop} {Y : Nat → Hp → V → Hp → Prop} {g : TG} {tt : TT} {te : TE} {vs : List Nat} {σ : L2.St} {H1 : Hp} {D : Addr} {Qd : Hp → Prop}
theorem keep_some {zs : List (Option V)} {i : Nat} {v : V} (h : zs[i]? = some (some v)) : (zs.take (i + 1)).filterMap id = (zs.take i).filterMap id ++ [v] := by
  rw [List.take_add_one, h, List.filterMap_append]
  rfl
theorem keep_none {zs : List (Option V)} {i : Nat} (h : zs[i]? = some none) : (zs.take (i + 1)).filterMap id = (zs.take i).filterMap id := by
  rw [List.take_add_one, h, List.filterMap_append]
  simp
/-- a comprehension with a test, its items told ahead: none where the test fails -/
theorem lc_keep (w : Walk J n G Y) (zs : List (Option V)) (hz : zs.length = n) (nD : H1 D = none) (len : n ≤ 1000000) (hG : ∀ Hc, Same H1 Hc → G Hc)
    (turn : ∀ (i : Nat) (x : V) (z : Option V) (Hc Hx : Hp) (Q' : VK) (R' : Hp → Prop), i < n → zs[i]? = some z → Same H1 Hc → Y i Hc x Hx → (∀ v H4, z = some v → Same Hc H4 → Q' v H4) → (∀ H4, z = none → Same Hc H4 → R' H4) → g x (wipe σ vs) Hx fun σ2 H2 => wipe σ2 vs = wipe σ vs ∧ tt σ2 H2 fun b H3 => if b = true then te σ2 H3 Q' else R' H3)
    (fin : ∀ Hc, Same H1 Hc → Hc D = some (.lst (zs.filterMap id)) → Qd Hc) :
    ∃ W : Nat → Nat → Hp → Prop, (∃ m, W 0 m (upd H1 D (.lst []))) ∧ ∀ i m H, W i m H →
      (J.stop i H ∧ Qd H) ∨ (J.go i H ∧ ∃ Nx : Hp → Prop, (∀ H', Nx H' → ∃ m', m' < m ∧ W (i + 1) m' H') ∧ ∀ x H', J.yld i H x H' → g x (wipe σ vs) H' fun σ2 H2 => wipe σ2 vs = wipe σ vs ∧ tt σ2 H2 fun b H3 =>
        if b = true then te σ2 H3 fun y H4 => ∃ acc, H4 D = some (.lst acc) ∧ acc.length < sizeLine ∧ Nx (upd H4 D (.lst (acc ++ [y]))) else Nx H3) := by
  refine lc_it w (fun i Hc => Same H1 Hc ∧ Hc D = some (.lst ((zs.take i).filterMap id))) ⟨same_new nD, upd_same⟩ (fun i H _ p => hG H p.1) (fun i x Hc Hx hi p y => ?_) (fun Hc p => ?_)
  · have hzi : zs[i]? = some (zs[i]'(by omega)) := List.getElem?_eq_getElem (by omega)
    refine turn i x _ Hc Hx _ _ hi hzi p.1 y (fun v H4 ev e4 => ⟨_, e4 _ _ p.2, ?_, ?_⟩) (fun H4 ev e4 => ⟨p.1.trans e4, ?_⟩)
    · have h1 : ((zs.take i).filterMap id).length ≤ (zs.take i).length := List.length_filterMap_le ..
      rw [List.length_take] at h1
      exact Nat.lt_of_le_of_lt (show _ ≤ 1000000 by omega) (by decide)
    · refine ⟨fun b o z => ?_, ?_⟩
      · rw [upd_ne (ne_of_none z nD)]
        exact e4 _ _ (p.1 b o z)
      · rw [upd_same, keep_some (by rw [hzi, ev])]
    · rw [keep_none (by rw [hzi, ev])]
      exact e4 _ _ p.2
  · rw [← hz, List.take_length] at p
    exact fin Hc p.1 p.2
end
section
variable {K : PySem.W.Frag} {a : Addr} {xs : List V} {g : TG} {tt : TT} {te : TE} {vs : List Nat} {σ : L2.St} {H : Hp} {k : Nat} {Q : VK} {l : List Nat}
/-- [e for c in NAME if t], NAME a text -/
theorem lc_txt (zs : List (Option V)) (hz : zs.length = l.length) (hi : σ[k]? = some (some (.str (S l)))) (len : l.length ≤ 1000000)
    (turn : ∀ (i : Nat) (c : Nat) (z : Option V) (Hc : Hp) (Q' : VK) (R' : Hp → Prop), l[i]? = some c → zs[i]? = some z → Same H Hc → (∀ v H4, z = some v → Same Hc H4 → Q' v H4) → (∀ H4, z = none → Same Hc H4 → R' H4) → g (.str (S [c])) (wipe σ vs) Hc fun σ2 H2 => wipe σ2 vs = wipe σ vs ∧ tt σ2 H2 fun b H3 => if b = true then te σ2 H3 Q' else R' H3)
    (fin : ∀ (D : Addr) (Hc : Hp), Same H Hc → Hc D = some (.lst (zs.filterMap id)) → Q (.ref D) Hc) :
    tLc (iStr (tVar k)) g tt te vs σ H Q := by
  have e : (S l).cps.size = l.length := by simp [S]
  refine ⟨_, hi, S l, rfl, fun D nD => lc_keep walk_str zs (by rw [hz, e]) nD (by rw [e]; exact len) (fun _ _ => trivial) (fun i x z Hc Hx Q' R' _ hzi e1 y q r => ?_) (fin D)⟩
  obtain ⟨rfl, c, hc, rfl⟩ := y
  have hc' : l[i]? = some c := by
    have : (S l).cps[i]? = l[i]? := by simp [S]
    rw [← this]
    exact hc
  exact turn i c z _ Q' R' hc' hzi e1 q r
/-- [e for x in NAME if t], NAME a list -/
theorem lc_lstk (zs : List (Option V)) (hz : zs.length = xs.length) (hi : σ[k]? = some (some (.ref a))) (hq : SqL K H a xs) (len : xs.length ≤ 1000000)
    (turn : ∀ (i : Nat) (x : V) (z : Option V) (Hc : Hp) (Q' : VK) (R' : Hp → Prop), xs[i]? = some x → zs[i]? = some z → Same H Hc → (∀ v H4, z = some v → Same Hc H4 → Q' v H4) → (∀ H4, z = none → Same Hc H4 → R' H4) → g x (wipe σ vs) Hc fun σ2 H2 => wipe σ2 vs = wipe σ vs ∧ tt σ2 H2 fun b H3 => if b = true then te σ2 H3 Q' else R' H3)
    (fin : ∀ (D : Addr) (Hc : Hp), Same H Hc → Hc D = some (.lst (zs.filterMap id)) → Q (.ref D) Hc) :
    tLc (iList K (tVar k)) g tt te vs σ H Q := ⟨_, hi, a, rfl, ⟨_, hq⟩, fun D nD => lc_keep walk_list zs hz nD len (fun Hc e => e.seq hq) (fun i x z Hc Hx Q' R' _ hzi e y q r => by
      obtain ⟨rfl, hx⟩ := y
      exact turn i x z _ Q' R' hx hzi e q r) (fin D)⟩
end
/-- texts of one sign each, laid -/
theorem pl_signs {l : List Nat} (h : cdC l) : ∀ d ∈ l.map (fun c => PyData.str (S [c])), Pl 0 d := fun d m => by
  obtain ⟨c, hc, rfl⟩ := List.mem_map.mp m
  refine ⟨?_, Nat.le_refl _⟩
  have h2 := List.all_eq_true.mp h c hc
  show (S [c]).cps.all (· < 0x110000) = true
  simpa [S] using of_decide_eq_true h2
theorem dp_signs {K : PySem.W.Frag} {H : Hp} (l : List Nat) : Paired (fun v d => Dp K H v d) (signsV l) (l.map fun c => PyData.str (S [c])) := paired_of_map _ _ fun c _ => .str (S [c])
/-- «xs == []», any laid items -/
theorem eq_nilD {K : PySem.W.Frag} {H : Hp} {a p : Addr} {vs : List V} {ds : List PyData} {k : Nat} {Q : VK} (h1 : SqL K H a vs) (hd : Paired (fun v d => Dp K H v d) vs ds) (hp : ∀ d ∈ ds, Pl k d) (hk : k ≤ 60) (h2 : H p = some (.lst [])) (q : Q (.bl (decide (ds = []))) H) : rEqD K (.ref a) (.ref p) H Q :=
  ⟨_, _, .lst h1 (dpAll_of hd), dp_ints (xs := []) (.inl (.inl h2)), (Pl.lst hp).shaped (by omega), (pl_ints []).shaped (by decide), by
    have e : PyData.eqv (.list ds) (.list (([] : List Int).map PyData.int)) = decide (ds = []) := by
      cases ds with
      | nil => rfl
      | cons d t => rfl
    rw [e]
    exact q⟩
theorem filt_map {α β : Type} (p : α → Bool) (f : α → β) : ∀ (l : List α), (l.map fun c => if p c = true then some (f c) else none).filterMap id = (l.filter p).map f
  | [] => rfl
  | c :: l => by
    rw [List.map_cons, List.filterMap_cons]
    cases h : p c with
    | true =>
      rw [List.filter_cons_of_pos h]
      show f c :: _ = f c :: _
      rw [filt_map p f l]
    | false =>
      rw [List.filter_cons_of_neg (by rw [h]; decide)]
      exact filt_map p f l
end Kx
namespace Kx
open PySem PySem.Spec PyProof.Rows L2 SX LamX
section
variable {D : Ends} {σ : L2.St} {H : Hp}
theorem go_and {ta tb : TE} {Q : VK} (h : ta σ H fun x H1 => ∃ c, x = .bl c ∧ if c = true then tb σ H1 Q else Q (.bl false) H1) : tAndV ta tb σ H Q := h
theorem go_chain {r r' : R2} {ta tb tc : TE} {Q : VK} (h : ta σ H fun x H1 => tb σ H1 fun y H2 => r x y H2 fun z H3 => ∃ k, z = .bl k ∧ if k = true then tc σ H3 fun w' H4 => r' y w' H4 Q else Q (.bl false) H3) : tChain r r' ta tb tc σ H Q := h
theorem go_or {ta tb : TE} {Q : VK} (h : ta σ H fun x H1 => ∃ c, x = .bl c ∧ if c = true then Q (.bl true) H1 else tb σ H1 Q) : tOrV ta tb σ H Q := h
theorem go_lst {t : TA} {Q : VK} (h : t σ H fun xs H1 => xs.length ≤ sizeLine ∧ ∀ p, H1 p = none → Q (.ref p) (upd H1 p (.lst xs))) : tLst t σ H Q := h
end
/-- both, told as one truth -/
theorem and_join {c : Bool} {tb : TE} {Q : VK} {σ : L2.St} {H : Hp} (d : Bool) (h : c = true → ∀ Q' : VK, Q' (.bl d) H → tb σ H Q') (q : Q (.bl (c && d)) H) : ∃ c', V.bl c = .bl c' ∧ if c' = true then tb σ H Q else Q (.bl false) H := by
  refine ⟨c, rfl, ?_⟩
  cases c with
  | true => exact h rfl _ q
  | false => exact q
theorem and_b {c : Bool} {A B : Prop} (h1 : c = true → A) (h2 : c = false → B) : if c = true then A else B := by
  cases c with
  | true => rw [if_pos rfl]; exact h1 rfl
  | false => rw [if_neg (by decide)]; exact h2 rfl
theorem map_nil_dec {α β : Type} (f : α → β) (l : List α) [Decidable (l.map f = [])] : decide (l.map f = []) = l.isEmpty := by
  cases l with
  | nil => exact decide_eq_true rfl
  | cons a t => exact decide_eq_false (fun e => nomatch e)
theorem filt_empty (p : Nat → Bool) (l : List Nat) : (l.filter fun c => !p c).isEmpty = l.all p := by
  induction l with
  | nil => rfl
  | cons c t ih =>
    cases h : p c with
    | true =>
      rw [List.filter_cons_of_neg (by rw [h]; decide), List.all_cons, h, ih]
      rfl
    | false =>
      rw [List.filter_cons_of_pos (by rw [h]; rfl), List.all_cons, h]
      rfl
/-- one sign is the blank -/
theorem is_blank (c : Nat) : decide (V.str (S [c]) = V.str (Str.ofString " ")) = decide (c = 32) := by
  by_cases hc : c = 32
  · subst hc
    rfl
  · rw [decide_eq_false hc, decide_eq_false]
    intro e
    injection e with e
    have := congrArg (fun z : Str => z.cps.toList) e
    simp [S] at this
    exact hc (by have h2 : (Str.ofString " ").cps.toList = [32] := rfl; rw [h2] at this; simpa using this)
theorem take_succ {α : Type} {l : List α} {i : Nat} {c : α} (h : l[i]? = some c) : l.take (i + 1) = l.take i ++ [c] := by
  rw [List.take_add_one, h]
  rfl
theorem ixN_last (n : Nat) : ixN (n + 1) (-1) = some n := by
  unfold ixN
  rw [if_neg (by decide), if_pos (by omega)]
  congr 1
  omega
end Kx
namespace Kx
open PySem PySem.Spec PyProof.Rows L2 SX LamX
section
variable {X : Cx} {k : Nat} {f : Addr} {fd : FuncData} {ps : List Str} {sp : Sp} {x : Str} {p pos : Pos} {e1 : Expr} {more : List Expr} {t : TA}
/-! ### a call of a def that is promised only where no repr runs around it; it raises nothing -/
theorem pe_callG (F : FnG X.prog X.w X.K X.mg X.base CX0 k f fd ps sp) (nog : X.A.guards = some []) (room : Room k X.A) (here : Gl X x) (at_f : X.mg x = some (.ref f)) (keeps : PySem.W.keepIn X.K (.ref f) = true) (bd : Binds X.K fd ps [])
    (args : PA X (e1 :: more) t) (nd : (x == ("__debug__" : Str)) = false := by decide) (h1 : starEach (e1 :: more) X.env = (false, eval e1 X.env) :: starEach more X.env := by rfl) (h2 : (backTo pos (starEach more X.env)).any (·.1) = false := by rfl) :
    PE X (.Call (.Name x p) (e1 :: more) [] pos) (tCall sp [] C8.E0 t) := by
  constructor
  intro pins s σ H Q I want
  apply wpAny_Call_Name_kw
  refine ld_glob I here at_f ?_ nd
  refine PySem.W.callWith_K (h₀ := X.base) I.ok.mod.kin keeps (thn (args.run pos pins s σ H _ I want) fun us st hh => ?_) h1 h2
  obtain ⟨vs, Hm, J, rv, promise⟩ := hh
  rw [List.append_nil] at promise
  have size : (us ++ []).length = ps.length := by
    rw [List.append_nil, ← rv.length]
    exact F.len _ _ _ _ promise
  have bound := bd st us J.kIn size
  rw [List.append_nil] at bound
  refine ⟨J.kIn, wpAny_call (codeAny_mono (F.go X.A X.stack st Hm ⟨us, []⟩ us vs Q C8.E0 nog room J.env0 bound rv promise) fun r st2 done => ?_)⟩
  match r, done with
  | .ok (.ret u), done => exact J.after done
  | .error e, done => exact (show False from done).elim
  | .ok .next, done => exact done.elim
  | .ok .brk, done => exact done.elim
  | .ok .cont, done => exact done.elim
end
/-! ### tables stay through draws -/
theorem Tabs.mv {T : List (Addr × Str)} {a c : Addr} {n : Nat} {H H' : Hp} (t : Tabs T H) (w : Wh H a c n) (m : Mv a H H') : Tabs T H' := fun p hp => by
  obtain ⟨ps, h1, h2, h3⟩ := t p hp
  obtain ⟨cs, x, l', g1, _⟩ := w
  refine ⟨ps, m _ _ (ne_of_two h1 g1 (fun z => by cases z)) h1, h2, fun pos cv hc => ?_⟩
  obtain ⟨c', e1, e2⟩ := h3 pos cv hc
  exact ⟨c', e1, m _ _ (ne_of_two e2 g1 (fun z => by cases z)) e2⟩
theorem Tabs.same {T : List (Addr × Str)} {H H' : Hp} (t : Tabs T H) (m : Same H H') : Tabs T H' := fun p hp => (t p hp).ext m
end Kx
namespace Kx
open PySem PySem.Spec PyProof.Rows L2 SX LamX
/-! ### data that repr shows -/
structure Sh (k m : Nat) (d : PyData) : Prop where
  sh : d.showable = true
  nd : d.hasDict = false
  dp : d.depth ≤ k
  lv : d.leavesShort 13 = true
  bk : d.bulk ≤ m
theorem Sh.len {k m : Nat} {d : PyData} (h : Sh k m d) (hm : m ≤ 1048576) : d.shown.length ≤ sizeLine :=
  PyData.shown_fits_bulk (B := 13) (by decide) (by decide) h.lv (Nat.le_trans h.bk hm)
theorem Sh.up {k l m n : Nat} {d : PyData} (h : Sh k m d) (hk : k ≤ l) (hm : m ≤ n) : Sh l n d := ⟨h.sh, h.nd, Nat.le_trans h.dp hk, h.lv, Nat.le_trans h.bk hm⟩
theorem sh_bool (b : Bool) : Sh 0 0 (.bool b) := ⟨rfl, rfl, Nat.le_refl _, rfl, Nat.le_refl _⟩
theorem sh_none : Sh 0 0 .none := ⟨rfl, rfl, Nat.le_refl _, rfl, Nat.le_refl _⟩
theorem sh_int {i : Int} (h : i.natAbs < 1000000000000) : Sh 0 0 (.int i) :=
  ⟨by
    simp only [PyData.showable, decide_eq_true_eq]
    by_cases z : i.natAbs = 0
    · rw [z]; decide
    · exact Nat.lt_of_lt_of_le ((Nat.log2_lt z).mpr (Nat.lt_of_lt_of_le h (by decide : 1000000000000 ≤ 2 ^ 40))) (by decide), rfl, Nat.le_refl _, by simp only [PyData.leavesShort, decide_eq_true_eq]; exact PyData.shown_int_le (by exact h), Nat.le_refl _⟩
theorem sh_str {x : Str} {l : List Nat} (e : x = S l) (h : cdC l) : Sh 0 l.length (.str x) :=
  ⟨rfl, rfl, Nat.le_refl _, by
    subst e
    simp only [PyData.leavesShort, List.all_eq_true, decide_eq_true_eq]
    intro c hc
    have h2 := List.all_eq_true.mp h c (by simpa [S] using hc)
    have h3 := of_decide_eq_true h2
    exact Nat.lt_of_lt_of_le h3 (by decide), by
    subst e
    simp [PyData.bulk, S]⟩
/-- items that are shown, m: their signs and one each -/
inductive ShA (k : Nat) : Nat → List PyData → Prop
  | nil : ShA k 0 []
  | cons {m n : Nat} {d : PyData} {ds : List PyData} : Sh k m d → ShA k n ds → ShA k (m + 1 + n) (d :: ds)
theorem ShA.all {k m : Nat} {ds : List PyData} (h : ShA k m ds) : PyData.showableAll ds = true ∧ PyData.hasDictAll ds = false ∧ PyData.depthAll ds ≤ k ∧ PyData.leavesShortAll 13 ds = true ∧ PyData.bulkAll ds ≤ m := by
  induction h with
  | nil => exact ⟨rfl, rfl, Nat.zero_le _, rfl, Nat.le_refl _⟩
  | cons h1 _ ih =>
    obtain ⟨a, b, c, d, e⟩ := ih
    refine ⟨?_, ?_, ?_, ?_, ?_⟩
    · simp only [PyData.showableAll, h1.sh, a, Bool.and_self]
    · simp only [PyData.hasDictAll, h1.nd, b, Bool.or_self]
    · simp only [PyData.depthAll]
      exact Nat.max_le.mpr ⟨h1.dp, c⟩
    · simp only [PyData.leavesShortAll, h1.lv, d, Bool.and_self]
    · simp only [PyData.bulkAll]
      have := h1.bk
      omega
theorem ShA.lst {k m : Nat} {ds : List PyData} (h : ShA k m ds) : Sh (k + 1) m (.list ds) := by
  obtain ⟨a, b, c, d, e⟩ := h.all
  exact ⟨by simp only [PyData.showable, a], by simp only [PyData.hasDict, b], by simp only [PyData.depth]; omega, by simp only [PyData.leavesShort, d], by simp only [PyData.bulk]; exact e⟩
theorem ShA.tup {k m : Nat} {ds : List PyData} (h : ShA k m ds) : Sh (k + 1) m (.tuple ds) := by
  obtain ⟨a, b, c, d, e⟩ := h.all
  exact ⟨by simp only [PyData.showable, a], by simp only [PyData.hasDict, b], by simp only [PyData.depth]; omega, by simp only [PyData.leavesShort, d], by simp only [PyData.bulk]; exact e⟩
theorem shA_ints {k : Nat} : ∀ (l : List Int), (∀ i ∈ l, i.natAbs < 1000000000000) → ShA k l.length (l.map PyData.int)
  | [], _ => .nil
  | i :: r, h => by
    have := ShA.cons ((sh_int (h i List.mem_cons_self)).up (Nat.zero_le k) (Nat.le_refl _)) (shA_ints r fun j m => h j (List.mem_cons_of_mem _ m))
    have e : 0 + 1 + r.length = (i :: r).length := by rw [List.length_cons]; omega
    rw [e] at this
    exact this
theorem shA_texts {k : Nat} : ∀ (xs : List (List Nat)), (∀ x ∈ xs, cdC x) → ShA k (reachA 0 xs) (xs.map fun x => PyData.str (S x))
  | [], _ => .nil
  | x :: r, h => by
    have := ShA.cons ((sh_str rfl (h x List.mem_cons_self)).up (Nat.zero_le k) (Nat.le_refl _)) (shA_texts r fun y m => h y (List.mem_cons_of_mem _ m))
    have e : ∀ (r : List (List Nat)) (p : Nat), reachA p r = p + reachA 0 r := fun r => by
      induction r with
      | nil => intro p; rfl
      | cons y r ih =>
        intro p
        show reachA (p + y.length + 1) r = p + reachA (0 + y.length + 1) r
        rw [ih, ih (0 + y.length + 1)]
        omega
    have e2 : x.length + 1 + reachA 0 r = reachA 0 (x :: r) := by
      show _ = reachA (0 + x.length + 1) r
      rw [e r (0 + x.length + 1)]
      omega
    rw [e2] at this
    exact this
theorem item_cd : ∀ (l acc it : List Nat), it ∈ itemsA acc l → ∀ c ∈ it, c ∈ acc ∨ c ∈ l
  | [], acc, it, h, c, hc => by
    rw [List.mem_singleton.mp h] at hc
    exact .inl hc
  | d :: r, acc, it, h, c, hc => by
    have h : it ∈ (if d = 32 then acc :: itemsA [] r else itemsA (acc ++ [d]) r) := h
    by_cases e : d = 32
    · rw [if_pos e] at h
      rcases List.mem_cons.mp h with rfl | h
      · exact .inl hc
      · rcases item_cd r [] it h c hc with z | z
        · cases z
        · exact .inr (List.mem_cons_of_mem _ z)
    · rw [if_neg e] at h
      rcases item_cd r _ it h c hc with z | z
      · rcases List.mem_append.mp z with z | z
        · exact .inl z
        · rw [List.mem_singleton.mp z]
          exact .inr List.mem_cons_self
      · exact .inr (List.mem_cons_of_mem _ z)
theorem begins_le : ∀ (xs : List (List Nat)) (p : Nat), ∀ b ∈ beginsA p xs, b ≤ reachA p xs
  | [], p, b, h => by cases h
  | x :: xs, p, b, h => by
    have r : ∀ (xs : List (List Nat)) (p : Nat), p ≤ reachA p xs := fun xs => by
      induction xs with
      | nil => exact fun p => Nat.le_refl _
      | cons y ys ih =>
        intro p
        show p ≤ reachA (p + y.length + 1) ys
        exact Nat.le_trans (by omega) (ih _)
    show b ≤ reachA (p + x.length + 1) xs
    rcases List.mem_cons.mp h with rfl | h
    · exact Nat.le_trans (by omega) (r xs _)
    · exact begins_le xs _ b h
/-- repr of data -/
theorem go_repr {K : PySem.W.Frag} {a : Addr} {d : PyData} {k m : Nat} {H : Hp} {Q : VK} (hd : Dp K H (.ref a) d) (h : Sh k m d) (hk : k ≤ 60) (hm : m ≤ 1048576) (q : Q (.str d.shown) H) : rRepr K [.ref a] H Q :=
  ⟨a, d, rfl, hd, h.sh, h.nd, Nat.le_trans h.dp hk, h.len hm, q⟩
/-- one and the same text is no other -/
theorem rne_self {x : Str} {H : Hp} {Q : Bool → Hp → Prop} (q : Q false H) : ∃ k, V.bl (!decide (V.str x = V.str x)) = .bl k ∧ Q k H := ⟨false, by simp, q⟩
theorem bools_dp {K : PySem.W.Frag} {H : Hp} {p : Addr} {bs : List Bool} (h : H p = some (.lst (bs.map V.bl))) : Dp K H (.ref p) (.list (bs.map PyData.bool)) := .lst (.inl (.inl h)) (by
  clear h
  induction bs with
  | nil => exact .nil
  | cons b t ih => exact .cons (.bl b) ih)
theorem shA_bools {k : Nat} : ∀ (l : List Bool), ShA k l.length (l.map PyData.bool)
  | [] => .nil
  | i :: r => by
    have := ShA.cons ((sh_bool i).up (Nat.zero_le k) (Nat.le_refl _)) (shA_bools r)
    have e : 0 + 1 + r.length = (i :: r).length := by rw [List.length_cons]; omega
    rw [e] at this
    exact this
theorem cnt_count : ∀ (l : List Nat), cnt 32 l = (l.count 32 : Nat)
  | [] => rfl
  | c :: r => by
    rw [cnt_cons, cnt_count r]
    by_cases h : c = 32
    · subst h
      rw [List.count_cons_self]
      simp
      omega
    · rw [List.count_cons_of_ne h]
      simp [h]
theorem count_blank (l : List Nat) : Txt.count (S l) " " = (l.count 32 : Nat) := by
  have h := count_cnt (S l) 32
  have e : (" " : Str) = ⟨#[32]⟩ := rfl
  rw [e, h]
  have e2 : (S l).cps.toList = l := by simp [S]
  rw [e2, cnt_count]
end Kx
namespace Kx
open PySem PySem.Spec PyProof.Rows L2 SX LamX
/-- no positional value, one by name -/
def oneG {α : Type} (us ws : List α) : List α := match us, ws with | [], [u] => [u] | _, _ => []
theorem kb_one {K : PySem.W.Frag} {x qual : Str} {st : Stmt} {f : Addr} {fd : FuncData} {a : Str} (F : Fun K x qual st f fd)
    (h : ∀ (kV doc pm : Value) (an : Option Addr) (cdv ct : Value) (u : Value), bindArgs (PySem.W.fnOf x qual (defArgs st) (defBody st) (defScope st) .none kV doc pm an cdv ct) ⟨[], [(a, u)]⟩ = pure [(a, u)]) :
    KBinds K fd [a] [a] oneG oneG := by
  obtain ⟨oc, od, kV, doc, pm, an, cdv, ct, osl, rfl, lk, hcd⟩ := F.ex
  refine ⟨fun s us ws X l => ?_, fun {vs us zs ws} r1 r2 => ?_⟩
  · match us, ws, l with
    | [], [u], _ => exact .of_eq (h kV doc pm an cdv ct u)
    | [], [], l => cases l
    | [], _ :: _ :: _, l => cases l
    | _ :: _, _, l => cases l
  · cases r1 with
    | cons _ _ => exact .nil
    | nil =>
      cases r2 with
      | nil => exact .nil
      | cons h1 r2 =>
        cases r2 with
        | nil => exact .cons h1 .nil
        | cons _ _ => exact .nil
/-- no positional value, three by name: c, a, b for a, b, c -/
def turnG {α : Type} (us ws : List α) : List α := match us, ws with | [], [c, a, b] => [a, b, c] | _, _ => []
theorem kb_turn {K : PySem.W.Frag} {x qual : Str} {st : Stmt} {f : Addr} {fd : FuncData} {a b c : Str} (F : Fun K x qual st f fd)
    (h : ∀ (kV doc pm : Value) (an : Option Addr) (cdv ct : Value) (u v w : Value), bindArgs (PySem.W.fnOf x qual (defArgs st) (defBody st) (defScope st) .none kV doc pm an cdv ct) ⟨[], [(c, w), (a, u), (b, v)]⟩ = pure [(a, u), (b, v), (c, w)]) :
    KBinds K fd [a, b, c] [c, a, b] turnG turnG := by
  obtain ⟨oc, od, kV, doc, pm, an, cdv, ct, osl, rfl, lk, hcd⟩ := F.ex
  refine ⟨fun s us ws X l => ?_, fun {vs us zs ws} r1 r2 => ?_⟩
  · match us, ws, l with
    | [], [w, u, v], _ => exact .of_eq (h kV doc pm an cdv ct u v w)
    | [], [], l => cases l
    | [], [_], l => cases l
    | [], [_, _], l => cases l
    | [], _ :: _ :: _ :: _ :: _, l => cases l
    | _ :: _, _, l => cases l
  · cases r1 with
    | cons _ _ => exact .nil
    | nil =>
      cases r2 with
      | nil => exact .nil
      | cons h1 r2 =>
        cases r2 with
        | nil => exact .nil
        | cons h2 r2 =>
          cases r2 with
          | nil => exact .nil
          | cons h3 r2 =>
            cases r2 with
            | nil => exact .cons h2 (.cons h3 (.cons h1 .nil))
            | cons _ _ => exact .nil
end Kx
namespace Kx
open PySem PySem.Spec PyProof.Rows L2 SX LamX
theorem go_nil {σ : L2.St} {H : Hp} {Q : List V → Hp → Prop} (h : Q [] H) : tNil σ H Q := h
theorem go_var {σ : L2.St} {H : Hp} {i : Nat} {v : V} {Q : VK} (e : σ[i]? = some (some v)) (h : Q v H) : tVar i σ H Q := ⟨v, e, h⟩
theorem go_or2 {ta tb : TT} {σ : L2.St} {H : Hp} {Q : Bool → Hp → Prop} (h : ta σ H fun b H1 => if b = true then Q true H1 else tb σ H1 Q) : tOr ta tb σ H Q := h
theorem go_not {ta : TT} {σ : L2.St} {H : Hp} {Q : Bool → Hp → Prop} (h : ta σ H fun b H1 => Q (!b) H1) : tNot ta σ H Q := h
theorem go_b {te : TE} {σ : L2.St} {H : Hp} {Q : Bool → Hp → Prop} (h : te σ H fun x H1 => ∃ c, x = .bl c ∧ Q c H1) : tB te σ H Q := h
end Kx
namespace Kx
open PySem PySem.Spec PyProof.Rows L2 SX LamX
theorem ext_at {H H' : Hp} {b : Addr} {o : HO} (e : ExtN H H') (h : H b = some o) (n : ∀ ps, o ≠ .tbl ps := by intro ps z; cases z) : H' b = some o := e b o h n
theorem tyx_ext {K : PySem.W.Frag} {H H' : Hp} {x : V} {n : String} (e : ExtN H H') (h : TyX K H x (.type n)) : TyX K H' x (.type n) := by
  cases h with
  | base b =>
    cases b with
    | non => exact .base .non
    | bl y => exact .base (.bl y)
    | int i => exact .base (.int i)
    | str z => exact .base (.str z)
    | flt z => exact .base (.flt z)
    | lst h => exact .base (.lst (ext_at e h))
    | frz h => exact .base (.frz (ext_at e h))
    | tup h => exact .base (.tup (ext_at e h))
    | dK h => exact .base (.dK (ext_at e h))
    | dT h => exact .base (.dT (ext_at e h))
  | byt b => exact .byt b
  | set h => exact .set (ext_at e h)
  | kList h c => exact .kList h c
  | kTuple h c => exact .kTuple h c
  | kDict h c => exact .kDict h c
  | fTuple h => exact .fTuple (ext_at e h)
  | fDict h => exact .fDict (ext_at e h)
theorem sqL_ext {K : PySem.W.Frag} {H H' : Hp} {a : Addr} {xs : List V} (e : ExtN H H') (h : SqL K H a xs) : SqL K H' a xs := by
  rcases h with (h | ⟨o, h⟩) | h
  · exact .inl (.inl (ext_at e h))
  · exact .inl (.inr ⟨o, ext_at e h⟩)
  · exact .inr h
theorem sqT_ext {K : PySem.W.Frag} {H H' : Hp} {a : Addr} {xs : List V} (e : ExtN H H') (h : SqT K H a xs) : SqT K H' a xs := by
  rcases h with (h | ⟨o, h⟩) | h
  · exact .inl (.inl (ext_at e h))
  · exact .inl (.inr ⟨o, ext_at e h⟩)
  · exact .inr h
/-- ["text", "text"] == ["text", "text"] -/
theorem eq_data {K : PySem.W.Frag} {H : Hp} {a b : Addr} {d e : PyData} {Q : VK} (h1 : Dp K H (.ref a) d) (h2 : Dp K H (.ref b) e) (s1 : SeqAt.shaped d = true) (s2 : SeqAt.shaped e = true) (q : Q (.bl (PyData.eqv d e)) H) : rEqD K (.ref a) (.ref b) H Q :=
  ⟨d, e, h1, h2, s1, s2, q⟩
end Kx
namespace Kx
open PySem PySem.Spec PyProof.Rows L2 SX LamX
theorem reachA_add : ∀ (r : List (List Nat)) (p : Nat), reachA p r = p + reachA 0 r
  | [], p => rfl
  | y :: r, p => by
    show reachA (p + y.length + 1) r = p + reachA (0 + y.length + 1) r
    rw [reachA_add r, reachA_add r (0 + y.length + 1)]
    omega
theorem sum_texts : ∀ xs : List (List Nat), ((xs.map S).map (·.length)).sum + xs.length = reachA 0 xs
  | [] => rfl
  | x :: r => by
    have e : reachA 0 (x :: r) = x.length + 1 + reachA 0 r := by
      show reachA (0 + x.length + 1) r = _
      rw [reachA_add]
      omega
    rw [e, ← sum_texts r]
    simp only [List.map_cons, List.sum_cons, List.length_cons, S_len]
    omega
end Kx
namespace Kx
open PySem PySem.Spec PyProof.Rows L2 SX LamX
theorem S_inj {a b : Str} (h : a.cps.toList = b.cps.toList) : a = b := by
  cases a with
  | mk a =>
    cases b with
    | mk b =>
      have : a = b := Array.toList_inj.mp h
      rw [this]
theorem fold_arr (a : Array Nat) : ∀ (n : Nat) (acc : Array Nat), ((List.replicate n a).foldl (· ++ ·) acc).toList = acc.toList ++ (List.replicate n a.toList).flatten
  | 0, acc => by simp
  | n + 1, acc => by
    rw [List.replicate_succ, List.foldl_cons, fold_arr a n, List.replicate_succ, List.flatten_cons, Array.toList_append, List.append_assoc]
theorem mul_S (l : List Nat) (n : Nat) : Txt.mul (S l) n = S ((List.replicate n l).flatten) := by
  refine S_inj ?_
  have e0 : ∀ m : List Nat, (S m).cps.toList = m := fun m => by simp [S]
  rw [e0]
  unfold Txt.mul
  by_cases h1 : (n : Int) < 1
  · rw [if_pos h1]
    have : n = 0 := by omega
    subst this
    rfl
  · rw [if_neg h1]
    by_cases h2 : ((n : Int) == 1 || (S l).length == 0) = true
    · rw [if_pos h2, e0]
      simp only [Bool.or_eq_true, beq_iff_eq] at h2
      rcases h2 with h2 | h2
      · have : n = 1 := by omega
        subst this
        simp
      · rw [S_len] at h2
        cases l with
        | nil => simp
        | cons _ _ => simp at h2
    · rw [if_neg h2]
      show ((List.replicate (n : Int).toNat (S l).cps).foldl (· ++ ·) #[]).toList = _
      rw [fold_arr, Int.toNat_natCast, e0]
      simp
section
variable {X : Cx}
/-- a text times an int -/
def rRepS : R2 := fun x y H Q => ∃ (l : List Nat) (n : Nat), x = .str (S l) ∧ y = .int n ∧ l.length ≤ 16 ∧ n ≤ 1048576 ∧ Q (.str (S ((List.replicate n l).flatten))) H
theorem op_repS : OpR X (binaryOp .Mult) rRepS := by
  intro pins s σ H x y v u Q I rx ry h
  obtain ⟨l, n, rfl, rfl, h1, h2, q⟩ := h
  obtain ⟨t, rfl⟩ := rx
  obtain ⟨t', rfl⟩ := ry
  refine PySem.W.KXi.mul (n := l.length) (S_len l) h1 (by omega) (by omega) (fun t2 tk _ _ => ⟨.str _, H, I.tok _, ⟨_, rfl⟩, ?_⟩)
  rw [mul_S]
  exact q
end
end Kx
namespace Kx
open PySem PySem.Spec PyProof.Rows L2 SX LamX
section
variable {X : Cx}
/-- a list of whatever values == [] -/
def rEqE : R2 := fun x y H Q => ∃ (a b : Addr) (xs : List V), x = .ref a ∧ y = .ref b ∧ H a = some (.lst xs) ∧ H b = some (.lst []) ∧ Q (.bl xs.isEmpty) H
theorem op_eqE (hu : X.A.units + 64 < cLine) : OpR X (compareOp .Eq) rEqE := by
  intro pins s σ H x y v u Q I rx ry h
  obtain ⟨a, b, xs, rfl, rfl, ha, hb, q⟩ := h
  cases rx
  cases ry
  obtain ⟨z, its, n, r, hl, e⟩ := I.lstM ha
  obtain ⟨z2, its2, n2, r2, hl2, e2⟩ := I.lstM hb
  have l2 : its2 = [] := by
    cases its2 with
    | nil => rfl
    | cons _ _ => simp at hl2
  subst l2
  cases xs with
  | nil =>
    have l1 : its = [] := by
      cases its with
      | nil => rfl
      | cons _ _ => simp at hl
    subst l1
    exact P.eq_list (e := fun _ => true) e e2 rfl (fun j h1 _ => absurd h1 (Nat.not_lt_zero j)) (by omega) ⟨.bl true, H, I, rfl, q⟩
  | cons x r' =>
    exact P.eq_list_lengths e e2 (by
      simp only [List.size_toArray, List.length_nil]
      rw [← hl]
      simp) (by omega) ⟨.bl false, H, I, rfl, q⟩
end
end Kx
namespace Kx
open PySem PySem.Spec PyProof.Rows L2 SX LamX
section
variable {K : PySem.W.Frag} {a : Addr} {xs : List V} {g : TG} {tt : TT} {te : TE} {vs : List Nat} {σ : L2.St} {H : Hp} {k : Nat} {Q : VK}
/-- [e for x in NAME if t], NAME a tuple -/
theorem lc_tupk (zs : List (Option V)) (hz : zs.length = xs.length) (hi : σ[k]? = some (some (.ref a))) (hq : SqT K H a xs) (len : xs.length ≤ 1000000)
    (turn : ∀ (i : Nat) (x : V) (z : Option V) (Hc : Hp) (Q' : VK) (R' : Hp → Prop), xs[i]? = some x → zs[i]? = some z → Same H Hc → (∀ v H4, z = some v → Same Hc H4 → Q' v H4) → (∀ H4, z = none → Same Hc H4 → R' H4) → g x (wipe σ vs) Hc fun σ2 H2 => wipe σ2 vs = wipe σ vs ∧ tt σ2 H2 fun b H3 => if b = true then te σ2 H3 Q' else R' H3)
    (fin : ∀ (D : Addr) (Hc : Hp), Same H Hc → Hc D = some (.lst (zs.filterMap id)) → Q (.ref D) Hc) :
    tLc (iTup K (tVar k)) g tt te vs σ H Q := ⟨_, hi, a, rfl, ⟨_, hq⟩, fun D nD => lc_keep walk_tup zs hz nD len (fun Hc e => Same.t e hq) (fun i x z Hc Hx Q' R' _ hzi e y q r => by
      obtain ⟨rfl, hx⟩ := y
      exact turn i x z _ Q' R' hx hzi e q r) (fin D)⟩
theorem lc_or {I J : TI} (h : tLc I g tt te vs σ H Q ∨ tLc J g tt te vs σ H Q) : tLc (fun σ H R => I σ H R ∨ J σ H R) g tt te vs σ H Q := h
/-- .. a list or a tuple -/
theorem lc_seqk (zs : List (Option V)) (hz : zs.length = xs.length) (hi : σ[k]? = some (some (.ref a))) (hq : SqQ K H a xs) (len : xs.length ≤ 1000000)
    (turn : ∀ (i : Nat) (x : V) (z : Option V) (Hc : Hp) (Q' : VK) (R' : Hp → Prop), xs[i]? = some x → zs[i]? = some z → Same H Hc → (∀ v H4, z = some v → Same Hc H4 → Q' v H4) → (∀ H4, z = none → Same Hc H4 → R' H4) → g x (wipe σ vs) Hc fun σ2 H2 => wipe σ2 vs = wipe σ vs ∧ tt σ2 H2 fun b H3 => if b = true then te σ2 H3 Q' else R' H3)
    (fin : ∀ (D : Addr) (Hc : Hp), Same H Hc → Hc D = some (.lst (zs.filterMap id)) → Q (.ref D) Hc) :
    tLc (fun σ H R => iList K (tVar k) σ H R ∨ iTup K (tVar k) σ H R) g tt te vs σ H Q :=
  lc_or (hq.imp (fun h => lc_lstk zs hz hi h len turn fin) (fun h => lc_tupk zs hz hi h len turn fin))
end
theorem filt_none {α : Type} (p : α → Bool) : ∀ (l : List α), ((l.map fun x => if p x = true then some x else none).filterMap id).isEmpty = l.all fun x => !p x
  | [] => rfl
  | x :: r => by
    cases h : p x with
    | true =>
      simp only [List.map_cons, h, if_true, List.filterMap_cons, id, List.all_cons, Bool.not_true, Bool.false_and]
      rfl
    | false =>
      have := filt_none p r
      simp only [List.map_cons, h, Bool.false_eq_true, if_false, List.filterMap_cons, id, List.all_cons, Bool.not_false, Bool.true_and]
      exact this
theorem core_same {a : Addr} {H H' : Hp} (e : Same (core a H) H') (h : ∀ b o, core a H b = some o → b ≠ a) : Same (core a H) (core a H') := fun b o k => core_at (e b o k) (h b o k) (of_core k).2.2
theorem core_core {a : Addr} {H0 H : Hp} (e : Same (core a H0) H) : Same (core a H0) (core a H) := fun b o k => core_at (e b o k) (of_core k).1 (of_core k).2.2
theorem go_par {i j : Nat} {t : TA} {D : Ends} {σ : L2.St} {H : Hp} (h : tPar i j t D σ H) : tPar i j t D σ H := h
end Kx
namespace Kx
open PySem PySem.Spec PyProof.Rows L2 SX LamX
section
variable {K : PySem.W.Frag} {σ : L2.St} {H : Hp} {ta tb : TE} {k m : Nat}
/-- repr(x) != repr(y), of one and the same data -/
theorem nerepr_t (d : PyData) (hd : Sh k m d) (hk : k ≤ 60) (hm : m ≤ 1048576) {Q : Bool → Hp → Prop}
    (ha : ∀ Q : VK, (∀ a H', Same H H' → Dp K H' (.ref a) d → Q (.ref a) H') → ta σ H Q)
    (hb : ∀ H0, Same H H0 → ∀ Q : VK, (∀ b H', Same H0 H' → Dp K H' (.ref b) d → Q (.ref b) H') → tb σ H0 Q)
    (h : ∀ H', Same H H' → Q false H') : tTest (tOp rNe (tCB (rRepr K) (tCons ta tNil)) (tCB (rRepr K) (tCons tb tNil))) σ H Q := by
  refine go_test (go_op (go_cb (go_cons (ha _ fun a H1 e1 h1 => go_nil (go_repr h1 hd hk hm (go_cb (go_cons (hb H1 e1 _ fun b H2 e2 h2 => go_nil (go_repr h2 hd hk hm ⟨rfl, false, ?_, h H2 (e1.trans e2)⟩)))))))))
  rw [ne_self]
theorem nerepr_if (d : PyData) (hd : Sh k m d) (hk : k ≤ 60) (hm : m ≤ 1048576) {D : Ends} {t u : TS}
    (ha : ∀ Q : VK, (∀ a H', Same H H' → Dp K H' (.ref a) d → Q (.ref a) H') → ta σ H Q)
    (hb : ∀ H0, Same H H0 → ∀ Q : VK, (∀ b H', Same H0 H' → Dp K H' (.ref b) d → Q (.ref b) H') → tb σ H0 Q)
    (h : ∀ H', Same H H' → u D σ H') : tIfS (tTest (tOp rNe (tCB (rRepr K) (tCons ta tNil)) (tCB (rRepr K) (tCons tb tNil)))) t u D σ H :=
  go_if (nerepr_t d hd hk hm ha hb fun H' e => iteF (A := _) (h H' e))
end
theorem sh_bb (b c : Bool) : Sh 1 2 (.list [.bool b, .bool c]) := (shA_bools (k := 0) [b, c]).lst
theorem dp_bc {K : PySem.W.Frag} {H : Hp} {p : Addr} {b c : Bool} (h : H p = some (.lst [.bl b, .bl c])) : Dp K H (.ref p) (.list [.bool b, .bool c]) := .lst (.inl (.inl h)) (.cons (.bl b) (.cons (.bl c) .nil))
end Kx
namespace Kx
open PySem PySem.Spec PyProof.Rows L2 SX LamX
theorem go_c {v : V} {σ : L2.St} {H : Hp} {Q : VK} (h : Q v H) : tC v σ H Q := h
theorem core_sub {a : Addr} {H : Hp} : Same (core a H) H := fun b o h => (of_core h).2.1
theorem core_mvO {a : Addr} {H0 H H' : Hp} (e : Same (core a H0) H) (m : Mv a H H') : Same (core a H0) H' := fun b o h => m b o (of_core h).1 (e b o h)
theorem sz5 : 5 ≤ sizeLine := by decide
theorem rep_flat (n x : Nat) : (List.replicate n [x]).flatten = List.replicate n x := by
  induction n with
  | zero => rfl
  | succ j ih => rw [List.replicate_succ, List.flatten_cons, ih, List.replicate_succ]; rfl
theorem rep_len (n : Nat) (l : List Nat) : ((List.replicate n l).flatten).length = n * l.length := by
  induction n with
  | zero => simp
  | succ j ih => rw [List.replicate_succ, List.flatten_cons, List.length_append, ih, Nat.succ_mul, Nat.add_comm]
theorem rep_mem {n : Nat} {l : List Nat} {i : Nat} (h : i ∈ (List.replicate n l).flatten) : i ∈ l := by
  obtain ⟨m, hm, hi⟩ := List.mem_flatten.mp h
  rw [List.eq_of_mem_replicate hm] at hi
  exact hi
end Kx
namespace K01
open PySem PySem.Spec PyProof.Rows L2 Kx SX LamX
def topS (i : Nat) : Stmt := PySem.Challenge.pw_anyletter_k01_plain_values_and_items.main.body.getD i (.Pass ⟨0, 0, 0, 0⟩)
abbrev s_is_list : Stmt := topS 3
theorem sc_is_list : FnScope ["value"] ["value"] (defScope s_is_list) := ⟨rfl, rfl, rfl, by decide +kernel, rfl, by decide +kernel, by decide +kernel⟩
abbrev s_is_integer : Stmt := topS 4
theorem sc_is_integer : FnScope ["value"] ["value"] (defScope s_is_integer) := ⟨rfl, rfl, rfl, by decide +kernel, rfl, by decide +kernel, by decide +kernel⟩
abbrev s_is_within : Stmt := topS 5
theorem sc_is_within : FnScope ["value", "least", "most"] ["value", "least", "most"] (defScope s_is_within) := ⟨rfl, rfl, rfl, by decide +kernel, rfl, by decide +kernel, by decide +kernel⟩
abbrev s_are_integers : Stmt := topS 6
theorem sc_are_integers : FnScope ["value", "number"] ["value"] (defScope s_are_integers) := ⟨rfl, rfl, rfl, by decide +kernel, rfl, by decide +kernel, by decide +kernel⟩
abbrev s_are_letters : Stmt := topS 7
theorem sc_are_letters : FnScope ["text"] ["text"] (defScope s_are_letters) := ⟨rfl, rfl, rfl, by decide +kernel, rfl, by decide +kernel, by decide +kernel⟩
abbrev s_is_word : Stmt := topS 8
theorem sc_is_word : FnScope ["value"] ["value"] (defScope s_is_word) := ⟨rfl, rfl, rfl, by decide +kernel, rfl, by decide +kernel, by decide +kernel⟩
abbrev s_is_sign : Stmt := topS 9
theorem sc_is_sign : FnScope ["value"] ["value"] (defScope s_is_sign) := ⟨rfl, rfl, rfl, by decide +kernel, rfl, by decide +kernel, by decide +kernel⟩
abbrev s_is_text : Stmt := topS 10
theorem sc_is_text : FnScope ["value", "letters"] ["value"] (defScope s_is_text) := ⟨rfl, rfl, rfl, by decide +kernel, rfl, by decide +kernel, by decide +kernel⟩
abbrev s_items_of : Stmt := topS 15
theorem sc_items_of : FnScope ["text"] ["text"] (defScope s_items_of) := ⟨rfl, rfl, rfl, by decide +kernel, rfl, by decide +kernel, by decide +kernel⟩
abbrev s_begins_of : Stmt := topS 16
theorem sc_begins_of : FnScope ["text", "begins", "place", "item"] ["text"] (defScope s_begins_of) := ⟨rfl, rfl, rfl, by decide +kernel, rfl, by decide +kernel, by decide +kernel⟩
abbrev s_law_crock : Stmt := topS 18
theorem sc_law_crock : FnScope ["script", "cell"] ["script"] (defScope s_law_crock) := ⟨rfl, rfl, rfl, by decide +kernel, rfl, by decide +kernel, by decide +kernel⟩
abbrev s_law_ladle : Stmt := topS 19
theorem sc_law_ladle : FnScope ["crock", "many", "rest", "at", "cell", "mixed"] ["crock", "many"] (defScope s_law_ladle) := ⟨rfl, rfl, rfl, by decide +kernel, rfl, by decide +kernel, by decide +kernel⟩
abbrev s_law_one_of : Stmt := topS 20
theorem sc_law_one_of : FnScope ["crock", "some"] ["crock", "some"] (defScope s_law_one_of) := ⟨rfl, rfl, rfl, by decide +kernel, rfl, by decide +kernel, by decide +kernel⟩
abbrev s_law_value : Stmt := topS 21
theorem sc_law_value : FnScope ["crock", "number", "some"] ["crock"] (defScope s_law_value) := ⟨rfl, rfl, rfl, by decide +kernel, rfl, by decide +kernel, by decide +kernel⟩
abbrev s_law_is_number : Stmt := topS 22
theorem sc_law_is_number : FnScope ["value"] ["value"] (defScope s_law_is_number) := ⟨rfl, rfl, rfl, by decide +kernel, rfl, by decide +kernel, by decide +kernel⟩
abbrev s_law_string : Stmt := topS 23
theorem sc_law_string : FnScope ["crock", "odd", "signs", "at", "found"] ["crock"] (defScope s_law_string) := ⟨rfl, rfl, rfl, by decide +kernel, rfl, by decide +kernel, by decide +kernel⟩
abbrev s_law_kinds : Stmt := topS 24
theorem sc_law_kinds : FnScope ["value", "letters", "sign", "plain", "whole"] ["value"] (defScope s_law_kinds) := ⟨rfl, rfl, rfl, by decide +kernel, rfl, by decide +kernel, by decide +kernel⟩
abbrev s_law_items : Stmt := topS 25
theorem sc_law_items : FnScope ["text", "items", "begins", "at", "sign"] ["text"] (defScope s_law_items) := ⟨rfl, rfl, rfl, by decide +kernel, rfl, by decide +kernel, by decide +kernel⟩
abbrev s_law_heard : Stmt := topS 26
theorem sc_law_heard : FnScope ["ask", "caught", "error"] ["ask"] (defScope s_law_heard) := ⟨rfl, rfl, rfl, by decide +kernel, rfl, by decide +kernel, by decide +kernel⟩
abbrev s_law_string_right : Stmt := topS 27
theorem sc_law_string_right : FnScope ["value", "due"] ["value"] (defScope s_law_string_right) := ⟨rfl, rfl, rfl, by decide +kernel, rfl, by decide +kernel, by decide +kernel⟩
abbrev s_law : Stmt := topS 28
theorem sc_law : FnScope ["script", "crock", "turn", "value", "bound", "inside", "below", "some", "each", "due"] ["script"] (defScope s_law) := ⟨rfl, rfl, rfl, by decide +kernel, rfl, by decide +kernel, by decide +kernel⟩
abbrev s_BadText_init : Stmt := inClass (topS 13) 0
theorem sc_BadText_init : FnScope ["self", "part"] ["self", "part"] (defScope s_BadText_init) := ⟨rfl, rfl, rfl, by decide +kernel, rfl, by decide +kernel, by decide +kernel⟩
theorem in_BadText : IsInit s_BadText_init := ⟨_, _, _, _, rfl, sc_BadText_init, rfl, rfl⟩
structure Tx (K : PySem.W.Frag) (mg : Str → Option Value) where
  f_is_list : Addr
  fd_is_list : FuncData
  F_is_list : Fun K "is_list" "is_list" s_is_list f_is_list fd_is_list
  g_is_list : mg "is_list" = some (.ref f_is_list)
  b_is_list : Binds K fd_is_list ["value"] []
  f_is_integer : Addr
  fd_is_integer : FuncData
  F_is_integer : Fun K "is_integer" "is_integer" s_is_integer f_is_integer fd_is_integer
  g_is_integer : mg "is_integer" = some (.ref f_is_integer)
  b_is_integer : Binds K fd_is_integer ["value"] []
  f_is_within : Addr
  fd_is_within : FuncData
  F_is_within : Fun K "is_within" "is_within" s_is_within f_is_within fd_is_within
  g_is_within : mg "is_within" = some (.ref f_is_within)
  b_is_within : Binds K fd_is_within ["value", "least", "most"] []
  f_are_integers : Addr
  fd_are_integers : FuncData
  F_are_integers : Fun K "are_integers" "are_integers" s_are_integers f_are_integers fd_are_integers
  g_are_integers : mg "are_integers" = some (.ref f_are_integers)
  b_are_integers : Binds K fd_are_integers ["value"] []
  f_are_letters : Addr
  fd_are_letters : FuncData
  F_are_letters : Fun K "are_letters" "are_letters" s_are_letters f_are_letters fd_are_letters
  g_are_letters : mg "are_letters" = some (.ref f_are_letters)
  b_are_letters : Binds K fd_are_letters ["text"] []
  f_is_word : Addr
  fd_is_word : FuncData
  F_is_word : Fun K "is_word" "is_word" s_is_word f_is_word fd_is_word
  g_is_word : mg "is_word" = some (.ref f_is_word)
  b_is_word : Binds K fd_is_word ["value"] []
  f_is_sign : Addr
  fd_is_sign : FuncData
  F_is_sign : Fun K "is_sign" "is_sign" s_is_sign f_is_sign fd_is_sign
  g_is_sign : mg "is_sign" = some (.ref f_is_sign)
  b_is_sign : Binds K fd_is_sign ["value"] []
  f_is_text : Addr
  fd_is_text : FuncData
  F_is_text : Fun K "is_text" "is_text" s_is_text f_is_text fd_is_text
  g_is_text : mg "is_text" = some (.ref f_is_text)
  b_is_text : Binds K fd_is_text ["value"] []
  f_items_of : Addr
  fd_items_of : FuncData
  F_items_of : Fun K "items_of" "items_of" s_items_of f_items_of fd_items_of
  g_items_of : mg "items_of" = some (.ref f_items_of)
  b_items_of : Binds K fd_items_of ["text"] []
  f_begins_of : Addr
  fd_begins_of : FuncData
  F_begins_of : Fun K "begins_of" "begins_of" s_begins_of f_begins_of fd_begins_of
  g_begins_of : mg "begins_of" = some (.ref f_begins_of)
  b_begins_of : Binds K fd_begins_of ["text"] []
  f_law_crock : Addr
  fd_law_crock : FuncData
  F_law_crock : Fun K "_law_crock" "_law_crock" s_law_crock f_law_crock fd_law_crock
  g_law_crock : mg "_law_crock" = some (.ref f_law_crock)
  b_law_crock : Binds K fd_law_crock ["script"] []
  f_law_ladle : Addr
  fd_law_ladle : FuncData
  F_law_ladle : Fun K "_law_ladle" "_law_ladle" s_law_ladle f_law_ladle fd_law_ladle
  g_law_ladle : mg "_law_ladle" = some (.ref f_law_ladle)
  b_law_ladle : Binds K fd_law_ladle ["crock", "many"] []
  f_law_one_of : Addr
  fd_law_one_of : FuncData
  F_law_one_of : Fun K "_law_one_of" "_law_one_of" s_law_one_of f_law_one_of fd_law_one_of
  g_law_one_of : mg "_law_one_of" = some (.ref f_law_one_of)
  b_law_one_of : Binds K fd_law_one_of ["crock", "some"] []
  f_law_value : Addr
  fd_law_value : FuncData
  F_law_value : Fun K "_law_value" "_law_value" s_law_value f_law_value fd_law_value
  g_law_value : mg "_law_value" = some (.ref f_law_value)
  b_law_value : Binds K fd_law_value ["crock"] []
  f_law_is_number : Addr
  fd_law_is_number : FuncData
  F_law_is_number : Fun K "_law_is_number" "_law_is_number" s_law_is_number f_law_is_number fd_law_is_number
  g_law_is_number : mg "_law_is_number" = some (.ref f_law_is_number)
  b_law_is_number : Binds K fd_law_is_number ["value"] []
  f_law_string : Addr
  fd_law_string : FuncData
  F_law_string : Fun K "_law_string" "_law_string" s_law_string f_law_string fd_law_string
  g_law_string : mg "_law_string" = some (.ref f_law_string)
  b_law_string : Binds K fd_law_string ["crock"] []
  f_law_kinds : Addr
  fd_law_kinds : FuncData
  F_law_kinds : Fun K "_law_kinds" "_law_kinds" s_law_kinds f_law_kinds fd_law_kinds
  g_law_kinds : mg "_law_kinds" = some (.ref f_law_kinds)
  b_law_kinds : Binds K fd_law_kinds ["value"] []
  f_law_items : Addr
  fd_law_items : FuncData
  F_law_items : Fun K "_law_items" "_law_items" s_law_items f_law_items fd_law_items
  g_law_items : mg "_law_items" = some (.ref f_law_items)
  b_law_items : Binds K fd_law_items ["text"] []
  f_law_heard : Addr
  fd_law_heard : FuncData
  F_law_heard : Fun K "_law_heard" "_law_heard" s_law_heard f_law_heard fd_law_heard
  g_law_heard : mg "_law_heard" = some (.ref f_law_heard)
  b_law_heard : Binds K fd_law_heard ["ask"] []
  f_law_string_right : Addr
  fd_law_string_right : FuncData
  F_law_string_right : Fun K "_law_string_right" "_law_string_right" s_law_string_right f_law_string_right fd_law_string_right
  g_law_string_right : mg "_law_string_right" = some (.ref f_law_string_right)
  b_law_string_right : Binds K fd_law_string_right ["value"] []
  n_law_string_right : PySem.W.nsIn K mainGlobals "_law_string_right" = some (some (.ref f_law_string_right))
  f_law : Addr
  fd_law : FuncData
  F_law : Fun K "law" "law" s_law f_law fd_law
  g_law : mg "law" = some (.ref f_law)
  b_law : Binds K fd_law ["script"] []
  m_isinstance : mg "isinstance" = none
  m_list : mg "list" = none
  m_tuple : mg "tuple" = none
  m_int : mg "int" = none
  m_bool : mg "bool" = none
  m_all : mg "all" = none
  m_str : mg "str" = none
  m_len : mg "len" = none
  m_abs : mg "abs" = none
  m_range : mg "range" = none
  m_enumerate : mg "enumerate" = none
  m_repr : mg "repr" = none
  e_BadText : Er K mg "BadText" "BadText.__init__" s_BadText_init "LetterError"
  t_MOST_LETTERS : Tok
  c_MOST_LETTERS : mg "MOST_LETTERS" = some (.int 12 t_MOST_LETTERS)
  t_MOST_SIGNS : Tok
  c_MOST_SIGNS : mg "MOST_SIGNS" = some (.int 200000 t_MOST_SIGNS)
section
variable {P : Program} {w : World} {K : PySem.W.Frag} {mg : Str → Option Value} {base : Heap} (T : Tx K mg)
/-! ### checks -/
def sp_is_list (K : PySem.W.Frag) : Sp := fun vs H Q _ => ∃ (x : V) (n : String) (b : Bool), vs = [x] ∧ TyX K H x (.type n) ∧ PySem.W.kitAny K (.type n) [.type "list", .type "tuple"] = some b ∧ ∀ H', Same H H' → Q (.bl b) H'
theorem ok_is_list : FnOk P w K mg base CX0 1 T.f_is_list T.fd_is_list ["value"] (sp_is_list K) := by
  refine T.F_is_list.ok sc_is_list (fun vs H Q E h => ?_) (fun cdv A outer s H vs Q E hr h => ?_)
  · obtain ⟨x, n, b, rfl, _⟩ := h
    rfl
  · obtain ⟨x, n, b, rfl, ht, hk, q⟩ := h
    refine ⟨_, (pss_one (ps_ret (pe_callB call_isiT (by rfl) T.m_isinstance (by decide +kernel) (pa_cons (pv 0) (pa_cons (pe_tup (pa_cons (pe_bltn (v := .ty "list") (by rfl) T.m_list (by decide +kernel) rfl) (pa_cons (pe_bltn (v := .ty "tuple") (by rfl) T.m_tuple (by decide +kernel) rfl) pa_nil))) pa_nil))))), ?_⟩
    refine ⟨x, rfl, by show 2 ≤ sizeLine; decide, fun p np => ?_⟩
    exact ⟨x, p, _, _, _, b, rfl, upd_same, .cons (.ty _) (.cons (.ty _) .nil), tyx_same (same_new np) ht, hk, q _ (same_new np)⟩
def sp_is_integer (K : PySem.W.Frag) : Sp := fun vs H Q _ => ∃ (x : V) (n : String) (a b : Bool), vs = [x] ∧ TyX K H x (.type n) ∧ kitB n "int" = some a ∧ kitB n "bool" = some b ∧ Q (.bl (a && !b)) H
theorem ok_is_integer : FnOk P w K mg base CX0 1 T.f_is_integer T.fd_is_integer ["value"] (sp_is_integer K) := by
  refine T.F_is_integer.ok sc_is_integer (fun vs H Q E h => ?_) (fun cdv A outer s H vs Q E hr h => ?_)
  · obtain ⟨x, n, a, b, rfl, _⟩ := h
    rfl
  · obtain ⟨x, n, a, b, rfl, ht, h1, h2, q⟩ := h
    refine ⟨_, (pss_one (ps_ret (pe_and (pe_callB call_isi (by rfl) T.m_isinstance (by decide +kernel) (pa_cons (pv 0) (pa_cons (pe_bltn (v := .ty "int") (by rfl) T.m_int (by decide +kernel) rfl) pa_nil))) (pe_one (pe_not (pe_callB call_isi (by rfl) T.m_isinstance (by decide +kernel) (pa_cons (pv 0) (pa_cons (pe_bltn (v := .ty "bool") (by rfl) T.m_bool (by decide +kernel) rfl) pa_nil)))))))), ?_⟩
    refine ⟨x, rfl, x, _, _, _, a, rfl, .ty _, ht, kit_ty h1, a, rfl, iteC (fun e => ?_) (fun e => ?_)⟩
    · refine ⟨x, rfl, x, _, _, _, b, rfl, .ty _, ht, kit_ty h2, b, rfl, ?_⟩
      rw [e] at q
      exact q
    · rw [e] at q
      exact q
def sp_is_within (K : PySem.W.Frag) : Sp := fun vs H Q _ => ∃ (x : V) (lo hi : Option Int), vs = [x, bdV lo, bdV hi] ∧ HasInt K H x ∧ Q (.bl (withinV x lo hi)) H
theorem ok_is_within : FnOk P w K mg base CX0 2 T.f_is_within T.fd_is_within ["value", "least", "most"] (sp_is_within K) := by
  refine T.F_is_within.ok sc_is_within (fun vs H Q E h => ?_) (fun cdv A outer s H vs Q E hr h => ?_)
  · obtain ⟨i, lo, hi, rfl, _⟩ := h
    rfl
  · obtain ⟨x, lo, hi, rfl, ⟨n, a, b, ht, k1, k2, e⟩, q⟩ := h
    refine ⟨_, (pss_cons (ps_if (pt_not (pt_val (pe_call (ok_is_integer T) (hr.mono (by decide)) (by rfl) T.g_is_integer T.F_is_integer.kp T.b_is_integer .nil pass0 (pa_cons (pv 0) pa_nil))))
      (pss_one (ps_ret pe_bl))
      pss_nil)
    (pss_one (ps_ret (pe_and (pe_or (pe_cmpR op_isN (pv 1) pe_non (nomark _)) (pe_one (pe_cmpR op_ge (pv 0) (pv 1) (nomark _)))) (pe_one (pe_or (pe_cmpR op_isN (pv 2) pe_non (nomark _)) (pe_one (pe_cmpR op_le (pv 0) (pv 2) (nomark _))))))))), ?_⟩
    refine ⟨_, rfl, x, n, a, b, rfl, ht, k1, k2, _, rfl, ?_⟩
    rw [e]
    cases x with
    | int i =>
      refine iteF ⟨_, rfl, rfl, _, rfl, ?_⟩
      cases lo with
      | none =>
        refine iteT ⟨_, rfl, iteT ⟨_, rfl, rfl, _, rfl, ?_⟩⟩
        cases hi with
        | none => exact iteT q
        | some h => exact iteF ⟨_, rfl, _, rfl, _, _, rfl, rfl, q⟩
      | some l =>
        have q' : Q (.bl (decide (l ≤ i) && hiB i hi)) H := q
        refine iteF ⟨_, rfl, _, rfl, _, _, rfl, rfl, _, rfl, iteC (fun e => ?_) (fun e => ?_)⟩
        · rw [e] at q'
          refine ⟨_, rfl, rfl, _, rfl, ?_⟩
          cases hi with
          | none => exact iteT q'
          | some h => exact iteF ⟨_, rfl, _, rfl, _, _, rfl, rfl, q'⟩
        · rw [e] at q'
          exact q'
    | _ => exact iteT q
/-! ### words, signs, texts -/
def sp_are_letters (K : PySem.W.Frag) : Sp := fun vs H Q _ => ∃ (l : List Nat), vs = [.str (S l)] ∧ Q (.bl (lowB l)) H
theorem ok_are_letters : FnOk P w K mg base CX0 1 T.f_are_letters T.fd_are_letters ["text"] (sp_are_letters K) := by
  refine T.F_are_letters.ok sc_are_letters (fun vs H Q E h => ?_) (fun cdv A outer s H vs Q E hr h => ?_)
  · obtain ⟨l, rfl, _⟩ := h
    rfl
  · obtain ⟨l, rfl, q⟩ := h
    rw [← letters_S] at q
    refine ⟨_, (pss_one (ps_ret (pe_and (pe_m0 PySem.F.slot_str_isascii PySem.F.type_str_isascii mt_isascii (pv 0)) (pe_and (pe_m0 PySem.F.slot_str_isalpha PySem.F.type_str_isalpha mt_isalpha (pv 0)) (pe_one (pe_m0 PySem.F.slot_str_islower PySem.F.type_str_islower mt_islower (pv 0))))))), ?_⟩
    refine ⟨_, rfl, ⟨_, rfl⟩, S l, rfl, rfl, trivial, _, rfl, iteC (fun e => ?_) (fun e => ?_)⟩
    · rw [e] at q
      refine ⟨_, rfl, ⟨_, rfl⟩, S l, rfl, rfl, trivial, _, rfl, iteC (fun e => ?_) (fun e => ?_)⟩
      · rw [e] at q
        exact ⟨_, rfl, ⟨_, rfl⟩, S l, rfl, rfl, trivial, q⟩
      · rw [e] at q
        exact q
    · rw [e] at q
      exact q
/-- a text, or what is none -/
def StrIs (K : PySem.W.Frag) (H : Hp) (x : V) (o : Option (List Nat)) : Prop := match o with
  | some l => x = .str (S l) ∧ l.length ≤ 1000000
  | none => ∃ n, TyX K H x (.type n) ∧ kitB n "str" = some false
theorem StrIs.same {K : PySem.W.Frag} {H H' : Hp} {x : V} {o : Option (List Nat)} (e : Same H H') (h : StrIs K H x o) : StrIs K H' x o := by
  cases o with
  | some l => exact h
  | none =>
    obtain ⟨n, h1, h2⟩ := h
    exact ⟨n, tyx_same e h1, h2⟩
theorem kit_str : kitB "str" "str" = some true := by decide +kernel
def wordB (l : List Nat) : Bool := decide (l.length ≤ 12) && lowB l
def signB (l : List Nat) : Bool := decide (l.length = 1) && l.all sg
def sp_is_word (K : PySem.W.Frag) : Sp := fun vs H Q _ => ∃ (x : V) (o : Option (List Nat)), vs = [x] ∧ StrIs K H x o ∧ Q (.bl (o.elim false wordB)) H
theorem ok_is_word : FnOk P w K mg base CX0 2 T.f_is_word T.fd_is_word ["value"] (sp_is_word K) := by
  refine T.F_is_word.ok sc_is_word (fun vs H Q E h => ?_) (fun cdv A outer s H vs Q E hr h => ?_)
  · obtain ⟨x, o, rfl, _⟩ := h
    rfl
  · obtain ⟨x, o, rfl, hx, q⟩ := h
    refine ⟨_, (pss_one (ps_ret (pe_and (pe_callB call_isi (by rfl) T.m_isinstance (by decide +kernel) (pa_cons (pv 0) (pa_cons (pe_bltn (v := .ty "str") (by rfl) T.m_str (by decide +kernel) rfl) pa_nil))) (pe_and (pe_cmpR op_le (pe_callB call_len_str (by rfl) T.m_len PySem.boot_len (pa_cons (pv 0) pa_nil)) (pe_glob (v := .int 12) (by rfl) T.c_MOST_LETTERS ⟨_, rfl⟩) (nomark _)) (pe_one (pe_call (ok_are_letters T) (hr.mono (by decide)) (by rfl) T.g_are_letters T.F_are_letters.kp T.b_are_letters .nil pass0 (pa_cons (pv 0) pa_nil))))))), ?_⟩
    cases o with
    | none =>
      obtain ⟨n, h1, h2⟩ := hx
      exact ⟨x, rfl, x, _, _, _, false, rfl, .ty _, h1, kit_ty h2, _, rfl, iteF q⟩
    | some l =>
      obtain ⟨rfl, hl⟩ := hx
      refine ⟨_, rfl, _, _, _, _, true, rfl, .ty _, .base (.str (S l)), kit_ty kit_str, _, rfl, ?_⟩
      refine iteT (B := _) ?_
      have q' : Q (.bl (decide (l.length ≤ 12) && lowB l)) H := q
      have e1 : decide (((S l).length : Int) ≤ 12) = decide (l.length ≤ 12) := by
        rw [S_len]
        by_cases h : l.length ≤ 12
        · rw [decide_eq_true h, decide_eq_true (by omega)]
        · rw [decide_eq_false h, decide_eq_false (by omega)]
      refine ⟨_, rfl, S l, rfl, by rw [S_len]; exact Nat.le_trans hl (by decide), _, _, rfl, rfl, _, rfl, ?_⟩
      rw [e1]
      cases h : decide (l.length ≤ 12) with
      | true =>
        rw [h] at q'
        refine iteT (B := _) ?_
        exact ⟨_, rfl, l, rfl, q'⟩
      | false =>
        rw [h] at q'
        exact iteF q'
def sp_is_sign (K : PySem.W.Frag) : Sp := fun vs H Q _ => ∃ (x : V) (o : Option (List Nat)), vs = [x] ∧ StrIs K H x o ∧ Q (.bl (o.elim false signB)) H
theorem ok_is_sign : FnOk P w K mg base CX0 2 T.f_is_sign T.fd_is_sign ["value"] (sp_is_sign K) := by
  refine T.F_is_sign.ok sc_is_sign (fun vs H Q E h => ?_) (fun cdv A outer s H vs Q E hr h => ?_)
  · obtain ⟨x, o, rfl, _⟩ := h
    rfl
  · obtain ⟨x, o, rfl, hx, q⟩ := h
    refine ⟨_, (pss_one (ps_ret (pe_and (pe_callB call_isi (by rfl) T.m_isinstance (by decide +kernel) (pa_cons (pv 0) (pa_cons (pe_bltn (v := .ty "str") (by rfl) T.m_str (by decide +kernel) rfl) pa_nil))) (pe_and (pe_cmpR op_eq (pe_callB call_len_str (by rfl) T.m_len PySem.boot_len (pa_cons (pv 0) pa_nil)) pe_int (nomark _)) (pe_one (pe_or (pe_cmpR op_eq (pv 0) pe_str (nomark _)) (pe_one (pe_call (ok_are_letters T) (hr.mono (by decide)) (by rfl) T.g_are_letters T.F_are_letters.kp T.b_are_letters .nil pass0 (pa_cons (pv 0) pa_nil))))))))), ?_⟩
    cases o with
    | none =>
      obtain ⟨n, h1, h2⟩ := hx
      exact ⟨x, rfl, x, _, _, _, false, rfl, .ty _, h1, kit_ty h2, _, rfl, iteF q⟩
    | some l =>
      obtain ⟨rfl, hl⟩ := hx
      refine ⟨_, rfl, _, _, _, _, true, rfl, .ty _, .base (.str (S l)), kit_ty kit_str, _, rfl, ?_⟩
      refine iteT (B := _) ?_
      have q' : Q (.bl (decide (l.length = 1) && l.all sg)) H := q
      have e1 : decide (V.int ((S l).length : Int) = V.int 1) = decide (l.length = 1) := by
        rw [S_len]
        by_cases h : l.length = 1
        · rw [decide_eq_true h, decide_eq_true (by rw [h]; rfl)]
        · rw [decide_eq_false h, decide_eq_false (fun e => h (by injection e with e; omega))]
      refine ⟨_, rfl, S l, rfl, by rw [S_len]; exact Nat.le_trans hl (by decide), rfl, _, rfl, ?_⟩
      rw [e1]
      cases h : decide (l.length = 1) with
      | false =>
        rw [h] at q'
        exact iteF q'
      | true =>
        rw [h] at q'
        refine iteT (B := _) ?_
        obtain ⟨c, rfl⟩ : ∃ c, l = [c] := List.length_eq_one_iff.mp (of_decide_eq_true h)
        have e2 : decide (V.str (S [c]) = V.str " ") = decide (c = 32) := by
          by_cases hc : c = 32
          · subst hc
            rfl
          · rw [decide_eq_false hc, decide_eq_false]
            intro e
            injection e with e
            have := congrArg (fun z : Str => z.cps.toList) e
            simp [S] at this
            exact hc (by have h2 : (Str.ofString " ").cps.toList = [32] := rfl; rw [h2] at this; simpa using this)
        refine ⟨_, rfl, rfl, _, rfl, ?_⟩
        rw [e2]
        cases hc : decide (c = 32) with
        | true =>
          refine iteT (B := _) ?_
          have : (true && [c].all sg) = true := by simp [sg, of_decide_eq_true hc]
          rw [this] at q'
          exact q'
        | false =>
          refine iteF (A := _) ?_
          refine ⟨_, rfl, [c], rfl, ?_⟩
          have : (true && [c].all sg) = lowB [c] := by
            unfold lowB
            simp [sg, of_decide_eq_false hc]
          rw [← this]
          exact q'
def sp_is_text (K : PySem.W.Frag) : Sp := fun vs H Q _ => ∃ (x : V) (o : Option (List Nat)), vs = [x] ∧ StrIs K H x o ∧ Q (.bl (o.elim false textB)) H
theorem ok_is_text : FnOk P w K mg base CX0 2 T.f_is_text T.fd_is_text ["value"] (sp_is_text K) := by
  refine okT T.F_is_text sc_is_text (by decide +kernel) (by decide) (fun vs H Q E h => ?_) (fun cdv A outer s H vs Q E hr h => ?_)
  · obtain ⟨x, o, rfl, _⟩ := h
    rfl
  · obtain ⟨x, o, rfl, hx, q⟩ := h
    refine ⟨_, (psst_cons (PST.of (ps_if (PW.pt (pw_or (pt_not (pt_val (pe_callB call_isi (by rfl) T.m_isinstance (by decide +kernel) (pa_cons (pv 0) (pa_cons (pe_bltn (v := .ty "str") (by rfl) T.m_str (by decide +kernel) rfl) pa_nil))))) (pw_or1 (pt_cmpR op_gt (pe_callB call_len_str (by rfl) T.m_len PySem.boot_len (pa_cons (pv 0) pa_nil)) (pe_glob (v := .int 200000) (by rfl) T.c_MOST_SIGNS ⟨_, rfl⟩) (nomark _)))))
      (pss_one (ps_ret pe_bl))
      pss_nil))
    (psst_cons (pst_set (i := 1) sc_is_text.nd rfl (.inl rfl) (CwR.pet_replC (pv 0)))
    (PSsT.of (pss_one (ps_ret (pe_or (pe_cmpR op_eq (pv 1) pe_str (nomark _)) (pe_one (pe_call (ok_are_letters T) (hr.mono (by decide)) (by rfl) T.g_are_letters T.F_are_letters.kp T.b_are_letters .nil pass0 (pa_cons (pv 1) pa_nil))))))))), ?_⟩
    cases o with
    | none =>
      obtain ⟨n, h1, h2⟩ := hx
      refine ⟨x, rfl, x, _, _, _, false, rfl, .ty _, h1, kit_ty h2, _, rfl, ?_⟩
      refine iteT (B := _) ?_
      refine iteT (B := _) ?_
      exact q
    | some l =>
      obtain ⟨rfl, hl⟩ := hx
      refine ⟨_, rfl, _, _, _, _, true, rfl, .ty _, .base (.str (S l)), kit_ty kit_str, _, rfl, ?_⟩
      refine iteF (A := _) ?_
      have q' : Q (.bl (decide (l.length ≤ 200000) && l.all sg)) H := q
      have e1 : decide ((200000 : Int) < ((S l).length : Int)) = !decide (l.length ≤ 200000) := by
        rw [S_len]
        by_cases h : l.length ≤ 200000
        · rw [decide_eq_true h, decide_eq_false (by omega)]
          rfl
        · rw [decide_eq_false h, decide_eq_true (by omega)]
          rfl
      refine ⟨_, rfl, S l, rfl, by rw [S_len]; exact Nat.le_trans hl (by decide), _, _, rfl, rfl, _, rfl, ?_⟩
      rw [e1]
      cases h : decide (l.length ≤ 200000) with
      | false =>
        rw [h] at q'
        refine iteT (B := _) ?_
        exact q'
      | true =>
        rw [h] at q'
        have h' : l.length ≤ 200000 := of_decide_eq_true h
        refine iteF (A := _) ?_
        refine ⟨_, rfl, S l, rfl, by rw [S_len]; show l.length + (l.length + 1) * 0 ≤ 16777216; omega, ?_⟩
        have eR : Txt.replace (S l) " " "" = S (l.filter (· != 32)) := replace_S l
        rw [eR]
        have q2 : Q (.bl ((l.filter (· != 32)).isEmpty || lowB (l.filter (· != 32)))) H := by
          rw [text_filter]
          exact q'
        refine ⟨_, rfl, rfl, _, rfl, ?_⟩
        rw [S_nil]
        cases hE : (l.filter (· != 32)).isEmpty with
        | true =>
          rw [hE] at q2
          refine iteT (B := _) ?_
          exact q2
        | false =>
          rw [hE] at q2
          refine iteF (A := _) ?_
          exact ⟨_, rfl, _, rfl, q2⟩
/-- an int that is no truth -/
def intB (v : V) : Bool := isIntV v
/-- what is asked of are_integers, and its answer -/
def IntsArg (K : PySem.W.Frag) (H : Hp) (x : V) (b : Bool) : Prop := (b = false ∧ ∃ n, TyX K H x (.type n) ∧ PySem.W.kitAny K (.type n) [.type "list", .type "tuple"] = some false) ∨
    ∃ (a : Addr) (ws : List V), x = .ref a ∧ SqQ K H a ws ∧ ws.length ≤ 20000 ∧ (∀ v ∈ ws, HasInt K H v) ∧ b = ws.all intB
def sp_are_integers (K : PySem.W.Frag) : Sp := fun vs H Q _ => ∃ (x : V) (b : Bool), vs = [x] ∧ IntsArg K H x b ∧ ∀ H', Same H H' → Q (.bl b) H'
theorem ok_are_integers : FnOk P w K mg base CX0 2 T.f_are_integers T.fd_are_integers ["value"] (sp_are_integers K) := by
  refine T.F_are_integers.ok sc_are_integers (fun vs H Q E h => ?_) (fun cdv A outer s H vs Q E hr h => ?_)
  · obtain ⟨x, b, rfl, _⟩ := h
    rfl
  · obtain ⟨x, b, rfl, h, q⟩ := h
    refine ⟨_, (pss_one (ps_ret (pe_and (pe_call (ok_is_list T) (hr.mono (by decide)) (by rfl) T.g_is_list T.F_is_list.kp T.b_is_list .nil pass0 (pa_cons (pv 0) pa_nil)) (pe_one (pe_callB (cr_all rfl) (by rfl) T.m_all (by decide +kernel) (pa_cons (pe_lc (own := [("number", 1)]) rfl sc_are_integers.nd (pi_seq (pv 0)) (blkOk_by (own := [("number", 1)]) (N := ["value", "number"]) (sc := defScope s_are_integers) (by decide +kernel)) (fun _ _ _ _ _ => (pg_name (i := 1) sc_are_integers.nd rfl (.inl rfl))) (fun _ _ _ _ _ => pts_nil) (fun _ _ _ _ _ => (pe_call (ok_is_integer T) (hr.mono (by decide)) (by rfl) T.g_is_integer T.F_is_integer.kp T.b_is_integer .nil pass0 (pa_cons (pv 1) pa_nil)))) pa_nil)))))), ?_⟩
    rcases h with ⟨rfl, n, ht, hk⟩ | ⟨a, ws, rfl, hq, hl, hw, rfl⟩
    · exact ⟨x, rfl, x, n, false, rfl, ht, hk, fun H1 e1 => ⟨_, rfl, iteF (q H1 e1)⟩⟩
    · obtain ⟨n, ht, hk⟩ := isl_q hq
      refine ⟨_, rfl, _, n, true, rfl, ht, hk, fun H1 e1 => ⟨_, rfl, ?_⟩⟩
      refine iteT (B := _) ?_
      dsimp only
      refine go_cb ?_
      refine go_cons ?_
      refine lc_seqmap (a := a) (xs := ws) (fun v => .bl (intB v)) (by exact rfl) (Same.q e1 hq) (by omega) (fun i v Hc Q' R' hv e2 q' => ?_) (fun D Hc e2 hD => ?_)
      · refine ⟨rfl, ?_⟩
        refine iteT (B := True) ?_
        obtain ⟨n', c, d, t1, t2, t3, t4⟩ := (hw v (List.mem_of_getElem? hv)).same (e1.trans e2)
        refine ⟨_, rfl, v, n', c, d, rfl, t1, t2, t3, ?_⟩
        have e3 : intB v = (c && !d) := by
          exact t4.symm
        rw [e3] at q'
        exact q' Hc (Same.refl _)
      · exact ⟨D, ws.map intB, rfl, .inl (.inl (by rw [hD, List.map_map]; rfl)), by rw [List.all_map]; exact q Hc (e1.trans e2)⟩
end
end K01
namespace K01
open PySem PySem.Spec PyProof.Rows L2 Kx SX LamX
section
variable {P : Program} {w : World} {K : PySem.W.Frag} {mg : Str → Option Value} {base : Heap} (T : Tx K mg)
def itV (l : List Nat) : List V := (itemsA [] l).map fun i => V.str (S i)
theorem items_le (l : List Nat) : (itemsA [] l).length ≤ l.length + 1 := by
  rw [items_length]
  have := List.count_le_length (a := 32) (l := l)
  omega
def sp_items_of (K : PySem.W.Frag) (C : Addr) : Sp := fun vs H Q E => ∃ (x : V) (o : Option (List Nat)), vs = [x] ∧ StrIs K H x o ∧ (o.elim false textB = false → RaisedPart E C H "text") ∧
  ∀ l, o = some l → textB l = true → ∀ p H', Same H H' → H' p = some (.tup (itV l)) → Q (.ref p) H'
theorem ok_items_of : FnOk P w K mg base (L2.CX P w) 6 T.f_items_of T.fd_items_of ["text"] (sp_items_of K T.e_BadText.C) := by
  refine T.F_items_of.okX sc_items_of (fun vs H Q E h => ?_) (fun cdv A outer s H vs Q E hr h => ?_)
  · obtain ⟨x, o, rfl, _⟩ := h
    rfl
  · obtain ⟨x, o, rfl, hx, he, q⟩ := h
    refine ⟨_, (pss_cons (ps_if (pt_not (pt_val (pe_call (ok_is_text T) (hr.mono (by decide)) (by rfl) T.g_is_text T.F_is_text.kp T.b_is_text .nil pass0 (pa_cons (pv 0) pa_nil))))
      (pss_one (ps_raise rfl (takes_of rfl rfl rfl rfl) (pmk_oex T.e_BadText.oex T.e_BadText.iC T.e_BadText.tI (ok_init T.e_BadText in_BadText) (hr.mono (by decide)) T.e_BadText.b .nil pass0 (by rfl) T.e_BadText.gC (pa_cons pe_str pa_nil))))
      pss_nil)
    (pss_one (ps_ret (pe_callTy call_tuple_of (by rfl) T.m_tuple (by decide +kernel) (pa_cons (pe_split (pv 0) pe_str) pa_nil))))), ?_⟩
    refine ⟨x, rfl, x, o, rfl, hx, _, rfl, ?_⟩
    cases hb : o.elim false textB with
    | false =>
      refine iteT (B := _) ?_
      exact mk_part T.e_BadText.oex T.e_BadText.np fun d H' e2 hd => he hb d H' e2 hd
    | true =>
      refine iteF (A := _) ?_
      cases o with
      | none => cases hb
      | some l =>
        obtain ⟨rfl, hl⟩ := hx
        refine ⟨_, rfl, ⟨_, rfl⟩, S l, " ", rfl, rfl, rfl, by rw [S_len]; exact Nat.le_trans (Nat.add_le_add_right hl 2) (by decide : 1000000 + 2 ≤ sizeLine), fun p np => ?_⟩
        rw [split_items]
        refine ⟨p, _, rfl, .inl ⟨.inl (.inl upd_same), fun t nt => ?_⟩⟩
        have e : ((itemsA [] l).map S).map V.str = itV l := by
          rw [List.map_map]
          rfl
        rw [e] at nt ⊢
        exact q l rfl hb t _ ((same_new np).trans (same_new nt)) upd_same
def bgV (l : List Nat) : List V := (beginsA 0 (itemsA [] l)).map fun n : Nat => V.int n
def sp_begins_of (K : PySem.W.Frag) (C : Addr) : Sp := fun vs H Q E => ∃ (x : V) (o : Option (List Nat)), vs = [x] ∧ StrIs K H x o ∧ (o.elim false textB = false → RaisedPart E C H "text") ∧
  ∀ l, o = some l → textB l = true → ∀ p H', Same H H' → H' p = some (.tup (bgV l)) → Q (.ref p) H'
theorem ok_begins_of : FnOk P w K mg base (L2.CX P w) 7 T.f_begins_of T.fd_begins_of ["text"] (sp_begins_of K T.e_BadText.C) := by
  refine T.F_begins_of.okX sc_begins_of (fun vs H Q E h => ?_) (fun cdv A outer s H vs Q E hr h => ?_)
  · obtain ⟨x, o, rfl, _⟩ := h
    rfl
  · obtain ⟨x, o, rfl, hx, he, q⟩ := h
    refine ⟨_, (pss_cons (ps_set (i := 1) sc_begins_of.nd rfl (.inl rfl) (pe_lst pa_nil))
    (pss_cons (ps_set (i := 2) sc_begins_of.nd rfl (.inl rfl) pe_int)
    (pss_cons (ps_for (passes_of rfl) rfl (pi_tup (pe_call (ok_items_of T) (hr.mono (by decide)) (by rfl) T.g_items_of T.F_items_of.kp T.b_items_of .nil (passes_call (takes_of rfl rfl rfl rfl) (fun _ _ _ _ h => h)) (pa_cons (pv 0) pa_nil))) (pg_name (i := 3) sc_begins_of.nd rfl (.inl rfl))
      (pss_cons (ps_expr (pe_bm PySem.F.plainAttrs_list PySem.F.slot_list_append PySem.F.type_list_append mt_append (pv 1) (pa_cons (pv 2) pa_nil)))
      (pss_one (ps_aug (i := 2) sc_begins_of.nd rfl (.inl rfl) (pe_op op_add (pe_callB call_len_str (by rfl) T.m_len PySem.boot_len (pa_cons (pv 3) pa_nil)) pe_int) ip_add))))
    (pss_one (ps_ret (pe_callTy call_tuple_of (by rfl) T.m_tuple (by decide +kernel) (pa_cons (pv 1) pa_nil))))))), ?_⟩
    refine ⟨Nat.zero_le _, fun p np => ?_⟩
    have s1 := same_new (o := HO.lst []) np
    refine ⟨x, rfl, x, o, rfl, hx.same s1, fun hb d H' e2 hd => he hb d H' (s1.trans e2) hd, fun l hl hb t H1 e1 ht => ?_⟩
    subst hl
    have hp1 := e1 _ _ (upd_same (H := H) (a := p) (o := HO.lst []))
    have ll : (itemsA [] l).length ≤ 1000001 := by
      have h1 := items_le l
      have h2 := hx.2
      omega
    refine ⟨t, rfl, ⟨_, .inl (.inl ht)⟩, for_tup (xs := itV l) (fun i σ H' => ∃ o3 : Option V, σ = [some x, some (.ref p), some (.int (reachA 0 ((itemsA [] l).take i) : Nat)), o3] ∧ Same H H' ∧ H' t = some (.tup (itV l)) ∧ H' p = some (.lst ((beginsA 0 ((itemsA [] l).take i)).map fun n : Nat => V.int n)))
      ⟨none, rfl, s1.trans e1, ht, hp1⟩ (fun i σ' H' _ h => ?_) (fun i v σ' Hc hv h => ?_) (fun σ' Hc h => ?_)⟩
    · obtain ⟨_, _, _, h, _⟩ := h
      exact .inl (.inl h)
    · obtain ⟨o3, rfl, e2, ht2, hp2⟩ := h
      obtain ⟨it, hi, rfl⟩ := map_at hv
      have eT : (itemsA [] l).take (i + 1) = (itemsA [] l).take i ++ [it] := by
        rw [List.take_add_one, hi]
        rfl
      have il : it.length ≤ 1000000 := by
        have h1 := item_le l [] it (List.mem_of_getElem? hi)
        have h2 := hx.2
        simp at h1
        omega
      refine ⟨_, rfl, .inl ⟨rfl, _, .inl (.inl hp2)⟩, _, rfl, p, _, _, rfl, rfl, hp2, ?_, ?_⟩
      · rw [List.length_map, beginsA_length, List.length_take]
        exact Nat.lt_of_le_of_lt (Nat.le_trans (Nat.min_le_right _ _) ll) (by decide)
      · refine ⟨_, rfl, _, rfl, S it, rfl, by rw [S_len]; exact Nat.le_trans il (by decide), _, _, rfl, rfl, _, _, rfl, rfl, ?_⟩
        have eP : ((reachA 0 ((itemsA [] l).take i) : Nat) : Int) + (((S it).length : Int) + 1) = ((reachA 0 ((itemsA [] l).take (i + 1)) : Nat) : Int) := by
          rw [eT, reachA_snoc, S_len]
          omega
        refine ⟨some (.str (S it)), ?_, same_set e2 np, ?_, ?_⟩
        · show [some x, some (.ref p), some (V.int (((reachA 0 ((itemsA [] l).take i) : Nat) : Int) + (((S it).length : Int) + 1))), some (.str (S it))] = _
          rw [eP]
        · rw [upd_ne (ne_of_two ht2 hp2 (fun z => by cases z))]
          exact ht2
        · rw [upd_same, eT, beginsA_snoc, List.map_append]
          rfl
    · obtain ⟨o3, rfl, e2, ht2, hp2⟩ := h
      have eL : (itemsA [] l).take (itV l).length = itemsA [] l := by
        unfold itV
        rw [List.length_map, List.take_length]
      rw [eL] at hp2
      refine ⟨_, rfl, p, _, rfl, .inl ⟨.inl (.inl hp2), fun t3 nt3 => ?_⟩⟩
      exact q l rfl hb t3 _ (e2.trans (same_new nt3)) upd_same
end
end K01
namespace K01
open PySem PySem.Spec PyProof.Rows L2 Kx SX LamX
section
variable {P : Program} {w : World} {K : PySem.W.Frag} {mg : Str → Option Value} {base : Heap} (T : Tx K mg)
/-! ### draws -/
def sp_law_ladle (K : PySem.W.Frag) : Sp := fun vs H Q _ => ∃ (a c : Addr) (m : Int) (n : Nat), vs = [.ref a, .int m] ∧ 0 < m ∧ m ≤ 1000000 ∧ Wh H a c n ∧ n < 1000000 ∧ ∀ (r : Int) (H' : Hp), 0 ≤ r → r < m → Mv a H H' → Wh H' a c (n + 1) → Q (.int r) H'
theorem ok_law_ladle : FnOk P w K mg base CX0 1 T.f_law_ladle T.fd_law_ladle ["crock", "many"] (sp_law_ladle K) := by
  refine T.F_law_ladle.ok sc_law_ladle (fun vs H Q E h => ?_) (fun cdv A outer s H vs Q E hr h => ?_)
  · obtain ⟨a, c, m, n, rfl, _⟩ := h
    rfl
  · obtain ⟨a, c, m, n, rfl, hm, hM, ⟨cs, t, l, h1, h2, h3, h4, h5⟩, hn, q⟩ := h
    refine ⟨_, (pss_cons (ps_if (pt_cmpR op_gt (pe_ix ix_list (pv 0) pe_int (fun _ _ => rfl)) pe_int (nomark _))
      (pss_cons (ps_set (i := 2) sc_law_ladle.nd rfl (.inl rfl) (pe_callTy call_int1 (by rfl) T.m_int (by decide +kernel) (pa_cons (pe_ix ix_list (pv 0) pe_int (fun _ _ => rfl)) pa_nil)))
      (pss_cons (ps_asg (pe_op op_fdivN (pv 2) (pv 1)) (pg_sub (pv 0) pe_int set_list))
      (pss_one (ps_ret (pe_op op_modN (pe_callTy call_int1 (by rfl) T.m_int (by decide +kernel) (pa_cons (pv 2) pa_nil)) (pv 1))))))
      pss_nil)
    (pss_cons (ps_set (i := 3) sc_law_ladle.nd rfl (.inl rfl) (pe_ix ix_list (pv 0) pe_int (fun _ _ => rfl)))
    (pss_cons (ps_asg (pe_op op_add (pv 3) pe_int) (pg_sub (pv 0) pe_int set_list))
    (pss_cons (ps_set (i := 4) sc_law_ladle.nd rfl (.inl rfl) (pe_op op_add (pe_op op_mul pe_int (pv 3)) pe_int))
    (pss_cons (ps_if (pt_cmpR (op_neD hr.units) (pe_ix ix_list (pv 0) pe_int (fun _ _ => rfl)) (pe_lst pa_nil) (nomark _))
      (pss_one (ps_set (i := 4) sc_law_ladle.nd rfl (.inl rfl) (pe_ix ix_list (pe_ix ix_list (pv 0) pe_int (fun _ _ => rfl)) (pe_op op_modN (pe_callTy call_int1 (by rfl) T.m_int (by decide +kernel) (pa_cons (pv 3) pa_nil)) (pe_callB call_len_seq (by rfl) T.m_len PySem.boot_len (pa_cons (pe_ix ix_list (pv 0) pe_int (fun _ _ => rfl)) pa_nil))) (fun _ _ => rfl))))
      pss_nil)
    (pss_cons (ps_if (PW.pt (pw_and (pt_cmpR op_lt (pv 3) (pe_callB call_len_seq (by rfl) T.m_len PySem.boot_len (pa_cons (pe_ix ix_list (pv 0) pe_int (fun _ _ => rfl)) pa_nil)) (nomark _)) (pw_and1 (pt_cmpR op_ge (pe_callB call_abs (by rfl) T.m_abs (by decide +kernel) (pa_cons (pv 4) pa_nil)) (pe_op op_pow pe_int pe_int) (nomark _)))))
      (pss_cons (ps_set (i := 2) sc_law_ladle.nd rfl (.inl rfl) (pe_op op_add (pe_op op_mul pe_int (pe_op op_sub (pe_callB call_abs (by rfl) T.m_abs (by decide +kernel) (pa_cons (pv 4) pa_nil)) (pe_op op_pow pe_int pe_int))) (pe_callTy call_int1 (by rfl) T.m_int (by decide +kernel) (pa_cons (pe_cmpR op_lt (pv 4) pe_int (nomark _)) pa_nil))))
      (pss_cons (ps_asg (pe_op op_fdivN (pe_callTy call_int1 (by rfl) T.m_int (by decide +kernel) (pa_cons (pv 2) pa_nil)) (pv 1)) (pg_sub (pv 0) pe_int set_list))
      (pss_one (ps_ret (pe_op op_modN (pe_callTy call_int1 (by rfl) T.m_int (by decide +kernel) (pa_cons (pv 2) pa_nil)) (pv 1))))))
      pss_nil)
    (pss_cons (ps_set (i := 5) sc_law_ladle.nd rfl (.inl rfl) (pe_op op_modN (pe_callTy call_int1 (by rfl) T.m_int (by decide +kernel) (pa_cons (pe_op op_pow (pe_op op_add (pe_op op_add (pe_op op_modN (pe_callTy call_int1 (by rfl) T.m_int (by decide +kernel) (pa_cons (pv 4) pa_nil)) pe_int) (pe_op op_mul pe_int (pv 3))) pe_int) pe_int) pa_nil)) pe_int))
    (pss_cons (ps_set (i := 5) sc_law_ladle.nd rfl (.inl rfl) (pe_op op_modN (pe_callTy call_int1 (by rfl) T.m_int (by decide +kernel) (pa_cons (pe_op op_pow (pe_op op_add (pe_op op_add (pe_op op_mul (pv 5) (pe_op op_add (pe_op op_mul pe_int (pv 3)) pe_int)) (pe_op op_mul (pe_op op_mul pe_int (pv 3)) (pv 3))) pe_int) pe_int) pa_nil)) pe_int))
    (pss_one (ps_ret (pe_op op_modN (pe_callTy call_int1 (by rfl) T.m_int (by decide +kernel) (pa_cons (pe_op op_fdivN (pv 5) pe_int) pa_nil)) (pv 1)))))))))))), ?_⟩
    have hac := wh_ac h1 h2
    have m0 : m ≠ 0 := by omega
    have mS : m.natAbs < 1073741824 := by omega
    have fin : ∀ (x y z : Int) (H' : Hp), Mv a H H' → H' a = some (.lst [.ref c, .int y, .int z]) → 0 ≤ y → y ≤ n + 1 → Q (.int (x.fmod m)) H' := fun x y z H' mv ha y0 y1 =>
      q _ _ (Int.fmod_nonneg_of_pos _ hm) (Int.fmod_lt_of_pos _ hm) mv ⟨cs, y, z, ha, mv c _ (fun e => hac e.symm) h2, h3, y0, by omega⟩
    refine ⟨_, rfl, a, _, 2, .int l, rfl, rfl, .inl (.inl h1), rfl, _, _, rfl, rfl, _, rfl, iteC (fun e => ?_) (fun e => ?_)⟩
    · refine ⟨_, rfl, a, _, 2, .int l, rfl, rfl, .inl (.inl h1), rfl, .inl ⟨l, rfl, ?_⟩⟩
      refine ⟨_, rfl, _, rfl, l, m, rfl, rfl, ⟨m0, mS⟩, _, rfl, a, _, 2, 2, rfl, rfl, h1, rfl, ?_⟩
      refine ⟨_, rfl, .inl ⟨l, rfl, _, rfl, l, m, rfl, rfl, m0, ?_⟩⟩
      exact fin _ t (l.fdiv m) _ (Mv.upd _ _ _) upd_same h4 (by omega)
    · clear e
      refine ⟨_, rfl, a, _, 1, .int t, rfl, rfl, .inl (.inl h1), rfl, ?_⟩
      refine ⟨_, rfl, t, 1, rfl, rfl, _, rfl, a, _, 1, 1, rfl, rfl, h1, rfl, ?_⟩
      refine ⟨_, rfl, _, t, rfl, rfl, .inl ⟨by decide, by decide⟩, _, _, rfl, rfl, ?_⟩
      refine genI (P := fun v => gName 4 v _ _ _) (fun c0 => ?_)
      generalize hH1 : upd H a (HO.lst ([V.ref c, .int t, .int l].set 1 (.int (t + 1)))) = H1
      have a1 : H1 a = some (.lst [.ref c, .int (t + 1), .int l]) := by rw [← hH1]; exact upd_same
      have c1 : H1 c = some (.lst (cs.map V.int)) := by rw [← hH1, upd_ne (fun e => hac e.symm)]; exact h2
      have mv1 : Mv a H H1 := by rw [← hH1]; exact Mv.upd _ _ _
      refine ⟨_, rfl, a, _, 0, .ref c, rfl, rfl, .inl (.inl a1), rfl, Nat.zero_le _, fun p np => ne_nil (.inl (.inl (same_new np _ _ c1))) upd_same ?_⟩
      generalize hH2 : upd H1 p (HO.lst []) = H2
      have s2 : Same H1 H2 := by rw [← hH2]; exact same_new np
      have a2 := s2 _ _ a1
      have c2 := s2 _ _ c1
      have mv2 : Mv a H H2 := mv1.trans (Mv.of s2)
      refine ⟨_, rfl, cutI (R := fun z => tNext _ (List.set _ 4 (some (V.int z))) H2) c0 (fun _ r => r) (fun key e => ?_) (fun cell => ?_)⟩
      · obtain ⟨v, hv, ev⟩ : ∃ v, v ∈ cs.map V.int ∧ atI (cs.map V.int) (t.fmod ((cs.map V.int).length : Int)) = some v := by
          have z : (0 : Int) < (cs.map V.int).length := by
            cases cs with
            | nil => cases e
            | cons x xs => simp
          exact at_lt (Int.fmod_nonneg_of_pos _ z) (Int.fmod_lt_of_pos _ z)
        obtain ⟨i, _, rfl⟩ := List.mem_map.mp hv
        have z : ((cs.map V.int).length : Int) ≠ 0 := by
          cases cs with
          | nil => cases e
          | cons x xs => simp; omega
        refine ⟨_, rfl, a, _, 0, .ref c, rfl, rfl, .inl (.inl a2), rfl, ?_⟩
        refine ⟨_, rfl, .inl ⟨t, rfl, ?_⟩⟩
        refine ⟨_, rfl, a, _, 0, .ref c, rfl, rfl, .inl (.inl a2), rfl, c, _, rfl, .inl (.inl (.inl c2)), ?_⟩
        exact ⟨t, _, rfl, rfl, z, c, _, _, _, rfl, rfl, .inl (.inl c2), ev, key i⟩
      · refine ⟨_, rfl, _, rfl, a, _, 0, .ref c, rfl, rfl, .inl (.inl a2), rfl, c, _, rfl, .inl (.inl (.inl c2)), _, _, rfl, rfl, _, rfl, cutP (fun _ r => iteF r) (fun r e => ?_) ?_⟩
        · refine ⟨_, rfl, cell, rfl, _, _, rfl, rfl, ⟨by decide, by decide, by decide⟩, _, _, rfl, rfl, _, rfl, iteC (fun e2 => ?_) (fun e2 => r)⟩
          refine ⟨_, rfl, cell, rfl, _, _, rfl, rfl, ⟨by decide, by decide, by decide⟩, _, _, rfl, rfl, _, _, rfl, rfl, .inl ⟨by decide, by decide⟩, _, rfl, _, _, rfl, rfl, .inr ⟨_, rfl, _, _, rfl, rfl, ?_⟩⟩
          refine genI (P := fun v => gName 2 v _ _ _) (fun rest => ?_)
          refine ⟨_, rfl, .inl ⟨rest, rfl, _, rfl, _, _, rfl, rfl, ⟨m0, mS⟩, _, rfl, a, _, 2, 2, rfl, rfl, a2, rfl, ?_⟩⟩
          refine ⟨_, rfl, .inl ⟨rest, rfl, _, rfl, _, _, rfl, rfl, m0, ?_⟩⟩
          exact fin _ (t + 1) _ _ (mv2.trans (Mv.upd _ _ _)) upd_same (by omega) (by omega)
        · refine ⟨_, rfl, .inl ⟨cell, rfl, _, _, rfl, rfl, (by show (_ : Int) ≠ 0; decide), _, rfl, _, _, rfl, rfl, .inl ⟨by decide, by decide⟩, _, _, rfl, rfl, _, _, rfl, rfl, _, _, rfl, rfl, ⟨by decide, by decide, bnd5 (by decide) (by decide) h4 (by omega) (by decide) (by decide) (by decide) (by decide)⟩, .inl ⟨_, rfl, _, _, rfl, rfl, (by show (_ : Int) ≠ 0; decide), ?_⟩⟩⟩
          refine genIB (P := fun v => gName 5 v _ _ _) (by decide) (fun m1 m1a m1b => ?_)
          have m1c : m1 ≤ 4294967296 := Int.le_trans (Int.le_of_lt m1b) (by decide)
          refine ⟨_, rfl, _, rfl, _, _, rfl, rfl, .inl ⟨by decide, by decide⟩, _, _, rfl, rfl, _, _, rfl, rfl, .inl ⟨by omega, by omega⟩, _, rfl, _, _, rfl, rfl, .inl ⟨by decide, by decide⟩, _, rfl, _, _, rfl, rfl, .inr ⟨by omega, by omega⟩, _, _, rfl, rfl, _, _, rfl, rfl, _, _, rfl, rfl, ⟨by decide, by decide, bnd3 m1a m1c h4 (by omega) (by decide) (by decide) (by decide) (by decide) (by decide) (by decide)⟩, .inl ⟨_, rfl, _, _, rfl, rfl, (by show (_ : Int) ≠ 0; decide), ?_⟩⟩
          refine genI (P := fun v => gName 5 v _ _ _) (fun m2 => ?_)
          refine ⟨_, rfl, _, _, rfl, rfl, ⟨by decide, by decide⟩, .inl ⟨_, rfl, _, rfl, _, _, rfl, rfl, m0, ?_⟩⟩
          exact fin _ (t + 1) _ _ mv2 a2 (by omega) (by omega)
/-- one of some things -/
def sp_law_one_of (K : PySem.W.Frag) : Sp := fun vs H Q _ => ∃ (a b c : Addr) (xs : List V) (n : Nat), vs = [.ref a, .ref b] ∧ SqL K H b xs ∧ xs ≠ [] ∧ xs.length ≤ 1000000 ∧ Wh H a c n ∧ n < 1000000 ∧ (∀ H', Mv a H H' → SqL K H' b xs) ∧ ∀ (v : V) (H' : Hp), v ∈ xs → Mv a H H' → Wh H' a c (n + 1) → Q v H'
theorem ok_law_one_of : FnOk P w K mg base CX0 2 T.f_law_one_of T.fd_law_one_of ["crock", "some"] (sp_law_one_of K) := by
  refine T.F_law_one_of.ok sc_law_one_of (fun vs H Q E h => ?_) (fun cdv A outer s H vs Q E hr h => ?_)
  · obtain ⟨a, b, c, xs, n, rfl, _⟩ := h
    rfl
  · obtain ⟨a, b, c, xs, n, rfl, hs, hx, hl, hw, hn, hm, q⟩ := h
    refine ⟨_, (pss_one (ps_ret (pe_ix ix_list (pv 1) (pe_call (ok_law_ladle T) (hr.mono (by decide)) (by rfl) T.g_law_ladle T.F_law_ladle.kp T.b_law_ladle .nil pass0 (pa_cons (pv 0) (pa_cons (pe_callB call_len_seq (by rfl) T.m_len PySem.boot_len (pa_cons (pv 1) pa_nil)) pa_nil))) (fun _ _ => rfl)))), ?_⟩
    have z : 0 < xs.length := by
      cases xs with
      | nil => exact absurd rfl hx
      | cons x t => simp
    refine ⟨_, rfl, _, rfl, _, rfl, b, xs, rfl, .inl hs, a, c, _, n, rfl, by omega, by omega, hw, hn, fun r H' r0 r1 mv w' => ?_⟩
    obtain ⟨v, hv, ev⟩ := at_lt r0 r1
    exact ⟨b, xs, r, v, rfl, rfl, hm _ mv, ev, q v H' hv mv w'⟩
def sp_law_crock (K : PySem.W.Frag) : Sp := fun vs H Q _ => ∃ (b : Addr) (xs : List Int), vs = [.ref b] ∧ SqL K H b (xs.map V.int) ∧ ∀ (a c : Addr) (H' : Hp), H a = none → Same H H' → Wh H' a c 0 → Q (.ref a) H'
theorem ok_law_crock : FnOk P w K mg base CX0 1 T.f_law_crock T.fd_law_crock ["script"] (sp_law_crock K) := by
  refine T.F_law_crock.ok sc_law_crock (fun vs H Q E h => ?_) (fun cdv A outer s H vs Q E hr h => ?_)
  · obtain ⟨b, xs, rfl, _⟩ := h
    rfl
  · obtain ⟨b, xs, rfl, hs, q⟩ := h
    refine ⟨_, (pss_one (ps_ret (pe_lst (pa_cons (pe_lc (own := [("cell", 1)]) rfl sc_law_crock.nd (pi_list (pe_slice sl_list (pv 0) po_none (po_some pe_int))) (blkOk_by (own := [("cell", 1)]) (N := ["script", "cell"]) (sc := defScope s_law_crock) (by decide +kernel)) (fun _ _ _ _ _ => (pg_name (i := 1) sc_law_crock.nd rfl (.inl rfl))) (fun _ _ _ _ _ => pts_nil) (fun _ _ _ _ _ => (pe_callTy call_int1 (by rfl) T.m_int (by decide +kernel) (pa_cons (pv 1) pa_nil)))) (pa_cons pe_int (pa_cons pe_int pa_nil)))))), ?_⟩
    refine ⟨_, rfl, _, rfl, b, _, rfl, hs, fun p np => ?_⟩
    have hc : cutV (xs.map V.int) none (some 60) = (xs.take 60).map V.int := by
      rw [List.map_take]
      exact cut_to _ 60
    rw [hc]
    refine ⟨p, rfl, ⟨_, .inl (.inl upd_same)⟩, fun D nD => lc_mapL id (.inl (.inl upd_same)) nD (by rw [List.length_map, List.length_take]; omega) (fun i x Hc Q' R' hx e1 q' => ?_) (fun Hc e1 hD => ?_)⟩
    · obtain ⟨j, _, rfl⟩ := List.mem_map.mp (List.mem_of_getElem? hx)
      refine ⟨rfl, ?_⟩
      refine iteT (B := True) ?_
      exact ⟨_, rfl, .inl ⟨j, rfl, q' Hc (Same.refl _)⟩⟩
    · rw [List.map_id] at hD
      have s0 := (same_new np).trans e1
      refine ⟨by show 3 ≤ sizeLine; decide, fun a na => q a D _ (s0.free na) (s0.trans (same_new na)) ⟨xs.take 60, 0, 0, upd_same, (same_new na) _ _ hD, ?_, by omega, by omega⟩⟩
      rw [List.length_take]
      omega
/-! ### what the law draws -/
theorem kit_int : kitB "int" "int" = some true := by decide +kernel
theorem kit_bl : kitB "bool" "int" = some true := by decide +kernel
def sp_law_is_number (K : PySem.W.Frag) : Sp := fun vs H Q _ => ∃ (x : V), vs = [x] ∧ KindIs K H x ∧ Q (.bl (isIntV x)) H
theorem ok_law_is_number : FnOk P w K mg base CX0 1 T.f_law_is_number T.fd_law_is_number ["value"] (sp_law_is_number K) := by
  refine T.F_law_is_number.ok sc_law_is_number (fun vs H Q E h => ?_) (fun cdv A outer s H vs Q E hr h => ?_)
  · obtain ⟨x, rfl, _⟩ := h
    rfl
  · obtain ⟨x, rfl, hk, q⟩ := h
    refine ⟨_, (pss_one (ps_ret (pe_and (pe_callB call_isi (by rfl) T.m_isinstance (by decide +kernel) (pa_cons (pv 0) (pa_cons (pe_bltn (v := .ty "int") (by rfl) T.m_int (by decide +kernel) rfl) pa_nil))) (pe_and (pe_cmpR op_notBI (pv 0) pe_bl (nomark _)) (pe_one (pe_cmpR op_notBI (pv 0) pe_bl (nomark _))))))), ?_⟩
    rcases hk with ⟨i, rfl⟩ | ⟨b, rfl⟩ | ⟨e, n, h1, h2⟩
    · refine ⟨_, rfl, _, _, _, _, true, rfl, .ty _, .base (.int i), kit_ty kit_int, _, rfl, ?_⟩
      refine iteT (B := _) ?_
      refine ⟨_, rfl, true, rfl, .inl ⟨i, rfl, _, rfl, ?_⟩⟩
      refine iteT (B := _) ?_
      exact ⟨_, rfl, false, rfl, .inl ⟨i, rfl, q⟩⟩
    · refine ⟨_, rfl, _, _, _, _, true, rfl, .ty _, .base (.bl b), kit_ty kit_bl, _, rfl, ?_⟩
      refine iteT (B := _) ?_
      refine ⟨_, rfl, true, rfl, .inr ⟨b, rfl, _, rfl, ?_⟩⟩
      cases b with
      | true => exact iteF q
      | false =>
        refine iteT (B := _) ?_
        exact ⟨_, rfl, false, rfl, .inr ⟨false, rfl, q⟩⟩
    · rw [e] at q
      exact ⟨x, rfl, x, _, _, _, false, rfl, .ty _, h1, kit_ty h2, _, rfl, iteF q⟩
theorem core_mvc {a : Addr} {H H' : Hp} (m : Mv a H H') : Same (core a H) (core a H') := fun b o h => core_at (m b o (of_core h).1 (of_core h).2.1) (of_core h).1 (of_core h).2.2
def sp_law_value (K : PySem.W.Frag) : Sp := fun vs H Q _ => ∃ (a c : Addr) (n : Nat), vs = [.ref a] ∧ Wh H a c n ∧ n < 900000 ∧ ∀ (v : V) (H' : Hp), Mv a H H' → Wh H' a c (n + 5) → AnyV K (core a H') v → Q v H'
theorem ok_law_value : FnOk P w K mg base CX0 3 T.f_law_value T.fd_law_value ["crock"] (sp_law_value K) := by
  refine T.F_law_value.ok sc_law_value (fun vs H Q E h => ?_) (fun cdv A outer s H vs Q E hr h => ?_)
  · obtain ⟨a, c, n, rfl, _⟩ := h
    rfl
  · obtain ⟨a, c, n, rfl, wh, hn, q⟩ := h
    refine ⟨_, (pss_cons (ps_set (i := 1) sc_law_value.nd rfl (.inl rfl) (pe_call (ok_law_one_of T) (hr.mono (by decide)) (by rfl) T.g_law_one_of T.F_law_one_of.kp T.b_law_one_of .nil pass0 (pa_cons (pv 0) (pa_cons (pe_lst (pa_cons (pe_op op_sub (pe_call (ok_law_ladle T) (hr.mono (by decide)) (by rfl) T.g_law_ladle T.F_law_ladle.kp T.b_law_ladle .nil pass0 (pa_cons (pv 0) (pa_cons pe_int pa_nil))) pe_int) (pa_cons (pe_op op_add (pe_op op_pow pe_int pe_int) (pe_call (ok_law_ladle T) (hr.mono (by decide)) (by rfl) T.g_law_ladle T.F_law_ladle.kp T.b_law_ladle .nil pass0 (pa_cons (pv 0) (pa_cons pe_int pa_nil)))) (pa_cons (pe_un un_neg (pe_call (ok_law_ladle T) (hr.mono (by decide)) (by rfl) T.g_law_ladle T.F_law_ladle.kp T.b_law_ladle .nil pass0 (pa_cons (pv 0) (pa_cons pe_int pa_nil)))) pa_nil)))) pa_nil))))
    (pss_cons (ps_set (i := 2) sc_law_value.nd rfl (.inl rfl) (pe_lst (pa_cons (pv 1) (pa_cons (pe_callTy call_str_int (by rfl) T.m_str (by decide +kernel) (pa_cons (pv 1) pa_nil)) (pa_cons pe_non (pa_cons pe_bl (pa_cons pe_bl (pa_cons (pe_lst (pa_cons (pv 1) pa_nil)) (pa_cons (pe_tup (pa_cons (pv 1) (pa_cons pe_int pa_nil))) (pa_cons (pe_disp (pps_cons (pv 1) (pe_lst (pa_cons (pv 1) pa_nil)) pps_nil) (by rfl) (by rfl) (fun z => by cases z) (by decide)) (pa_cons pe_str (pa_cons (pe_lst pa_nil) (pa_cons (pe_tup pa_nil) (pa_cons (pe_lst (pa_cons (pe_lst (pa_cons (pv 1) pa_nil)) (pa_cons (pe_tup (pa_cons pe_int (pa_cons (pe_lst (pa_cons pe_int pa_nil)) pa_nil))) pa_nil))) (pa_cons (pe_lst (pa_cons pe_bl (pa_cons pe_int pa_nil))) (pa_cons pe_str pa_nil))))))))))))))))
    (pss_one (ps_ret (pe_call (ok_law_one_of T) (hr.mono (by decide)) (by rfl) T.g_law_one_of T.F_law_one_of.kp T.b_law_one_of .nil pass0 (pa_cons (pv 0) (pa_cons (pv 2) pa_nil))))))), ?_⟩
    refine ⟨_, rfl, _, rfl, a, c, 9, n, rfl, by decide, by decide, wh, by omega, fun r1 H1 r10 r11 m1 w1 => ⟨_, _, rfl, rfl, _, _, rfl, rfl, ⟨by decide, by decide, by decide⟩, _, rfl, a, c, 9, _, rfl, by decide, by decide, w1, by omega, fun r2 H2 r20 r21 m2 w2 =>
      ⟨_, _, rfl, rfl, _, rfl, a, c, 1000, _, rfl, by decide, by decide, w2, by omega, fun r3 H3 r30 r31 m3 w3 => ⟨_, rfl, sz3, fun p np => ?_⟩⟩⟩⟩
    have pw := w3.ne np
    refine ⟨a, p, c, _, _, rfl, .inl (.inl upd_same), by simp, by show 3 ≤ 1000000; decide, w3.new np, by omega, fun H' m => .inl (.inl (m _ _ pw upd_same)), fun num H4 hnum m4 w4 => ?_⟩
    have mv4 := (((m1.trans m2).trans m3).new (o := .lst [V.int (r1 - 4), V.int (10 ^ (20 : Int).toNat + r2), V.int (-r3)]) np).trans m4
    obtain ⟨i, rfl, hi⟩ : ∃ i : Int, num = .int i ∧ i.natAbs < 2 ^ 80 := by
      simp only [List.mem_cons, List.not_mem_nil, or_false] at hnum
      rcases hnum with rfl | rfl | rfl
      · exact ⟨_, rfl, by omega⟩
      · refine ⟨_, rfl, ?_⟩
        have h : (10 : Int) ^ (20 : Int).toNat = 100000000000000000000 := by decide
        rw [h]
        omega
      · exact ⟨_, rfl, by omega⟩
    have hlog : i.natAbs.log2 < 1920 := by
      by_cases h0 : i.natAbs = 0
      · rw [h0]
        decide
      · exact (Nat.log2_lt h0).mpr (Nat.lt_of_lt_of_le hi (Nat.pow_le_pow_right (by decide : 0 < 2) (show 80 ≤ 1920 by omega)))
    clear hnum m1 m2 m3 m4 np w1 w2 w3 pw
    refine ⟨_, rfl, _, rfl, i, rfl, hlog, _, rfl, sz1, fun q1 n1 => ⟨_, rfl, sz2, fun q2 n2 q3 n3 => ⟨_, rfl, _, rfl, sz1, fun q4 n4 => ⟨same_new n4 _ _ upd_same, [(.inl i, .ref q4)], rfl, (show 1 ≤ 15 by decide), Nat.zero_le _, fun q5 n5 => ⟨Nat.zero_le _, fun q6 n6 => ⟨_, rfl, sz1, fun q7 n7 => ⟨sz1, fun q8 n8 => ⟨sz2, fun q9 n9 => ⟨sz2, fun q10 n10 => ⟨sz2, fun q11 n11 => ⟨(show 14 ≤ sizeLine by decide), fun q12 n12 => ?_⟩⟩⟩⟩⟩⟩⟩⟩⟩⟩⟩
    have s1 := same_new (o := HO.lst [V.int i]) n1
    have s2 := same_new (o := HO.tup [V.int i, V.int 2]) n2
    have s3 := same_set (o := HO.dK (mergeK [] [(.inl i, .ref q4)])) ((same_new (o := HO.dK []) n3).trans (same_new (o := HO.lst [V.int i]) n4)) n3
    have s5 := same_new (o := HO.lst []) n5
    have s6 := same_new (o := HO.tup []) n6
    have s7 := same_new (o := HO.lst [V.int i]) n7
    have s8 := same_new (o := HO.lst [V.int 2]) n8
    have s9 := same_new (o := HO.tup [V.int 1, V.ref q8]) n9
    have s10 := same_new (o := HO.lst [V.ref q7, V.ref q9]) n10
    have s11 := same_new (o := HO.lst [V.bl true, V.int 0]) n11
    have s12 := same_new (o := HO.lst [V.int i, V.str (Str.ofString (toString i)), V.non, V.bl true, V.bl false, V.ref q1, V.ref q2, V.ref q3, V.str "", V.ref q5, V.ref q6, V.ref q10, V.ref q11, V.str "[1]"]) n12
    have t11 := s11.trans s12
    have t10 := s10.trans t11
    have t9 := s9.trans t10
    have t8 := s8.trans t9
    have t7 := s7.trans t8
    have t6 := s6.trans t7
    have t5 := s5.trans t6
    have t3 := s3.trans t5
    have t2 := s2.trans t3
    have u1 := w4.same s1
    have u2 := u1.same s2
    have u3 := u2.same s3
    have u5 := u3.same s5
    have u6 := u5.same s6
    have u7 := u6.same s7
    have u8 := u7.same s8
    have u9 := u8.same s9
    have u10 := u9.same s10
    have u11 := u10.same s11
    have u12 := u11.same s12
    have g1 := core_at (a := a) (t2 _ _ upd_same) (w4.ne n1) (fun ps z => by cases z)
    have g2 := core_at (a := a) (t3 _ _ upd_same) (u1.ne n2) (fun ps z => by cases z)
    have g3 := core_at (a := a) (t5 _ _ upd_same) (u2.ne n3) (fun ps z => by cases z)
    have g5 := core_at (a := a) (t6 _ _ upd_same) (u3.ne n5) (fun ps z => by cases z)
    have g6 := core_at (a := a) (t7 _ _ upd_same) (u5.ne n6) (fun ps z => by cases z)
    have g7 := core_at (a := a) (t8 _ _ upd_same) (u6.ne n7) (fun ps z => by cases z)
    have g9 := core_at (a := a) (t10 _ _ upd_same) (u8.ne n9) (fun ps z => by cases z)
    have g10 := core_at (a := a) (t11 _ _ upd_same) (u9.ne n10) (fun ps z => by cases z)
    have g11 := core_at (a := a) (s12 _ _ upd_same) (u10.ne n11) (fun ps z => by cases z)
    have d12 := u11.ne n12
    refine ⟨_, rfl, _, rfl, a, q12, c, _, _, rfl, .inl (.inl upd_same), by simp, by show 14 ≤ 1000000; decide, u12, by omega, fun H' m => .inl (.inl (m _ _ d12 upd_same)), fun v H' hv m5 w5 => ?_⟩
    have mvF := ((mv4.trans (Mv.of (s1.trans t2))).trans m5)
    refine q v H' mvF w5 ?_
    refine AnyV.same (core_mvc m5) ?_
    simp only [List.mem_cons, List.not_mem_nil, or_false] at hv
    rcases hv with rfl | rfl | rfl | rfl | rfl | rfl | rfl | rfl | rfl | rfl | rfl | rfl | rfl | rfl
    · exact .int i
    · exact any_text _ (Nat.le_trans (int_text_len_1921 hlog) (by decide)) (ok_ofString _)
    · exact .non
    · exact .bl true
    · exact .bl false
    · exact .lst (.inl (.inl g1)) (show 1 ≤ 1000 by decide) (itms_cons (itm_int i) itms_nil)
    · exact .tup (.inl (.inl g2)) (show 2 ≤ 1000 by decide) (itms_cons (itm_int i) (itms_cons (itm_int 2) itms_nil))
    · exact .dk g3
    · exact .str [] (by decide) rfl
    · exact .lst (.inl (.inl g5)) (show 0 ≤ 1000 by decide) itms_nil
    · exact .tup (.inl (.inl g6)) (show 0 ≤ 1000 by decide) itms_nil
    · exact .lst (.inl (.inl g10)) (show 2 ≤ 1000 by decide) (itms_cons ⟨hasInt_lst (.inl (.inl g7)), kind_lst (.inl (.inl g7))⟩ (itms_cons ⟨hasInt_tup (.inl (.inl g9)), kind_tup (.inl (.inl g9))⟩ itms_nil))
    · exact .lst (.inl (.inl g11)) (show 2 ≤ 1000 by decide) (itms_cons (itm_bl true) (itms_cons (itm_int 0) itms_nil))
    · exact .str [91, 49, 93] (by decide) rfl
end
end K01
namespace K01
open PySem PySem.Spec PyProof.Rows L2 Kx SX LamX
section
variable {P : Program} {w : World} {K : PySem.W.Frag} {mg : Str → Option Value} {base : Heap} (T : Tx K mg)
def sp_law_string (K : PySem.W.Frag) : Sp := fun vs H Q _ => ∃ (a c : Addr) (n : Nat), vs = [.ref a] ∧ Wh H a c n ∧ n < 900000 ∧ ∀ (l : List Nat) (H' : Hp), l.length ≤ 100 → cdC l → Mv a H H' → Wh H' a c (n + 100) → Q (.str (S l)) H'
theorem ok_law_string : FnOk P w K mg base CX0 3 T.f_law_string T.fd_law_string ["crock"] (sp_law_string K) := by
  refine T.F_law_string.ok sc_law_string (fun vs H Q E h => ?_) (fun cdv A outer s H vs Q E hr h => ?_)
  · obtain ⟨a, c, n, rfl, _⟩ := h
    rfl
  · obtain ⟨a, c, n, rfl, wh, hn, q⟩ := h
    refine ⟨_, (pss_cons (ps_set (i := 1) sc_law_string.nd rfl (.inl rfl) (pe_call (ok_law_one_of T) (hr.mono (by decide)) (by rfl) T.g_law_one_of T.F_law_one_of.kp T.b_law_one_of .nil pass0 (pa_cons (pv 0) (pa_cons (pe_lst (pa_cons pe_str (pa_cons pe_str (pa_cons pe_str (pa_cons pe_str (pa_cons pe_str (pa_cons pe_str (pa_cons pe_str (pa_cons pe_str (pa_cons pe_str (pa_cons pe_str (pa_cons pe_str pa_nil)))))))))))) pa_nil))))
    (pss_cons (ps_set (i := 2) sc_law_string.nd rfl (.inr rfl) (pe_call (ok_law_one_of T) (hr.mono (by decide)) (by rfl) T.g_law_one_of T.F_law_one_of.kp T.b_law_one_of .nil pass0 (pa_cons (pv 0) (pa_cons (pe_lst (pa_cons pe_str (pa_cons pe_str (pa_cons pe_str (pa_cons pe_str (pa_cons pe_str pa_nil)))))) pa_nil))))
    (pss_cons (ps_set (i := 4) sc_law_string.nd rfl (.inl rfl) (pe_join pe_str (pe_lc (own := [("at", 3)]) rfl sc_law_string.nd (pi_range1 (by rfl) T.m_range (pa_cons (pe_call (ok_law_one_of T) (hr.mono (by decide)) (by rfl) T.g_law_one_of T.F_law_one_of.kp T.b_law_one_of .nil pass0 (pa_cons (pv 0) (pa_cons (pe_lst (pa_cons pe_int (pa_cons pe_int (pa_cons pe_int (pa_cons pe_int (pa_cons pe_int (pa_cons pe_int (pa_cons pe_int (pa_cons pe_int pa_nil))))))))) pa_nil))) pa_nil)) (blkOk_by (own := [("at", 3)]) (N := ["crock", "odd", "signs", "at", "found"]) (sc := defScope s_law_string) (by decide +kernel)) (fun _ _ _ _ _ => (pg_name (i := 3) sc_law_string.nd rfl (.inl rfl))) (fun _ _ _ _ _ => pts_nil) (fun _ _ _ _ _ => (pe_call (ok_law_one_of T) (hr.mono (by decide)) (by rfl) T.g_law_one_of T.F_law_one_of.kp T.b_law_one_of .nil pass0 (pa_cons (pv 0) (pa_cons (pe_callTy (call_list_txt rfl) (by rfl) T.m_list (by decide +kernel) (pa_cons (pv 2) pa_nil)) pa_nil)))))))
    (pss_cons (ps_set (i := 3) sc_law_string.nd rfl (.inl rfl) (pe_call (ok_law_ladle T) (hr.mono (by decide)) (by rfl) T.g_law_ladle T.F_law_ladle.kp T.b_law_ladle .nil pass0 (pa_cons (pv 0) (pa_cons (pe_op op_add (pe_callB call_len_str (by rfl) T.m_len PySem.boot_len (pa_cons (pv 4) pa_nil)) pe_int) pa_nil))))
    (pss_one (ps_ret (pe_op op_add_str (pe_op op_add_str (pe_slice C8.sl_txt (pv 4) po_none (po_some (pv 3))) (pv 1)) (pe_slice C8.sl_txt (pv 4) (po_some (pv 3)) po_none)))))))), ?_⟩
    refine ⟨_, rfl, (show 11 ≤ sizeLine by decide), fun p1 n1 => ?_⟩
    have d1 := wh.ne n1
    refine ⟨a, p1, c, _, _, rfl, .inl (.inl upd_same), by simp, by decide, wh.new n1, by omega, fun H' m => .inl (.inl (m _ _ d1 upd_same)), fun odd H1 hodd m1 w1 => ?_⟩
    obtain ⟨o, rfl, ho, vo⟩ : ∃ o : List Nat, odd = .str (S o) ∧ o.length ≤ 1 ∧ cdC o := by
      simp only [List.mem_cons, List.not_mem_nil, or_false] at hodd
      rcases hodd with rfl | rfl | rfl | rfl | rfl | rfl | rfl | rfl | rfl | rfl | rfl
      · exact ⟨[], rfl, by decide, rfl⟩
      · exact ⟨[], rfl, by decide, rfl⟩
      · exact ⟨[], rfl, by decide, rfl⟩
      · exact ⟨[65], rfl, by decide, rfl⟩
      · exact ⟨[49], rfl, by decide, rfl⟩
      · exact ⟨[10], rfl, by decide, rfl⟩
      · exact ⟨[9], rfl, by decide, rfl⟩
      · exact ⟨[45], rfl, by decide, rfl⟩
      · exact ⟨[95], rfl, by decide, rfl⟩
      · exact ⟨[36], rfl, by decide, rfl⟩
      · exact ⟨[46], rfl, by decide, rfl⟩
    have mv1 : Mv a H H1 := (Mv.of (same_new n1)).trans m1
    clear hodd m1 n1 d1
    refine ⟨_, rfl, (show 5 ≤ sizeLine by decide), fun p2 n2 => ?_⟩
    have d2 := w1.ne n2
    refine ⟨a, p2, c, _, _, rfl, .inl (.inl upd_same), by simp, by decide, w1.new n2, by omega, fun H' m => .inl (.inl (m _ _ d2 upd_same)), fun sg H2 hsg m2 w2 => ?_⟩
    obtain ⟨g, rfl, hg, hg0, vg⟩ : ∃ g : List Nat, sg = .str (S g) ∧ g.length ≤ 26 ∧ g ≠ [] ∧ cdC g := by
      simp only [List.mem_cons, List.not_mem_nil, or_false] at hsg
      rcases hsg with rfl | rfl | rfl | rfl | rfl
      · exact ⟨[97, 98, 32], rfl, by decide, by simp, rfl⟩
      · exact ⟨[97, 98, 99, 100, 101, 102, 103, 104, 105, 106, 107, 108, 109, 110, 111, 112, 113, 114, 115, 116, 117, 118, 119, 120, 121, 122], rfl, by decide, by simp, rfl⟩
      · exact ⟨[120, 121, 122], rfl, by decide, by simp, rfl⟩
      · exact ⟨[32, 32, 97], rfl, by decide, by simp, rfl⟩
      · exact ⟨[109, 110, 111, 112, 32], rfl, by decide, by simp, rfl⟩
    have mv2 : Mv a H H2 := (mv1.new n2).trans m2
    clear hsg m2 n2 d2 mv1 w1
    refine ⟨⟨_, rfl⟩, _, rfl, (show 8 ≤ sizeLine by decide), fun p3 n3 => ?_⟩
    have d3 := w2.ne n3
    refine ⟨a, p3, c, _, _, rfl, .inl (.inl upd_same), by simp, by decide, w2.new n3, by omega, fun H' m => .inl (.inl (m _ _ d3 upd_same)), fun kv H3 hkv m3 w3 => ?_⟩
    obtain ⟨k, rfl, k0, k1⟩ : ∃ k : Int, kv = .int k ∧ 0 ≤ k ∧ k ≤ 30 := by
      simp only [List.mem_cons, List.not_mem_nil, or_false] at hkv
      rcases hkv with rfl | rfl | rfl | rfl | rfl | rfl | rfl | rfl <;> exact ⟨_, rfl, by decide, by decide⟩
    have mv3 : Mv a H H3 := (mv2.new n3).trans m3
    clear hkv m3 n3 d3 mv2 w2
    refine ⟨k, rfl, by omega, by omega, fun D nD => lc_range (lo := 0) (n := k.toNat) (fun j H' => ∃ xs : List Nat, H' D = some (.lst (signsV xs)) ∧ Mv a H3 H' ∧ Wh H' a c (n + 3 + j) ∧ xs.length = j ∧ cdC xs)
      ⟨[], upd_same, Mv.of (same_new nD), w3.new nD, rfl, rfl⟩ (fun j Hd hj h => ?_) (fun Hd h => ?_)⟩
    · obtain ⟨xs, hD, m4, w4, lx, vx⟩ := h
      refine ⟨rfl, ?_⟩
      refine iteT (B := True) ?_
      refine ⟨_, rfl, _, rfl, g, rfl, by omega, fun p4 n4 => ?_⟩
      have d4 := w4.ne n4
      have lg : (signsV g).length = g.length := List.length_map ..
      refine ⟨a, p4, c, signsV g, _, rfl, .inl (.inl upd_same), fun e => hg0 (by rw [e] at lg; simp at lg; exact List.length_eq_zero_iff.mp lg.symm), by omega, w4.new n4, by omega, fun H' m => .inl (.inl (m _ _ d4 upd_same)), fun v H5 hv m5 w5 => ?_⟩
      obtain ⟨s1, hs1, rfl⟩ := in_signs hv
      have mm : Mv a Hd H5 := (Mv.of (same_new n4)).trans m5
      have hDa := w3.ne nD
      refine ⟨_, mm _ _ hDa hD, ?_, xs ++ [s1], ?_, ?_, ?_, ?_, vx.app (vg.sub fun c hc => by rw [List.mem_singleton.mp hc]; exact hs1)⟩
      · have e : (signsV xs).length = j := (List.length_map ..).trans lx
        rw [e]
        exact Nat.lt_of_lt_of_le (show j < 31 by omega) (by decide)
      · rw [upd_same]
        unfold signsV
        rw [List.map_append]
        rfl
      · intro b o' nb h
        rw [upd_ne (ne_of_none h nD)]
        exact (m4.trans mm) b o' nb h
      · exact (w5.lt (show n + 3 + j + 1 ≤ n + 3 + (j + 1) by omega)).set hDa (w3.nc nD)
      · rw [List.length_append, lx]
        rfl
    · obtain ⟨xs, hD, m4, w4, lx, vx⟩ := h
      have mv4 := mv3.trans m4
      rw [signs_map] at hD
      refine ⟨"", D, xs.map fun c => S [c], rfl, rfl, .inl (.inl (.inl hD)), ?_, ?_⟩
      · rw [sum_signs, List.length_map]
        show xs.length + xs.length * 0 ≤ 16777216
        omega
      rw [join_signs]
      refine ⟨_, rfl, _, rfl, S xs, rfl, by rw [S_len]; exact Nat.le_trans (show xs.length ≤ 1000 by omega) (by decide), _, _, rfl, rfl, a, c, _, _, rfl, by omega, by rw [S_len]; omega, w4, by omega, fun at' H6 a0 a1 m6 w6 => ?_⟩
      have lS : (S xs).length ≤ sizeLine := by rw [S_len]; exact Nat.le_trans (show xs.length ≤ 1000 by omega) (by decide)
      have sz : ∀ x y : List Nat, x.length ≤ 100 → y.length ≤ 100 → (S x).length + (S y).length ≤ sizeLine := fun x y h1 h2 => by
        rw [S_len, S_len]
        exact Nat.le_trans (show _ ≤ 1000 by omega) (by decide)
      refine ⟨_, rfl, _, rfl, _, rfl, S xs, rfl, lS, ?_⟩
      rw [SX.slice_to a0]
      have h1 : (xs.take at'.toNat).length ≤ 30 := by
        rw [List.length_take]
        omega
      have h2 : (xs.drop at'.toNat).length ≤ 30 := by
        rw [List.length_drop]
        omega
      refine ⟨_, rfl, S (xs.take at'.toNat), S o, rfl, rfl, sz _ _ (by omega) (by omega), ?_⟩
      rw [S_cat]
      refine ⟨_, rfl, _, rfl, _, rfl, S xs, rfl, lS, ?_⟩
      rw [SX.slice_from a0]
      refine ⟨S (xs.take at'.toNat ++ o), S (xs.drop at'.toNat), rfl, rfl, sz _ _ (by rw [List.length_append]; omega) (by omega), ?_⟩
      rw [S_cat]
      exact q _ H6 (by rw [List.length_append, List.length_append]; omega) (((vx.sub fun c hc => List.mem_of_mem_take hc).app vo).app (vx.sub fun c hc => List.mem_of_mem_drop hc)) (mv4.trans m6) (w6.lt (by omega))
end
end K01
namespace K01
open PySem PySem.Spec PyProof.Rows L2 Kx SX LamX
section
variable {P : Program} {w : World} {K : PySem.W.Frag} {mg : Str → Option Value} {base : Heap} (T : Tx K mg)
def kindsV (o : Option (List Nat)) : List V := [.bl (o.elim false wordB), .bl (o.elim false signB), .bl (o.elim false textB)]
def notLow (c : Nat) : Bool := !low c
theorem in_letters (c : Nat) : decide (c ∈ (Str.ofString "abcdefghijklmnopqrstuvwxyz").cps.toList) = low c := by
  have e : (Str.ofString "abcdefghijklmnopqrstuvwxyz").cps.toList = (List.range 26).map (· + 97) := by decide +kernel
  rw [e]
  unfold low
  by_cases h1 : 97 ≤ c
  · by_cases h2 : c ≤ 122
    · rw [decide_eq_true h1, decide_eq_true h2, decide_eq_true (List.mem_map.mpr ⟨c - 97, List.mem_range.mpr (by omega), by omega⟩)]
      rfl
    · rw [decide_eq_true h1, decide_eq_false h2, decide_eq_false]
      · rfl
      · intro m
        obtain ⟨k, hk, e⟩ := List.mem_map.mp m
        have := List.mem_range.mp hk
        omega
  · rw [decide_eq_false h1, decide_eq_false]
    · rfl
    · intro m
      obtain ⟨k, hk, e⟩ := List.mem_map.mp m
      omega
def sp_law_kinds (K : PySem.W.Frag) : Sp := fun vs H Q _ => ∃ (x : V) (o : Option (List Nat)), vs = [x] ∧ StrIs K H x o ∧ (∀ l, o = some l → cdC l) ∧ ∀ (p : Addr) (H' : Hp), Same H H' → H' p = some (.lst (kindsV o)) → Q (.ref p) H'
theorem ok_law_kinds : FnOk P w K mg base CX0 1 T.f_law_kinds T.fd_law_kinds ["value"] (sp_law_kinds K) := by
  refine T.F_law_kinds.ok sc_law_kinds (fun vs H Q E h => ?_) (fun cdv A outer s H vs Q E hr h => ?_)
  · obtain ⟨x, o, rfl, _⟩ := h
    rfl
  · obtain ⟨x, o, rfl, hx, hc, q⟩ := h
    refine ⟨_, (pss_cons (ps_if (pt_not (pt_val (pe_callB call_isi (by rfl) T.m_isinstance (by decide +kernel) (pa_cons (pv 0) (pa_cons (pe_bltn (v := .ty "str") (by rfl) T.m_str (by decide +kernel) rfl) pa_nil)))))
      (pss_one (ps_ret (pe_lst (pa_cons pe_bl (pa_cons pe_bl (pa_cons pe_bl pa_nil))))))
      pss_nil)
    (pss_cons (ps_set (i := 1) sc_law_kinds.nd rfl (.inr rfl) pe_str)
    (pss_cons (ps_setLc (i := 3) (own := [("sign", 2)]) rfl sc_law_kinds.nd rfl rfl (sw_true rfl rfl rfl (by decide +kernel)) (pi_str (pv 0)) (blkOk_by (own := [("sign", 2)]) (N := ["value", "letters", "sign", "plain", "whole"]) (sc := defScope s_law_kinds) (by decide +kernel)) (fun _ _ _ _ _ => (pg_name (i := 2) sc_law_kinds.nd rfl (.inl rfl))) (fun _ _ _ _ _ => pts_one (pt_cmpR op_notIn_sign (pv 2) (pv 1) rfl)) (fun _ _ _ _ _ => (pv 2)))
    (pss_cons (ps_set (i := 4) sc_law_kinds.nd rfl (.inl rfl) (pe_and (pe_cmpR (op_eqD hr.units) (pe_lc (own := [("sign", 2)]) rfl sc_law_kinds.nd (pi_list (pv 3)) (blkOk_by (own := [("sign", 2)]) (N := ["value", "letters", "sign", "plain", "whole"]) (sc := defScope s_law_kinds) (by decide +kernel)) (fun _ _ _ _ _ => (pg_name (i := 2) sc_law_kinds.nd rfl (.inl rfl))) (fun _ _ _ _ _ => pts_one (pt_cmpR op_ne (pv 2) pe_str (nomark _))) (fun _ _ _ _ _ => (pv 2))) (pe_lst pa_nil) (nomark _)) (pe_one (pe_cmpR op_le (pe_callB call_len_str (by rfl) T.m_len PySem.boot_len (pa_cons (pv 0) pa_nil)) pe_int (nomark _)))))
    (pss_one (ps_ret (pe_lst (pa_cons (pe_and (pe_cmpR (op_eqD hr.units) (pv 3) (pe_lst pa_nil) (nomark _)) (pe_one (pe_chain op_le op_le pe_int (pe_callB call_len_str (by rfl) T.m_len PySem.boot_len (pa_cons (pv 0) pa_nil)) pe_int))) (pa_cons (pe_and (pv 4) (pe_one (pe_cmpR op_eq (pe_callB call_len_str (by rfl) T.m_len PySem.boot_len (pa_cons (pv 0) pa_nil)) pe_int (nomark _)))) (pa_cons (pv 4) pa_nil)))))))))), ?_⟩
    cases o with
    | none =>
      obtain ⟨n, h1, h2⟩ := hx
      refine ⟨x, rfl, x, _, _, _, false, rfl, .ty _, h1, kit_ty h2, _, rfl, ?_⟩
      refine iteT (B := _) ?_
      exact ⟨sz3, fun p np => q p _ (same_new np) upd_same⟩
    | some l =>
      obtain ⟨rfl, hl⟩ := hx
      have vl := hc l rfl
      refine ⟨_, rfl, _, _, _, _, true, rfl, .ty _, .base (.str (S l)), kit_ty kit_str, _, rfl, ?_⟩
      refine iteF (A := _) ?_
      dsimp only [tNext]
      refine go_seq ?_
      refine go_asg ?_
      dsimp only [tC, gName]
      refine go_seq ?_
      refine go_asg ?_
      have sz1 : ∀ c : Nat, (Str.ofString " ") = S [32] := fun _ => rfl
      refine lc_txt (l := l) (l.map fun c => if notLow c = true then some (V.str (S [c])) else none) (List.length_map ..) (by exact rfl) hl (fun i c z Hc Q' R' hc' hz e1 q' r' => ?_) (fun D Hc e1 hD => ?_)
      · obtain ⟨c', hc2, rfl⟩ := map_at hz
        rw [hc'] at hc2
        cases hc2
        refine ⟨rfl, _, rfl, _, rfl, c, _, rfl, rfl, _, rfl, ?_⟩
        rw [in_letters]
        cases hb : notLow c with
        | true =>
          have : low c = false := by
            unfold notLow at hb
            simpa using hb
          rw [this]
          refine iteT (B := _) ?_
          exact ⟨_, rfl, q' _ _ (by rw [hb]; rfl) (Same.refl _)⟩
        | false =>
          have : low c = true := by
            unfold notLow at hb
            simpa using hb
          rw [this]
          refine iteF (A := _) ?_
          exact r' _ (by rw [hb]; rfl) (Same.refl _)
      rw [filt_map] at hD
      dsimp only [gName]
      refine go_seq ?_
      refine go_asg ?_
      refine go_and ?_
      refine go_op ?_
      have vf : cdC (l.filter notLow) := vl.sub fun c hc => (List.mem_filter.mp hc).1
      have lf : (l.filter notLow).length ≤ 1000000 := Nat.le_trans (List.length_filter_le _ _) hl
      refine lc_lstk (a := D) (xs := signsV (l.filter notLow)) ((l.filter notLow).map fun c => if (c != 32) = true then some (V.str (S [c])) else none) (by unfold signsV; rw [List.length_map, List.length_map]) (by exact rfl) (.inl (.inl hD)) (by unfold signsV; rw [List.length_map]; exact lf) (fun i x z Hd Q' R' hx hz e2 q' r' => ?_) (fun D2 Hd e2 hD2 => ?_)
      · obtain ⟨c, hc1, rfl⟩ := map_at hz
        obtain ⟨c', hc2, rfl⟩ := map_at hx
        rw [hc1] at hc2
        cases hc2
        have e3 : (!decide (V.str (S [c]) = V.str (Str.ofString " "))) = (c != 32) := by
          by_cases hc : c = 32
          · subst hc
            rfl
          · have h1 : (c != 32) = true := by simpa using hc
            rw [h1, decide_eq_false]
            · rfl
            · intro e
              injection e with e
              have := congrArg (fun z : Str => z.cps.toList) e
              simp [S] at this
              exact hc (by have h2 : (Str.ofString " ").cps.toList = [32] := rfl; rw [h2] at this; simpa using this)
        refine ⟨rfl, _, rfl, rfl, _, rfl, ?_⟩
        rw [e3]
        cases hb : (c != 32) with
        | true =>
          refine iteT (B := _) ?_
          exact ⟨_, rfl, q' _ _ (by rw [hb]; rfl) (Same.refl _)⟩
        | false =>
          refine iteF (A := _) ?_
          exact r' _ (by rw [hb]; rfl) (Same.refl _)
      rw [filt_map] at hD2
      have vf2 : cdC ((l.filter notLow).filter (· != 32)) := vf.sub fun c hc => (List.mem_filter.mp hc).1
      refine ⟨Nat.zero_le _, fun p np => ?_⟩
      refine eq_nilD (k := 0) (.inl (.inl (same_new np _ _ hD2))) (dp_signs _) (pl_signs vf2) (by decide) upd_same ?_
      have eW : decide ((((l.filter notLow).filter (· != 32)).map fun c => PyData.str (S [c])) = []) = l.all sg := by
        rw [map_nil_dec, List.filter_filter, ← filt_empty]
        congr 2
        funext c
        unfold notLow sg
        by_cases h : c = 32
        · subst h; rfl
        · have : (c != 32) = true := by simpa using h
          rw [this, decide_eq_false h]
          simp
      rw [eW]
      have len1 : ∀ (σ : L2.St) (HH : Hp) (Q' : VK), σ[0]? = some (some (V.str (S l))) → Q' (.int (l.length : Nat)) HH → tCB (fun xs H Q => ∃ z : Str, xs = [V.str z] ∧ z.length ≤ sizeLine ∧ Q (V.int (z.length : Nat)) H) (tCons (tVar 0) tNil) σ HH Q' := fun σ HH Q' h q => by
        refine ⟨_, h, S l, rfl, by rw [S_len]; exact Nat.le_trans hl (by decide), ?_⟩
        rw [S_len]
        exact q
      refine and_join (decide (l.length ≤ 200000)) (fun _ Q' q' => ?_) ?_
      · refine go_op ?_
        refine len1 _ _ _ (by exact rfl) ?_
        refine ⟨_, _, rfl, rfl, ?_⟩
        have e : decide ((l.length : Int) ≤ 200000) = decide (l.length ≤ 200000) := by
          by_cases h : l.length ≤ 200000
          · rw [decide_eq_true h, decide_eq_true (by omega)]
          · rw [decide_eq_false h, decide_eq_false (by omega)]
        show Q' (V.bl (decide ((l.length : Int) ≤ 200000))) _
        rw [e]
        exact q'
      have eT : (l.all sg && decide (l.length ≤ 200000)) = textB l := Bool.and_comm ..
      rw [eT]
      dsimp only [gName]
      refine go_ret ?_
      refine go_lst ?_
      refine go_cons ?_
      refine go_and ?_
      refine go_op ?_
      refine ⟨_, rfl, ?_⟩
      refine ⟨Nat.zero_le _, fun p2 np2 => ?_⟩
      have hD3 := same_new (o := HO.lst []) np2 _ _ (same_new (o := HO.lst []) np _ _ (e2 _ _ hD))
      refine eq_nilD (k := 0) (.inl (.inl hD3)) (dp_signs _) (pl_signs vf) (by decide) upd_same ?_
      have eP : decide (((l.filter notLow).map fun c => PyData.str (S [c])) = []) = l.all low := by
        rw [map_nil_dec]
        exact filt_empty low l
      rw [eP]
      refine and_join (decide (1 ≤ l.length) && decide (l.length ≤ 12)) (fun _ Q' q' => ?_) ?_
      · refine go_chain ?_
        dsimp only [tC]
        refine len1 _ _ _ (by exact rfl) ?_
        refine ⟨_, _, rfl, rfl, ?_⟩
        have f1 : decide ((1 : Int) ≤ (l.length : Int)) = decide (1 ≤ l.length) := by
          by_cases h : 1 ≤ l.length
          · rw [decide_eq_true h, decide_eq_true (by omega)]
          · rw [decide_eq_false h, decide_eq_false (by omega)]
        have f2 : decide ((l.length : Int) ≤ 12) = decide (l.length ≤ 12) := by
          by_cases h : l.length ≤ 12
          · rw [decide_eq_true h, decide_eq_true (by omega)]
          · rw [decide_eq_false h, decide_eq_false (by omega)]
        refine ⟨_, rfl, ?_⟩
        refine and_b (fun h => ?_) (fun h => ?_)
        · rw [f1] at h
          rw [h] at q'
          refine ⟨_, _, rfl, rfl, ?_⟩
          show Q' (V.bl (decide ((l.length : Int) ≤ 12))) _
          rw [f2]
          exact q'
        · rw [f1] at h
          rw [h] at q'
          exact q'
      have eK1 : (l.all low && (decide (1 ≤ l.length) && decide (l.length ≤ 12))) = wordB l := by
        unfold wordB lowB
        have : (!l.isEmpty) = decide (1 ≤ l.length) := by
          cases l with
          | nil => rfl
          | cons c t => exact (decide_eq_true (by simp)).symm
        rw [this]
        cases l.all low <;> cases decide (1 ≤ l.length) <;> cases decide (l.length ≤ 12) <;> rfl
      rw [eK1]
      refine go_cons ?_
      refine go_and ?_
      refine ⟨_, rfl, ?_⟩
      refine and_join (decide (l.length = 1)) (fun _ Q' q' => ?_) ?_
      · refine go_op ?_
        refine len1 _ _ _ (by exact rfl) ?_
        refine ⟨rfl, ?_⟩
        have f1 : decide (V.int (l.length : Int) = V.int 1) = decide (l.length = 1) := by
          by_cases h : l.length = 1
          · rw [decide_eq_true h, decide_eq_true (by rw [h]; rfl)]
          · rw [decide_eq_false h, decide_eq_false (fun e => h (by injection e with e; omega))]
        show Q' (V.bl (decide (V.int (l.length : Int) = V.int 1))) _
        rw [f1]
        exact q'
      have eK2 : (textB l && decide (l.length = 1)) = signB l := by
        unfold textB signB
        by_cases h : l.length = 1
        · rw [decide_eq_true h, decide_eq_true (show l.length ≤ 200000 by omega), Bool.and_true]
        · rw [decide_eq_false h, Bool.and_false]
          rfl
      rw [eK2]
      refine ⟨_, rfl, (show 3 ≤ sizeLine by decide), fun p3 np3 => ?_⟩
      exact q p3 _ ((((e1.trans e2).trans (same_new np)).trans (same_new np2)).trans (same_new np3)) upd_same
end
end K01
namespace K01
open PySem PySem.Spec PyProof.Rows L2 Kx SX LamX
section
variable {P : Program} {w : World} {K : PySem.W.Frag} {mg : Str → Option Value} {base : Heap} (T : Tx K mg)
def sp_law_items (K : PySem.W.Frag) : Sp := fun vs H Q _ => ∃ l : List Nat, vs = [.str (S l)] ∧ l.length ≤ 1000000 ∧ ∀ (t a b : Addr) (H' : Hp), Same H H' → H' a = some (.tup (itV l)) → H' b = some (.tup (bgV l)) → H' t = some (.tup [.ref a, .ref b]) → Q (.ref t) H'
theorem ok_law_items : FnOk P w K mg base CX0 1 T.f_law_items T.fd_law_items ["text"] (sp_law_items K) := by
  refine T.F_law_items.ok sc_law_items (fun vs H Q E h => ?_) (fun cdv A outer s H vs Q E hr h => ?_)
  · obtain ⟨l, rfl, _⟩ := h
    rfl
  · obtain ⟨l, rfl, hl, q⟩ := h
    refine ⟨_, (pss_cons (ps_par (i := 1) (j := 2) rfl sc_law_items.nd rfl rfl (by decide) rfl rfl (pa_cons (pe_lst (pa_cons pe_str pa_nil)) (pa_cons (pe_lst (pa_cons pe_int pa_nil)) pa_nil)) (by rfl))
    (pss_cons (ps_for PassesOwn.never rfl (pi_enumS (by rfl) T.m_enumerate (pa_cons (pv 0) pa_nil)) (pg_tup rfl (pgs_cons (pg_name (i := 3) sc_law_items.nd rfl (.inl rfl)) (pgs_cons (pg_name (i := 4) sc_law_items.nd rfl (.inl rfl)) pgs_nil)))
      (pss_one (ps_if (pt_cmpR op_eq (pv 4) pe_str (nomark _))
        (pss_cons (ps_expr (pe_bm PySem.F.plainAttrs_list PySem.F.slot_list_append PySem.F.type_list_append mt_append (pv 1) (pa_cons pe_str pa_nil)))
        (pss_one (ps_expr (pe_bm PySem.F.plainAttrs_list PySem.F.slot_list_append PySem.F.type_list_append mt_append (pv 2) (pa_cons (pe_op op_add (pv 3) pe_int) pa_nil)))))
        (pss_one (ps_asg (pe_op op_add_str (pe_ix ix_list (pv 1) (pe_un un_neg pe_int) (fun _ _ => rfl)) (pv 4)) (pg_sub (pv 1) (pe_un un_neg pe_int) set_list))))))
    (pss_one (ps_ret (pe_tup (pa_cons (pe_callTy call_tuple_of (by rfl) T.m_tuple (by decide +kernel) (pa_cons (pv 1) pa_nil)) (pa_cons (pe_callTy call_tuple_of (by rfl) T.m_tuple (by decide +kernel) (pa_cons (pv 2) pa_nil)) pa_nil))))))), ?_⟩
    refine ⟨(show 1 ≤ sizeLine by decide), fun pa na => ⟨(show 1 ≤ sizeLine by decide), fun pb nb => ⟨_, _, rfl, ?_⟩⟩⟩
    have npab : pb ≠ pa := fun e => by
      rw [e, upd_same] at nb
      cases nb
    have nb' : H pb = none := by
      rw [upd_ne npab] at nb
      exact nb
    refine ⟨_, rfl, S l, rfl, for_it (walk_enumS (x := S l)) (fun i σ Hc => ∃ o3 o4 : Option V, σ = [some (.str (S l)), some (.ref pa), some (.ref pb), o3, o4] ∧ Same H Hc ∧ Hc pa = some (.lst (itV (l.take i))) ∧ Hc pb = some (.lst (bgV (l.take i))))
      ⟨none, none, rfl, (same_new na).trans (same_new nb), by rw [upd_ne (Ne.symm npab)]; exact upd_same, upd_same⟩ (fun _ _ _ _ _ => trivial) (fun i x σ Hc Hx hi p y => ?_) (fun σ Hc p => ?_)⟩
    · obtain ⟨o3, o4, rfl, e1, ha, hb⟩ := p
      obtain ⟨t, c, rfl, nt, rfl, hc⟩ := y
      have hc' : l[i]? = some c := by
        have : (S l).cps[i]? = l[i]? := by simp [S]
        rw [← this]
        exact hc
      have hil : i < l.length := by
        rcases Nat.lt_or_ge i l.length with h | h
        · exact h
        · rw [List.getElem?_eq_none h] at hc'
          cases hc'
      have e2 := e1.trans (same_new (o := HO.tup [.int (i : Nat), .str ⟨#[c]⟩]) nt)
      have ha2 := same_new (o := HO.tup [.int (i : Nat), .str ⟨#[c]⟩]) nt _ _ ha
      have hb2 := same_new (o := HO.tup [.int (i : Nat), .str ⟨#[c]⟩]) nt _ _ hb
      have tl : (l.take i).length = i := by rw [List.length_take]; omega
      refine ⟨t, _, rfl, .inl (.inl upd_same), rfl, _, _, rfl, _, _, rfl, rfl, ?_⟩
      refine go_if ?_
      refine ⟨_, rfl, rfl, _, rfl, ?_⟩
      show if (decide (V.str (S [c]) = V.str (Str.ofString " "))) = true then _ else _
      rw [is_blank]
      refine and_b (fun h => ?_) (fun h => ?_)
      · obtain rfl : c = 32 := of_decide_eq_true h
        refine ⟨_, rfl, .inl ⟨rfl, _, .inl (.inl ha2)⟩, pa, _, _, rfl, rfl, ha2, ?_, ?_⟩
        · unfold itV
          rw [List.length_map, items_length]
          have := List.count_le_length (a := 32) (l := l.take i)
          exact Nat.lt_of_le_of_lt (show _ ≤ 1000002 by omega) (by decide)
        have hb3 : upd (upd Hc t (.tup [.int (i : Nat), .str ⟨#[32]⟩])) pa (.lst (itV (l.take i) ++ [V.str ""])) pb = some (.lst (bgV (l.take i))) := by
          rw [upd_ne npab]
          exact hb2
        refine ⟨_, rfl, .inl ⟨rfl, _, .inl (.inl hb3)⟩, _, rfl, _, _, rfl, rfl, pb, _, _, rfl, rfl, hb3, ?_, ?_⟩
        · unfold bgV
          rw [List.length_map, beginsA_length, items_length]
          have := List.count_le_length (a := 32) (l := l.take i)
          exact Nat.lt_of_le_of_lt (show _ ≤ 1000002 by omega) (by decide)
        refine ⟨_, _, rfl, same_set (same_set e2 na) nb', ?_, ?_⟩
        · rw [upd_ne (Ne.symm npab), upd_same, take_succ hc']
          unfold itV
          rw [items_blank, List.map_append]
          rfl
        · rw [upd_same, take_succ hc']
          unfold bgV
          rw [items_blank, beginsA_snoc, reach_items, List.map_append, tl]
          have : ((0 + ([] : List Nat).length + i + 1 : Nat) : Int) = (i : Int) + 1 := by simp
          rw [List.map_cons, List.map_nil, this]
      · have hne : c ≠ 32 := of_decide_eq_false h
        obtain ⟨xs, x, hx1, hx2⟩ := items_sign hne (l.take i) []
        have ei : itV (l.take i) = (xs.map fun i => V.str (S i)) ++ [V.str (S x)] := by
          unfold itV
          rw [hx1, List.map_append]
          rfl
        have ei2 : itV (l.take (i + 1)) = (xs.map fun i => V.str (S i)) ++ [V.str (S (x ++ [c]))] := by
          unfold itV
          rw [take_succ hc', hx2, List.map_append]
          rfl
        have eb : bgV (l.take (i + 1)) = bgV (l.take i) := by
          unfold bgV
          rw [take_succ hc', hx1, hx2, beginsA_snoc, beginsA_snoc]
        have hxl : x.length ≤ i := by
          have h1 := item_le (l.take i) [] x (by rw [hx1]; exact List.mem_append_right _ (List.mem_singleton.mpr rfl))
          rw [tl] at h1
          simpa using h1
        rw [ei] at ha ha2
        have lx : (xs.map fun i => V.str (S i)).length = xs.length := List.length_map ..
        refine ⟨_, rfl, _, rfl, pa, _, _, _, rfl, rfl, .inl (.inl ha2), atI_last _ _, ?_⟩
        refine ⟨_, rfl, S x, S [c], rfl, rfl, ?_, ?_⟩
        · rw [S_len, S_len]
          exact Nat.le_trans (show x.length + 1 ≤ 1000002 by omega) (by decide)
        rw [S_cat]
        refine ⟨_, rfl, _, rfl, set_last ha2 ?_⟩
        refine ⟨_, _, rfl, same_set e2 na, ?_, ?_⟩
        · rw [upd_same, ei2]
        · rw [upd_ne npab, eb]
          exact hb2
    · obtain ⟨o3, o4, rfl, e1, ha, hb⟩ := p
      have el : (S l).cps.size = l.length := by simp [S]
      rw [el, List.take_length] at ha hb
      refine ⟨_, rfl, pa, _, rfl, .inl ⟨.inl (.inl ha), fun t1 n1 => ?_⟩⟩
      refine ⟨_, rfl, pb, _, rfl, .inl ⟨.inl (.inl (same_new n1 _ _ hb)), fun t2 n2 => ?_⟩⟩
      refine ⟨(show 2 ≤ sizeLine by decide), fun t3 n3 => ?_⟩
      exact q t3 t1 t2 _ (((e1.trans (same_new n1)).trans (same_new n2)).trans (same_new n3)) (same_new n3 _ _ (same_new n2 _ _ upd_same)) (same_new n3 _ _ upd_same) upd_same
end
end K01
namespace K01
open PySem PySem.Spec PyProof.Rows L2 Kx SX LamX
/-- what heard makes of a call that raises BadText -/
def TTh (C : Addr) : (XK → Hp → VK → Prop) → Hp → VK → Prop := fun tl H Q => ∀ N : VK,
  tl (fun cls d H' => cls = .ref C ∧ ∃ (dd : Addr) (p : V), d = some dd ∧ H' dd = some (.xd [("part", p)]) ∧ ∀ H'', Same H' H'' → Q p H'') H N
theorem kit_self {K : PySem.W.Frag} {C : Addr} : PySem.W.kitOne K (.ref C) (.ref C) = some true := by
  simp [PySem.W.kitOne]
theorem heard_gives {X : Cx} (T : Tx X.K X.mg) {q : Str} {g : Addr} {cdg : Value} : GivesTo X ["ask", "caught", "error"] "_law_heard" (defScope s_law_heard) g cdg (defBody s_law_heard) "ask" q (TTh T.e_BadText.C) := by
  intro f c' s H Q tl act hc h
  refine ⟨_, pss_cons (ps_set (i := 1) sc_law_heard.nd rfl (.inl rfl) pe_non) (pss_cons (ps_keep (X := (cxOf C8.CX0 X.prog X.w X.K X.mg X.base ["ask", "caught", "error"] "_law_heard" (defScope s_law_heard) g cdg X.A X.stack s H C8.E0).nox) (c := .ref T.e_BadText.L) (i := 2) (j := 1) (n := "error") (y := "caught")
      (tb := fun W D σ H => ∃ Ech : XK, (∀ cls d σ' H', Ech cls d H' → W cls d σ' H') ∧ σ[0]? = some (some (.ref f)) ∧ H c' = some (CodeO c' q) ∧ tl Ech H fun _ H' => D.nx σ H')
      rfl rfl rfl sc_law_heard.nd rfl rfl rfl rfl rfl ⟨rfl, by decide, .inl T.e_BadText.gL⟩ (by decide) (by decide) (fun W pn xe tk _ => ?_))
      (pss_one (ps_ret (pe_ifExp (pt_val (pe_callB call_isiX (by rfl) T.m_isinstance (by decide +kernel) (pa_cons (pv 1) (pa_cons (pe_glob (v := .ref T.e_BadText.C) (by rfl) T.e_BadText.gC rfl) pa_nil)))) (pe_xp (pv 1)) (pe_ifExp (pt_cmpR op_isN (pv 1) pe_non (nomark _)) pe_non pe_str))))), ?_⟩
  · refine ⟨fun pins s' σ H' D I h' => ?_⟩
    obtain ⟨Ech, hW, h1, h2, h3⟩ := h'
    exact (pss_one (ps_expr (act W pn xe Ech _ _ tk hW))).run pins s' σ H' D I ⟨h1, h2, h3⟩
  · refine ⟨_, fun cls d σ' H' h' => ?_, rfl, hc, h _⟩
    obtain ⟨rfl, dd, p, rfl, hd, hq⟩ := h'
    refine ⟨T.e_BadText.em, fun a na hl => ?_⟩
    have hd' := same_new (o := exT a (.ref T.e_BadText.C) (some dd)) na _ _ hd
    match σ', hl with
    | [x, y, z], _ =>
      refine ⟨_, rfl, .inr ⟨a, T.e_BadText.C, dd, _, .ref T.e_BadText.C, .ref T.e_BadText.C, true, rfl, upd_same, hd', T.e_BadText.exc, fun u r => r, kit_self, _, rfl, ?_⟩⟩
      refine iteT (B := _) ?_
      exact ⟨_, rfl, a, T.e_BadText.C, dd, _, p, rfl, upd_same, hd', T.e_BadText.xf, T.e_BadText.np, rfl, hq _ (same_new na)⟩
end K01
namespace K01
open PySem PySem.Spec PyProof.Rows L2 Kx SX LamX
section
variable {P : Program} {w : World} {K : PySem.W.Frag} {mg : Str → Option Value} {base : Heap} (T : Tx K mg)
def bs3 (o : Option (List Nat)) : List Bool := [o.elim false wordB, o.elim false signB, o.elim false textB]
theorem StrIs.ext {K : PySem.W.Frag} {H H' : Hp} {x : V} {o : Option (List Nat)} (e : ExtN H H') (h : StrIs K H x o) : StrIs K H' x o := by
  cases o with
  | none =>
    obtain ⟨n, h1, h2⟩ := h
    exact ⟨n, tyx_ext e h1, h2⟩
  | some l => exact h
def lamTab (Pt : Addr) : List (Addr × Str) := [(Pt, "_law_string_right.<locals>.<lambda>")]
def sp_law_string_right (K : PySem.W.Frag) (Pt : Addr) : Sp := fun vs H Q _ => ∃ (v : V) (o : Option (List Nat)), vs = [v] ∧ StrIs K H v o ∧ (∀ l, o = some l → cdC l ∧ l.length ≤ 250000) ∧ Tabs (lamTab Pt) H ∧ ∀ H', ExtN H H' → Tabs (lamTab Pt) H' → Q (.bl true) H'
theorem kb_is_word_0_value : KBinds K T.fd_is_word ["value"] ["value"] oneG oneG := kb_one T.F_is_word fun _ _ _ _ _ _ _ => rfl
theorem kb_is_sign_0_value : KBinds K T.fd_is_sign ["value"] ["value"] oneG oneG := kb_one T.F_is_sign fun _ _ _ _ _ _ _ => rfl
theorem kb_is_text_0_value : KBinds K T.fd_is_text ["value"] ["value"] oneG oneG := kb_one T.F_is_text fun _ _ _ _ _ _ _ => rfl
theorem kb_items_of_0_text : KBinds K T.fd_items_of ["text"] ["text"] oneG oneG := kb_one T.F_items_of fun _ _ _ _ _ _ _ => rfl
theorem kb_begins_of_0_text : KBinds K T.fd_begins_of ["text"] ["text"] oneG oneG := kb_one T.F_begins_of fun _ _ _ _ _ _ _ => rfl
theorem ok_law_string_right {c Pt : Addr} (FC : FunC K "_law_string_right" "_law_string_right" s_law_string_right T.f_law_string_right T.fd_law_string_right c) (TB : TabB base mg c Pt) : FnG P w K mg base CX0 11 T.f_law_string_right T.fd_law_string_right ["value"] (sp_law_string_right K Pt) := by
  obtain ⟨oc, od, kV, doc, pm, an, cdv, ct, osl, efd, lk, hcd⟩ := T.F_law_heard.ex
  rw [efd] at lk
  have hbd : Binds K _ ["ask"] [] := efd ▸ T.b_law_heard
  refine okC FC sc_law_string_right (fun vs H Q E h => ?_) (fun A outer s H vs Q E hg hr h => ?_)
  · obtain ⟨v, o, rfl, _⟩ := h
    rfl
  · obtain ⟨v, o, rfl, hv, hl, hT, q⟩ := h
    refine ⟨_, (pss_cons (ps_set (i := 1) sc_law_string_right.nd rfl (.inl rfl) (pe_call (ok_law_kinds T) (hr.mono (by decide)) (by rfl) T.g_law_kinds T.F_law_kinds.kp T.b_law_kinds .nil pass0 (pa_cons (pv 0) pa_nil)))
    (pss_cons (ps_if (PW.pt (pw_or (pt_cmpR op_ne (pe_callB (call_reprD hg hr.units) (by rfl) T.m_repr (by decide +kernel) (pa_cons (pe_lst (pa_cons (pe_call (ok_is_word T) (hr.mono (by decide)) (by rfl) T.g_is_word T.F_is_word.kp T.b_is_word .nil pass0 (pa_cons (pv 0) pa_nil)) (pa_cons (pe_callK0 (ok_is_sign T) (hr.mono (by decide)) (by rfl) T.g_is_sign T.F_is_sign.kp (kb_is_sign_0_value T) pass0 (pk_cons (pv 0) pk_nil)) (pa_cons (pe_call (ok_is_text T) (hr.mono (by decide)) (by rfl) T.g_is_text T.F_is_text.kp T.b_is_text .nil pass0 (pa_cons (pv 0) pa_nil)) pa_nil)))) pa_nil)) (pe_callB (call_reprD hg hr.units) (by rfl) T.m_repr (by decide +kernel) (pa_cons (pv 1) pa_nil)) (nomark _)) (pw_or1 (pt_cmpR op_ne (pe_callB (call_reprD hg hr.units) (by rfl) T.m_repr (by decide +kernel) (pa_cons (pe_lst (pa_cons (pe_callK0 (ok_is_word T) (hr.mono (by decide)) (by rfl) T.g_is_word T.F_is_word.kp (kb_is_word_0_value T) pass0 (pk_cons (pv 0) pk_nil)) (pa_cons (pe_call (ok_is_sign T) (hr.mono (by decide)) (by rfl) T.g_is_sign T.F_is_sign.kp T.b_is_sign .nil pass0 (pa_cons (pv 0) pa_nil)) (pa_cons (pe_callK0 (ok_is_text T) (hr.mono (by decide)) (by rfl) T.g_is_text T.F_is_text.kp (kb_is_text_0_value T) pass0 (pk_cons (pv 0) pk_nil)) pa_nil)))) pa_nil)) (pe_callB (call_reprD hg hr.units) (by rfl) T.m_repr (by decide +kernel) (pa_cons (pv 1) pa_nil)) (nomark _)))))
      (pss_one (ps_ret pe_bl))
      pss_nil)
    (pss_cons (ps_if (pt_not (pt_val (pe_ix ix_list (pv 1) pe_int (fun _ _ => rfl))))
      (pss_one (ps_ret (pe_cmpR (op_eqD hr.units) (pe_lst (pa_cons (pe_lamcall (T := lamTab Pt) (c := c) (P := Pt) (k := 6) (by rfl) T.g_law_heard T.F_law_heard.kp lk hcd hbd sc_law_heard rfl (.inl rfl) (heard_gives T) TB rfl (List.mem_singleton.mpr rfl) (fun p hp _ => by rw [List.mem_singleton.mp hp]; rfl) (hr.mono (by decide)) (lamS_by (sc := defScope s_law_string_right) (by decide +kernel)) rfl (fun _ _ _ _ _ => rfl) (fun A outer s H E f c' hr2 => (pe_call (ok_items_of T) (hr2.mono (by decide)) (by rfl) T.g_items_of T.F_items_of.kp T.b_items_of .nil (passes_call (takes_of rfl rfl rfl rfl) (fun _ _ _ _ h => h)) (pa_cons (pv 0) pa_nil)))) (pa_cons (pe_lamcallD (T := lamTab Pt) (z := "its") (c := c) (P := Pt) (k := 7) (by rfl) T.g_law_heard T.F_law_heard.kp lk hcd hbd sc_law_heard rfl (.inl rfl) (heard_gives T) TB rfl (List.mem_singleton.mpr rfl) (fun p hp _ => by rw [List.mem_singleton.mp hp]; rfl) (hr.mono (by decide)) (lamP_by (sc := defScope s_law_string_right) (by decide +kernel)) rfl rfl rfl (fun _ _ _ _ _ _ _ _ => ⟨_, rfl, rfl⟩) (fun A outer s H E f c' hr2 => (pe_call (ok_begins_of T) (hr2.mono (by decide)) (by rfl) T.g_begins_of T.F_begins_of.kp T.b_begins_of .nil (passes_call (takes_of rfl rfl rfl rfl) (fun _ _ _ _ h => h)) (pa_cons (pv 0) pa_nil)))) pa_nil))) (pe_lst (pa_cons pe_str (pa_cons pe_str pa_nil))) (nomark _))))
      pss_nil)
    (pss_cons (ps_if (pt_cmpR op_ne (pe_callB (call_reprD hg hr.units) (by rfl) T.m_repr (by decide +kernel) (pa_cons (pe_tup (pa_cons (pe_callK0 (ok_items_of T) (hr.mono (by decide)) (by rfl) T.g_items_of T.F_items_of.kp (kb_items_of_0_text T) passF (pk_cons (pv 0) pk_nil)) (pa_cons (pe_call (ok_begins_of T) (hr.mono (by decide)) (by rfl) T.g_begins_of T.F_begins_of.kp T.b_begins_of .nil passF (pa_cons (pv 0) pa_nil)) pa_nil))) pa_nil)) (pe_callB (call_reprD hg hr.units) (by rfl) T.m_repr (by decide +kernel) (pa_cons (pe_call (ok_law_items T) (hr.mono (by decide)) (by rfl) T.g_law_items T.F_law_items.kp T.b_law_items .nil pass0 (pa_cons (pv 0) pa_nil)) pa_nil)) (nomark _))
      (pss_one (ps_ret pe_bl))
      pss_nil)
    (pss_one (ps_ret (pe_and (pe_cmpR op_eq (pe_join pe_str (pe_call (ok_items_of T) (hr.mono (by decide)) (by rfl) T.g_items_of T.F_items_of.kp T.b_items_of .nil passF (pa_cons (pv 0) pa_nil))) (pv 0) (nomark _)) (pe_one (pe_cmpR op_eq (pe_callB call_len_seq (by rfl) T.m_len PySem.boot_len (pa_cons (pe_callK0 (ok_begins_of T) (hr.mono (by decide)) (by rfl) T.g_begins_of T.F_begins_of.kp (kb_begins_of_0_text T) passF (pk_cons (pv 0) pk_nil)) pa_nil)) (pe_op op_add (pe_m1 PySem.F.slot_str_count PySem.F.type_str_count mt_count (pv 0) pe_str) pe_int) (nomark _)))))))))), ?_⟩
    refine go_seq (go_asg ⟨_, rfl, v, o, rfl, hv, fun l h => (hl l h).1, fun p H1 e1 hp => ?_⟩)
    have hv1 := hv.same e1
    have hp' : H1 p = some (.lst ((bs3 o).map V.bl)) := hp
    have T1 := Tabs.same hT e1
    dsimp only [gName]
    refine go_seq (go_if (go_or2 ?_))
    refine go_test (go_op (go_cb (go_cons ⟨_, rfl, v, o, rfl, hv1, _, rfl, v, o, rfl, hv1, _, rfl, v, o, rfl, hv1, sz3, fun p1 n1 => ?_⟩)))
    have s1 := same_new (o := HO.lst ((bs3 o).map V.bl)) n1
    refine go_nil (go_repr (bools_dp (bs := bs3 o) upd_same) (shA_bools (bs3 o)).lst (k := 1) (by decide) (by show 3 ≤ 1048576; decide) ?_)
    refine go_cb (go_cons (go_var rfl (go_nil (go_repr (bools_dp (bs := bs3 o) (s1 _ _ hp')) (shA_bools (k := 0) (bs3 o)).lst (by decide) (by show 3 ≤ 1048576; decide) ⟨rfl, _, rfl, ?_⟩))))
    rw [ne_self]
    refine iteF (A := _) ?_
    have hv2 := hv1.same s1
    refine go_test (go_op (go_cb (go_cons ⟨_, rfl, v, o, rfl, hv2, _, rfl, v, o, rfl, hv2, _, rfl, v, o, rfl, hv2, sz3, fun p2 n2 => ?_⟩)))
    have s2 := same_new (o := HO.lst ((bs3 o).map V.bl)) n2
    refine go_nil (go_repr (bools_dp (bs := bs3 o) upd_same) (shA_bools (bs3 o)).lst (k := 1) (by decide) (by show 3 ≤ 1048576; decide) ?_)
    refine go_cb (go_cons (go_var rfl (go_nil (go_repr (bools_dp (bs := bs3 o) (s2 _ _ (s1 _ _ hp'))) (shA_bools (k := 0) (bs3 o)).lst (by decide) (by show 3 ≤ 1048576; decide) ⟨rfl, _, rfl, ?_⟩))))
    rw [ne_self]
    refine iteF (A := _) ?_
    dsimp only [tNext]
    have hp3 := s2 _ _ (s1 _ _ hp')
    have hv3 := hv2.same s2
    have T3 := Tabs.same (Tabs.same T1 s1) s2
    have e3 := (e1.trans s1).trans s2
    refine go_seq (go_if (go_not (go_b ?_)))
    refine ⟨_, rfl, p, _, 2, _, rfl, rfl, .inl (.inl hp3), rfl, _, rfl, ?_⟩
    refine iteC (fun hb => ?_) (fun hb => ?_)
    · have hb : o.elim false textB = false := by simpa using hb
      refine go_ret ?_
      refine ⟨T3, fun H4 e4 T4 N => ?_⟩
      have hv4 := hv3.ext e4
      have no : ∀ l, o = some l → textB l = true → False := fun l h h2 => by
        rw [h] at hb
        exact absurd (h2.symm.trans hb) (by decide)
      refine ⟨v, rfl, v, o, rfl, hv4, fun _ d H5 e5 hd => ⟨rfl, d, _, rfl, hd, fun H6 e6 => ?_⟩, fun l h h2 => (no l h h2).elim⟩
      refine ⟨T4.ext (e5.trans e6), fun H7 e7 T7 N2 => ?_⟩
      have hv7 := ((hv4.same e5).same e6).ext e7
      refine ⟨v, rfl, v, o, rfl, hv7, fun _ d H8 e8 hd => ⟨rfl, d, _, rfl, hd, fun H9 e9 => ?_⟩, fun l h h2 => (no l h h2).elim⟩
      refine ⟨sz2, fun l1 nl1 => ⟨sz2, fun l2 nl2 => eq_data (d := .list [.str "text", .str "text"]) (e := .list [.str "text", .str "text"]) (.lst (.inl (.inl (same_new nl2 _ _ upd_same))) (.cons (.str _) (.cons (.str _) .nil))) (.lst (.inl (.inl upd_same)) (.cons (.str _) (.cons (.str _) .nil))) (by decide +kernel) (by decide +kernel) ?_⟩⟩
      rw [show (PyData.eqv (.list [.str "text", .str "text"]) (.list [.str "text", .str "text"])) = true by decide +kernel]
      refine q _ ?_ ?_
      · exact ((((ExtN.of e3).trans e4).trans (ExtN.of (e5.trans e6))).trans e7).trans (ExtN.of (((e8.trans e9).trans (same_new nl1)).trans (same_new nl2)))
      · exact T7.ext (((e8.trans e9).trans (same_new nl1)).trans (same_new nl2))
    · have hb : o.elim false textB = true := by simpa using hb
      cases o with
      | none => cases hb
      | some l =>
        obtain ⟨rfl, hlen⟩ := hv
        obtain ⟨vl, ll⟩ := hl l rfl
        have ht : textB l = true := hb
        have l2 : l.length ≤ 200000 := by
          unfold textB at ht
          rw [Bool.and_eq_true, decide_eq_true_eq] at ht
          exact ht.1
        have nf : ((some l : Option (List Nat)).elim false textB = false) → False := fun h => by
          rw [hb] at h
          cases h
        have si : ∀ {HH : Hp}, StrIs K HH (.str (S l)) (some l) := fun {HH} => ⟨rfl, hlen⟩
        let D : PyData := .tuple [.tuple ((itemsA [] l).map fun i => PyData.str (S i)), .tuple ((beginsA 0 (itemsA [] l)).map fun n : Nat => PyData.int n)]
        have rl : reachA 0 (itemsA [] l) = l.length + 1 := by
          rw [reach_items]
          simp
        have bl : (beginsA 0 (itemsA [] l)).length ≤ l.length + 1 := by
          rw [beginsA_length]
          exact items_le l
        have sD : Sh 2 600010 D := by
          refine (ShA.tup (.cons (ShA.tup (shA_texts (k := 0) (itemsA [] l) fun x m => vl.sub fun c hc => ?_)) (.cons (ShA.tup (k := 0) (m := (beginsA 0 (itemsA [] l)).length) ?_) .nil))).up (Nat.le_refl _) ?_
          · rcases item_cd l [] x m c hc with z | z
            · cases z
            · exact z
          · have h := shA_ints (k := 0) ((beginsA 0 (itemsA [] l)).map fun n : Nat => (n : Int)) (fun i m => by
              obtain ⟨n, hn, rfl⟩ := List.mem_map.mp m
              have := begins_le _ _ n hn
              rw [rl] at this
              show n < 1000000000000
              omega)
            rw [List.length_map, List.map_map] at h
            exact h
          · rw [rl]
            omega
        have dD : ∀ {HH : Hp} {a b t : Addr}, HH a = some (.tup (itV l)) → HH b = some (.tup (bgV l)) → HH t = some (.tup [.ref a, .ref b]) → Dp K HH (.ref t) D := fun h1 h2 h3 =>
          .tup (.inl (.inl h3)) (.cons (.tup (.inl (.inl h1)) (dpAll_map _ fun x _ => .str (S x))) (.cons (.tup (.inl (.inl h2)) (dpAll_map _ fun n _ => .int n)) .nil))
        dsimp only [tNext]
        refine go_seq (go_if (go_test (go_op (go_cb (go_cons ?_)))))
        refine ⟨_, rfl, .str (S l), some l, rfl, si, fun h => (nf h).elim, fun l' hl' _ t1 H4 e4 h4 => ?_⟩
        cases hl'
        refine ⟨_, rfl, .str (S l), some l, rfl, si, fun h => (nf h).elim, fun l' hl' _ t2 H5 e5 h5 => ?_⟩
        cases hl'
        refine ⟨sz2, fun t3 n3 => ?_⟩
        have s6 := same_new (o := HO.tup [.ref t1, .ref t2]) n3
        refine go_nil (go_repr (dD (s6 _ _ (e5 _ _ h4)) (s6 _ _ h5) upd_same) sD (by decide) (by decide) ?_)
        refine go_cb (go_cons ⟨_, rfl, l, rfl, hlen, fun t4 a b H7 e7 ha hb2 ht4 => go_nil (go_repr (dD ha hb2 ht4) sD (by decide) (by decide) ⟨rfl, _, rfl, ?_⟩)⟩)
        rw [ne_self]
        refine iteF (A := _) ?_
        dsimp only [tNext]
        refine go_ret (go_and (go_op ?_))
        refine ⟨⟨_, rfl⟩, _, rfl, .str (S l), some l, rfl, si, fun h => (nf h).elim, fun l' hl' _ t5 H8 e8 h8 => ?_⟩
        cases hl'
        have h8' : H8 t5 = some (.tup (((itemsA [] l).map S).map V.str)) := by
          rw [List.map_map]
          exact h8
        refine ⟨Str.ofString " ", t5, (itemsA [] l).map S, rfl, rfl, .inr (.inl (.inl h8')), ?_, ?_⟩
        · have := sum_texts (itemsA [] l)
          have e1 : (Str.ofString " ").length = 1 := rfl
          rw [e1, List.length_map]
          omega
        have ej : Txt.join (Str.ofString " ") ((itemsA [] l).map S) = S l := by
          have := join_S [32] (itemsA [] l)
          rw [join_items] at this
          exact this
        rw [ej]
        refine ⟨_, rfl, rfl, _, rfl, ?_⟩
        rw [decide_eq_true rfl]
        refine iteT (B := _) ?_
        refine go_op (go_cb (go_cons ⟨_, rfl, .str (S l), some l, rfl, si, fun h => (nf h).elim, fun l' hl' _ t6 H9 e9 h9 => ?_⟩))
        cases hl'
        refine go_nil ⟨t6, bgV l, rfl, .inr (.inl (.inl h9)), ?_⟩
        refine go_op ⟨_, rfl, ⟨_, rfl⟩, S l, Str.ofString " ", rfl, rfl, ?_⟩
        refine ⟨_, _, rfl, rfl, rfl, ?_⟩
        have ec : decide (V.int ((bgV l).length : Nat) = V.int (Txt.count (S l) (Str.ofString " ") + 1)) = true := by
          refine decide_eq_true ?_
          rw [count_blank]
          unfold bgV
          rw [List.length_map, beginsA_length, items_length]
          rfl
        rw [ec]
        have eB := ((((e4.trans e5).trans s6).trans e7).trans e8).trans e9
        exact q _ (ExtN.of (e3.trans eB)) (T3.ext eB)
end
end K01
namespace K01
open PySem PySem.Spec PyProof.Rows L2 Kx SX LamX
section
variable {P : Program} {w : World} {K : PySem.W.Frag} {mg : Str → Option Value} {base : Heap} (T : Tx K mg)
theorem kb_is_integer_0_value : KBinds K T.fd_is_integer ["value"] ["value"] oneG oneG := kb_one T.F_is_integer fun _ _ _ _ _ _ _ => rfl
theorem kb_are_integers_0_value : KBinds K T.fd_are_integers ["value"] ["value"] oneG oneG := kb_one T.F_are_integers fun _ _ _ _ _ _ _ => rfl
theorem kb_is_within_0_most_value_least : KBinds K T.fd_is_within ["value", "least", "most"] ["most", "value", "least"] turnG turnG := kb_turn T.F_is_within fun _ _ _ _ _ _ _ _ _ => rfl
theorem IntsArg.same {x : V} {b : Bool} {H H' : Hp} (e : Same H H') (h : IntsArg K H x b) : IntsArg K H' x b := by
  rcases h with ⟨h1, n, h2, h3⟩ | ⟨a, ws, h1, h2, h3, h4, h5⟩
  · exact .inl ⟨h1, n, tyx_same e h2, h3⟩
  · exact .inr ⟨a, ws, h1, Same.q e h2, h3, fun v m => (h4 v m).same e, h5⟩
theorem isint_of {E : XK} {x : V} {H : Hp} {Q : VK} (h : HasInt K H x) (q : Q (.bl (isIntV x)) H) : sp_is_integer K [x] H Q E := by
  obtain ⟨n, a, b, ty, k1, k2, e⟩ := h
  exact ⟨x, n, a, b, rfl, ty, k1, k2, by rw [e]; exact q⟩
theorem isnum_of {E : XK} {x : V} {H : Hp} {Q : VK} (h : KindIs K H x) (q : Q (.bl (isIntV x)) H) : sp_law_is_number K [x] H Q E := ⟨x, rfl, h, q⟩
theorem within_of {E : XK} {x : V} {lo hi : Option Int} {H : Hp} {Q : VK} (h : HasInt K H x) (q : Q (.bl (withinV x lo hi)) H) : sp_is_within K [x, bdV lo, bdV hi] H Q E := ⟨x, lo, hi, rfl, h, q⟩
theorem isIntV_int {x : V} (h : isIntV x = true) : ∃ i, x = .int i := by
  cases x with
  | int i => exact ⟨i, rfl⟩
  | _ => cases h
theorem bdV_non {b : Option Int} : decide (bdV b = V.non) = b.isNone := by
  cases b with
  | none => rfl
  | some i => rfl
theorem inside_ok {E : XK} {v : V} {bo : Option Int} {σ : L2.St} {H : Hp} {Q : VK} (hk : KindIs K H v) (h3 : σ[3]? = some (some v)) (h4 : σ[4]? = some (some (bdV bo))) (q : Q (.bl (withinV v bo none)) H) :
    tAndV (tCall (sp_law_is_number K) [] E (tCons (tVar 3) tNil)) (tOrV (tOp (fun x y H Q => y = V.non ∧ Q (V.bl (decide (x = V.non))) H) (tVar 4) (tC V.non)) (tOp (rI0 fun i j => V.bl (decide (j ≤ i))) (tVar 3) (tVar 4))) σ H Q := by
  refine go_and ⟨_, h3, go_nil (isnum_of hk ⟨_, rfl, iteC (fun e => ?_) (fun e => ?_)⟩)⟩
  · obtain ⟨i, rfl⟩ := isIntV_int e
    refine go_or (go_op (go_var h4 ⟨rfl, _, rfl, ?_⟩))
    rw [bdV_non]
    cases bo with
    | none => exact iteT (B := _) q
    | some b =>
      refine iteF (A := _) (go_op (go_var h3 (go_var h4 ⟨_, _, rfl, rfl, ?_⟩)))
      have e2 : withinV (.int i) (some b) none = decide (b ≤ i) := Bool.and_true _
      rw [e2] at q
      exact q
  · have e2 : withinV v bo none = false := by
      cases v with
      | int i => cases e
      | _ => rfl
    rw [e2] at q
    exact q
theorem below_ok {E : XK} {v : V} {bo : Option Int} {σ : L2.St} {H : Hp} {Q : VK} (hk : KindIs K H v) (h3 : σ[3]? = some (some v)) (h4 : σ[4]? = some (some (bdV bo))) (q : Q (.bl (withinV v none bo)) H) :
    tAndV (tCall (sp_law_is_number K) [] E (tCons (tVar 3) tNil)) (tOrV (tOp (fun x y H Q => y = V.non ∧ Q (V.bl (decide (x = V.non))) H) (tVar 4) (tC V.non)) (tOp (rI0 fun i j => V.bl (decide (i ≤ j))) (tVar 3) (tVar 4))) σ H Q := by
  refine go_and ⟨_, h3, go_nil (isnum_of hk ⟨_, rfl, iteC (fun e => ?_) (fun e => ?_)⟩)⟩
  · obtain ⟨i, rfl⟩ := isIntV_int e
    refine go_or (go_op (go_var h4 ⟨rfl, _, rfl, ?_⟩))
    rw [bdV_non]
    cases bo with
    | none => exact iteT (B := _) q
    | some b =>
      refine iteF (A := _) (go_op (go_var h3 (go_var h4 ⟨_, _, rfl, rfl, ?_⟩)))
      have e2 : withinV (.int i) none (some b) = decide (i ≤ b) := Bool.true_and _
      rw [e2] at q
      exact q
  · have e2 : withinV v none bo = false := by
      cases v with
      | int i => cases e
      | _ => rfl
    rw [e2] at q
    exact q
theorem due_ok {E : XK} {v : V} {σ : L2.St} {H : Hp} {Q : VK} (hv : AnyV K H v) (h7 : σ[7]? = some (some v)) (hl : σ.length = 10) (q : ∀ b H', IntsArg K H' v b → Same H H' → Q (.bl b) H') :
    tAndV (tCB (rIsiT K) (tCons (tVar 7) (tCons (tTup (tCons (tC (V.ty "list")) (tCons (tC (V.ty "tuple")) tNil))) tNil)))
      (tOp rEqE (tLc (fun σ H_1 R => iList K (tVar 7) σ H_1 R ∨ iTup K (tVar 7) σ H_1 R) (gName 8) (tNot (tB (tCall (sp_law_is_number K) [] E (tCons (tVar 8) tNil)))) (tVar 8) (List.map (fun x => x.snd) [(Str.ofString "each", 8)])) (tLst tNil)) σ H Q := by
  refine go_and (go_cb (go_cons (go_var h7 (go_cons ⟨sz2, fun p np => go_nil ?_⟩))))
  have s1 := same_new (o := HO.tup [.ty "list", .ty "tuple"]) np
  rcases hv.seq with ⟨n, h1, h2⟩ | ⟨a, ws, rfl, h1, h2, h3⟩
  · refine ⟨v, p, _, _, _, false, rfl, upd_same, .cons (.ty _) (.cons (.ty _) .nil), tyx_same s1 h1, h2, _, rfl, iteF (A := _) ?_⟩
    exact q false _ (.inl ⟨rfl, n, tyx_same s1 h1, h2⟩) s1
  · obtain ⟨n, t1, t2⟩ := isl_q h1
    refine ⟨.ref a, p, _, _, _, true, rfl, upd_same, .cons (.ty _) (.cons (.ty _) .nil), tyx_same s1 t1, t2, _, rfl, iteT (B := _) ?_⟩
    refine go_op ?_
    have e10 : ∃ o0 o1 o2 o3 o4 o5 o6 o7 o8 o9, σ = [o0, o1, o2, o3, o4, o5, o6, o7, o8, o9] := by
      match σ, hl with
      | [o0, o1, o2, o3, o4, o5, o6, o7, o8, o9], _ => exact ⟨_, _, _, _, _, _, _, _, _, _, rfl⟩
    refine lc_seqk (a := a) (xs := ws) (ws.map fun x => if (!isIntV x) = true then some x else none) (List.length_map ..) h7 (Same.q s1 h1) (by omega) (fun i x z Hc Q' R' hx hz e1 q' r' => ?_) (fun D Hc e1 hD => ?_)
    · obtain ⟨x', hx2, rfl⟩ := map_at hz
      rw [hx] at hx2
      cases hx2
      obtain ⟨o0, o1, o2, o3, o4, o5, o6, o7, o8, o9, rfl⟩ := e10
      have hi : Itm K Hc x := ((h3 x (List.mem_of_getElem? hx)).same s1).same e1
      refine ⟨rfl, go_not (go_b ⟨_, rfl, go_nil (isnum_of hi.2 ⟨_, rfl, ?_⟩)⟩)⟩
      refine iteC (fun e => ?_) (fun e => ?_)
      · exact ⟨_, rfl, q' _ _ (by rw [e]; rfl) (Same.refl _)⟩
      · exact r' _ (by rw [e]; rfl) (Same.refl _)
    · refine ⟨Nat.zero_le _, fun p2 np2 => ⟨D, p2, _, rfl, rfl, same_new np2 _ _ hD, upd_same, ?_⟩⟩
      rw [filt_none]
      have eB : (ws.all fun x => !(!isIntV x)) = ws.all intB := by
        congr 1
        funext x
        rw [Bool.not_not]
        rfl
      rw [eB]
      have sA := (s1.trans e1).trans (same_new (o := HO.lst []) np2)
      exact q _ _ (.inr ⟨a, ws, rfl, Same.q sA h1, by omega, fun v m => (h3 v m).1.same sA, rfl⟩) sA
def sp_law (K : PySem.W.Frag) (Pt : Addr) : Sp := fun vs H Q _ => ∃ (a : Addr) (ns : List Int), vs = [.ref a] ∧ SqL K H a (ns.map V.int) ∧ H Pt = some (.tbl #[]) ∧ ∀ H', Q (.bl true) H'
theorem ok_law {c Pt : Addr} (FC : FunC K "_law_string_right" "_law_string_right" s_law_string_right T.f_law_string_right T.fd_law_string_right c) (TB : TabB base mg c Pt) : FnG P w K mg base CX0 13 T.f_law T.fd_law ["script"] (sp_law K Pt) := by
  have FG_law_string_right := ok_law_string_right (P := P) (w := w) (base := base) T FC TB
  refine okG T.F_law sc_law (fun vs H Q E h => ?_) (fun cdv A outer s H vs Q E hg hr h => ?_)
  · obtain ⟨a, ns, rfl, _⟩ := h
    rfl
  · obtain ⟨a, ns, rfl, hs, hP, q⟩ := h
    refine ⟨_, (pss_cons (ps_set (i := 1) sc_law.nd rfl (.inl rfl) (pe_call (ok_law_crock T) (hr.mono (by decide)) (by rfl) T.g_law_crock T.F_law_crock.kp T.b_law_crock .nil pass0 (pa_cons (pv 0) pa_nil)))
    (pss_cons (ps_for PassesOwn.never rfl (pi_range1 (by rfl) T.m_range (pa_cons pe_int pa_nil)) (pg_name (i := 2) sc_law.nd rfl (.inl rfl))
      (pss_cons (ps_par (i := 3) (j := 4) rfl sc_law.nd rfl rfl (by decide) rfl rfl (pa_cons (pe_call (ok_law_value T) (hr.mono (by decide)) (by rfl) T.g_law_value T.F_law_value.kp T.b_law_value .nil pass0 (pa_cons (pv 1) pa_nil)) (pa_cons (pe_call (ok_law_one_of T) (hr.mono (by decide)) (by rfl) T.g_law_one_of T.F_law_one_of.kp T.b_law_one_of .nil pass0 (pa_cons (pv 1) (pa_cons (pe_lst (pa_cons pe_int (pa_cons (pe_un un_neg pe_int) (pa_cons (pe_op op_pow pe_int pe_int) (pa_cons pe_int (pa_cons pe_non pa_nil)))))) pa_nil))) pa_nil)) (by rfl))
      (pss_cons (ps_if (pt_cmpR op_ne (pe_callB (call_reprD hg hr.units) (by rfl) T.m_repr (by decide +kernel) (pa_cons (pe_lst (pa_cons (pe_call (ok_is_integer T) (hr.mono (by decide)) (by rfl) T.g_is_integer T.F_is_integer.kp T.b_is_integer .nil pass0 (pa_cons (pv 3) pa_nil)) (pa_cons (pe_callK0 (ok_is_integer T) (hr.mono (by decide)) (by rfl) T.g_is_integer T.F_is_integer.kp (kb_is_integer_0_value T) pass0 (pk_cons (pv 3) pk_nil)) pa_nil))) pa_nil)) (pe_callB (call_reprD hg hr.units) (by rfl) T.m_repr (by decide +kernel) (pa_cons (pe_op op_rep (pe_lst (pa_cons (pe_call (ok_law_is_number T) (hr.mono (by decide)) (by rfl) T.g_law_is_number T.F_law_is_number.kp T.b_law_is_number .nil pass0 (pa_cons (pv 3) pa_nil)) pa_nil)) pe_int) pa_nil)) (nomark _))
        (pss_one (ps_ret pe_bl))
        pss_nil)
      (pss_cons (ps_set (i := 5) sc_law.nd rfl (.inl rfl) (pe_and (pe_call (ok_law_is_number T) (hr.mono (by decide)) (by rfl) T.g_law_is_number T.F_law_is_number.kp T.b_law_is_number .nil pass0 (pa_cons (pv 3) pa_nil)) (pe_one (pe_or (pe_cmpR op_isN (pv 4) pe_non (nomark _)) (pe_one (pe_cmpR op_ge (pv 3) (pv 4) (nomark _)))))))
      (pss_cons (ps_set (i := 6) sc_law.nd rfl (.inl rfl) (pe_and (pe_call (ok_law_is_number T) (hr.mono (by decide)) (by rfl) T.g_law_is_number T.F_law_is_number.kp T.b_law_is_number .nil pass0 (pa_cons (pv 3) pa_nil)) (pe_one (pe_or (pe_cmpR op_isN (pv 4) pe_non (nomark _)) (pe_one (pe_cmpR op_le (pv 3) (pv 4) (nomark _)))))))
      (pss_cons (ps_if (pt_cmpR op_ne (pe_callB (call_reprD hg hr.units) (by rfl) T.m_repr (by decide +kernel) (pa_cons (pe_lst (pa_cons (pe_call (ok_is_within T) (hr.mono (by decide)) (by rfl) T.g_is_within T.F_is_within.kp T.b_is_within .nil pass0 (pa_cons (pv 3) (pa_cons (pv 4) (pa_cons pe_non pa_nil)))) (pa_cons (pe_callK0 (ok_is_within T) (hr.mono (by decide)) (by rfl) T.g_is_within T.F_is_within.kp (kb_is_within_0_most_value_least T) pass0 (pk_cons (pv 4) (pk_cons (pv 3) (pk_cons pe_non pk_nil)))) pa_nil))) pa_nil)) (pe_callB (call_reprD hg hr.units) (by rfl) T.m_repr (by decide +kernel) (pa_cons (pe_lst (pa_cons (pv 5) (pa_cons (pv 6) pa_nil))) pa_nil)) (nomark _))
        (pss_one (ps_ret pe_bl))
        pss_nil)
      (pss_cons (ps_set (i := 7) sc_law.nd rfl (.inl rfl) (pe_call (ok_law_one_of T) (hr.mono (by decide)) (by rfl) T.g_law_one_of T.F_law_one_of.kp T.b_law_one_of .nil pass0 (pa_cons (pv 1) (pa_cons (pe_lst (pa_cons (pv 3) (pa_cons (pe_lst (pa_cons (pv 3) pa_nil)) (pa_cons (pe_tup (pa_cons (pv 3) (pa_cons pe_int pa_nil))) (pa_cons (pe_lst (pa_cons pe_int (pa_cons (pe_lst (pa_cons (pv 3) pa_nil)) pa_nil))) (pa_cons (pe_lst (pa_cons pe_bl (pa_cons pe_int pa_nil))) pa_nil)))))) pa_nil))))
      (pss_cons (ps_set (i := 9) sc_law.nd rfl (.inl rfl) (pe_and (pe_callB call_isiT (by rfl) T.m_isinstance (by decide +kernel) (pa_cons (pv 7) (pa_cons (pe_tup (pa_cons (pe_bltn (v := .ty "list") (by rfl) T.m_list (by decide +kernel) rfl) (pa_cons (pe_bltn (v := .ty "tuple") (by rfl) T.m_tuple (by decide +kernel) rfl) pa_nil))) pa_nil))) (pe_one (pe_cmpR (op_eqE hr.units) (pe_lc (own := [("each", 8)]) rfl sc_law.nd (pi_seq (pv 7)) (blkOk_by (own := [("each", 8)]) (N := ["script", "crock", "turn", "value", "bound", "inside", "below", "some", "each", "due"]) (sc := defScope s_law) (by decide +kernel)) (fun _ _ _ _ _ => (pg_name (i := 8) sc_law.nd rfl (.inl rfl))) (fun _ _ _ _ _ => pts_one (pt_not (pt_val (pe_call (ok_law_is_number T) (hr.mono (by decide)) (by rfl) T.g_law_is_number T.F_law_is_number.kp T.b_law_is_number .nil pass0 (pa_cons (pv 8) pa_nil))))) (fun _ _ _ _ _ => (pv 8))) (pe_lst pa_nil) (nomark _)))))
      (pss_one (ps_if (PW.pt (pw_or (pt_cmpR op_ne (pe_callB (call_reprD hg hr.units) (by rfl) T.m_repr (by decide +kernel) (pa_cons (pe_lst (pa_cons (pe_call (ok_are_integers T) (hr.mono (by decide)) (by rfl) T.g_are_integers T.F_are_integers.kp T.b_are_integers .nil pass0 (pa_cons (pv 7) pa_nil)) (pa_cons (pe_callK0 (ok_are_integers T) (hr.mono (by decide)) (by rfl) T.g_are_integers T.F_are_integers.kp (kb_are_integers_0_value T) pass0 (pk_cons (pv 7) pk_nil)) pa_nil))) pa_nil)) (pe_callB (call_reprD hg hr.units) (by rfl) T.m_repr (by decide +kernel) (pa_cons (pe_lst (pa_cons (pv 9) (pa_cons (pv 9) pa_nil))) pa_nil)) (nomark _)) (pw_or (pt_not (pt_val (pe_callG FG_law_string_right hg (hr.mono (by decide)) (by rfl) T.g_law_string_right T.F_law_string_right.kp T.b_law_string_right (pa_cons (pe_call (ok_law_string T) (hr.mono (by decide)) (by rfl) T.g_law_string T.F_law_string.kp T.b_law_string .nil pass0 (pa_cons (pv 1) pa_nil)) pa_nil)))) (pw_or1 (pt_not (pt_val (pe_callG FG_law_string_right hg (hr.mono (by decide)) (by rfl) T.g_law_string_right T.F_law_string_right.kp T.b_law_string_right (pa_cons (pv 3) pa_nil))))))))
        (pss_one (ps_ret pe_bl))
        pss_nil))))))))))
    (pss_cons (ps_if (pt_cmpR op_gt (pe_call (ok_law_ladle T) (hr.mono (by decide)) (by rfl) T.g_law_ladle T.F_law_ladle.kp T.b_law_ladle .nil pass0 (pa_cons (pv 1) (pa_cons pe_int pa_nil))) pe_int (nomark _))
      (pss_one (ps_ret pe_bl))
      pss_nil)
    (pss_one (ps_ret (pe_and (pe_cmpR op_isBl (pe_call (ok_is_text T) (hr.mono (by decide)) (by rfl) T.g_is_text T.F_is_text.kp T.b_is_text .nil pass0 (pa_cons (pe_op op_repS pe_str pe_int) pa_nil)) pe_bl (nomark _)) (pe_and (pe_cmpR op_isBl (pe_call (ok_is_text T) (hr.mono (by decide)) (by rfl) T.g_is_text T.F_is_text.kp T.b_is_text .nil pass0 (pa_cons (pe_op op_repS pe_str pe_int) pa_nil)) pe_bl (nomark _)) (pe_one (pe_callG FG_law_string_right hg (hr.mono (by decide)) (by rfl) T.g_law_string_right T.F_law_string_right.kp T.b_law_string_right (pa_cons (pe_op op_repS pe_str pe_int) pa_nil)))))))))), ?_⟩
    refine go_seq (go_asg ⟨_, rfl, a, ns, rfl, hs, fun w1 wc H1 nw e1 w0 => ?_⟩)
    have T1 : Tabs (lamTab Pt) H1 := fun p hp => by
      rw [List.mem_singleton.mp hp]
      exact TabS.nil (e1 _ _ hP)
    dsimp only [gName]
    refine go_seq ⟨6, rfl, by decide, by decide, for_range (lo := 0) (n := 6) (fun i σ H' => ∃ (o2 o3 o4 o5 o6 o7 o8 o9 : Option V), σ = [some (.ref a), some (.ref w1), o2, o3, o4, o5, o6, o7, o8, o9] ∧ Wh H' w1 wc (1000 * i) ∧ Tabs (lamTab Pt) H')
      ⟨none, none, none, none, none, none, none, none, rfl, w0, T1⟩ (fun i σ' Hc hi h => ?_) (fun σ' Hc h => ?_)⟩
    · obtain ⟨o2, o3, o4, o5, o6, o7, o8, o9, rfl, wi, Ti⟩ := h
      refine go_seq ⟨_, rfl, w1, wc, 1000 * i, rfl, wi, by omega, fun v H2 m2 w2 hv => ⟨_, rfl, _, rfl, _, _, rfl, rfl, ⟨by decide, by decide, by decide⟩, (show 5 ≤ sizeLine by decide), fun p np => ?_⟩⟩
      have pw := w2.ne np
      refine ⟨w1, p, wc, _, _, rfl, .inl (.inl upd_same), by simp, by show 5 ≤ 1000000; decide, w2.new np, by omega, fun H' m => .inl (.inl (m _ _ pw upd_same)), fun bd H3 hbd m3 w3 => ⟨_, _, rfl, ?_⟩⟩
      obtain ⟨bo, rfl⟩ : ∃ bo, bd = bdV bo := by
        simp only [List.mem_cons, List.not_mem_nil, or_false] at hbd
        rcases hbd with rfl | rfl | rfl | rfl | rfl
        · exact ⟨some _, rfl⟩
        · exact ⟨some _, rfl⟩
        · exact ⟨some _, rfl⟩
        · exact ⟨some _, rfl⟩
        · exact ⟨none, rfl⟩
      have mv3 : Mv w1 H2 H3 := (Mv.of (same_new np)).trans m3
      have T3 := Tabs.mv Ti wi (m2.trans mv3)
      have hO3 := core_mv mv3
      clear hbd m2 m3 mv3 Ti wi
      dsimp only
      refine go_seq (nerepr_if (.list [.bool (isIntV v), .bool (isIntV v)]) (sh_bb _ _) (by decide) (by decide) (fun Q q => ?_) (fun H0 e0 Q q => ?_) (fun H4 e4 => ?_))
      · have hi3 := (hv.same hO3).itm
        exact go_lst (go_cons ⟨_, rfl, go_nil (isint_of hi3.1 (go_cons (go_nil ⟨_, rfl, go_nil (isint_of hi3.1 (go_nil ⟨sz2, fun p n => q p _ (same_new n) (dp_bc upd_same)⟩))⟩)))⟩)
      · have hi3 := ((hv.same hO3).same e0).itm
        exact go_op (go_lst (go_cons ⟨_, rfl, go_nil (isnum_of hi3.2 (go_nil ⟨sz1, fun p2 n2 => ⟨p2, 2, _, rfl, rfl, upd_same, by decide, by decide, (show 1 * 2 ≤ sizeLine by decide), fun p3 n3 => q p3 _ ((same_new n2).trans (same_new n3)) (dp_bc upd_same)⟩⟩))⟩))
      have hO4 := hO3.trans e4
      have hi4 := (hv.same hO4).itm
      dsimp only [tNext]
      refine go_seq (go_asg (inside_ok hi4.2 rfl rfl ?_))
      dsimp only [gName]
      refine go_seq (go_asg (below_ok hi4.2 rfl rfl ?_))
      dsimp only [gName]
      refine go_seq (nerepr_if (.list [.bool (withinV v bo none), .bool (withinV v none bo)]) (sh_bb _ _) (by decide) (by decide) (fun Q q => ?_) (fun H0 e0 Q q => ?_) (fun H5 e5 => ?_))
      · exact go_lst (go_cons ⟨_, rfl, go_cons ⟨_, rfl, go_cons (go_c (go_nil (within_of (hi := none) hi4.1 (go_cons (go_nil ⟨_, rfl, go_cons ⟨_, rfl, go_cons (go_c (go_nil (within_of (lo := none) hi4.1 (go_nil ⟨sz2, fun p n => q p _ (same_new n) (dp_bc upd_same)⟩))))⟩⟩)))))⟩⟩)
      · exact go_lst (go_cons ⟨_, rfl, go_cons ⟨_, rfl, go_nil ⟨sz2, fun p n => q p _ (same_new n) (dp_bc upd_same)⟩⟩⟩)
      have hO5 := hO4.trans e5
      have w5 := (w3.same e4).same e5
      have T5 := Tabs.same (Tabs.same T3 e4) e5
      clear hO3 hO4 hi4 e4 e5 w3 T3
      dsimp only [tNext]
      refine go_seq (go_asg ⟨_, rfl, _, rfl, _, rfl, sz1, fun q1 n1 => ⟨_, rfl, sz2, fun q2 n2 => ⟨_, rfl, sz1, fun q3 n3 => ⟨sz2, fun q4 n4 => ⟨sz2, fun q5 n5 => ⟨sz5, fun q6 n6 => ?_⟩⟩⟩⟩⟩⟩)
      have s1 := same_new (o := HO.lst [v]) n1
      have s2 := same_new (o := HO.tup [v, .int 1]) n2
      have s3 := same_new (o := HO.lst [v]) n3
      have s4 := same_new (o := HO.lst [.int 1, .ref q3]) n4
      have s5 := same_new (o := HO.lst [.bl true, .int 0]) n5
      have s6 := same_new (o := HO.lst [v, .ref q1, .ref q2, .ref q4, .ref q5]) n6
      have t5 := s5.trans s6
      have t4 := s4.trans t5
      have t3 := s3.trans t4
      have t2 := s2.trans t3
      have u1 := w5.same s1
      have u2 := u1.same s2
      have u3 := u2.same s3
      have u4 := u3.same s4
      have u5 := u4.same s5
      have u6 := u5.same s6
      have g1 := core_at (a := w1) (t2 _ _ upd_same) (w5.ne n1) (fun ps z => by cases z)
      have g2 := core_at (a := w1) (t3 _ _ upd_same) (u1.ne n2) (fun ps z => by cases z)
      have g3 := core_at (a := w1) (t4 _ _ upd_same) (u2.ne n3) (fun ps z => by cases z)
      have g4 := core_at (a := w1) (t5 _ _ upd_same) (u3.ne n4) (fun ps z => by cases z)
      have g5 := core_at (a := w1) (s6 _ _ upd_same) (u4.ne n5) (fun ps z => by cases z)
      have d6 := u5.ne n6
      have hOb := hO5.trans (s1.trans t2)
      have hvb : AnyV K (core w1 _) v := hv.same (core_core hOb)
      refine ⟨w1, q6, wc, _, _, rfl, .inl (.inl upd_same), by simp, by show 5 ≤ 1000000; decide, u6, by omega, fun H' m => .inl (.inl (m _ _ d6 upd_same)), fun sm H6 hsm m6 w6 => ?_⟩
      have hs6 : AnyV K (core w1 H6) sm := by
        refine AnyV.same (core_mvc m6) ?_
        simp only [List.mem_cons, List.not_mem_nil, or_false] at hsm
        rcases hsm with rfl | rfl | rfl | rfl | rfl
        · exact hvb
        · exact .lst (.inl (.inl g1)) (show 1 ≤ 1000 by decide) (itms_cons hvb.itm itms_nil)
        · exact .tup (.inl (.inl g2)) (show 2 ≤ 1000 by decide) (itms_cons hvb.itm (itms_cons (itm_int 1) itms_nil))
        · exact .lst (.inl (.inl g4)) (show 2 ≤ 1000 by decide) (itms_cons (itm_int 1) (itms_cons ⟨hasInt_lst (.inl (.inl g3)), kind_lst (.inl (.inl g3))⟩ itms_nil))
        · exact .lst (.inl (.inl g5)) (show 2 ≤ 1000 by decide) (itms_cons (itm_bl true) (itms_cons (itm_int 0) itms_nil))
      have hO6 := core_mvO hOb m6
      have T6 := Tabs.mv (Tabs.same T5 (s1.trans t2)) u6 m6
      clear hsm m6 hvb g1 g2 g3 g4 g5 d6 hOb u1 u2 u3 u4 u5 u6 t2 t3 t4 t5 s1 s2 s3 s4 s5 s6 n1 n2 n3 n4 n5 n6 hO5 w5 T5
      dsimp only [gName]
      refine go_seq (go_asg (due_ok (hs6.same core_sub) rfl rfl fun b H7 hb e7 => ?_))
      have hO7 := hO6.trans e7
      have w7 := w6.same e7
      have T7 := Tabs.same T6 e7
      clear hO6 w6 T6 hs6
      dsimp only [gName]
      refine go_if (go_or2 (nerepr_t (.list [.bool b, .bool b]) (sh_bb _ _) (by decide) (by decide) (fun Q q => ?_) (fun H0 e0 Q q => ?_) (fun H8 e8 => iteF (A := _) (go_or2 (go_not (go_b ?_))))))
      · exact go_lst (go_cons ⟨_, rfl, go_nil ⟨_, b, rfl, hb, fun H' e => go_cons (go_nil ⟨_, rfl, go_nil ⟨_, b, rfl, hb.same e, fun H2 e2 => go_nil ⟨sz2, fun p n => q p _ ((e.trans e2).trans (same_new n)) (dp_bc upd_same)⟩⟩⟩)⟩⟩)
      · exact go_lst (go_cons ⟨_, rfl, go_cons ⟨_, rfl, go_nil ⟨sz2, fun p n => q p _ (same_new n) (dp_bc upd_same)⟩⟩⟩)
      have w8 := w7.same e8
      refine ⟨_, rfl, w1, wc, _, rfl, w8, by omega, fun l H9 hl9 hc9 m9 w9 => go_nil ⟨.str (S l), some l, rfl, ⟨rfl, by omega⟩, (fun l' h => by cases h; exact ⟨hc9, by omega⟩), Tabs.mv (Tabs.same T7 e8) w8 m9, fun H10 e10 T10 => ⟨_, rfl, iteF (A := _) (go_not (go_b ?_))⟩⟩⟩
      have hO10 := core_ext (core_mvO (hO7.trans e8) m9) e10
      have w10 := w9.ext e10
      have fin : ∀ H11, ExtN H10 H11 → Tabs (lamTab Pt) H11 → Wh H11 w1 wc (1000 * (i + 1)) ∧ Tabs (lamTab Pt) H11 := fun H11 e11 T11 => ⟨(w10.ext e11).lt (by omega), T11⟩
      have hv10 := hv.same hO10
      rcases hv10.str? with ⟨l2, rfl, hl2, hc2⟩ | ⟨n, ty, k1⟩
      · refine ⟨_, rfl, go_nil ⟨.str (S l2), some l2, rfl, ⟨rfl, by omega⟩, (fun l' h => by cases h; exact ⟨hc2, by omega⟩), T10, fun H11 e11 T11 => ⟨_, rfl, iteF (A := _) ?_⟩⟩⟩
        exact ⟨_, _, _, _, _, _, _, _, rfl, fin H11 e11 T11⟩
      · refine ⟨_, rfl, go_nil ⟨v, none, rfl, ⟨n, ty, k1⟩, (fun l' h => by cases h), T10, fun H11 e11 T11 => ⟨_, rfl, iteF (A := _) ?_⟩⟩⟩
        exact ⟨_, _, _, _, _, _, _, _, rfl, fin H11 e11 T11⟩
    · obtain ⟨o2, o3, o4, o5, o6, o7, o8, o9, rfl, wi, Ti⟩ := h
      dsimp only
      refine go_seq (go_if (go_test (go_op ⟨_, rfl, w1, wc, 30, _, rfl, by decide, by decide, wi, by omega, fun r H2 r0 r1 m2 w2 => ⟨_, _, rfl, rfl, _, rfl, iteC (fun _ => go_ret (q _)) (fun _ => ?_)⟩⟩)))
      have T2 := Tabs.mv Ti wi m2
      dsimp only [tNext]
      obtain ⟨N1, hN1⟩ : ∃ N : Nat, N = 200000 := ⟨_, rfl⟩
      obtain ⟨N2, hN2⟩ : ∃ N : Nat, N = 200001 := ⟨_, rfl⟩
      obtain ⟨N3, hN3⟩ : ∃ N : Nat, N = 100001 := ⟨_, rfl⟩
      have tx1 : textB ((List.replicate N1 [97]).flatten) = true := by
        rw [rep_flat, hN1]
        unfold textB
        rw [List.length_replicate, List.all_replicate]
        decide
      have tx2 : textB ((List.replicate N2 [97]).flatten) = false := by
        rw [rep_flat, hN2]
        unfold textB
        rw [List.length_replicate, List.all_replicate]
        decide
      refine go_ret (go_and (go_op (go_op ⟨[97], N1, rfl, by rw [hN1]; rfl, by decide, by omega, go_nil ⟨.str _, some _, rfl, ⟨rfl, by rw [rep_len]; simp; omega⟩, ?_⟩⟩)))
      refine ⟨_, true, rfl, rfl, _, rfl, ?_⟩
      show if decide (textB ((List.replicate N1 [97]).flatten) = true) = true then _ else _
      rw [tx1]
      refine iteT (B := _) ?_
      refine go_and (go_op (go_op ⟨[97], N2, rfl, by rw [hN2]; rfl, by decide, by omega, go_nil ⟨.str _, some _, rfl, ⟨rfl, by rw [rep_len]; simp; omega⟩, ?_⟩⟩))
      refine ⟨_, false, rfl, rfl, _, rfl, ?_⟩
      show if decide (textB ((List.replicate N2 [97]).flatten) = false) = true then _ else _
      rw [tx2]
      refine iteT (B := _) ?_
      refine go_op ⟨[98, 32], N3, rfl, by rw [hN3]; rfl, by decide, by omega, go_nil ⟨.str _, some _, rfl, ⟨rfl, by rw [rep_len]; simp; omega⟩, (fun l' h => ?_), T2, fun H11 e11 T11 => q _⟩⟩
      cases h
      refine ⟨?_, by rw [rep_len]; simp; omega⟩
      unfold cdC
      rw [List.all_eq_true]
      intro x hx
      have := rep_mem hx
      simp only [List.mem_cons, List.not_mem_nil, or_false] at this
      rcases this with rfl | rfl <;> decide
end
end K01
namespace K01
open PySem PySem.Spec PyProof.Rows L2 Kx SX LamX
def tx_mk {K : PySem.W.Frag} {h : Heap} {mg : Str → Option Value} (X : K.In h) (G : h.Ns mainGlobals mg)
    {f0 : Addr} {od0 an0 : Option Addr} {sl0 : Array (Option Value)} {oc0 kV0 dc0 pm0 cd0 ct0 : Value}
    {f1 : Addr} {od1 an1 : Option Addr} {sl1 : Array (Option Value)} {oc1 kV1 dc1 pm1 cd1 ct1 : Value}
    {f2 : Addr} {od2 an2 : Option Addr} {sl2 : Array (Option Value)} {oc2 kV2 dc2 pm2 cd2 ct2 : Value}
    {f3 : Addr} {od3 an3 : Option Addr} {sl3 : Array (Option Value)} {oc3 kV3 dc3 pm3 cd3 ct3 : Value}
    {f4 : Addr} {od4 an4 : Option Addr} {sl4 : Array (Option Value)} {oc4 kV4 dc4 pm4 cd4 ct4 : Value}
    {f5 : Addr} {od5 an5 : Option Addr} {sl5 : Array (Option Value)} {oc5 kV5 dc5 pm5 cd5 ct5 : Value}
    {f6 : Addr} {od6 an6 : Option Addr} {sl6 : Array (Option Value)} {oc6 kV6 dc6 pm6 cd6 ct6 : Value}
    {f7 : Addr} {od7 an7 : Option Addr} {sl7 : Array (Option Value)} {oc7 kV7 dc7 pm7 cd7 ct7 : Value}
    {f8 : Addr} {od8 an8 : Option Addr} {sl8 : Array (Option Value)} {oc8 kV8 dc8 pm8 cd8 ct8 : Value}
    {f9 : Addr} {od9 an9 : Option Addr} {sl9 : Array (Option Value)} {oc9 kV9 dc9 pm9 cd9 ct9 : Value}
    {f10 : Addr} {od10 an10 : Option Addr} {sl10 : Array (Option Value)} {oc10 kV10 dc10 pm10 cd10 ct10 : Value}
    {f11 : Addr} {od11 an11 : Option Addr} {sl11 : Array (Option Value)} {oc11 kV11 dc11 pm11 cd11 ct11 : Value}
    {f12 : Addr} {od12 an12 : Option Addr} {sl12 : Array (Option Value)} {oc12 kV12 dc12 pm12 cd12 ct12 : Value}
    {f13 : Addr} {od13 an13 : Option Addr} {sl13 : Array (Option Value)} {oc13 kV13 dc13 pm13 cd13 ct13 : Value}
    {f14 : Addr} {od14 an14 : Option Addr} {sl14 : Array (Option Value)} {oc14 kV14 dc14 pm14 cd14 ct14 : Value}
    {f15 : Addr} {od15 an15 : Option Addr} {sl15 : Array (Option Value)} {oc15 kV15 dc15 pm15 cd15 ct15 : Value}
    {f16 : Addr} {od16 an16 : Option Addr} {sl16 : Array (Option Value)} {oc16 kV16 dc16 pm16 cd16 ct16 : Value}
    {f17 : Addr} {od17 an17 : Option Addr} {sl17 : Array (Option Value)} {oc17 kV17 dc17 pm17 cd17 ct17 : Value}
    {f18 : Addr} {od18 an18 : Option Addr} {sl18 : Array (Option Value)} {oc18 kV18 dc18 pm18 cd18 ct18 : Value}
    {f19 : Addr} {od19 an19 : Option Addr} {sl19 : Array (Option Value)} {oc19 kV19 dc19 pm19 cd19 ct19 : Value}
    {f20 : Addr} {od20 an20 : Option Addr} {sl20 : Array (Option Value)} {oc20 kV20 dc20 pm20 cd20 ct20 : Value}
    {t0 : Tok}
    {t1 : Tok}
    (a0 : PySem.W.nsIn K mainGlobals "is_list" = some (some (.ref f0))) (l0 : K.lookup f0 = some ⟨oc0, od0, .func (PySem.W.fnOf "is_list" "is_list" (defArgs s_is_list) (defBody s_is_list) (defScope s_is_list) .none kV0 dc0 pm0 an0 cd0 ct0), sl0⟩) (c0 : PySem.W.codeIn K cd0 "is_list" = true) (k0 : PySem.W.keepIn K (.ref f0) = true)
    (a1 : PySem.W.nsIn K mainGlobals "is_integer" = some (some (.ref f1))) (l1 : K.lookup f1 = some ⟨oc1, od1, .func (PySem.W.fnOf "is_integer" "is_integer" (defArgs s_is_integer) (defBody s_is_integer) (defScope s_is_integer) .none kV1 dc1 pm1 an1 cd1 ct1), sl1⟩) (c1 : PySem.W.codeIn K cd1 "is_integer" = true) (k1 : PySem.W.keepIn K (.ref f1) = true)
    (a2 : PySem.W.nsIn K mainGlobals "is_within" = some (some (.ref f2))) (l2 : K.lookup f2 = some ⟨oc2, od2, .func (PySem.W.fnOf "is_within" "is_within" (defArgs s_is_within) (defBody s_is_within) (defScope s_is_within) .none kV2 dc2 pm2 an2 cd2 ct2), sl2⟩) (c2 : PySem.W.codeIn K cd2 "is_within" = true) (k2 : PySem.W.keepIn K (.ref f2) = true)
    (a3 : PySem.W.nsIn K mainGlobals "are_integers" = some (some (.ref f3))) (l3 : K.lookup f3 = some ⟨oc3, od3, .func (PySem.W.fnOf "are_integers" "are_integers" (defArgs s_are_integers) (defBody s_are_integers) (defScope s_are_integers) .none kV3 dc3 pm3 an3 cd3 ct3), sl3⟩) (c3 : PySem.W.codeIn K cd3 "are_integers" = true) (k3 : PySem.W.keepIn K (.ref f3) = true)
    (a4 : PySem.W.nsIn K mainGlobals "are_letters" = some (some (.ref f4))) (l4 : K.lookup f4 = some ⟨oc4, od4, .func (PySem.W.fnOf "are_letters" "are_letters" (defArgs s_are_letters) (defBody s_are_letters) (defScope s_are_letters) .none kV4 dc4 pm4 an4 cd4 ct4), sl4⟩) (c4 : PySem.W.codeIn K cd4 "are_letters" = true) (k4 : PySem.W.keepIn K (.ref f4) = true)
    (a5 : PySem.W.nsIn K mainGlobals "is_word" = some (some (.ref f5))) (l5 : K.lookup f5 = some ⟨oc5, od5, .func (PySem.W.fnOf "is_word" "is_word" (defArgs s_is_word) (defBody s_is_word) (defScope s_is_word) .none kV5 dc5 pm5 an5 cd5 ct5), sl5⟩) (c5 : PySem.W.codeIn K cd5 "is_word" = true) (k5 : PySem.W.keepIn K (.ref f5) = true)
    (a6 : PySem.W.nsIn K mainGlobals "is_sign" = some (some (.ref f6))) (l6 : K.lookup f6 = some ⟨oc6, od6, .func (PySem.W.fnOf "is_sign" "is_sign" (defArgs s_is_sign) (defBody s_is_sign) (defScope s_is_sign) .none kV6 dc6 pm6 an6 cd6 ct6), sl6⟩) (c6 : PySem.W.codeIn K cd6 "is_sign" = true) (k6 : PySem.W.keepIn K (.ref f6) = true)
    (a7 : PySem.W.nsIn K mainGlobals "is_text" = some (some (.ref f7))) (l7 : K.lookup f7 = some ⟨oc7, od7, .func (PySem.W.fnOf "is_text" "is_text" (defArgs s_is_text) (defBody s_is_text) (defScope s_is_text) .none kV7 dc7 pm7 an7 cd7 ct7), sl7⟩) (c7 : PySem.W.codeIn K cd7 "is_text" = true) (k7 : PySem.W.keepIn K (.ref f7) = true)
    (a8 : PySem.W.nsIn K mainGlobals "items_of" = some (some (.ref f8))) (l8 : K.lookup f8 = some ⟨oc8, od8, .func (PySem.W.fnOf "items_of" "items_of" (defArgs s_items_of) (defBody s_items_of) (defScope s_items_of) .none kV8 dc8 pm8 an8 cd8 ct8), sl8⟩) (c8 : PySem.W.codeIn K cd8 "items_of" = true) (k8 : PySem.W.keepIn K (.ref f8) = true)
    (a9 : PySem.W.nsIn K mainGlobals "begins_of" = some (some (.ref f9))) (l9 : K.lookup f9 = some ⟨oc9, od9, .func (PySem.W.fnOf "begins_of" "begins_of" (defArgs s_begins_of) (defBody s_begins_of) (defScope s_begins_of) .none kV9 dc9 pm9 an9 cd9 ct9), sl9⟩) (c9 : PySem.W.codeIn K cd9 "begins_of" = true) (k9 : PySem.W.keepIn K (.ref f9) = true)
    (a10 : PySem.W.nsIn K mainGlobals "_law_crock" = some (some (.ref f10))) (l10 : K.lookup f10 = some ⟨oc10, od10, .func (PySem.W.fnOf "_law_crock" "_law_crock" (defArgs s_law_crock) (defBody s_law_crock) (defScope s_law_crock) .none kV10 dc10 pm10 an10 cd10 ct10), sl10⟩) (c10 : PySem.W.codeIn K cd10 "_law_crock" = true) (k10 : PySem.W.keepIn K (.ref f10) = true)
    (a11 : PySem.W.nsIn K mainGlobals "_law_ladle" = some (some (.ref f11))) (l11 : K.lookup f11 = some ⟨oc11, od11, .func (PySem.W.fnOf "_law_ladle" "_law_ladle" (defArgs s_law_ladle) (defBody s_law_ladle) (defScope s_law_ladle) .none kV11 dc11 pm11 an11 cd11 ct11), sl11⟩) (c11 : PySem.W.codeIn K cd11 "_law_ladle" = true) (k11 : PySem.W.keepIn K (.ref f11) = true)
    (a12 : PySem.W.nsIn K mainGlobals "_law_one_of" = some (some (.ref f12))) (l12 : K.lookup f12 = some ⟨oc12, od12, .func (PySem.W.fnOf "_law_one_of" "_law_one_of" (defArgs s_law_one_of) (defBody s_law_one_of) (defScope s_law_one_of) .none kV12 dc12 pm12 an12 cd12 ct12), sl12⟩) (c12 : PySem.W.codeIn K cd12 "_law_one_of" = true) (k12 : PySem.W.keepIn K (.ref f12) = true)
    (a13 : PySem.W.nsIn K mainGlobals "_law_value" = some (some (.ref f13))) (l13 : K.lookup f13 = some ⟨oc13, od13, .func (PySem.W.fnOf "_law_value" "_law_value" (defArgs s_law_value) (defBody s_law_value) (defScope s_law_value) .none kV13 dc13 pm13 an13 cd13 ct13), sl13⟩) (c13 : PySem.W.codeIn K cd13 "_law_value" = true) (k13 : PySem.W.keepIn K (.ref f13) = true)
    (a14 : PySem.W.nsIn K mainGlobals "_law_is_number" = some (some (.ref f14))) (l14 : K.lookup f14 = some ⟨oc14, od14, .func (PySem.W.fnOf "_law_is_number" "_law_is_number" (defArgs s_law_is_number) (defBody s_law_is_number) (defScope s_law_is_number) .none kV14 dc14 pm14 an14 cd14 ct14), sl14⟩) (c14 : PySem.W.codeIn K cd14 "_law_is_number" = true) (k14 : PySem.W.keepIn K (.ref f14) = true)
    (a15 : PySem.W.nsIn K mainGlobals "_law_string" = some (some (.ref f15))) (l15 : K.lookup f15 = some ⟨oc15, od15, .func (PySem.W.fnOf "_law_string" "_law_string" (defArgs s_law_string) (defBody s_law_string) (defScope s_law_string) .none kV15 dc15 pm15 an15 cd15 ct15), sl15⟩) (c15 : PySem.W.codeIn K cd15 "_law_string" = true) (k15 : PySem.W.keepIn K (.ref f15) = true)
    (a16 : PySem.W.nsIn K mainGlobals "_law_kinds" = some (some (.ref f16))) (l16 : K.lookup f16 = some ⟨oc16, od16, .func (PySem.W.fnOf "_law_kinds" "_law_kinds" (defArgs s_law_kinds) (defBody s_law_kinds) (defScope s_law_kinds) .none kV16 dc16 pm16 an16 cd16 ct16), sl16⟩) (c16 : PySem.W.codeIn K cd16 "_law_kinds" = true) (k16 : PySem.W.keepIn K (.ref f16) = true)
    (a17 : PySem.W.nsIn K mainGlobals "_law_items" = some (some (.ref f17))) (l17 : K.lookup f17 = some ⟨oc17, od17, .func (PySem.W.fnOf "_law_items" "_law_items" (defArgs s_law_items) (defBody s_law_items) (defScope s_law_items) .none kV17 dc17 pm17 an17 cd17 ct17), sl17⟩) (c17 : PySem.W.codeIn K cd17 "_law_items" = true) (k17 : PySem.W.keepIn K (.ref f17) = true)
    (a18 : PySem.W.nsIn K mainGlobals "_law_heard" = some (some (.ref f18))) (l18 : K.lookup f18 = some ⟨oc18, od18, .func (PySem.W.fnOf "_law_heard" "_law_heard" (defArgs s_law_heard) (defBody s_law_heard) (defScope s_law_heard) .none kV18 dc18 pm18 an18 cd18 ct18), sl18⟩) (c18 : PySem.W.codeIn K cd18 "_law_heard" = true) (k18 : PySem.W.keepIn K (.ref f18) = true)
    (a19 : PySem.W.nsIn K mainGlobals "_law_string_right" = some (some (.ref f19))) (l19 : K.lookup f19 = some ⟨oc19, od19, .func (PySem.W.fnOf "_law_string_right" "_law_string_right" (defArgs s_law_string_right) (defBody s_law_string_right) (defScope s_law_string_right) .none kV19 dc19 pm19 an19 cd19 ct19), sl19⟩) (c19 : PySem.W.codeIn K cd19 "_law_string_right" = true) (k19 : PySem.W.keepIn K (.ref f19) = true)
    (a20 : PySem.W.nsIn K mainGlobals "law" = some (some (.ref f20))) (l20 : K.lookup f20 = some ⟨oc20, od20, .func (PySem.W.fnOf "law" "law" (defArgs s_law) (defBody s_law) (defScope s_law) .none kV20 dc20 pm20 an20 cd20 ct20), sl20⟩) (c20 : PySem.W.codeIn K cd20 "law" = true) (k20 : PySem.W.keepIn K (.ref f20) = true)
    (z0 : PySem.W.nsIn K mainGlobals "isinstance" = some none)
    (z1 : PySem.W.nsIn K mainGlobals "list" = some none)
    (z2 : PySem.W.nsIn K mainGlobals "tuple" = some none)
    (z3 : PySem.W.nsIn K mainGlobals "int" = some none)
    (z4 : PySem.W.nsIn K mainGlobals "bool" = some none)
    (z5 : PySem.W.nsIn K mainGlobals "all" = some none)
    (z6 : PySem.W.nsIn K mainGlobals "str" = some none)
    (z7 : PySem.W.nsIn K mainGlobals "len" = some none)
    (z8 : PySem.W.nsIn K mainGlobals "abs" = some none)
    (z9 : PySem.W.nsIn K mainGlobals "range" = some none)
    (z10 : PySem.W.nsIn K mainGlobals "enumerate" = some none)
    (z11 : PySem.W.nsIn K mainGlobals "repr" = some none)
    (er_BadText : Er K mg "BadText" "BadText.__init__" s_BadText_init "LetterError")
    (q0 : PySem.W.nsIn K mainGlobals "MOST_LETTERS" = some (some (.int 12 t0)))
    (q1 : PySem.W.nsIn K mainGlobals "MOST_SIGNS" = some (some (.int 200000 t1))) : Tx K mg :=
  {
    f_is_list := f0
    fd_is_list := _
    F_is_list := fun_mk (st := s_is_list) l0 c0 k0
    g_is_list := PySem.W.mg_of X G a0
    b_is_list := (fun_mk (st := s_is_list) l0 c0 k0).binds (ps := ["value"]) fun _ _ _ _ _ _ us hl => match us, hl with | [_], _ => rfl
    f_is_integer := f1
    fd_is_integer := _
    F_is_integer := fun_mk (st := s_is_integer) l1 c1 k1
    g_is_integer := PySem.W.mg_of X G a1
    b_is_integer := (fun_mk (st := s_is_integer) l1 c1 k1).binds (ps := ["value"]) fun _ _ _ _ _ _ us hl => match us, hl with | [_], _ => rfl
    f_is_within := f2
    fd_is_within := _
    F_is_within := fun_mk (st := s_is_within) l2 c2 k2
    g_is_within := PySem.W.mg_of X G a2
    b_is_within := (fun_mk (st := s_is_within) l2 c2 k2).binds (ps := ["value", "least", "most"]) fun _ _ _ _ _ _ us hl => match us, hl with | [_, _, _], _ => rfl
    f_are_integers := f3
    fd_are_integers := _
    F_are_integers := fun_mk (st := s_are_integers) l3 c3 k3
    g_are_integers := PySem.W.mg_of X G a3
    b_are_integers := (fun_mk (st := s_are_integers) l3 c3 k3).binds (ps := ["value"]) fun _ _ _ _ _ _ us hl => match us, hl with | [_], _ => rfl
    f_are_letters := f4
    fd_are_letters := _
    F_are_letters := fun_mk (st := s_are_letters) l4 c4 k4
    g_are_letters := PySem.W.mg_of X G a4
    b_are_letters := (fun_mk (st := s_are_letters) l4 c4 k4).binds (ps := ["text"]) fun _ _ _ _ _ _ us hl => match us, hl with | [_], _ => rfl
    f_is_word := f5
    fd_is_word := _
    F_is_word := fun_mk (st := s_is_word) l5 c5 k5
    g_is_word := PySem.W.mg_of X G a5
    b_is_word := (fun_mk (st := s_is_word) l5 c5 k5).binds (ps := ["value"]) fun _ _ _ _ _ _ us hl => match us, hl with | [_], _ => rfl
    f_is_sign := f6
    fd_is_sign := _
    F_is_sign := fun_mk (st := s_is_sign) l6 c6 k6
    g_is_sign := PySem.W.mg_of X G a6
    b_is_sign := (fun_mk (st := s_is_sign) l6 c6 k6).binds (ps := ["value"]) fun _ _ _ _ _ _ us hl => match us, hl with | [_], _ => rfl
    f_is_text := f7
    fd_is_text := _
    F_is_text := fun_mk (st := s_is_text) l7 c7 k7
    g_is_text := PySem.W.mg_of X G a7
    b_is_text := (fun_mk (st := s_is_text) l7 c7 k7).binds (ps := ["value"]) fun _ _ _ _ _ _ us hl => match us, hl with | [_], _ => rfl
    f_items_of := f8
    fd_items_of := _
    F_items_of := fun_mk (st := s_items_of) l8 c8 k8
    g_items_of := PySem.W.mg_of X G a8
    b_items_of := (fun_mk (st := s_items_of) l8 c8 k8).binds (ps := ["text"]) fun _ _ _ _ _ _ us hl => match us, hl with | [_], _ => rfl
    f_begins_of := f9
    fd_begins_of := _
    F_begins_of := fun_mk (st := s_begins_of) l9 c9 k9
    g_begins_of := PySem.W.mg_of X G a9
    b_begins_of := (fun_mk (st := s_begins_of) l9 c9 k9).binds (ps := ["text"]) fun _ _ _ _ _ _ us hl => match us, hl with | [_], _ => rfl
    f_law_crock := f10
    fd_law_crock := _
    F_law_crock := fun_mk (st := s_law_crock) l10 c10 k10
    g_law_crock := PySem.W.mg_of X G a10
    b_law_crock := (fun_mk (st := s_law_crock) l10 c10 k10).binds (ps := ["script"]) fun _ _ _ _ _ _ us hl => match us, hl with | [_], _ => rfl
    f_law_ladle := f11
    fd_law_ladle := _
    F_law_ladle := fun_mk (st := s_law_ladle) l11 c11 k11
    g_law_ladle := PySem.W.mg_of X G a11
    b_law_ladle := (fun_mk (st := s_law_ladle) l11 c11 k11).binds (ps := ["crock", "many"]) fun _ _ _ _ _ _ us hl => match us, hl with | [_, _], _ => rfl
    f_law_one_of := f12
    fd_law_one_of := _
    F_law_one_of := fun_mk (st := s_law_one_of) l12 c12 k12
    g_law_one_of := PySem.W.mg_of X G a12
    b_law_one_of := (fun_mk (st := s_law_one_of) l12 c12 k12).binds (ps := ["crock", "some"]) fun _ _ _ _ _ _ us hl => match us, hl with | [_, _], _ => rfl
    f_law_value := f13
    fd_law_value := _
    F_law_value := fun_mk (st := s_law_value) l13 c13 k13
    g_law_value := PySem.W.mg_of X G a13
    b_law_value := (fun_mk (st := s_law_value) l13 c13 k13).binds (ps := ["crock"]) fun _ _ _ _ _ _ us hl => match us, hl with | [_], _ => rfl
    f_law_is_number := f14
    fd_law_is_number := _
    F_law_is_number := fun_mk (st := s_law_is_number) l14 c14 k14
    g_law_is_number := PySem.W.mg_of X G a14
    b_law_is_number := (fun_mk (st := s_law_is_number) l14 c14 k14).binds (ps := ["value"]) fun _ _ _ _ _ _ us hl => match us, hl with | [_], _ => rfl
    f_law_string := f15
    fd_law_string := _
    F_law_string := fun_mk (st := s_law_string) l15 c15 k15
    g_law_string := PySem.W.mg_of X G a15
    b_law_string := (fun_mk (st := s_law_string) l15 c15 k15).binds (ps := ["crock"]) fun _ _ _ _ _ _ us hl => match us, hl with | [_], _ => rfl
    f_law_kinds := f16
    fd_law_kinds := _
    F_law_kinds := fun_mk (st := s_law_kinds) l16 c16 k16
    g_law_kinds := PySem.W.mg_of X G a16
    b_law_kinds := (fun_mk (st := s_law_kinds) l16 c16 k16).binds (ps := ["value"]) fun _ _ _ _ _ _ us hl => match us, hl with | [_], _ => rfl
    f_law_items := f17
    fd_law_items := _
    F_law_items := fun_mk (st := s_law_items) l17 c17 k17
    g_law_items := PySem.W.mg_of X G a17
    b_law_items := (fun_mk (st := s_law_items) l17 c17 k17).binds (ps := ["text"]) fun _ _ _ _ _ _ us hl => match us, hl with | [_], _ => rfl
    f_law_heard := f18
    fd_law_heard := _
    F_law_heard := fun_mk (st := s_law_heard) l18 c18 k18
    g_law_heard := PySem.W.mg_of X G a18
    b_law_heard := (fun_mk (st := s_law_heard) l18 c18 k18).binds (ps := ["ask"]) fun _ _ _ _ _ _ us hl => match us, hl with | [_], _ => rfl
    f_law_string_right := f19
    fd_law_string_right := _
    F_law_string_right := fun_mk (st := s_law_string_right) l19 c19 k19
    g_law_string_right := PySem.W.mg_of X G a19
    b_law_string_right := (fun_mk (st := s_law_string_right) l19 c19 k19).binds (ps := ["value"]) fun _ _ _ _ _ _ us hl => match us, hl with | [_], _ => rfl
    n_law_string_right := a19
    f_law := f20
    fd_law := _
    F_law := fun_mk (st := s_law) l20 c20 k20
    g_law := PySem.W.mg_of X G a20
    b_law := (fun_mk (st := s_law) l20 c20 k20).binds (ps := ["script"]) fun _ _ _ _ _ _ us hl => match us, hl with | [_], _ => rfl
    m_isinstance := PySem.W.mg_none_of X G z0
    m_list := PySem.W.mg_none_of X G z1
    m_tuple := PySem.W.mg_none_of X G z2
    m_int := PySem.W.mg_none_of X G z3
    m_bool := PySem.W.mg_none_of X G z4
    m_all := PySem.W.mg_none_of X G z5
    m_str := PySem.W.mg_none_of X G z6
    m_len := PySem.W.mg_none_of X G z7
    m_abs := PySem.W.mg_none_of X G z8
    m_range := PySem.W.mg_none_of X G z9
    m_enumerate := PySem.W.mg_none_of X G z10
    m_repr := PySem.W.mg_none_of X G z11
    e_BadText := er_BadText
    t_MOST_LETTERS := t0
    c_MOST_LETTERS := PySem.W.mg_of X G q0
    t_MOST_SIGNS := t1
    c_MOST_SIGNS := PySem.W.mg_of X G q1 }
end K01
open PySem PySem.W PyProof.Rows
set_option maxHeartbeats 0 in
theorem PySem.Challenge.cw_anyletter_k01_plain_values_and_items_holds : PySem.Challenge.rw_anyletter_k01_plain_values_and_items.Holds := by
  w_on; o_law; k_head; (case hw => w_witness2)
  k_fill
  refine Kx.walkL (l := PySem.Challenge.rw_anyletter_k01_plain_values_and_items) (n := 63) (k := 13) (x := "script") (y := "_law_string_right") K01.sp_law rfl (by decide) rfl ⟨rfl, by decide, by decide⟩ (fun w h Y => PySem.W.km_in_of Y) ?hcs ?FF (fun K Pt H a ns hl ht hS => ⟨a, ns, rfl, hS, ht, fun _ => rfl⟩)
  case hcs =>
    intro p
    refine' ⟨⟨_, rfl⟩, Kx.tabIn_of ?ta ?tl ?te ?tl2 ?tv ?tn⟩
    case ta => k_is
    case tl => k_is
    case te => rfl
    case tl2 => k_is
    case tv => rfl
    case tn => rfl
  case FF =>
    intro w mg fa h KX G hmg
    refine' Kx.useIt (K01.tx_mk KX G ?a0 ?l0 ?c0 ?k0 ?a1 ?l1 ?c1 ?k1 ?a2 ?l2 ?c2 ?k2 ?a3 ?l3 ?c3 ?k3 ?a4 ?l4 ?c4 ?k4 ?a5 ?l5 ?c5 ?k5 ?a6 ?l6 ?c6 ?k6 ?a7 ?l7 ?c7 ?k7 ?a8 ?l8 ?c8 ?k8 ?a9 ?l9 ?c9 ?k9 ?a10 ?l10 ?c10 ?k10 ?a11 ?l11 ?c11 ?k11 ?a12 ?l12 ?c12 ?k12 ?a13 ?l13 ?c13 ?k13 ?a14 ?l14 ?c14 ?k14 ?a15 ?l15 ?c15 ?k15 ?a16 ?l16 ?c16 ?k16 ?a17 ?l17 ?c17 ?k17 ?a18 ?l18 ?c18 ?k18 ?a19 ?l19 ?c19 ?k19 ?a20 ?l20 ?c20 ?k20 ?z0 ?z1 ?z2 ?z3 ?z4 ?z5 ?z6 ?z7 ?z8 ?z9 ?z10 ?z11 ?er_BadText ?q0 ?q1) (fun T => ?main)
    (case a0 => k_is)
    (case l0 => k_is)
    (case c0 => k_is)
    (case k0 => k_is)
    (case a1 => k_is)
    (case l1 => k_is)
    (case c1 => k_is)
    (case k1 => k_is)
    (case a2 => k_is)
    (case l2 => k_is)
    (case c2 => k_is)
    (case k2 => k_is)
    (case a3 => k_is)
    (case l3 => k_is)
    (case c3 => k_is)
    (case k3 => k_is)
    (case a4 => k_is)
    (case l4 => k_is)
    (case c4 => k_is)
    (case k4 => k_is)
    (case a5 => k_is)
    (case l5 => k_is)
    (case c5 => k_is)
    (case k5 => k_is)
    (case a6 => k_is)
    (case l6 => k_is)
    (case c6 => k_is)
    (case k6 => k_is)
    (case a7 => k_is)
    (case l7 => k_is)
    (case c7 => k_is)
    (case k7 => k_is)
    (case a8 => k_is)
    (case l8 => k_is)
    (case c8 => k_is)
    (case k8 => k_is)
    (case a9 => k_is)
    (case l9 => k_is)
    (case c9 => k_is)
    (case k9 => k_is)
    (case a10 => k_is)
    (case l10 => k_is)
    (case c10 => k_is)
    (case k10 => k_is)
    (case a11 => k_is)
    (case l11 => k_is)
    (case c11 => k_is)
    (case k11 => k_is)
    (case a12 => k_is)
    (case l12 => k_is)
    (case c12 => k_is)
    (case k12 => k_is)
    (case a13 => k_is)
    (case l13 => k_is)
    (case c13 => k_is)
    (case k13 => k_is)
    (case a14 => k_is)
    (case l14 => k_is)
    (case c14 => k_is)
    (case k14 => k_is)
    (case a15 => k_is)
    (case l15 => k_is)
    (case c15 => k_is)
    (case k15 => k_is)
    (case a16 => k_is)
    (case l16 => k_is)
    (case c16 => k_is)
    (case k16 => k_is)
    (case a17 => k_is)
    (case l17 => k_is)
    (case c17 => k_is)
    (case k17 => k_is)
    (case a18 => k_is)
    (case l18 => k_is)
    (case c18 => k_is)
    (case k18 => k_is)
    (case a19 => k_is)
    (case l19 => k_is)
    (case c19 => k_is)
    (case k19 => k_is)
    (case a20 => k_is)
    (case l20 => k_is)
    (case c20 => k_is)
    (case k20 => k_is)
    (case z0 => k_is)
    (case z1 => k_is)
    (case z2 => k_is)
    (case z3 => k_is)
    (case z4 => k_is)
    (case z5 => k_is)
    (case z6 => k_is)
    (case z7 => k_is)
    (case z8 => k_is)
    (case z9 => k_is)
    (case z10 => k_is)
    (case z11 => k_is)
    (case er_BadText =>
      refine' Kx.er_mk KX G ?waC ?waL ?wxL ?whbm ?wsa ?weC ?wtC ?wkC ?wa1 ?wt1 ?wl1 ?wc1 ?wk1 ?wb1 ?wnb ?wga ?wgg ?whd ?whc ?whn ?wht ?whm ?weL ?wdL ?wtL ?wsCL
      (case waC => k_is); (case waL => k_is); (case wxL => k_is); (case whbm => rfl); (case wsa => k_is); (case weC => k_is); (case wtC => k_is); (case wkC => k_is); (case wa1 => k_is); (case wt1 => k_is); (case wl1 => k_is); (case wc1 => k_is); (case wk1 => k_is)
      (case wb1 => exact fun _ _ _ _ _ _ us hl => match us, hl with | [_, _], _ => rfl)
      (case wnb => k_is); (case wga => k_is); (case wgg => k_is); (case whd => k_is); (case whc => k_is); (case whn => k_is); (case wht => k_is); (case whm => k_is); (case weL => k_is); (case wdL => k_is); (case wtL => k_is); (case wsCL => k_is))
    (case q0 => k_is)
    (case q1 => k_is)
    case main =>
      obtain rfl := Kx.same_ref (x := "law") T.g_law hmg
      exact ⟨T.fd_law, Kx.binds_one T.F_law (fun _ _ _ _ _ _ _ => rfl), fun c Pt ht base hk hg hTB => K01.ok_law T (Kx.funC_of T.F_law_string_right T.n_law_string_right ht) hTB⟩
