import PyProof.Rows.All
import Wide.All
import OpenK.AllK
import Wide.FinOn
import PyProof.EqAt
import PyProof.EqKinds
import PyProof.TupleCall
import HandS.ForMost
import HandS.Exc
import HandS.IsInst
import HandS.StrMore
import HandS.Replace
import HandS.ReplaceDef
import HandS.ReplaceLit
import HandS.ReplaceList
import HandS.Defaults
import HandS.Style
import HandS.Zip
import HandS.Conv
import HandS.Lambda
import HandS.Codes
import HandS.Evl
import HandS.ExcValue
import HandS.ExcInit
import HandS.ExcIs
import HandS.ExcField
import KE.KDflt
import KE.KExcIs
import HandS.EndTab
import PyProof.ReprRoads
import PyProof.ReprBulk
import HandS.ExcOwn
import HandS.WordsExc
import HandS.Walk
import PyProof.Rows.StrStrike
import PyProof.Draws
import PyProof.ListStr
import PyProof.Rows.RegStrFacts
import PyProof.Rows.RegReprOcc
import KE.KxIndex
import HandS.OwnEq
import HandS.More
import HandS.Strs
import HandS.SetFor
import KE.KRevSl
import KE.GoesMore
import HandS.DictComp
import HandS.MakeKwOnly
import PySem.Challenge.RW_anyletter_k21_machines_done
set_option Elab.async false
set_option linter.all false
set_option maxRecDepth 100000
set_option maxHeartbeats 4000000
set_option autoImplicit false
namespace Kx
open PySem PySem.Spec PyProof.Rows L2
/-! ### a def that is promised only where no repr runs around it -/
structure FnG (P : Program) (w : World) (K : PySem.W.Frag) (mg : Str → Option Value) (base : Heap) (CX : CXT) (k : Nat) (f : Addr) (fd : FuncData) (ps : List Str) (sp : Sp) : Prop where
  len : ∀ vs H Q E, sp vs H Q E → vs.length = ps.length
  go : ∀ (A : Around) (outer : List Env) (s : Shared) (H : Hp) (args : Args) (us : List Value) (vs : List V) (Q : VK) (E : XK), A.guards = some [] → Room k A → Env0 P w K mg base A outer s H →
    BindsTo s fd args (ps.zip us) → Vals vs us → sp vs H Q E → codeAny (model P w) A (.call (.ref f) args) (CR CX outer P w H s Q E) s
section
variable {P : Program} {w : World} {K : PySem.W.Frag} {mg : Str → Option Value} {base : Heap}
theorem FnG.of {CX : CXT} {k : Nat} {f : Addr} {fd : FuncData} {ps : List Str} {sp : Sp} (F : FnOk P w K mg base CX k f fd ps sp) : FnG P w K mg base CX k f fd ps sp :=
  ⟨F.len, fun A outer s H args us vs Q E _ => F.run A outer s H args us vs Q E⟩
/-- the body's rule, guards told -/
theorem okG {x qual : Str} {st : Stmt} {f : Addr} {fd : FuncData} {N ps : List Str} {k : Nat} {sp : Sp} (F : Fun K x qual st f fd) (S : FnScope N ps (defScope st)) (len : ∀ vs H Q E, sp vs H Q E → vs.length = ps.length)
    (hbody : ∀ (cdv : Value) (A : Around) (outer : List Env) (s : Shared) (H : Hp) (vs : List V) (Q : VK) (E : XK), A.guards = some [] → Room k (A.deeper (envOfC qual (defScope st) s.heap.objs.size f cdv)) → sp vs H Q E →
      ∃ t, PSs (cxOf CX0 P w K mg base N qual (defScope st) f cdv A outer s H E).nox (defBody st) t ∧ t { nx := fun _ H' => Q .non H', rt := Q } (start N vs) H) :
    FnG P w K mg base CX0 (k + 1) f fd ps sp := by
  obtain ⟨oc, od, kV, doc, pm, an, cdv, ct, osl, rfl, lk, hcd⟩ := F.ex
  refine ⟨len, fun A outer s H args us vs Q E hg hr e0 hb r hsp => ?_⟩
  refine LamX.run_ofS lk hcd S hr e0 hb r (len _ _ _ _ hsp) fun hr' => ?_
  obtain ⟨t, h, q⟩ := hbody cdv A outer s H vs Q E hg hr' hsp
  exact ⟨t, h.nox, q⟩
end
/-! ### the law's own call, guards told -/
section
variable {P : Program} {w : World} {K : PySem.W.Frag} {mg mb : Str → Option Value} {k : Nat} {fa a : Addr} {fd : FuncData} {x : Str} {sp : Sp} {s : Shared} {vs : List Value} {ns : List Int}
/-- what the law's call has to leave -/
def LawEnd (s : Shared) (r : Result) (t : Shared) : Prop := r = .ok (.ret (.bool true)) ∧ OldK s.heap t.heap ∧ t.os = s.os ∧ AllBare t.gens
theorem lawG_of (KX : K.In s.heap) (G : s.heap.Ns mainGlobals mg) (B : s.heap.Ns builtinsNs mb) (BB : ∀ y : Str, y ≠ "__name__" → mb y = bootBuiltins y) (NL : s.heap.NoLimit) (g0 : s.gens = #[])
    (hr : Room k callerA) (F : ∀ base : Heap, K.In base → base.Ns mainGlobals mg → FnG P w K mg base CX0 k fa fd [x] sp) (bd : ∀ (t : Shared) (u : Value), BindsTo t fd ⟨[u], []⟩ [(x, u)])
    (H : Hp) (one : ∀ b u, H b = some u → b = a ∧ K.lookup a = none ∧ (∃ o xs, u = .frz o (.lst xs)) ∧ ∀ o es ep, s.heap.get? a = some o → o.data ≠ .dict es ep) (ok : HOk P w H s.heap)
    (pr : sp [.ref a] H (fun v _ => v = .bl true) fun _ _ _ => False) : codeAny (model P w) callerA (.call (.ref fa) ⟨[.ref a], []⟩) (LawEnd s) s := by
  have stay : ∀ {b : Addr} {o : Obj}, s.heap.get? b = some o → H b = none → (hidT s.heap H).get? b = some o := fun e n => hidT_get e n
  have nodict : ∀ {b : Addr} {m : Str → Option Value}, s.heap.Ns b m → (hidT s.heap H).Ns b m := by
    rintro b m ⟨o, es, ep, e, d, r⟩
    refine ⟨o, es, ep, stay e ?_, d, r⟩
    cases q : H b with
    | none => rfl
    | some u =>
      obtain ⟨rfl, _, _, nd⟩ := one b u q
      exact absurd d (nd o es ep e)
  have Kb : K.In (hidT s.heap H) := by
    intro b o e
    refine stay (KX b o e) ?_
    cases q : H b with
    | none => rfl
    | some u =>
      obtain ⟨rfl, z, _, _⟩ := one b u q
      rw [z] at e
      cases e
  obtain ⟨ml, l1, l2⟩ := NL
  have E0 : Env0 P w K mg (hidT s.heap H) callerA [] s H :=
    { frames := rfl
      mod := { kin := Kb, glob := nodict G, blt := ⟨mb, nodict B, BB⟩, nolimit := ⟨ml, nodict l1, l2⟩ }
      bs := fun b o e => of_hidT e
      bsz := Nat.le_of_eq (hidT_size _ _)
      funs := trivial
      frf := fun b hb => absurd hb (List.not_mem_nil)
      hok := ok
      bare := .of_eq g0 }
  refine codeAny_mono ((F _ Kb (nodict G)).go callerA [] s H ⟨[.ref a], []⟩ [.ref a] [.ref a] _ _ rfl hr E0 (bd s (.ref a)) (.cons rfl .nil) pr) ?_
  intro r t h
  match r, h with
  | .error e, h =>
    exact (show False from h).elim
  | .ok .next, h => exact False.elim h
  | .ok .brk, h => exact False.elim h
  | .ok .cont, h => exact False.elim h
  | .ok (.ret u), h =>
    obtain ⟨v, H', h1, h2, un, ok', rv, rfl⟩ := h
    cases rv
    refine ⟨rfl, OldK.of_keep fun b o e => ?_, h1, h2⟩
    cases q : H b with
    | none => exact un.keep b o e q List.not_mem_nil List.not_mem_nil
    | some u =>
      obtain ⟨rfl, _, ⟨ob, xs, rfl⟩, _⟩ := one b u q
      have e1 := (ok b _ q).1
      have e2 := (ok' b _ (un.frzs b ob _ q)).1
      rw [e] at e1
      cases e1
      exact e2
theorem lawG (KX : K.In s.heap) (G : s.heap.Ns mainGlobals mg) (B : s.heap.Ns builtinsNs mb) (BB : ∀ y : Str, y ≠ "__name__" → mb y = bootBuiltins y) (NL : s.heap.NoLimit) (g0 : s.gens = #[])
    (ha : s.heap.get? a = some { cls := .type "list", data := .seq vs.toArray }) (hi : IntsAre vs ns) (hl : ns.length ≤ sizeLine)
    (hr : Room k callerA) (F : ∀ base : Heap, K.In base → base.Ns mainGlobals mg → FnG P w K mg base CX0 k fa fd [x] sp) (bd : ∀ (t : Shared) (u : Value), BindsTo t fd ⟨[u], []⟩ [(x, u)])
    (pr : ∀ H : Hp, Only H → SqL K H a (ns.map V.int) → sp [.ref a] H (fun v _ => v = .bl true) fun _ _ _ => False) : codeAny (model P w) callerA (.call (.ref fa) ⟨[.ref a], []⟩) (LawEnd s) s := by
  have rv := vals_ints hi
  have lv := hi.length
  have nd : ∀ o es ep, s.heap.get? a = some o → o.data ≠ .dict es ep := by
    intro o es ep e d
    rw [ha] at e
    cases e
    cases d
  cases hk : K.lookup a with
  | some o =>
    have e := KX a o hk
    rw [ha] at e
    cases e
    have z : ∀ (b : Addr) (u : HO), (none : Option HO) = some u → False := fun _ _ q => nomatch q
    refine lawG_of KX G B BB NL g0 hr F bd (fun _ => none) (fun b u q => (z b u q).elim) (fun b u q => (z b u q).elim) (pr _ (fun _ => .inl rfl) (.inr ⟨_, vs.toArray, _, hk, rfl, rfl, rfl, ?_, by simpa using rv⟩))
    rw [List.size_toArray, lv]
    exact hl
  | none =>
    let o0 : Obj := { cls := .type "list", data := .seq vs.toArray }
    let Ha : Hp := fun b => if b = a then some (.frz o0 (.lst (ns.map V.int))) else none
    have at_a : Ha a = some (.frz o0 (.lst (ns.map V.int))) := if_pos rfl
    have but : ∀ b u, Ha b = some u → b = a ∧ u = .frz o0 (.lst (ns.map V.int)) := by
      intro b u q
      by_cases hb : b = a
      · subst hb
        rw [at_a] at q
        exact ⟨rfl, (Option.some.inj q).symm⟩
      · have q' : (none : Option HO) = some u := (if_neg hb).symm.trans q
        cases q'
    refine lawG_of KX G B BB NL g0 hr F bd Ha (fun b u q => ?_) (fun b u q => ?_) (pr _ (fun b => ?_) (.inl (.inr ⟨o0, at_a⟩)))
    · obtain ⟨e1, e2⟩ := but b u q
      exact ⟨e1, hk, ⟨_, _, e2⟩, nd⟩
    · obtain ⟨rfl, rfl⟩ := but b u q
      exact ⟨ha, by rw [List.length_map]; exact hl, vs, _, rv, ha⟩
    · by_cases hb : b = a
      · exact .inr ⟨_, _, by rw [hb]; exact at_a⟩
      · exact .inl (if_neg hb)
end
open PySem.W in
/-- the goal that the head leaves -/
theorem walkG {l : OpenLaw} {n k : Nat} {q : Program} {loose : List Str} {XP : (Str → Option Value) → Heap → Prop} {YP : World → Heap → Prop} {d : DefRec} {K : Params → Frag} {sp : Frag → Sp} {x : Str}
    (hn : l.most = some n) (hz : n ≤ sizeLine) (h0 : d.params.defaults = []) (hr : Room k callerA) (hY : ∀ (w : World) (h : Heap), YP w h → (K w.params).In h)
    (F : ∀ (w : World) (mg : Str → Option Value) (fa : Addr) (h : Heap), (K w.params).In h → h.Ns mainGlobals mg → mg d.name = some (.ref fa) → ∃ fd : FuncData,
      (∀ (t : Shared) (u : Value), BindsTo t fd ⟨[u], []⟩ [(x, u)]) ∧ ∀ base : Heap, (K w.params).In base → base.Ns mainGlobals mg → FnG l.prog w (K w.params) mg base CX0 k fa fd [x] (sp (K w.params)))
    (pr : ∀ (K : Frag) (H : Hp) (a : Addr) (ns : List Int), ns.length ≤ n → Only H → SqL K H a (ns.map V.int) → sp K [.ref a] H (fun v _ => v = .bl true) fun _ _ _ => False) :
    WalkO q loose XP YP l.row.toRowW d [] (fun f us => PySem.call f us) := by
  refine Att.attach_call hn h0 ?_
  intro w s₀ s₁ mg mb fa o pm cd doc a us ns G Y ho hd hcd hm hobj hints hlen hg
  obtain ⟨fd, hb, hF⟩ := F w mg fa _ (hY w _ Y) G.T.g hm
  exact lawG (hY w _ Y) G.T.g G.T.b G.T.builtins G.T.nolimit hg hobj hints (Nat.le_trans hlen hz) hr hF hb fun H hO hS => pr _ H a ns hlen hO hS
end Kx
namespace Kx
open PySem PySem.Spec PyProof.Rows L2 SX
/-! ### heaps -/
theorem same_new {H : Hp} {p : Addr} {o : HO} (h : H p = none) : Same H (upd H p o) := fun b u e => by
  rw [upd_ne (ne_of_none e h)]
  exact e
theorem Same.t {K : PySem.W.Frag} {H H' : Hp} {a : Addr} {xs : List V} (e : Same H H') (h : SqT K H a xs) : SqT K H' a xs := by
  rcases h with (h | ⟨o, h⟩) | h
  · exact .inl (.inl (e _ _ h))
  · exact .inl (.inr ⟨o, e _ _ h⟩)
  · exact .inr h
/-- a list or a tuple -/
def SqQ (K : PySem.W.Frag) (H : Hp) (a : Addr) (xs : List V) : Prop := SqL K H a xs ∨ SqT K H a xs
theorem Same.q {K : PySem.W.Frag} {H H' : Hp} {a : Addr} {xs : List V} (e : Same H H') (h : SqQ K H a xs) : SqQ K H' a xs := h.imp e.seq (Same.t e)
theorem tyL {K : PySem.W.Frag} {H : Hp} {a : Addr} {xs : List V} (h : SqL K H a xs) : TyX K H (.ref a) (.type "list") := by
  rcases h with (h | ⟨o, h⟩) | ⟨o, vs, n, h, hc, _⟩
  · exact .base (.lst h)
  · exact .base (.frz h)
  · exact .kList h hc
theorem tyT {K : PySem.W.Frag} {H : Hp} {a : Addr} {xs : List V} (h : SqT K H a xs) : TyX K H (.ref a) (.type "tuple") := by
  rcases h with (h | ⟨o, h⟩) | ⟨o, vs, n, h, hc, _⟩
  · exact .base (.tup h)
  · exact .fTuple h
  · exact .kTuple h hc
theorem kit_at {K : PySem.W.Frag} {n : String} {a b : Bool} (h1 : kitB n "list" = some a) (h2 : kitB n "tuple" = some b) : PySem.W.kitAny K (.type n) [.type "list", .type "tuple"] = some (a || b) := by
  refine kitAny_cons (kit_ty h1) (fun e => ?_) (fun e => by rw [e]; rfl)
  rw [e, Bool.false_or]
  exact kitAny_cons (kit_ty h2) (fun e => by rw [e]; exact kitAny_nil) (fun e => e)
theorem isl_q {K : PySem.W.Frag} {H : Hp} {a : Addr} {xs : List V} (h : SqQ K H a xs) : ∃ n, TyX K H (.ref a) (.type n) ∧ PySem.W.kitAny K (.type n) [.type "list", .type "tuple"] = some true := by
  rcases h with h | h
  · exact ⟨_, tyL h, kit_at (a := true) (b := false) (by decide +kernel) (by decide +kernel)⟩
  · exact ⟨_, tyT h, kit_at (a := false) (b := true) (by decide +kernel) (by decide +kernel)⟩
theorem ix_q {K : PySem.W.Frag} {H : Hp} {a : Addr} {xs : List V} {i : Int} {v : V} {Q : VK} (h : SqQ K H a xs) (hv : atI xs i = some v) (q : Q v H) : rIx K (.ref a) (.int i) H Q := by
  rcases h with h | h
  · exact .inl ⟨a, xs, i, v, rfl, rfl, h, hv, q⟩
  · exact .inr (.inl ⟨a, xs, i, v, rfl, rfl, h, hv, q⟩)
/-- is it data of this form, whatever tracks it -/
theorem dp_same {K : PySem.W.Frag} {H H' : Hp} (e : Same H H') : ∀ (d : PyData) (v : V), Dp K H v d → Dp K H' v d := by
  intro d v h
  exact Dp.rec (motive_1 := fun v d _ => Dp K H' v d) (motive_2 := fun vs ds _ => DpAll K H' vs ds) .non .bl .int .str (fun h _ i => .lst (e.seq h) i) (fun h _ i => .tup (Same.t e h) i) .nil (fun _ _ a b => .cons a b) h
end Kx
namespace Kx
open PySem PySem.Spec PyProof.Rows L2 SX
theorem iteC {c : Bool} {A B : Prop} (h1 : c = true → A) (h2 : c = false → B) : if c = true then A else B := by
  cases c with
  | true => exact iteT (h1 rfl)
  | false => exact iteF (h2 rfl)
/-! ### letters and signs -/
def low (c : Nat) : Bool := decide (97 ≤ c) && decide (c ≤ 122)
def lowB (l : List Nat) : Bool := !l.isEmpty && l.all low
def sg (c : Nat) : Bool := decide (c = 32) || low c
def textB (l : List Nat) : Bool := decide (l.length ≤ 200000) && l.all sg
theorem ascii1 : (List.range 128).all (fun c => (if Unicode.isAlpha c then (Unicode.isLower c && !(Unicode.isUpper c || Unicode.isTitle c)) == low c && ((Unicode.isLower c && !(Unicode.isUpper c || Unicode.isTitle c)) || (Unicode.isUpper c || Unicode.isTitle c)) else !low c)) = true := by decide +kernel
theorem ascii2 (c : Nat) (h : c < 128) : (Unicode.isAlpha c = true → ((Unicode.isUpper c || Unicode.isTitle c) = !low c) ∧ (low c = true → Unicode.isLower c = true)) ∧ (low c = true → Unicode.isAlpha c = true) := by
  have z := List.all_eq_true.mp ascii1 c (List.mem_range.mpr h)
  cases ha : Unicode.isAlpha c <;> cases hl : Unicode.isLower c <;> cases hu : (Unicode.isUpper c || Unicode.isTitle c) <;> cases hw : low c <;> simp_all
theorem low_lt {c : Nat} (h : low c = true) : c < 128 := by
  unfold low at h
  simp only [Bool.and_eq_true, decide_eq_true_eq] at h
  omega
theorem letters_S (l : List Nat) : (Txt.isascii (S l) && (Txt.isalpha (S l) && Txt.islower (S l))) = lowB l := by
  have ea : ∀ p : Nat → Bool, (S l).cps.all p = l.all p := fun p => by simp
  have ey : ∀ p : Nat → Bool, (S l).cps.any p = l.any p := fun p => by simp
  unfold Txt.isascii Txt.isalpha Txt.islower lowB
  rw [ea, ea, ey, ey, S_len]
  cases l with
  | nil => rfl
  | cons d r =>
    have e0 : decide ((d :: r).length > 0) = true := by simp
    rw [e0, Bool.true_and]
    rw [Bool.eq_iff_iff]
    simp only [Bool.and_eq_true, List.all_eq_true, decide_eq_true_eq, List.any_eq_true, Bool.not_eq_true', List.isEmpty_cons, Bool.not_false, true_and]
    constructor
    · rintro ⟨h1, h2, _, h4⟩ c hc
      have k := (ascii2 c (h1 c hc)).1 (h2 c hc)
      have n : (Unicode.isUpper c || Unicode.isTitle c) = false := by
        cases q : (Unicode.isUpper c || Unicode.isTitle c) with
        | false => rfl
        | true =>
          rw [List.any_eq_false] at h4
          exact absurd q (h4 c hc)
      rw [n] at k
      simpa using k.1
    · intro h
      refine ⟨fun c hc => low_lt (h c hc), fun c hc => (ascii2 c (low_lt (h c hc))).2 (h c hc), ⟨d, List.mem_cons_self, ?_⟩, ?_⟩
      · have hd := h d List.mem_cons_self
        exact ((ascii2 d (low_lt hd)).1 ((ascii2 d (low_lt hd)).2 hd)).2 hd
      · rw [List.any_eq_false]
        intro c hc q
        have hd := h c hc
        have k := ((ascii2 c (low_lt hd)).1 ((ascii2 c (low_lt hd)).2 hd)).1
        rw [q, hd] at k
        cases k
end Kx
namespace Kx
open PySem PySem.Spec PyProof.Rows L2 SX
/-! ### an exception that a name keeps behind the suite -/
/-- at a: an exception of the class cls, its own dict at d -/
def exT (a : Addr) (cls : Value) (d : Option Addr) : HO := .ext fun h => ∃ (oe : Obj) (vs : Array Value), h.get? a = some oe ∧ Zc cls d oe ∧ oe.data = .fields vs
section
variable {X : Cx} {pn0 : List (Addr × Obj)} {σ : L2.St} {H : Hp} {s : Shared} {a : Addr} {oe : Obj} {cls : Value} {d : Option Addr}
theorem exT_ne (o : HO) (h : ∀ φ, o ≠ .ext φ) : exT a cls d ≠ o := fun z => h _ z.symm
/-- what stands pinned in the suite is tracked behind it -/
theorem Inv.track {vs : Array Value} (I : Inv X pn0 σ H s) (ha : s.heap.get? a = some oe) (hz : Zc cls d oe) (hd : oe.data = .fields vs) (na : H a = none) (new0 : X.s_0.heap.get? a = none) (nL : a ≠ X.env.locals)
    (np : ∀ p ∈ X.pn ++ pn0, p.1 ≠ a) : Inv X pn0 σ (upd H a (exT a cls d)) s := by
  have off : ∀ {b : Addr} {u : HO}, H b = some u → upd H a (exT a cls d) b = some u := fun {b u} e => by
    rw [upd_ne (ne_of_none e na)]
    exact e
  have un : ∀ {b : Addr}, b ≠ a → H b = none → upd H a (exT a cls d) b = none := fun {b} n e => by
    rw [upd_ne n]
    exact e
  have old : ∀ {b : Addr} {o : Obj}, X.s_0.heap.get? b = some o → b ≠ a := fun {b o} e z => by
    rw [z, new0] at e
    cases e
  exact
    { ok := I.ok
      os := I.os
      bare := I.bare
      base :=
        { keep := I.base.keep
          slot := I.base.slot
          free := fun b o e n x => un (old e) (I.base.free b o e n x)
          there := I.base.there
          tups := fun b xs e => off (I.base.tups b xs e)
          frzs := fun b o u e => off (I.base.frzs b o u e)
          tbls := fun b ps e => by
            obtain ⟨m, q⟩ := I.base.tbls b ps e
            exact ⟨m, off q⟩ }
      loc := I.loc
      cell := I.cell
      free := un (Ne.symm nL) I.free
      freeC := fun y c e => by
        refine un (fun z => ?_) (I.freeC y c e)
        obtain ⟨v, o, e1, e2⟩ := I.cell y c e
        rw [z, ha] at e1
        cases e1
        rw [hd] at e2
        cases e2
      pin := fun p hp => by
        obtain ⟨e, n, r⟩ := I.pin p hp
        exact ⟨e, un (np p hp) n, r⟩
      hok := HOk.laidN (P := X.prog) (w := X.w) I.hok (fun _ _ e => e) na ⟨⟨oe, vs, ha, hz, hd⟩, ⟨oe, ha⟩, fun h1 h2 z k => by
        obtain ⟨o, v, e1, e2⟩ := z
        exact ⟨o, v, k _ e1, e2⟩⟩
      len := I.len }
end
/-- what «try: .. except x as n: y = n» wishes of an exception: it is one of x's; y keeps it -/
def wKeep (K : PySem.W.Frag) (n : Nat) (c : Value) (i j : Nat) (D : Ends) : WX := fun cls d σ H =>
  PySem.W.exmOne K cls c = some true ∧ ∀ a, H a = none → σ.length = n → D.nx ((((σ.set i (some (.ref a))).set j (some (.ref a)))).set i none) (upd H a (exT a cls d))
section
variable {X : Cx} {x n y : Str} {c : Value} {i j : Nat} {body : List Stmt} {p1 p2 p3 np pos pos' : Pos} {tb : WX → TS}
theorem ps_keep (hs : X.stack = X.env :: X.outer) (hex : X.ex = []) (hf : X.env.frame = some X.env.locals) (hN : X.N.Nodup) (hi : X.N[i]? = some n) (hln : X.env.kindOf n = some .local) (hlv : X.env.scope.names.lookup n = some .local)
    (hj : X.N[j]? = some y) (hlj : X.env.scope.names.lookup y = some .local) (hc : Names X x c) (hdb : (n == ("__debug__" : Str)) = false) (hdc : (n == ("__classdict__" : Str)) = false)
    (hb : ∀ (W : WX) (pn : List (Addr × Obj)) (xe : Value → Shared → Prop), Takes (X.tr pn xe) W → PassesOwn (model X.prog X.w) X.A X.env xe → PSs (X.tr pn xe) body (tb W)) :
    PS X (.Try body [.ExceptHandler (some (.Name x np)) (some n) [.Assign [.Name y p1] (.Name n p2) p3] pos'] [] [] pos) (fun D σ H => tb (wKeep X.K X.N.length c i j D) D σ H) := by
  refine ⟨fun pn0 s σ H D I h => ?_⟩
  have ok := I.ok
  have fr : X.A.frames = some (X.env :: X.outer) := by rw [ok.frames, hs]
  apply wpAny_Try_except
  have run := hb (wKeep X.K X.N.length c i j D) (X.pn ++ pn0)
    (fun e t1 => wpAny (model X.prog X.w) X.A (noteFrame e X.env)
      (fun _ t2 => wpAny (model X.prog X.w) X.A (setFlight e none)
        (fun _ t3 => wpAny (model X.prog X.w) X.A (handleBy e X.env [.ExceptHandler (some (.Name x np)) (some n) [.Assign [.Name y p1] (.Name n p2) p3] pos']) (SP X pn0 D) X.xe t3) X.xe t2) X.xe t1) ?take PassesOwn.looking
  case take =>
    rintro u t ⟨a, B, sI, pins', σ', H', cls, d, rfl, J', nb, up, sky, na, os, ag, isOne, hend⟩
    have Jb : Inv X pn0 σ' H' sI := J'.ofTry ok
    rw [show (X.tr (X.pn ++ pn0) _).stack = X.env :: X.outer from hs] at sky
    show wpAny (model X.prog X.w) X.A (noteFrame (.ref a) X.env) _ _ _
    refine Sky.land Zc.steady fr hf sky (fun h3 fl up3 => ?_)
    have J3 : Inv X pn0 σ' H' { t with heap := h3 } := Jb.landed nb fl.1 (up.trans up3) os ag
    have Bn := fl.2.1
    obtain ⟨oz3, vz3, at3, zc3, dt3⟩ := fl.there
    have out : a ∉ frs (X.env :: X.outer) := by
      intro hm
      obtain ⟨_, o', e', hnf⟩ := fl.2.2.1.mem hm
      rw [at3] at e'
      cases e'
      exact hnf _ dt3
    have nL : a ≠ X.env.locals := fun z => out (List.mem_filterMap.mpr ⟨X.env, List.mem_cons_self, by rw [hf, z]⟩)
    have nF : a ∉ X.fs := by
      intro hm
      obtain ⟨e, hme, q⟩ := List.mem_filterMap.mp hm
      exact out (List.mem_filterMap.mpr ⟨e, List.mem_cons_of_mem _ hme, q⟩)
    have gone : ∀ {b : Addr} {o : Obj}, sI.heap.get? b = some o → b ≠ a := by
      intro b o e z
      rw [z] at e
      have q := nb a o e (by rw [hs]; exact out)
      rw [Bn] at q
      cases q
    have new0 : X.s_0.heap.get? a = none := by
      cases q : X.s_0.heap.get? a with
      | none => rfl
      | some o =>
        obtain ⟨o', e'⟩ := Jb.base.there a o q (by rw [hex]; exact List.not_mem_nil)
        exact absurd rfl (gone e')
    have np0 : ∀ p ∈ X.pn ++ pn0, p.1 ≠ a := fun p hp => gone (Jb.pin p hp).1
    have In3 := J3.suite at3 dt3 na nL nF
    refine wpAny_handleBy_cons (codeAny_handlers_test ?_) (by intro q; cases q)
    have lookT : PySem.W.Looks (model X.prog X.w) h3 (typeOf (.ref a)) cls := fun A Q E s k q => wpAny_typeOf_ref (k _ _ at3) (by rw [zc3.1]; exact q)
    have LM := PySem.W.exm_one (M := model X.prog X.w) J3.kIn lookT isOne
    have named : ∀ {Q E : Value → Shared → Prop}, Q c { t with heap := h3 } → wpAny (model X.prog X.w) (X.A.mark (some (.ref a))) (eval (.Name x np) X.env) Q E { t with heap := h3 } := by
      intro Q E q
      obtain ⟨g, gd, g2⟩ := hc
      rcases g2 with m | ⟨m, v, nn⟩
      · exact ld_glob (X := X.suite a ((a, oz3) :: (X.pn ++ pn0))) In3 g m q gd
      · exact ld_blt (X := X.suite a ((a, oz3) :: (X.pn ++ pn0))) In3 g m v q nn gd
    refine named (LM.here ?_)
    refine codeAny_handlers_suite_as (HandSPX.lands_againZ fl fun h4 flr up4 => ?_)
    have J4 : Inv X pn0 σ' H' { t with heap := h4 } := Jb.landed nb flr.1 ((up.trans up3).trans up4) os ag
    obtain ⟨oz4, vz4, at4, zc4, dt4⟩ := flr.there
    have In4 := J4.suite at4 dt4 na nL nF
    refine store_ok (X := X.suite a ((a, oz4) :: (X.pn ++ pn0))) (v := .ref a) In4 hN hi (.inl hlv) rfl (fun s5 S5 => ?_) (.inr hlv)
    have il : i < σ'.length := by
      rw [In4.len]
      exact (List.getElem?_eq_some_iff.mp hi).1
    have suite : PSs (X.suite a ((a, oz4) :: (X.pn ++ pn0))) [.Assign [.Name y p1] (.Name n p2) p3] (tAsg (tVar i) (gName j)) :=
      pss_one (ps_set hN hj (.inl hlj) (pe_var hi (.inl hlv) hdb hdc) rfl (.inr hlj))
    refine wpAny_mono (suite.run [] s5 _ H' { nx := fun σ6 H6 => σ6 = (σ'.set i (some (.ref a))).set j (some (.ref a)) ∧ H6 = H', rt := fun _ _ => False, bk := fun _ _ => False, ct := fun _ _ => False } S5 ⟨_, List.getElem?_set_self il, rfl, rfl⟩) (fun f s6 q => ?_) (fun _ _ z => False.elim z)
    match f, q with
    | .ret _, q =>
      obtain ⟨_, _, _, _, _, z⟩ := q
      exact False.elim z
    | .brk, q =>
      obtain ⟨_, _, _, z⟩ := q
      exact False.elim z
    | .cont, q =>
      obtain ⟨_, _, _, z⟩ := q
      exact False.elim z
    | .next, q =>
      obtain ⟨σ6, H6, S6, rfl, rfl⟩ := q
      have pin := S6.pin (a, oz4) List.mem_cons_self
      have J6 : Inv X pn0 _ _ s6 := S6.unsuite ok
      have J7 := Kx.Inv.track J6 pin.1 zc4 dt4 na new0 nL np0
      refine gone_ok J7 hN hi hln fun s8 J8 => ⟨_, _, J8, hend a na Jb.len⟩
  refine wpAny_mono (run.run [] s σ H D (I.toTry _) h) (fun f s1 q => ?_) fun _ _ z => z
  match f, q with
  | .next, q =>
    obtain ⟨σ', H', J', z⟩ := q
    exact wpAny_execs_nil ⟨σ', H', J'.ofTry ok, z⟩
  | .brk, q =>
    obtain ⟨σ', H', J', z⟩ := q
    exact ⟨σ', H', J'.ofTry ok, z⟩
  | .cont, q =>
    obtain ⟨σ', H', J', z⟩ := q
    exact ⟨σ', H', J'.ofTry ok, z⟩
  | .ret u, q =>
    obtain ⟨v, σ', H', J', r, z⟩ := q
    exact ⟨v, σ', H', J'.ofTry ok, r, z⟩
end
end Kx
namespace Kx
open PySem PySem.Spec PyProof.Rows L2 SX LamX
section
variable {X : Cx} {pn0 : List (Addr × Obj)} {σ : L2.St} {H HZ : Hp} {s sB : Shared}
abbrev lamQ (X : Cx) : Str := X.env.qual ++ "<lambda>"
/-- the lambda as an object, its defaults at dV -/
abbrev lamObj (X : Cx) (params : Arguments) (body : Expr) (scp : Scope) (dV doc pm : Value) (c' : Addr) (ctv : Value) : Obj := PySem.W.kdv_obj "<lambda>" (lamQ X) params (.expr body) scp (cloFrom X.env.cells scp.names []) dV doc pm c' ctv
/-- what the making leaves -/
def Made (X : Cx) (pn0 : List (Addr × Obj)) (σ : L2.St) (H : Hp) (T : List (Addr × Str)) (params : Arguments) (body : Expr) (scp : Scope) (dV : Value) (s0 : Shared) (v : Value) (s' : Shared) : Prop :=
  ∃ (f c' : Addr) (doc pm ctv : Value) (H1 : Hp), v = .ref f ∧ Inv X pn0 σ H1 s' ∧ ExtN H H1 ∧ Tabs T H1 ∧ s'.heap.get? f = some (lamObj X params body scp dV doc pm c' ctv) ∧ H1 f = none ∧ f ∉ frs X.stack ∧ H1 c' = some (CodeO c' (lamQ X)) ∧
    (∀ b o, s0.heap.get? b = some o → (∀ pz, H b ≠ some (.tbl pz)) → s'.heap.get? b = some o) ∧ (∀ b, b < s0.heap.objs.size → H b = none → H1 b = none)
theorem lam_tail {T : List (Addr × Str)} {c P : Addr} {params : Arguments} {body : Expr} {scp : Scope} {pos : Pos} {ln : Nat} {dV : Value} {E : Value → Shared → Prop} (I : Inv X pn0 σ H s) (TB : TabB X.base X.mg c P) (hcode : X.env.code = .ref c)
    (hm : (P, lamQ X) ∈ T) (onlyP : ∀ p ∈ T, p.1 = P → p.2 = lamQ X) (hT : Tabs T H) (hfree : ∀ y ∈ scp.names, y.2 = .free → ∃ c, X.env.cells.lookup y.1 = some c) :
    wpAny (model X.prog X.w) X.A (makeTail "<lambda>" (lamQ X) params (.expr body) scp X.env dV .none none pos ln) (Made X pn0 σ H T params body scp dV s) E s := by
  obtain ⟨pz, eP, tr3, amg⟩ := hT _ hm
  have btP : s.heap.BuiltinsAt X.mg P := TB.bm.keeps I.bk
  have hP' : s.heap.get? P = some { cls := .none, data := .fields pz } := I.hok P _ eP
  have nofr : ∀ f, s.heap.objs.size ≤ f → f ∉ frs X.stack := by
    intro f hf z
    rcases List.mem_cons.mp (I.stkSub _ z) with e | e
    · have h1 := I.lt
      rw [← e] at h1
      exact absurd (Nat.lt_of_lt_of_le h1 hf) (Nat.lt_irrefl _)
    · exact I.nofs hf e
  cases fnd : codeAmong pos pz.toList with
  | none =>
    refine PySem.W.kdv_makeTail (mg := X.mg) (c := c) (P := P) (ps := pz) (closure_ok hfree) I.ok.glob (I.mod.glob.keeps I.bk) hcode (TB.code.keeps I.bk) hP' tr3 fnd TB.gP btP fun c' ctv doc h' tk stP gec ltc rcc tbb => ?_
    obtain ⟨cc2, oc, vs, t, e2, ocE, hd, ovE⟩ := rcc
    cases e2
    have szle : s.heap.objs.size ≤ h'.objs.size := Nat.le_trans gec (Nat.le_of_lt ltc)
    have ncn : H c' = none := I.hok.fresh gec
    have up : ∀ b o, b ≠ P → s.heap.get? b = some o → (h'.push (lamObj X params body scp dV doc ((X.mg "__name__").getD .none) c' ctv)).get? b = some o := fun b o hb e => Heap.get?_push_of_some _ (stP b o hb e)
    have I1 := inv_table (t' := tk) (more := #[rawInt pos.line, rawInt pos.col, .ref c']) (h' := h'.push (lamObj X params body scp dV doc ((X.mg "__name__").getD .none) c' ctv)) I eP up (Heap.get?_push_of_some _ tbb) gec ⟨oc, vs, t, Heap.get?_push_of_some _ ocE, hd, ovE⟩
    have exE : ExtN H (upd (upd H P (.tbl (pz ++ #[rawInt pos.line, rawInt pos.col, .ref c']))) c' (CodeO c' (lamQ X))) := by
      intro b o e n
      rw [upd_ne (ne_of_none e ncn), upd_ne (fun z => n pz (Option.some.inj (e.symm.trans (by rw [z]; exact eP))))]
      exact e
    have ell : (pz ++ #[rawInt pos.line, rawInt pos.col, .ref c']).toList = pz.toList ++ [rawInt pos.line, rawInt pos.col, .ref c'] := by simp
    refine ⟨h'.objs.size, c', doc, _, ctv, _, rfl, I1, exE, fun p hp => ?_, Heap.get?_push_size _ rfl, ?_, nofr _ szle, upd_same, fun b o e n => up b o (fun z => n pz (by rw [z]; exact eP)) e, fun b hb n => ?_⟩
    · by_cases hb : p.1 = P
      · rw [onlyP p hp hb, hb]
        refine ⟨_, by rw [upd_ne (ne_of_none eP ncn), upd_same], by rw [ell]; exact PySem.TriplesOk_snoc _ _ _ _ tr3, fun p' cwv cvE => ?_⟩
        rw [ell] at cvE
        rcases among_app _ tr3 cvE with z | z
        · obtain ⟨cq, e1, e2⟩ := amg p' cwv z
          exact ⟨cq, e1, exE _ _ e2 codeO_ne⟩
        · exact ⟨c', z, upd_same⟩
      · obtain ⟨ps', a1, a2, a3⟩ := hT p hp
        refine ⟨ps', by rw [upd_ne (ne_of_none a1 ncn), upd_ne hb]; exact a1, a2, fun p' cwv cvE => ?_⟩
        obtain ⟨cq, e1, e2⟩ := a3 p' cwv cvE
        exact ⟨cq, e1, exE _ _ e2 codeO_ne⟩
    · rw [upd_ne (Nat.ne_of_gt ltc), upd_ne (Nat.ne_of_gt (Nat.lt_of_lt_of_le (Heap.lt_size hP') szle))]
      exact I.hok.fresh szle
    · have n1 : b ≠ c' := Nat.ne_of_lt (Nat.lt_of_lt_of_le hb gec)
      have n2 : b ≠ P := fun z => by
        rw [z, eP] at n
        cases n
      rw [upd_ne n1, upd_ne n2]
      exact n
  | some cwv =>
    obtain ⟨c', e, hco⟩ := amg pos cwv fnd
    subst e
    refine PySem.W.kdv_makeTailHit (mg := X.mg) (c := c) (P := P) (ps := pz) (closure_ok hfree) I.ok.glob (I.mod.glob.keeps I.bk) hcode (TB.code.keeps I.bk) hP' tr3 fnd btP fun ctv doc h' tk stP szle => ?_
    refine ⟨h'.objs.size, c', doc, (X.mg "__name__").getD .none, ctv, H, rfl, I.kept fun b o e => Heap.get?_push_of_some _ (stP b o e), ExtN.refl H, hT, Heap.get?_push_size _ rfl, I.hok.fresh szle, nofr _ szle, hco, fun b o e _ => Heap.get?_push_of_some _ (stP b o e), fun _ _ n => n⟩
/-- .. with one default, 0 -/
theorem lam_makeD {T : List (Addr × Str)} {c P : Addr} {params : Arguments} {body : Expr} {scp : Scope} {pos cp : Pos} {j : Nat} {E : Value → Shared → Prop} {Qw : Value → Shared → Prop} (I : Inv X pn0 σ H s) (TB : TabB X.base X.mg c P) (hcode : X.env.code = .ref c)
    (hm : (P, lamQ X) ∈ T) (onlyP : ∀ p ∈ T, p.1 = P → p.2 = lamQ X) (hT : Tabs T H) (hfree : ∀ y ∈ scp.names, y.2 = .free → ∃ c, X.env.cells.lookup y.1 = some c)
    (hp : params.defaults = [.Constant (.int 0) j cp]) (hk : params.kw_defaults = [])
    (h : ∀ (t f c' : Addr) (tk : Tok) (doc pm ctv : Value) (H1 : Hp) (s' : Shared), Inv X pn0 σ H1 s' → ExtN H H1 → Tabs T H1 → s'.heap.get? t = some (PySem.W.kdv_tup [.int 0 tk]) → H1 t = none → t ∉ frs X.stack →
      s'.heap.get? f = some (lamObj X params body scp (.ref t) doc pm c' ctv) → H1 f = none → f ∉ frs X.stack → H1 c' = some (CodeO c' (lamQ X)) → Qw (.ref f) s') :
    wpAny (model X.prog X.w) X.A (eval (.Lambda params body scp pos) X.env) Qw E s := by
  refine PySem.W.kdv_lam (by rw [hp]; rfl) hk ?_
  rw [hp]
  refine PySem.W.kdv_all1 (thn ((pe_int (X := X) (i := 0) (j := j) (pos := cp)).run pn0 s σ H (fun v H1 => v = .int 0 ∧ H1 = H) I ⟨rfl, rfl⟩) fun u sB ⟨v, H1, I1, r, e1, e2⟩ => ?_)
  subst e1 e2
  obtain ⟨tk, rfl⟩ := r
  refine PySem.W.kdv_all0 ?_
  rw [makeFunction_eq]
  simp only [List.zip_nil_right, List.filterMap_nil, List.isEmpty_nil, if_true, pure_bind, List.isEmpty_cons, Bool.false_eq_true, if_false]
  refine wpAny_bind (wpAny_newTextTuple ?_)
  have fresh : H1 sB.heap.objs.size = none := I1.hok.fresh (Nat.le_refl _)
  have off : sB.heap.objs.size ∉ frs X.stack := by
    intro z
    rcases List.mem_cons.mp (I1.stkSub _ z) with e | e
    · exact absurd I1.lt (by rw [← e]; exact Nat.lt_irrefl _)
    · exact I1.nofs (Nat.le_refl _) e
  have I2 : Inv X pn0 σ H1 { sB with heap := sB.heap.push (PySem.W.kdv_tup [.int 0 tk]) } := I1.kept (t' := sB.toks) fun b o e => Heap.get?_push_of_some _ e
  refine thn (lam_tail I2 TB hcode hm onlyP hT hfree) fun v s2 ⟨f, c', doc, pm, ctv, H2, ev, I3, eN, T3, hf, nf, off2, hco, keep, fr⟩ => ?_
  subst ev
  refine h sB.heap.objs.size f c' tk doc pm ctv H2 s2 I3 eN T3 (keep _ _ (Heap.get?_push_size _ rfl) fun pz z => ?_) (fr _ ?_ fresh) off hf nf off2 hco
  · rw [fresh] at z
    cases z
  · show sB.heap.objs.size < (sB.heap.push _).objs.size
    rw [Heap.size_push]
    exact Nat.lt_succ_self _
/-! ### its body -/
/-- one parameter, z, with a default; else captured names and globals -/
structure LamP (sc scp : Scope) (z : Str) : Prop where
  kind : scp.kind = .function
  co : scp.isCoroutine = false
  gen : scp.isGenerator = false
  own : ∀ y ∈ scp.names, y.2 ≠ .cell ∧ (y.2 = .local → y.1 = z)
  par : scp.names.lookup z = some .local
  free : ∀ y ∈ scp.names, y.2 = .free → sc.names.lookup y.1 = some .cell ∨ sc.names.lookup y.1 = some .free
theorem LamP.has {X : Cx} {scp : Scope} {z : Str} (L : LamP X.env.scope scp z) (ok : X.Ok) : ∀ y ∈ scp.names, y.2 = .free → ∃ c, X.env.cells.lookup y.1 = some c := fun y hy e => ok.has _ ((L.free y hy e).imp id id)
/-- the slots' names without z -/
def hideN (z : Str) (N : List Str) : List Str := N.map fun y => if y = z then ("%" : Str) else y
/-- the context of such a body -/
def lamCxD (X : Cx) (A : Around) (outer : List Env) (s : Shared) (H : Hp) (E : XK) (scp : Scope) (z : Str) (f c' : Addr) : Cx := { lamCx X A outer s H E scp f c' with N := hideN z X.N }
theorem lam_startD {A : Around} {outer : List Env} {E : XK} {scp : Scope} {z : Str} {f c' : Addr} {h₁ : Heap} {tk : Nat} {u : Value} (I : Inv X pn0 σ H s) (L : LamP X.env.scope scp z) (hz : scp.names.lookup ("%" : Str) = none) (e0 : Env0 X.prog X.w X.K X.mg X.base A outer sB HZ)
    (hd : A.handled = none) (un : Un (frs X.stack) [] H HZ s.heap sB.heap) (hns : h₁.Ns sB.heap.objs.size fun y => ([(z, u)] : List (Str × Value)).reverse.lookup y) (kp : ∀ b o, sB.heap.get? b = some o → h₁.get? b = some o) :
    Inv (lamCxD X A outer sB HZ E scp z f c') [] σ HZ { sB with heap := h₁, toks := tk } := by
  have hfree := L.has I.ok
  have back : ∀ {y c}, (cloFrom X.env.cells scp.names []).lookup y = some c → X.env.cells.lookup y = some c := by
    intro y c e
    rcases cloFrom_mem (PySem.mem_of_lookup e) with hm | ⟨h1, h2⟩
    · cases hm
    · obtain ⟨cc1, fnd⟩ := hfree _ h1 rfl
      have hc' : X.env.cells.lookup y = some cc1 := fnd
      have e2 : c = cc1 := by
        rw [h2]
        show (X.env.cells.lookup y).getD 0 = cc1
        rw [hc'] <;> rfl
      rw [e2]
      exact hc'
  have there : ∀ {y}, scp.names.lookup y = some .free → ∃ c, (cloFrom X.env.cells scp.names []).lookup y = some c := fun {y} hl => mem_lookup (cloFrom_has (cells := X.env.cells) (acc := []) (PySem.mem_of_lookup hl))
  have cellK : ∀ {c : Addr} {v : Option Value}, H c = none → s.heap.IsCell c v → h₁.IsCell c v := by
    rintro c v n ⟨o, ho, hdat⟩
    obtain ⟨sl, q⟩ := un.any ho n List.not_mem_nil
    exact ⟨_, kp _ _ q, hdat⟩
  have noEx : ∀ b : Addr, b ∉ (lamCxD X A outer sB HZ E scp z f c').ex := fun b => List.not_mem_nil
  refine
    { ok :=
        { mod := e0.mod
          kind := L.kind
          glob := rfl
          blt := rfl
          above := Nat.le_refl _
          inj := fun y y2 c e1 e2 => I.ok.inj y y2 c (back e1) (back e2)
          has := fun y hy => ?has
          cab := fun y c q _ => absurd (show false = true from q) Bool.false_ne_true
          hd := fun _ => hd
          frames := Around.frames_deeper e0.frames
          stk := .inr ⟨rfl, rfl⟩
          exf := fun b q => absurd q (noEx b)
          bs := e0.bs
          bsz := e0.bsz
          noex := fun b _ _ => noEx b
          exfs := fun b q => absurd q (noEx b)
          funs := e0.funs
          frf := e0.frf }
      os := rfl
      bare := e0.bare
      base := Un.kept kp
      loc := ⟨_, hns, fun i y v e1 e2 e3 => ?loc⟩
      cell := fun y c e => ?cell
      free := e0.hok.fresh (Nat.le_refl _)
      freeC := fun y c e => ?freeC
      pin := fun q hq => absurd (show q ∈ ([] : List (Addr × Obj)) ++ [] from hq) List.not_mem_nil
      hok := e0.hok.kept kp
      len := ?len }
  case has =>
    rcases (show scp.names.lookup y = some .cell ∨ scp.names.lookup y = some .free from hy) with q | q
    · exact absurd rfl (L.own _ (PySem.mem_of_lookup q)).1
    · exact there q
  case loc =>
    have e3 : Vis scp y := e3
    have e1' : (hideN z X.N)[i]? = some y := e1
    rcases e3 with k | k | k
    · exfalso
      have ez : y = z := (L.own _ (PySem.mem_of_lookup k)).2 rfl
      unfold hideN at e1'
      rw [List.getElem?_map] at e1'
      cases q : X.N[i]? with
      | none =>
        rw [q] at e1'
        cases e1'
      | some n =>
        rw [q] at e1'
        have e4 : (if n = z then ("%" : Str) else n) = y := Option.some.inj e1'
        by_cases hn : n = z
        · rw [if_pos hn] at e4
          rw [← e4, hz] at k
          cases k
        · rw [if_neg hn] at e4
          exact hn (e4.trans ez)
    · exact absurd rfl (L.own _ (PySem.mem_of_lookup k)).1
    · have eN : X.N[i]? = some y := by
        unfold hideN at e1'
        rw [List.getElem?_map] at e1'
        cases q : X.N[i]? with
        | none =>
          rw [q] at e1'
          cases e1'
        | some n =>
          rw [q] at e1'
          have e4 : (if n = z then ("%" : Str) else n) = y := Option.some.inj e1'
          by_cases hn : n = z
          · rw [if_pos hn] at e4
            rw [← e4, hz] at k
            cases k
          · rw [if_neg hn] at e4
            rw [e4]
      obtain ⟨m, hn, hl⟩ := I.loc
      have vis : Vis X.env.scope y := (L.free _ (PySem.mem_of_lookup k) rfl).elim (fun q => .inr (.inl q)) fun q => .inr (.inr q)
      obtain ⟨w', r, q⟩ := hl i y v eN e2 vis
      obtain ⟨cc2, h2⟩ := there k
      refine ⟨w', r, .inr ⟨.inr k, cc2, h2, ?_⟩⟩
      have cc1 := back h2
      rcases q with ⟨k', _⟩ | ⟨_, c3, e', q3⟩
      · have k' : X.env.scope.names.lookup y = some .local := k'
        rcases L.free _ (PySem.mem_of_lookup k) rfl with kk2 | kk2 <;> rw [show X.env.scope.names.lookup y = _ from kk2] at k' <;> cases k'
      · rw [cc1] at e'
        cases e'
        exact cellK (I.freeC y _ cc1) q3
  case cell =>
    obtain ⟨w', q⟩ := I.cell y c (back e)
    exact ⟨w', cellK (I.freeC y c (back e)) q⟩
  case freeC =>
    obtain ⟨v, o, ho, _⟩ := I.cell y c (back e)
    exact un.free c o ho (I.freeC y c (back e)) List.not_mem_nil
  case len =>
    show σ.length = (hideN z X.N).length
    unfold hideN
    rw [List.length_map]
    exact I.len
end
end Kx
namespace Kx
open PySem PySem.Spec PyProof.Rows L2 SX LamX
section
variable {X : Cx} {pn0 : List (Addr × Obj)} {σ : L2.St} {Hm : Hp} {st : Shared}
/-- how the lambda's one default binds -/
def BindD (params : Arguments) (body : Expr) (scp : Scope) (z : Str) : Prop := ∀ (q : Str) (cl : List (Str × Addr)) (t : Addr) (doc pm cv ctv : Value) (tk : Tok), ∃ k,
  bindArgs (PySem.W.kdv_fn "<lambda>" q params (.expr body) scp cl (.ref t) doc pm cv ctv) ⟨[], []⟩ = seqItems? (.ref t) >>= k ∧ k (some #[.int 0 tk]) = pure [(z, .int 0 tk)]
theorem pe_actD {CXg : CXT} {Eg : XK} {Ng : List Str} {qg : Str} {sg : Scope} {g f c' t : Addr} {tk : Tok} {cdg doc pm ctv : Value} {params : Arguments} {body : Expr} {scp : Scope} {z : Str} {k i : Nat} {a : Str} {pn : List (Addr × Obj)} {xe : Value → Shared → Prop} {W : WX} {E : XK} {tb : TE} {p1 p2 : Pos}
    (I : Inv X pn0 σ Hm st) (L : LamP X.env.scope scp z) (hz : scp.names.lookup ("%" : Str) = none)
    (ht : st.heap.get? t = some (PySem.W.kdv_tup [.int 0 tk])) (htn : Hm t = none) (htr : t ∉ frs X.stack)
    (hf : st.heap.get? f = some (lamObj X params body scp (.ref t) doc pm c' ctv)) (hfn : Hm f = none) (hfr : f ∉ frs X.stack) (hbind : BindD params body scp z)
    (tk' : Takes ((cxOf CXg X.prog X.w X.K X.mg X.base Ng qg sg g cdg X.A X.stack st Hm Eg).tr pn xe) W) (hW : ∀ cls d σ' H', E cls d H' → W cls d σ' H') (hr : Room (k + 1) (X.A.deeper (envOfC qg sg st.heap.objs.size g cdg)))
    (hbody : ∀ (A : Around) (outer : List Env) (st : Shared) (Hm : Hp), Room k (A.deeper (lamEnv X scp st.heap.objs.size f c')) → PE (lamCxD X A outer st Hm E scp z f c') body tb)
    (ixN1 : Ng[i]? = some a) (visN : Vis sg a) (dbgN : (a == ("__debug__" : Str)) = false := by decide) (clsN : (a == ("__classdict__" : Str)) = false := by decide) :
    PE ((cxOf CXg X.prog X.w X.K X.mg X.base Ng qg sg g cdg X.A X.stack st Hm Eg).tr pn xe) (.Call (.Name a p1) [] [] p2)
      (fun σZ HZ Q => σZ[i]? = some (some (.ref f)) ∧ HZ c' = some (CodeO c' (lamQ X)) ∧ tb σ HZ Q) := by
  refine ⟨fun pnZ tZ σZ HZ Q IZ h => ?_⟩
  obtain ⟨hs, hc, hq⟩ := h
  refine wpAny_Call_Name_kw (thn ((pe_var (pos := p1) (i := i) ixN1 visN dbgN clsN).run pnZ tZ σZ HZ (fun v H1 => v = .ref f ∧ H1 = HZ) IZ ⟨.ref f, hs, rfl, rfl⟩) fun u s1 hh => ?_)
  obtain ⟨v, H1, I1, r1, rfl, rfl⟩ := hh
  obtain rfl : u = Value.ref f := r1
  have none_ex : ∀ {b : Addr}, b ∉ ([] : List Addr) := fun {b} => List.not_mem_nil
  have f1 := I1.base.keep f _ hf hfn hfr none_ex
  have t1 := I1.base.keep t _ ht htn htr none_ex
  refine PySem.W.callWith_F0 ⟨_, _, _, _, f1⟩ ?_
  have un : Un (frs X.stack) [] Hm H1 st.heap s1.heap := I1.base
  obtain ⟨⟨oc, vs, tq, e1, e2, e3⟩, _, _⟩ := I1.hok c' _ hc
  have run : codeAny (model X.prog X.w) (X.A.deeper (envOfC qg sg st.heap.objs.size g cdg)) (.call (.ref f) ⟨[], []⟩) (CR (L2.CX X.prog X.w) (envOfC qg sg st.heap.objs.size g cdg :: X.stack) X.prog X.w H1 s1 Q E) s1 := by
    refine PySem.W.kla_callFunE hr.depth f1 rfl L.co L.gen rfl ⟨c', oc, vs, tq, rfl, e1, e2, e3⟩ ?_
    obtain ⟨k2, b1, b2⟩ := hbind (lamQ X) (cloFrom X.env.cells scp.names []) t doc pm (.ref c') ctv tk
    refine BindsTo.of_defaults rfl t1 rfl b1 b2 _ _ _ _ ?_
    refine wpAny_newFunctionEnv (fun y hy => (L.own y hy).1) (fun y hy => ?_) (fun h₁ hns sbt => ⟨I1.nolimit.fresh _ sbt, ?_⟩) L.kind
    · obtain rfl := List.mem_singleton.mp hy
      exact L.par
    show codeAny _ _ (.expr body (lamEnv X scp s1.heap.objs.size f c')) _ _
    have kpt : ∀ b o, s1.heap.get? b = some o → h₁.get? b = some o := fun b o e => sbt.extBut b o (Nat.ne_of_lt (Heap.lt_size e)) (Heap.get?_push_of_some _ e)
    have J := lam_startD (E := E) (f := f) (c' := c') (tk := s1.toks + 1) I L hz I1.env0 hr.hd un hns kpt
    refine PySem.W.kla_codeExpr (wpAny_mono ((hbody _ _ s1 H1 (hr.deeper _)).run [] _ _ H1 Q J hq) (fun v s' q => ?_) fun _ _ q => q)
    obtain ⟨w', H', J', rv, q⟩ := q
    exact ⟨w', H', J'.os, J'.bare, J'.base, J'.hok, rv, q⟩
  have pass : Passes (L2.CX X.prog X.w) ((cxOf CXg X.prog X.w X.K X.mg X.base Ng qg sg g cdg X.A X.stack st Hm Eg).tr pn xe) E := passes_call tk' hW
  refine wpAny_call (codeAny_mono run fun r s' q => ?_)
  match r, q with
  | .error e, q => exact pass pnZ σZ H1 s1 e s' I1 q
  | .ok (.ret u), q => exact I1.after q
  | .ok .next, q => exact False.elim q
  | .ok .brk, q => exact False.elim q
  | .ok .cont, q => exact False.elim q
/-- x(lambda z=0: body) -/
theorem pe_lamcallD {T : List (Addr × Str)} {TT : (XK → Hp → VK → Prop) → Hp → VK → Prop} {x a z : Str} {g c P : Addr} {k : Nat} {pg : Arguments} {bg : List Stmt} {sg : Scope} {dV kV doc pm cdw ct oc : Value} {an od : Option Addr} {slg : Array (Option Value)} {Ng : List Str}
    {params : Arguments} {body : Expr} {scp : Scope} {t : XK → TE} {p lps pos cp : Pos} {j : Nat} (hg : Gl X x) (mgx : X.mg x = some (.ref g)) (hk : PySem.W.keepIn X.K (.ref g) = true)
    (lkg : X.K.lookup g = some ⟨oc, od, .func (PySem.W.fnOf x x pg bg sg dV kV doc pm an cdw ct), slg⟩) (cdg2 : PySem.W.codeIn X.K cdw x = true) (bdg : L2.Binds X.K (PySem.W.fnOf x x pg bg sg dV kV doc pm an cdw ct) [a] []) (Sg : FnScope Ng [a] sg) (hNg : Ng[0]? = some a) (hva : Vis sg a)
    (hG : GivesTo X Ng x sg g cdw bg a (lamQ X) TT) (TB : TabB X.base X.mg c P) (hcode : X.env.code = .ref c) (hmT : (P, lamQ X) ∈ T) (hu : ∀ p ∈ T, p.1 = P → p.2 = lamQ X) (hr : Room (k + 2) X.A)
    (L : LamP X.env.scope scp z) (hz : scp.names.lookup ("%" : Str) = none) (hp : params.defaults = [.Constant (.int 0) j cp]) (hkw : params.kw_defaults = []) (hbind : BindD params body scp z)
    (hbody : ∀ (A : Around) (outer : List Env) (st : Shared) (Hm : Hp) (E : XK) (f c' : Addr), Room k (A.deeper (lamEnv X scp st.heap.objs.size f c')) → PE (lamCxD X A outer st Hm E scp z f c') body (t E))
    (dbgX : (x == ("__debug__" : Str)) = false := by decide) (dbgN : (a == ("__debug__" : Str)) = false := by decide) (clsN : (a == ("__classdict__" : Str)) = false := by decide) :
    PE X (.Call (.Name x p) [.Lambda params body scp lps] [] pos) (tLam T TT t) := by
  refine ⟨fun pn0 st σ Hm Q I h => ?_⟩
  obtain ⟨hT, hq⟩ := h
  refine wpAny_Call_Name_kw (ld_glob I hg mgx ?_ dbgX)
  refine PySem.W.callWith_K (h₀ := X.base) I.ok.mod.kin hk ?_ (by rfl) (by rfl)
  show wpAny _ _ (spliced ((false, eval (.Lambda params body scp lps) X.env) :: backTo pos (starEach [] X.env))) _ _ st
  refine Calls.spliced_cons (lam_makeD I TB hcode hmT hu hT (L.has I.ok) hp hkw ?_)
  intro tt f c' tk doc' pm' ctv H1 s' I1 eN T1 ht nt ot hf nf of_ hco
  refine Calls.spliced_nil ⟨I1.kIn, ?_⟩
  have called : codeAny (model X.prog X.w) X.A (.call (.ref g) ⟨[.ref f], []⟩) (CR C8.CX0 X.stack X.prog X.w H1 s' Q C8.E0) s' := by
    refine run_ofS (N := Ng) (ps := [a]) (us := [.ref f]) (vs := [.ref f]) lkg cdg2 Sg hr I1.env0 (bdg s' [.ref f] I1.kIn rfl) (.cons rfl .nil) rfl fun hr' => ?_
    obtain ⟨t', d', q'⟩ := hG f c' s' H1 Q (fun E H' Q' => t E σ H' Q') (fun W pn xe E p1 p2 tk2 hW => pe_actD (i := 0) I1 L hz ht nt ot hf nf of_ hbind tk2 hW hr' (fun A outer st Hm hr2 => hbody A outer st Hm E f c' hr2) hNg hva dbgN clsN) hco (hq H1 eN T1)
    exact ⟨t', d'.nox, q'⟩
  refine wpAny_call (codeAny_mono called fun r s2 q => ?_)
  match r, q with
  | .error e, q => exact (show False from q).elim
  | .ok (.ret u), q => exact I1.after q
  | .ok .next, q => exact False.elim q
  | .ok .brk, q => exact False.elim q
  | .ok .cont, q => exact False.elim q
end
end Kx
namespace Kx
open PySem PySem.Spec PyProof.Rows L2 SX LamX
/-! ### the law's own call: guards told, tables of code objects known -/
section
variable {P : Program} {w : World} {K : PySem.W.Frag} {mg mb : Str → Option Value} {k : Nat} {fa a : Addr} {fd : FuncData} {x : Str} {sp : Sp} {s : Shared} {vs : List Value} {ns : List Int} {cs : List (Addr × Addr)}
abbrev tab0 : Obj := { cls := .none, data := .fields #[] }
abbrev scriptObj (vs : List Value) : Obj := { cls := .type "list", data := .seq vs.toArray }
/-- what is tracked when the law begins: the script, perhaps, and the tables -/
inductive Tr (cs : List (Addr × Addr)) (K : PySem.W.Frag) (a : Addr) (b : Addr) (u : HO) : Prop where
  | script (o : Obj) (xs : List V) (e : b = a) (k : K.lookup a = none) (h : u = .frz o (.lst xs))
  | table (p : Addr × Addr) (m : p ∈ cs) (e : b = p.2) (h : u = .tbl #[])
theorem lawT_of (KX : K.In s.heap) (G : s.heap.Ns mainGlobals mg) (B : s.heap.Ns builtinsNs mb) (BB : ∀ y : Str, y ≠ "__name__" → mb y = bootBuiltins y) (NL : s.heap.NoLimit) (g0 : s.gens = #[])
    (hT : ∀ p ∈ cs, s.heap.get? p.2 = some tab0 ∧ K.lookup p.2 = none ∧ PySem.W.CodeHd s.heap p.1 p.2)
    (bm : ∃ (m : Addr) (ob : Obj), mg "__builtins__" = some (.ref m) ∧ m ≠ builtinsNs ∧ s.heap.get? m = some ob ∧ ob.cls = .type "module" ∧ ob.dict = some builtinsNs ∧ ob.data = .plain)
    (ha : s.heap.get? a = some (scriptObj vs)) (hr : Room k callerA) (F : ∀ base : Heap, K.In base → base.Ns mainGlobals mg → (∀ p ∈ cs, TabB base mg p.1 p.2) → FnG P w K mg base CX0 k fa fd [x] sp)
    (bd : ∀ (t : Shared) (u : Value), BindsTo t fd ⟨[u], []⟩ [(x, u)]) (H : Hp) (tr : ∀ b u, H b = some u → Tr cs K a b u) (ok : HOk P w H s.heap) (all : ∀ p ∈ cs, H p.2 = some (.tbl #[]))
    (pr : sp [.ref a] H (fun v _ => v = .bl true) fun _ _ _ => False) : codeAny (model P w) callerA (.call (.ref fa) ⟨[.ref a], []⟩) (LawEnd s) s := by
  have stay : ∀ {b : Addr} {o : Obj}, s.heap.get? b = some o → H b = none → (hidT s.heap H).get? b = some o := fun e n => hidT_get e n
  -- what is neither a list nor an empty table is not tracked
  have off : ∀ {b : Addr} {o : Obj}, s.heap.get? b = some o → (∀ l n, o.data ≠ .seq l n) → o.data ≠ .fields #[] → H b = none := by
    intro b o e h1 h2
    cases q : H b with
    | none => rfl
    | some u =>
      exfalso
      cases tr b u q with
      | script ob xs eb _ _ =>
        rw [eb, ha] at e
        cases e
        exact h1 _ _ rfl
      | table p m eb _ =>
        rw [eb, (hT p m).1] at e
        cases e
        exact h2 rfl
  have nsK : ∀ {b : Addr} {m : Str → Option Value}, s.heap.Ns b m → (hidT s.heap H).Ns b m := by
    rintro b m ⟨o, es, ep, e, d, r⟩
    exact ⟨o, es, ep, stay e (off e (fun l n z => by rw [d] at z; cases z) (fun z => by rw [d] at z; cases z)), d, r⟩
  have Kb : K.In (hidT s.heap H) := by
    intro b o e
    refine stay (KX b o e) ?_
    cases q : H b with
    | none => rfl
    | some u =>
      exfalso
      cases tr b u q with
      | script ob xs eb kn _ =>
        rw [eb, kn] at e
        cases e
      | table p m eb _ =>
        rw [eb, (hT p m).2.1] at e
        cases e
  obtain ⟨ml, l1, l2⟩ := NL
  have TB : ∀ p ∈ cs, TabB (hidT s.heap H) mg p.1 p.2 := by
    intro p hp
    obtain ⟨t0, _, cd⟩ := hT p hp
    refine { code := ?_, bm := ?_, gP := ?_ }
    · obtain ⟨o, us, fl, tf, fg, tg, iF, tx, tt, e1, r1, r2, r3, r⟩ := cd
      refine ⟨o, us, fl, tf, fg, tg, iF, tx, tt, stay e1 (off e1 (fun l n z => by rw [r2] at z; cases z) fun z => ?_), r1, r2, r3, r⟩
      rw [r2] at z
      cases z
      simp at r3
    · obtain ⟨m, ob, b1, b2, b3, b4, b5, b6⟩ := bm
      have pl : ∀ d : Data, d = .plain → (∀ l n, d ≠ .seq l n) ∧ d ≠ .fields #[] := by
        rintro d rfl
        exact ⟨fun l n z => (by cases z), fun z => (by cases z)⟩
      refine ⟨m, ob, b1, b2, fun q => ?_, fun q => ?_, stay b3 (off b3 (pl _ b6).1 (pl _ b6).2), b4, b5, b6⟩
      · obtain ⟨o, es, ep, e, hd, _⟩ := G
        rw [q, e] at b3
        cases b3
        rw [hd] at b6
        cases b6
      · rw [q, t0] at b3
        cases b3
        cases b6
    · intro z
      obtain ⟨o, es, ep, e, hd, _⟩ := G
      rw [z, t0] at e
      cases e
      cases hd
  have E0 : Env0 P w K mg (hidT s.heap H) callerA [] s H :=
    { frames := rfl
      mod := { kin := Kb, glob := nsK G, blt := ⟨mb, nsK B, BB⟩, nolimit := ⟨ml, nsK l1, l2⟩ }
      bs := fun b o e => of_hidT e
      bsz := Nat.le_of_eq (hidT_size _ _)
      funs := trivial
      frf := fun b hb => absurd hb (List.not_mem_nil)
      hok := ok
      bare := .of_eq g0 }
  refine codeAny_mono ((F _ Kb (nsK G) TB).go callerA [] s H ⟨[.ref a], []⟩ [.ref a] [.ref a] _ _ rfl hr E0 (bd s (.ref a)) (.cons rfl .nil) pr) ?_
  intro r t h
  match r, h with
  | .error e, h =>
    exact (show False from h).elim
  | .ok .next, h => exact False.elim h
  | .ok .brk, h => exact False.elim h
  | .ok .cont, h => exact False.elim h
  | .ok (.ret u), h =>
    obtain ⟨v, H', h1, h2, un, ok', rv, rfl⟩ := h
    cases rv
    have grown : ∀ p ∈ cs, ∃ more : Array Value, t.heap.get? p.2 = some { cls := .none, data := .fields more } := by
      intro p hp
      obtain ⟨more, q⟩ := un.tbls p.2 #[] (all p hp)
      exact ⟨_, ok' p.2 _ q⟩
    have kept : ∀ b o, (∀ p ∈ cs, b ≠ p.2) → s.heap.get? b = some o → t.heap.get? b = some o := by
      intro b o nb e
      cases q : H b with
      | none => exact un.keep b o e q List.not_mem_nil List.not_mem_nil
      | some u =>
        cases tr b u q with
        | script ob xs eb _ eu =>
          rw [eu] at q
          have e1 := (ok b _ q).1
          have e2 := (ok' b _ (un.frzs b ob _ q)).1
          rw [e] at e1
          cases e1
          exact e2
        | table p m eb _ => exact absurd eb (nb p m)
    refine ⟨rfl, ⟨fun b o e => ?_, fun b o e => ?_⟩, h1, h2⟩
    · by_cases hb : ∃ p ∈ cs, b = p.2
      · obtain ⟨p, hp, rfl⟩ := hb
        obtain ⟨t0, _, cd⟩ := hT p hp
        obtain ⟨more, q⟩ := grown p hp
        rw [t0] at e
        cases e
        exact .inr (.inl ⟨(cd.tab t0).isCodeTable, rfl, #[], more, rfl, by rw [Array.empty_append]; exact q⟩)
      · exact .inl (kept b o (fun p hp z => hb ⟨p, hp, z⟩) e)
    · by_cases hb : ∃ p ∈ cs, b = p.2
      · obtain ⟨p, hp, rfl⟩ := hb
        obtain ⟨more, q⟩ := grown p hp
        exact ⟨_, q⟩
      · exact ⟨o, kept b o (fun p hp z => hb ⟨p, hp, z⟩) e⟩
theorem lawT (KX : K.In s.heap) (G : s.heap.Ns mainGlobals mg) (B : s.heap.Ns builtinsNs mb) (BB : ∀ y : Str, y ≠ "__name__" → mb y = bootBuiltins y) (NL : s.heap.NoLimit) (g0 : s.gens = #[])
    (hT : ∀ p ∈ cs, s.heap.get? p.2 = some tab0 ∧ K.lookup p.2 = none ∧ PySem.W.CodeHd s.heap p.1 p.2)
    (bm : ∃ (m : Addr) (ob : Obj), mg "__builtins__" = some (.ref m) ∧ m ≠ builtinsNs ∧ s.heap.get? m = some ob ∧ ob.cls = .type "module" ∧ ob.dict = some builtinsNs ∧ ob.data = .plain)
    (ha : s.heap.get? a = some (scriptObj vs)) (hi : IntsAre vs ns) (hl : ns.length ≤ sizeLine) (hr : Room k callerA)
    (F : ∀ base : Heap, K.In base → base.Ns mainGlobals mg → (∀ p ∈ cs, TabB base mg p.1 p.2) → FnG P w K mg base CX0 k fa fd [x] sp) (bd : ∀ (t : Shared) (u : Value), BindsTo t fd ⟨[u], []⟩ [(x, u)])
    (pr : ∀ H : Hp, (∀ p ∈ cs, H p.2 = some (.tbl #[])) → SqL K H a (ns.map V.int) → (∀ b u, H b = some u → Tr cs K a b u) → sp [.ref a] H (fun v _ => v = .bl true) fun _ _ _ => False) :
    codeAny (model P w) callerA (.call (.ref fa) ⟨[.ref a], []⟩) (LawEnd s) s := by
  have rv := vals_ints hi
  have na : ∀ p ∈ cs, p.2 ≠ a := by
    intro p hp z
    have e := (hT p hp).1
    rw [z, ha] at e
    cases e
  let tabs : Hp := fun b => if b ∈ cs.map (·.2) then some (.tbl #[]) else none
  have isT : ∀ p ∈ cs, tabs p.2 = some (.tbl #[]) := fun p hp => if_pos (List.mem_map.mpr ⟨p, hp, rfl⟩)
  have ofT : ∀ b u, tabs b = some u → ∃ p ∈ cs, b = p.2 ∧ u = .tbl #[] := by
    intro b u q
    by_cases hb : b ∈ cs.map (·.2)
    · obtain ⟨p, hp, e⟩ := List.mem_map.mp hb
      have q' : some (HO.tbl #[]) = some u := (if_pos hb).symm.trans q
      exact ⟨p, hp, e.symm, (Option.some.inj q').symm⟩
    · have q' : (none : Option HO) = some u := (if_neg hb).symm.trans q
      cases q'
  cases hk : K.lookup a with
  | some o =>
    have e := KX a o hk
    rw [ha] at e
    cases e
    have tr : ∀ b u, tabs b = some u → Tr cs K a b u := fun b u q => by
      obtain ⟨p, hp, e1, e2⟩ := ofT b u q
      exact .table p hp e1 e2
    refine lawT_of KX G B BB NL g0 hT bm ha hr F bd tabs tr (fun b u q => ?_) isT (pr tabs isT (.inr ⟨_, vs.toArray, _, hk, rfl, rfl, rfl, ?_, by simpa using rv⟩) tr)
    · obtain ⟨p, hp, rfl, rfl⟩ := ofT b u q
      exact (hT p hp).1
    · rw [List.size_toArray, hi.length]
      exact hl
  | none =>
    let Ha : Hp := fun b => if b = a then some (.frz (scriptObj vs) (.lst (ns.map V.int))) else tabs b
    have at_a : Ha a = some (.frz (scriptObj vs) (.lst (ns.map V.int))) := if_pos rfl
    have but : ∀ b, b ≠ a → Ha b = tabs b := fun b hb => if_neg hb
    have tr : ∀ b u, Ha b = some u → Tr cs K a b u := by
      intro b u q
      by_cases hb : b = a
      · rw [hb, at_a] at q
        exact .script _ _ hb hk (Option.some.inj q).symm
      · rw [but b hb] at q
        obtain ⟨p, hp, e1, e2⟩ := ofT b u q
        exact .table p hp e1 e2
    have isH : ∀ p ∈ cs, Ha p.2 = some (.tbl #[]) := fun p hp => (but _ (na p hp)).trans (isT p hp)
    refine lawT_of KX G B BB NL g0 hT bm ha hr F bd Ha tr (fun b u q => ?_) isH (pr Ha isH (.inl (.inr ⟨scriptObj vs, at_a⟩)) tr)
    by_cases hb : b = a
    · subst hb
      rw [at_a] at q
      cases q
      exact ⟨ha, by rw [List.length_map]; exact hl, vs, _, rv, ha⟩
    · rw [but b hb] at q
      obtain ⟨p, hp, rfl, rfl⟩ := ofT b u q
      exact (hT p hp).1
end
open PySem.W in
/-- the goal that the head leaves; cs: the defs that make lambdas, each with its code object and its table -/
theorem walkT {l : OpenLaw} {n k : Nat} {q : Program} {loose : List Str} {XP : (Str → Option Value) → Heap → Prop} {YP : World → Heap → Prop} {d : DefRec} {K : Params → Frag} {sp : Frag → Sp} {x : Str} {cs : Params → List (Str × Addr × Addr)}
    (hn : l.most = some n) (hz : n ≤ sizeLine) (h0 : d.params.defaults = []) (hr : Room k callerA) (hY : ∀ (w : World) (h : Heap), YP w h → (K w.params).In h)
    (hc : ∀ p, ∀ e ∈ cs p, (∃ r, (recsOf q).find? (fun r => r.name == e.1) = some r) ∧ tabIn (K p) e.1 = some e.2 ∧ (K p).lookup e.2.2 = none)
    (F : ∀ (w : World) (mg : Str → Option Value) (fa : Addr) (h : Heap), (K w.params).In h → h.Ns mainGlobals mg → mg d.name = some (.ref fa) → ∃ fd : FuncData,
      (∀ (t : Shared) (u : Value), BindsTo t fd ⟨[u], []⟩ [(x, u)]) ∧ ∀ base : Heap, (K w.params).In base → base.Ns mainGlobals mg → (∀ e ∈ cs w.params, TabB base mg e.2.1 e.2.2) → FnG l.prog w (K w.params) mg base CX0 k fa fd [x] (sp (K w.params)))
    (pr : ∀ (p : Params) (H : Hp) (a : Addr) (ns : List Int), ns.length ≤ n → (∀ e ∈ cs p, H e.2.2 = some (.tbl #[])) → SqL (K p) H a (ns.map V.int) → (∀ b u, H b = some u → Tr ((cs p).map (·.2)) (K p) a b u) → sp (K p) [.ref a] H (fun v _ => v = .bl true) fun _ _ _ => False) :
    WalkO q loose XP YP l.row.toRowW d [] (fun f us => PySem.call f us) := by
  refine Att.attach_call hn h0 ?_
  intro w s₀ s₁ mg mb fa o pm cd doc a us ns G Y ho hd hcd hm hobj hints hlen hg
  have KX := hY w _ Y
  obtain ⟨fd, hb, hF⟩ := F w mg fa _ KX G.T.g hm
  have lift : ∀ {φ : Addr × Addr → Prop}, (∀ p ∈ (cs w.params).map (·.2), φ p) ↔ ∀ e ∈ cs w.params, φ e.2 := by
    intro φ
    constructor
    · intro h e he
      exact h _ (List.mem_map.mpr ⟨e, he, rfl⟩)
    · intro h p hp
      obtain ⟨e, he, rfl⟩ := List.mem_map.mp hp
      exact h e he
  refine lawT (cs := (cs w.params).map (·.2)) KX G.T.g G.T.b G.T.builtins G.T.nolimit hg (lift.mpr fun e he => ?_) G.T.bmain hobj hints (Nat.le_trans hlen hz) hr (fun base h1 h2 h3 => hF base h1 h2 (lift.mp h3)) hb fun H h1 h2 h3 => pr _ H a ns hlen (lift.mp h1) h2 h3
  obtain ⟨⟨r, e1⟩, e2, e3⟩ := hc w.params e he
  obtain ⟨t1, t2⟩ := tab_of G.T KX e1 e2
  exact ⟨t2, e3, t1⟩
end Kx
namespace Kx
open PySem PySem.Spec PyProof.Rows L2 SX LamX
section
variable {X : Cx}
/-! ### repr of data -/
def rRepr (K : PySem.W.Frag) : List V → Hp → VK → Prop := fun xs H Q => ∃ (a : Addr) (d : PyData), xs = [.ref a] ∧ Dp K H (.ref a) d ∧ d.showable = true ∧ d.hasDict = false ∧ d.depth ≤ 60 ∧ d.shown.length ≤ sizeLine ∧ Q (.str d.shown) H
theorem call_reprD (hg : X.A.guards = some []) (hu : X.A.units + 64 < cLine) : CallR X (.builtin "repr") (rRepr X.K) := by
  intro pins s σ H xs us Q I r h
  obtain ⟨a, d, rfl, hd, hs, hn, hp, hl, q⟩ := h
  cases r with
  | cons r0 rr =>
    cases rr
    obtain ⟨as, rd⟩ := Dp.reads I d _ _ hd r0
    cases r0
    refine repr_of_reads' rd hs (PyData.noDict_hsm hn) hg (by omega) (fun _ _ e => e) (fun h' u tk k => ?_) hl
    exact ⟨.str d.shown, H, I.kept k, ⟨u, rfl⟩, q⟩
/-! ### f(k = v, ..): keywords alone -/
theorem pe_callK0 {CX : CXT} {k : Nat} {f : Addr} {fd : FuncData} {ps ks : List Str} {sp : Sp} {E : XK} {x : Str} {p pos : Pos} {kws : List Keyword} {tk : TA} {g : List Value → List Value → List Value} {gV : List V → List V → List V}
    (F : FnOk X.prog X.w X.K X.mg X.base CX k f fd ps sp) (hr : Room k X.A) (hg : Gl X x) (hm : X.mg x = some (.ref f)) (hk : PySem.W.keepIn X.K (.ref f) = true) (hb : KBinds X.K fd ps ks g gV) (hx : Passes CX X E) (hkw : PK X kws tk)
    (hall : (backToKw pos (keywordEach kws X.env)).all (·.1.isSome) = true := by rfl) (hks : (backToKw pos (keywordEach kws X.env)).filterMap (·.1) = ks := by rfl) (hdb : (x == ("__debug__" : Str)) = false := by decide)
    (hpl : ((backTo pos (starEach [] X.env)).any (·.1) || (backToKw pos (keywordEach kws X.env)).any (·.1.isNone)) = false := by rfl) : PE X (.Call (.Name x p) [] kws pos) (tCallK sp gV E tNil tk) := by
  refine ⟨fun pins s σ H Q I h => ?_⟩
  apply wpAny_Call_Name_kw
  refine ld_glob I hg hm ?_ hdb
  refine PySem.W.callWith_KW0 (h₀ := X.base) I.ok.mod.kin hk hall (thn (hkw.run pos pins s σ H _ I h) fun ws s2 hh => ?_) hpl
  obtain ⟨zs, H2, I2, rz, q2⟩ := hh
  refine ⟨I2.kIn, ?_⟩
  rw [hks]
  exact run_fnk (us := []) F hr hb hx I2 .nil rz q2
/-! ### an exception that a name holds -/
/-- isinstance of it -/
def rIsX (K : PySem.W.Frag) : List V → Hp → VK → Prop := fun xs H Q => ∃ (a D dd : Addr) (fs : List (Str × V)) (c : V) (cv : Value) (b : Bool), xs = [.ref a, c] ∧ H a = some (exT a (.ref D) (some dd)) ∧ H dd = some (.xd fs) ∧ ExcC K D ∧
  (∀ u, RelV c u → u = cv) ∧ PySem.W.kitOne K (.ref D) cv = some b ∧ Q (.bl b) H
theorem exT_at {P : Program} {w : World} {H : Hp} {h : Heap} {a : Addr} {cls : Value} {d : Option Addr} (hok : HOk P w H h) (e : H a = some (exT a cls d)) : ∃ (oe : Obj) (vs : Array Value), h.get? a = some oe ∧ Zc cls d oe ∧ oe.data = .fields vs := by
  have q : ObjOk P w H h a (exT a cls d) := hok a _ e
  exact q.1
theorem inst_at {pins : List (Addr × Obj)} {σ : L2.St} {H : Hp} {s : Shared} {a D dd : Addr} {fs : List (Str × V)} (I : Inv X pins σ H s) (e : H a = some (exT a (.ref D) (some dd))) (ed : H dd = some (.xd fs)) :
    ∃ (oe od : Obj) (mA : Str → Option Value), PySem.W.InstAt s.heap a oe D (some od) ∧ (∀ n, PySem.W.lookIn n od = some (mA n)) ∧ ∀ n, RelO (fs.lookup n) (mA n) := by
  obtain ⟨oe, vs, h1, h2, h3⟩ := exT_at I.hok e
  have hx : ObjOk X.prog X.w H s.heap dd (.xd fs) := I.hok dd _ ed
  obtain ⟨mA, hns, hr⟩ := hx
  obtain ⟨od, ho, hl⟩ := lookIn_ns hns
  refine ⟨oe, od, mA, { at_ := h1, cls := h2.1, no := ?_, dict := ?_ }, hl, hr⟩
  · unfold PySem.W.notCls
    rw [h3] <;> rfl
  · rw [h2.2]
    exact ho
theorem call_isX : CallR X (.builtin "isinstance") (rIsX X.K) := by
  intro pins s σ H xs us Q I r h
  obtain ⟨a, D, dd, fs, c, cv, b, rfl, e, ed, C, hc, hk, q⟩ := h
  obtain ⟨u1, u2, rfl, r1, r2⟩ := vals2 r
  obtain rfl : u1 = Value.ref a := r1
  obtain rfl := hc _ r2
  obtain ⟨oe, od, mA, J, _, _⟩ := inst_at I e ed
  have cls : (PySem.W.clsIn X.K D).isSome = true := by
    obtain ⟨cd, hcd, _⟩ := PySem.W.any_some C.hd
    rw [hcd]
    rfl
  exact PySem.W.kia_one (PySem.W.kitx_exc cls C.hg C.hk C.hs C.ha C.hn C.ht C.hm) I.kIn J hk (fun z => nomatch z) fun tk => ⟨.bl b, H, I.kept (t' := tk) fun _ _ z => z, rfl, q⟩
def rIsiX (K : PySem.W.Frag) : List V → Hp → VK → Prop := fun xs H Q => rIsi K xs H Q ∨ rIsX K xs H Q
theorem call_isiX : CallR X (.builtin "isinstance") (rIsiX X.K) := fun pins s σ H xs us Q I r h => h.elim (call_isi pins s σ H xs us Q I r) (call_isX pins s σ H xs us Q I r)
/-- e.n, e's value such an exception -/
def tXp (K : PySem.W.Frag) (n : Str) (te : TE) : TE := fun σ H Q => te σ H fun x H1 => ∃ (a D dd : Addr) (fs : List (Str × V)) (v : V), x = .ref a ∧ H1 a = some (exT a (.ref D) (some dd)) ∧ H1 dd = some (.xd fs) ∧ XfC K D ∧ PySem.W.findIn K (.ref D) n = some none ∧ fs.lookup n = some v ∧ Q v H1
theorem pe_xp {e : Expr} {te : TE} {n : Str} {pos : Pos} (he : PE X e te) (hb : attributeBase e n X.env (eval e X.env) = eval e X.env := by rfl) : PE X (.Attribute e n pos) (tXp X.K n te) := by
  refine ⟨fun pins s σ H Q I h => ?_⟩
  refine attr_of hb (thn (he.run pins s σ H _ I h) fun u s1 hh => ?_)
  obtain ⟨x, H1, I1, rx, a, D, dd, fs, v, rfl, e1, e2, T, hno, hl, q⟩ := hh
  obtain rfl : u = Value.ref a := rx
  obtain ⟨oe, od, mA, J, look, rel⟩ := inst_at I1 e1 e2
  obtain ⟨w, hw, rw'⟩ := RelO.some_of (v := v) (o := mA n) (by rw [← hl]; exact rel n)
  exact HandSPX.exc_get I1.kIn J T.ga T.gg T.exC (PySem.W.findObj_own T.hdC hno rfl (by rw [look, hw])) (handed_of rw') ⟨v, H1, I1.tok _, rw', q⟩
end
end Kx
namespace Kx
open PySem PySem.Spec PyProof.Rows L2 SX LamX
/-! ### an error class of the program: one field, part -/
structure Er (K : PySem.W.Frag) (mg : Str → Option Value) (x qual : Str) (st : Stmt) (base : Str) where
  C : Addr
  L : Addr
  fI : Addr
  fd : FuncData
  gC : mg x = some (.ref C)
  gL : mg base = some (.ref L)
  oex : OexC K C
  iC : PySem.W.findIn K (.ref C) "__init__" = some (some (.ref fI))
  tI : PySem.W.typeIn K (.ref fI) = some (.type "function")
  F : Fun K "__init__" qual st fI fd
  b : Binds K fd ["self", "part"] []
  np : PySem.W.findIn K (.ref C) "part" = some none
  exc : ExcC K C
  xf : XfC K C
  em : PySem.W.exmOne K (.ref C) (.ref L) = some true
/-- its making, out of what the top left -/
def er_mk {K : PySem.W.Frag} {h : Heap} {mg : Str → Option Value} (X : K.In h) (G : h.Ns mainGlobals mg) {x qual : Str} {st : Stmt} {base : Str} {C L fI N : Addr} {nm q : Str} {bs bm : List Value} {sn : List Str} {sub : List Value} {ab : Bool} {col : Option Bool} {dd : Option Addr} {m0 m1 m2 m3 m5 : Option Value}
    {od an : Option Addr} {sl : Array (Option Value)} {oc kV dc pm cd ct : Value} (aC : PySem.W.nsIn K mainGlobals x = some (some (.ref C))) (aL : PySem.W.nsIn K mainGlobals base = some (some (.ref L)))
    (xL : K.lookup C = some (excClassObj nm q C N bs bm true sn sub ab col dd m0 m1 m2 m3 m5 "ValueError.__new__")) (hbm : PySem.HandSPX.refsVE bm = true)
    (sa : PySem.W.findIn K (.ref C) "__setattr__" = some (some (.builtin "object.__setattr__"))) (eC : PySem.W.subIn K (.ref C) (.type "BaseException") = some true) (tC : PySem.W.typeIn K (.ref C) = some (.type "type")) (kC : PySem.W.keepIn K (.ref C) = true)
    (a1 : PySem.W.findIn K (.ref C) "__init__" = some (some (.ref fI))) (t1 : PySem.W.typeIn K (.ref fI) = some (.type "function"))
    (l1 : K.lookup fI = some ⟨oc, od, .func (PySem.W.fnOf "__init__" qual (defArgs st) (defBody st) (defScope st) .none kV dc pm an cd ct), sl⟩) (c1 : PySem.W.codeIn K cd qual = true) (k1 : PySem.W.keepIn K (.ref fI) = true)
    (b1 : ∀ (kV doc pm : Value) (an : Option Addr) (cdv ct : Value) (us : List Value), us.length = (["self", "part"] : List Str).length → bindArgs (PySem.W.fnOf "__init__" qual (defArgs st) (defBody st) (defScope st) .none kV doc pm an cdv ct) ⟨us, []⟩ = pure ((["self", "part"] : List Str).zip us))
    (nb : PySem.W.findIn K (.ref C) "part" = some none) (ga : PySem.W.findIn K (.ref C) "__getattribute__" = some (some (.builtin "BaseException.__getattribute__"))) (gg : PySem.W.findIn K (.ref C) "__getattr__" = some none) (hd : PySem.W.hasDictIn K C = true)
    (hc : PySem.W.findIn K (.ref C) "__class__" = some (some (.builtin "object.__class__"))) (hn : PySem.W.specialIn K (.builtin "object.__class__") "__get__" = some (some (.builtin "getset_descriptor.__get__"))) (ht : PySem.W.takesIn K (.builtin "object.__class__") = some true)
    (hm : PySem.W.mroIn K C (.type "object") = some true) (eL : PySem.W.subIn K (.ref L) (.type "BaseException") = some true) (dL : PySem.W.hasDictIn K L = true) (tL : PySem.W.typeIn K (.ref L) = some (.type "type")) (sCL : PySem.W.subIn K (.ref C) (.ref L) = some true) : Er K mg x qual st base where
  C := C
  L := L
  fI := fI
  fd := _
  gC := PySem.W.mg_of X G aC
  gL := PySem.W.mg_of X G aL
  oex := ⟨⟨nm, q, N, bs, bm, sn, sub, ab, col, dd, m0, m1, m2, m3, m5, xL, hbm⟩, sa, eC, tC, kC⟩
  iC := a1
  tI := t1
  F := fun_mk (st := st) l1 c1 k1
  b := (fun_mk (st := st) l1 c1 k1).binds (ps := ["self", "part"]) b1
  np := nb
  exc := ⟨ga, gg, eC, hd, hc, hn, ht, hm⟩
  xf := ⟨ga, gg, eC, hd⟩
  em := PySem.W.exm_ref eL dL tL sCL
theorem passF {X : Cx} : Passes (L2.CX X.prog X.w) X (fun _ _ _ => False) := fun _ _ _ _ _ _ _ z => by
  obtain ⟨_, _, _, _, _, _, _, _, _, _, _, _, f⟩ := z
  exact f.elim
/-- the promise of such an __init__: self.part = part -/
def sp_init (K : PySem.W.Frag) : Sp := fun vs H Q _ => ∃ (a C : Addr) (y : V), vs = [.ref a, y] ∧ OexC K C ∧ PySem.W.findIn K (.ref C) "part" = some none ∧ H a = some (exo a C none) ∧
  ∀ dx, H dx = none → dx ≠ a → Q .non (upd (upd H dx (exd dx [("part", y)])) a (exo a C (some dx)))
section
variable {P : Program} {w : World} {K : PySem.W.Frag} {mg : Str → Option Value} {base : Heap}
/-- the body of such an __init__ -/
def IsInit (st : Stmt) : Prop := ∃ p1 p2 p3 p4, defBody st = [.Assign [.Attribute (.Name "self" p1) "part" p2] (.Name "part" p3) p4] ∧ FnScope ["self", "part"] ["self", "part"] (defScope st) ∧ (defScope st).names.lookup ("self" : Str) = some .local ∧ (defScope st).names.lookup ("part" : Str) = some .local
theorem ok_init {x qual : Str} {st : Stmt} {bs : Str} (e : Er K mg x qual st bs) (h : IsInit st) : FnOk P w K mg base CX0 1 e.fI e.fd ["self", "part"] (sp_init K) := by
  obtain ⟨p1, p2, p3, p4, hb, sc, v1, v2⟩ := h
  refine e.F.ok sc (fun vs H Q E h => ?_) (fun cdv A outer s H vs Q E hr h => ?_)
  · obtain ⟨a, C, y, rfl, _⟩ := h
    rfl
  · obtain ⟨a, C, y, rfl, o, n, ha, q⟩ := h
    rw [hb]
    refine ⟨_, pss_one (ps_ost (pv 0 rfl (.inl v1)) (pv 1 rfl (.inl v2))), ?_⟩
    exact ⟨y, rfl, .ref a, rfl, a, C, rfl, o, n, .inl ⟨ha, q⟩⟩
end
/-! ### a choice of rules -/
section
variable {X : Cx}
theorem pi_either {tg it : Expr} {w1 w2 : TI} (h1 : PI X tg it w1) (h2 : PI X tg it w2) : PI X tg it (fun σ H R => w1 σ H R ∨ w2 σ H R) := ⟨fun pins s σ H R I h => h.elim (h1.run pins s σ H R I) (h2.run pins s σ H R I)⟩
theorem pe_either {e : Expr} {t1 t2 : TE} (h1 : PE X e t1) (h2 : PE X e t2) : PE X e (fun σ H Q => t1 σ H Q ∨ t2 σ H Q) := ⟨fun pins s σ H Q I h => h.elim (h1.run pins s σ H Q I) (h2.run pins s σ H Q I)⟩
theorem pi_seq {tg it : Expr} {tl : TE} (h : PE X it tl) : PI X tg it (fun σ H R => iList X.K tl σ H R ∨ iTup X.K tl σ H R) := pi_either (pi_list h) (pi_tup h)
end
end Kx
namespace Kx
open PySem PySem.Spec PyProof.Rows L2 SX LamX
theorem tyx_same {K : PySem.W.Frag} {H H' : Hp} {x : V} {n : String} (e : Same H H') (h : TyX K H x (.type n)) : TyX K H' x (.type n) := by
  cases h with
  | base b =>
    cases b with
    | non => exact .base .non
    | bl y => exact .base (.bl y)
    | int i => exact .base (.int i)
    | str z => exact .base (.str z)
    | flt z => exact .base (.flt z)
    | lst h => exact .base (.lst (e _ _ h))
    | frz h => exact .base (.frz (e _ _ h))
    | tup h => exact .base (.tup (e _ _ h))
    | dK h => exact .base (.dK (e _ _ h))
    | dT h => exact .base (.dT (e _ _ h))
  | byt b => exact .byt b
  | set h => exact .set (e _ _ h)
  | kList h c => exact .kList h c
  | kTuple h c => exact .kTuple h c
  | kDict h c => exact .kDict h c
  | fTuple h => exact .fTuple (e _ _ h)
  | fDict h => exact .fDict (e _ _ h)
/-! ### integers with bounds, of any value -/
def isIntV : V → Bool
  | .int _ => true
  | _ => false
/-- what the checks ask of a value's type -/
def HasInt (K : PySem.W.Frag) (H : Hp) (x : V) : Prop := ∃ (n : String) (a b : Bool), TyX K H x (.type n) ∧ kitB n "int" = some a ∧ kitB n "bool" = some b ∧ (a && !b) = isIntV x
theorem HasInt.same {K : PySem.W.Frag} {H H' : Hp} {x : V} (e : Same H H') (h : HasInt K H x) : HasInt K H' x := by
  obtain ⟨n, a, b, t, r⟩ := h
  exact ⟨n, a, b, tyx_same e t, r⟩
theorem hasInt_int {K : PySem.W.Frag} {H : Hp} (i : Int) : HasInt K H (.int i) := ⟨"int", true, false, .base (.int i), by decide +kernel, by decide +kernel, rfl⟩
theorem hasInt_bl {K : PySem.W.Frag} {H : Hp} (i : Bool) : HasInt K H (.bl i) := ⟨"bool", true, true, .base (.bl i), by decide +kernel, by decide +kernel, rfl⟩
theorem hasInt_str {K : PySem.W.Frag} {H : Hp} (i : Str) : HasInt K H (.str i) := ⟨"str", false, false, .base (.str i), by decide +kernel, by decide +kernel, rfl⟩
theorem hasInt_non {K : PySem.W.Frag} {H : Hp} : HasInt K H .non := ⟨"NoneType", false, false, .base .non, by decide +kernel, by decide +kernel, rfl⟩
theorem hasInt_lst {K : PySem.W.Frag} {H : Hp} {a : Addr} {xs : List V} (h : SqL K H a xs) : HasInt K H (.ref a) := ⟨"list", false, false, tyL h, by decide +kernel, by decide +kernel, rfl⟩
theorem hasInt_tup {K : PySem.W.Frag} {H : Hp} {a : Addr} {xs : List V} (h : SqT K H a xs) : HasInt K H (.ref a) := ⟨"tuple", false, false, tyT h, by decide +kernel, by decide +kernel, rfl⟩
/-- a bound: none, or an int -/
def bdV : Option Int → V
  | none => .non
  | some i => .int i
def loB (i : Int) : Option Int → Bool
  | none => true
  | some l => decide (l ≤ i)
def hiB (i : Int) : Option Int → Bool
  | none => true
  | some h => decide (i ≤ h)
def withinB (i : Int) (lo hi : Option Int) : Bool := loB i lo && hiB i hi
def withinV (x : V) (lo hi : Option Int) : Bool := match x with
  | .int i => withinB i lo hi
  | _ => false
end Kx
namespace Kx
open PySem PySem.Spec PyProof.Rows L2 SX LamX
/-! ### the draws' wheel: cells, how many were begun, what is left -/
def Wh (H : Hp) (a c : Addr) (n : Nat) : Prop := ∃ (cs : List Int) (t l : Int), H a = some (.lst [.ref c, .int t, .int l]) ∧ H c = some (.lst (cs.map V.int)) ∧ cs.length ≤ 60 ∧ 0 ≤ t ∧ t ≤ n
/-- all that was tracked, but for what stands at a, is as it was -/
def Mv (a : Addr) (H H' : Hp) : Prop := ∀ b o, b ≠ a → H b = some o → H' b = some o
theorem Mv.refl (a : Addr) (H : Hp) : Mv a H H := fun _ _ _ h => h
theorem Mv.trans {a : Addr} {H H1 H2 : Hp} (x : Mv a H H1) (y : Mv a H1 H2) : Mv a H H2 := fun b o n h => y b o n (x b o n h)
theorem Mv.of {a : Addr} {H H1 : Hp} (x : Same H H1) : Mv a H H1 := fun b o _ h => x b o h
theorem Mv.upd (a : Addr) (H : Hp) (o : HO) : Mv a H (upd H a o) := fun b p n h => by rw [upd_ne n]; exact h
theorem Mv.same {a : Addr} {H H1 : Hp} (x : Mv a H H1) (h : H a = none) : Same H H1 := fun b o e => x b o (fun z => by rw [z, h] at e; cases e) e
theorem Wh.lt {H : Hp} {a c : Addr} {n m : Nat} (h : Wh H a c n) (l : n ≤ m) : Wh H a c m := by
  obtain ⟨cs, t, l', h1, h2, h3, h4, h5⟩ := h
  exact ⟨cs, t, l', h1, h2, h3, h4, by omega⟩
theorem Wh.same {H H' : Hp} {a c : Addr} {n : Nat} (h : Wh H a c n) (e : Same H H') : Wh H' a c n := by
  obtain ⟨cs, t, l', h1, h2, h3⟩ := h
  exact ⟨cs, t, l', e _ _ h1, e _ _ h2, h3⟩
theorem wh_set {H : Hp} {a c : Addr} {cs : List Int} {t l : Int} {n : Nat} {u : List V} (h1 : H a = some (.lst u)) (h2 : H c = some (.lst (cs.map V.int))) (hac : a ≠ c) (h3 : cs.length ≤ 60) (h4 : 0 ≤ t) (h5 : t ≤ n) : Wh (upd H a (.lst [.ref c, .int t, .int l])) a c n :=
  ⟨cs, t, l, upd_same, by rw [upd_ne (fun e => hac e.symm)]; exact h2, h3, h4, h5⟩
theorem wh_ac {H : Hp} {a c : Addr} {cs : List Int} {t l : Int} (h1 : H a = some (.lst [.ref c, .int t, .int l])) (h2 : H c = some (.lst (cs.map V.int))) : a ≠ c := by
  intro e
  rw [← e, h1] at h2
  injection h2 with h2
  injection h2 with h2
  cases cs with
  | nil => cases h2
  | cons x xs => injection h2 with h2 _; cases h2
/-! ### data: lists that are laid, compared -/
theorem canLayAll_of : ∀ (ds : List PyData), (∀ d ∈ ds, d.canLay0 = true) → PyData.canLayAll0 ds = true
  | [], _ => rfl
  | d :: ds, h => by
    have h1 := h d (List.mem_cons_self ..)
    have h2 := canLayAll_of ds fun e m => h e (List.mem_cons_of_mem _ m)
    show (d.canLay0 && PyData.canLayAll0 ds) = true
    rw [h1, h2]
    rfl
theorem depthAll_of {k : Nat} : ∀ (ds : List PyData), (∀ d ∈ ds, d.depth ≤ k) → PyData.depthAll ds ≤ k
  | [], _ => Nat.zero_le _
  | d :: ds, h => by
    have h1 := h d (List.mem_cons_self ..)
    have h2 := depthAll_of ds fun e m => h e (List.mem_cons_of_mem _ m)
    show max d.depth (PyData.depthAll ds) ≤ k
    omega
/-- plain data of a depth -/
def Pl (k : Nat) (d : PyData) : Prop := d.canLay0 = true ∧ d.depth ≤ k
theorem Pl.lst {k : Nat} {ds : List PyData} (h : ∀ d ∈ ds, Pl k d) : Pl (k + 1) (.list ds) :=
  ⟨canLayAll_of ds fun d m => (h d m).1, Nat.succ_le_succ (depthAll_of ds fun d m => (h d m).2)⟩
theorem Pl.tup {k : Nat} {ds : List PyData} (h : ∀ d ∈ ds, Pl k d) : Pl (k + 1) (.tuple ds) :=
  ⟨canLayAll_of ds fun d m => (h d m).1, Nat.succ_le_succ (depthAll_of ds fun d m => (h d m).2)⟩
theorem Pl.shaped {k : Nat} {d : PyData} (h : Pl k d) (hk : k ≤ 64) : SeqAt.shaped d = true := by
  show (d.canLay0 && decide (d.depth ≤ 64)) = true
  rw [h.1, decide_eq_true (Nat.le_trans h.2 hk)]
  rfl
theorem pl_int (k : Nat) (i : Int) : Pl k (.int i) := ⟨rfl, Nat.zero_le _⟩
theorem pl_ints (xs : List Int) : Pl 1 (.list (xs.map PyData.int)) := Pl.lst fun d m => by
  obtain ⟨i, _, rfl⟩ := List.mem_map.mp m
  exact pl_int 0 i
theorem dpAll_map {K : PySem.W.Frag} {H : Hp} {α : Type} {f : α → V} {g : α → PyData} : ∀ (xs : List α), (∀ x ∈ xs, Dp K H (f x) (g x)) → DpAll K H (xs.map f) (xs.map g)
  | [], _ => .nil
  | x :: xs, h => .cons (h x (List.mem_cons_self ..)) (dpAll_map xs fun y m => h y (List.mem_cons_of_mem _ m))
theorem dp_ints {K : PySem.W.Frag} {H : Hp} {a : Addr} {xs : List Int} (h : SqL K H a (xs.map V.int)) : Dp K H (.ref a) (.list (xs.map PyData.int)) := .lst h (dpAll_map xs fun x _ => .int x)
theorem eqvAll_map {α : Type} [DecidableEq α] {g : α → PyData} (hg : ∀ x y, PyData.eqv (g x) (g y) = decide (x = y)) : ∀ (xs ys : List α), PyData.eqvAll (xs.map g) (ys.map g) = decide (xs = ys)
  | [], [] => rfl
  | [], _ :: _ => rfl
  | _ :: _, [] => rfl
  | x :: xs, y :: ys => by
    show (PyData.eqv (g x) (g y) && PyData.eqvAll (xs.map g) (ys.map g)) = _
    rw [hg, eqvAll_map hg xs ys]
    by_cases e : x = y
    · by_cases e2 : xs = ys
      · subst e e2; simp
      · simp [e, e2]
    · simp [e]
theorem eqv_int (x y : Int) : PyData.eqv (.int x) (.int y) = decide (x = y) := by
  show (x == y) = _
  by_cases e : x = y <;> simp [e]
theorem eqv_ints (xs ys : List Int) : PyData.eqv (.list (xs.map PyData.int)) (.list (ys.map PyData.int)) = decide (xs = ys) := eqvAll_map eqv_int xs ys
/-- «xs != []» -/
theorem ne_nil {K : PySem.W.Frag} {H : Hp} {a p : Addr} {xs : List Int} {Q : VK} (h1 : SqL K H a (xs.map V.int)) (h2 : H p = some (.lst [])) (q : Q (.bl (!decide (xs = []))) H) : rNeD K (.ref a) (.ref p) H Q :=
  ⟨_, _, dp_ints h1, dp_ints (xs := []) (.inl (.inl h2)), (pl_ints xs).shaped (by decide), (pl_ints []).shaped (by decide), by rw [eqv_ints]; exact q⟩
/-! ### places -/
theorem at_nat {α : Type} {xs : List α} {i : Nat} (h : i < xs.length) : atI xs (i : Int) = some xs[i] := by
  unfold atI ixN
  rw [if_pos (by omega), if_pos (by omega)]
  show xs[(i : Int).toNat]? = _
  rw [Int.toNat_natCast, List.getElem?_eq_getElem h]
theorem at_lt {α : Type} {xs : List α} {i : Int} (h0 : 0 ≤ i) (h : i < xs.length) : ∃ v, v ∈ xs ∧ atI xs i = some v := by
  obtain ⟨k, rfl⟩ : ∃ k : Nat, i = k := ⟨i.toNat, by omega⟩
  exact ⟨_, List.getElem_mem (by omega), at_nat (by omega)⟩
theorem at_last {α : Type} {xs : List α} {x : α} : atI (xs ++ [x]) (-1) = some x := by
  unfold atI ixN
  rw [if_neg (by omega), if_pos (by simp; omega)]
  show (xs ++ [x])[_]? = _
  rw [show (-1 + ((xs ++ [x]).length : Int)).toNat = xs.length by simp; omega]
  simp
/-- one way on from two branches, for all values that they leave -/
theorem cutI {c : Bool} {A B : Prop} {R : Int → Prop} (y : Int) (h2 : c = false → R y → B) (h1 : (∀ z, R z) → c = true → A) (key : ∀ z, R z) : if c = true then A else B := iteC (h1 key) fun e => h2 e (key y)
theorem genI {P : V → Prop} {x : Int} (h : ∀ z : Int, P (.int z)) : P (.int x) := h x
theorem genIB {P : V → Prop} {x M : Int} (hM : 0 < M) (h : ∀ z : Int, 0 ≤ z → z < M → P (.int z)) : P (.int (x.fmod M)) := h _ (Int.fmod_nonneg_of_pos _ hM) (Int.fmod_lt_of_pos _ hM)
theorem cutP {c : Bool} {X Y B : Prop} (h2 : c = false → B → Y) (h1 : B → c = true → X) (b : B) : if c = true then X else Y := iteC (h1 b) fun e => h2 e b
theorem mul_bnd {a b A B : Int} (a0 : 0 ≤ a) (a1 : a ≤ A) (b0 : 0 ≤ b) (b1 : b ≤ B) : 0 ≤ a * b ∧ a * b ≤ A * B :=
  ⟨Int.mul_nonneg a0 b0, Int.mul_le_mul a1 b1 b0 (Int.le_trans a0 a1)⟩
theorem bnd5 {c M k t l : Int} (hM : 0 < M) (hM2 : M ≤ 1099511627776) (t0 : 0 ≤ t) (t1 : t ≤ 1000000) (k0 : 0 ≤ k) (k1 : k ≤ 8388608) (l0 : 0 ≤ l) (l1 : l ≤ 1099511627776) : (c.fmod M + k * t + l).natAbs < 2 ^ 64 := by
  have h1 := Int.fmod_nonneg_of_pos c hM
  have h2 := Int.fmod_lt_of_pos c hM
  obtain ⟨h3, h4⟩ := mul_bnd k0 k1 t0 t1
  omega
theorem bnd3 {m t a k l : Int} (m0 : 0 ≤ m) (m1 : m ≤ 4294967296) (t0 : 0 ≤ t) (t1 : t ≤ 1000000) (a0 : 0 ≤ a) (a1 : a ≤ 8388608) (k0 : 0 ≤ k) (k1 : k ≤ 8388608) (l0 : 0 ≤ l) (l1 : l ≤ 1099511627776) : (m * (2 * t + a) + k * t * t + l).natAbs < 2 ^ 64 := by
  obtain ⟨h1, h2⟩ := mul_bnd (b := 2 * t + a) (B := 10388608) m0 m1 (by omega) (by omega)
  obtain ⟨h3, h4⟩ := mul_bnd k0 k1 t0 t1
  obtain ⟨h5, h6⟩ := mul_bnd h3 h4 t0 t1
  omega
/-! ### slices -/
theorem cut_to (xs : List V) (k : Nat) : cutV xs none (some (k : Int)) = xs.take k := by
  unfold cutV
  rw [HT.sIx_none, HT.sIx_nat, List.drop_zero, Nat.sub_zero]
  by_cases h : k ≤ xs.length
  · rw [Nat.min_eq_left h]
  · rw [Nat.min_eq_right (by omega), List.take_of_length_le (Nat.le_refl _), List.take_of_length_le (by omega)]
theorem cut_from (xs : List V) (k : Nat) : cutV xs (some (k : Int)) none = xs.drop k := by
  unfold cutV
  rw [HT.sIx_none, HT.sIx_nat]
  by_cases h : k ≤ xs.length
  · rw [Nat.min_eq_left h, List.take_of_length_le (by rw [List.length_drop]; omega)]
  · rw [Nat.min_eq_right (by omega), Nat.sub_self, List.take_zero, List.drop_eq_nil_of_le (by omega)]
/-! ### comprehensions, item by item -/
section
variable {K : PySem.W.Frag} {a : Addr} {xs : List V} {g : TG} {tt : TT} {te : TE} {vs : List Nat} {σ : L2.St} {H1 : Hp} {D : Addr} {Qd : Hp → Prop}
theorem lc_mapL (f : V → V) (hq : SqL K H1 a xs) (nD : H1 D = none) (len : xs.length ≤ 100000)
    (turn : ∀ (i : Nat) (x : V) (Hc : Hp) (Q' : VK) (R' : Hp → Prop), xs[i]? = some x → Same H1 Hc → (∀ H4, Same Hc H4 → Q' (f x) H4) → g x (wipe σ vs) Hc fun σ2 H2 => wipe σ2 vs = wipe σ vs ∧ tt σ2 H2 fun b H3 => if b = true then te σ2 H3 Q' else R' H3)
    (fin : ∀ Hc, Same H1 Hc → Hc D = some (.lst (xs.map f)) → Qd Hc) :
    ∃ W : Nat → Nat → Hp → Prop, (∃ m, W 0 m (upd H1 D (.lst []))) ∧ ∀ i m H, W i m H →
      ((Itl K a).stop i H ∧ Qd H) ∨ ((Itl K a).go i H ∧ ∃ Nx : Hp → Prop, (∀ H', Nx H' → ∃ m', m' < m ∧ W (i + 1) m' H') ∧ ∀ x H', (Itl K a).yld i H x H' → g x (wipe σ vs) H' fun σ2 H2 => wipe σ2 vs = wipe σ vs ∧ tt σ2 H2 fun b H3 =>
        if b = true then te σ2 H3 fun y H4 => ∃ acc, H4 D = some (.lst acc) ∧ acc.length < sizeLine ∧ Nx (upd H4 D (.lst (acc ++ [y]))) else Nx H3) := by
  refine lc_list (fun i Hc => Same H1 Hc ∧ Hc D = some (.lst ((xs.take i).map f))) ⟨same_new nD, upd_same⟩ (fun i H _ p => p.1.seq hq) (fun i x Hc hx p => ?_) (fun Hc p => ?_)
  · refine turn i x Hc _ _ hx p.1 (fun H4 e4 => ⟨_, e4 _ _ p.2, ?_, ?_⟩)
    · rw [List.length_map, List.length_take]
      exact Nat.lt_of_le_of_lt (Nat.min_le_right _ _) (Nat.lt_of_le_of_lt len (by decide))
    · refine ⟨fun b o z => ?_, ?_⟩
      · rw [upd_ne (ne_of_none z nD)]
        exact e4 _ _ (p.1 b o z)
      · rw [upd_same, List.take_add_one, hx, List.map_append]
        rfl
  · rw [List.take_length] at p
    exact fin Hc p.1 p.2
theorem lc_mapT (f : V → V) (hq : SqT K H1 a xs) (nD : H1 D = none) (len : xs.length ≤ 100000)
    (turn : ∀ (i : Nat) (x : V) (Hc : Hp) (Q' : VK) (R' : Hp → Prop), xs[i]? = some x → Same H1 Hc → (∀ H4, Same Hc H4 → Q' (f x) H4) → g x (wipe σ vs) Hc fun σ2 H2 => wipe σ2 vs = wipe σ vs ∧ tt σ2 H2 fun b H3 => if b = true then te σ2 H3 Q' else R' H3)
    (fin : ∀ Hc, Same H1 Hc → Hc D = some (.lst (xs.map f)) → Qd Hc) :
    ∃ W : Nat → Nat → Hp → Prop, (∃ m, W 0 m (upd H1 D (.lst []))) ∧ ∀ i m H, W i m H →
      ((Itt K a).stop i H ∧ Qd H) ∨ ((Itt K a).go i H ∧ ∃ Nx : Hp → Prop, (∀ H', Nx H' → ∃ m', m' < m ∧ W (i + 1) m' H') ∧ ∀ x H', (Itt K a).yld i H x H' → g x (wipe σ vs) H' fun σ2 H2 => wipe σ2 vs = wipe σ vs ∧ tt σ2 H2 fun b H3 =>
        if b = true then te σ2 H3 fun y H4 => ∃ acc, H4 D = some (.lst acc) ∧ acc.length < sizeLine ∧ Nx (upd H4 D (.lst (acc ++ [y]))) else Nx H3) := by
  refine lc_tup (fun i Hc => Same H1 Hc ∧ Hc D = some (.lst ((xs.take i).map f))) ⟨same_new nD, upd_same⟩ (fun i H _ p => Same.t p.1 hq) (fun i x Hc hx p => ?_) (fun Hc p => ?_)
  · refine turn i x Hc _ _ hx p.1 (fun H4 e4 => ⟨_, e4 _ _ p.2, ?_, ?_⟩)
    · rw [List.length_map, List.length_take]
      exact Nat.lt_of_le_of_lt (Nat.min_le_right _ _) (Nat.lt_of_le_of_lt len (by decide))
    · refine ⟨fun b o z => ?_, ?_⟩
      · rw [upd_ne (ne_of_none z nD)]
        exact e4 _ _ (p.1 b o z)
      · rw [upd_same, List.take_add_one, hx, List.map_append]
        rfl
  · rw [List.take_length] at p
    exact fin Hc p.1 p.2
end
end Kx
namespace Kx
open PySem PySem.Spec PyProof.Rows L2 SX LamX
theorem paired_get {α β : Type} {F : α → β → Prop} : ∀ {l : List α} {m : List β}, Paired F l m → ∀ {i : Nat} {a : α}, l[i]? = some a → ∃ b, m[i]? = some b ∧ F a b
  | _, _, .cons h t, 0, a, e => by
    simp at e
    subst e
    exact ⟨_, rfl, h⟩
  | _, _, .cons h t, i + 1, a, e => paired_get t (i := i) (by simpa using e)
theorem paired_split {α β : Type} {F : α → β → Prop} : ∀ {l : List α} (m : List β) {b : β}, Paired F l (m ++ [b]) → ∃ l' a, l = l' ++ [a] ∧ Paired F l' m ∧ F a b
  | _, [], _, .cons h .nil => ⟨[], _, rfl, .nil, h⟩
  | _, _ :: m, b, .cons h t => by
    obtain ⟨l', a, rfl, p, f⟩ := paired_split m t
    exact ⟨_ :: l', a, rfl, .cons h p, f⟩
theorem paired_nil {α β : Type} {F : α → β → Prop} {l : List α} (h : Paired F l []) : l = [] := by
  cases h
  rfl
theorem nil_or_snoc {α : Type} (l : List α) : l = [] ∨ ∃ l' a, l = l' ++ [a] := by
  rcases List.eq_nil_or_concat l with h | ⟨l', a, h⟩
  · exact .inl h
  · exact .inr ⟨l', a, by rw [h, List.concat_eq_append]⟩
theorem paired_map {α β γ : Type} {F : α → γ → Prop} {G : α → β → Prop} (f : β → γ) (h : ∀ a b, G a b → F a (f b)) : ∀ {l : List α} {m : List β}, Paired G l m → Paired F l (m.map f)
  | _, _, .nil => .nil
  | _, _, .cons x t => .cons (h _ _ x) (paired_map f h t)
theorem paired_of_map {α β γ : Type} {F : α → γ → Prop} (f : β → α) (g : β → γ) : ∀ {m : List β}, (∀ b ∈ m, F (f b) (g b)) → Paired F (m.map f) (m.map g)
  | [], _ => .nil
  | b :: m, h => .cons (h b (List.mem_cons_self ..)) (paired_of_map f g fun c hc => h c (List.mem_cons_of_mem _ hc))
theorem dpAll_of {K : PySem.W.Frag} {H : Hp} : ∀ {vs : List V} {ds : List PyData}, Paired (fun v d => Dp K H v d) vs ds → DpAll K H vs ds
  | _, _, .nil => .nil
  | _, _, .cons h t => .cons h (dpAll_of t)
/-- «xs != []», any laid items -/
theorem ne_nilD {K : PySem.W.Frag} {H : Hp} {a p : Addr} {vs : List V} {ds : List PyData} {k : Nat} {Q : VK} (h1 : SqL K H a vs) (hd : Paired (fun v d => Dp K H v d) vs ds) (hp : ∀ d ∈ ds, Pl k d) (hk : k ≤ 60) (h2 : H p = some (.lst [])) (q : Q (.bl (!decide (ds = []))) H) : rNeD K (.ref a) (.ref p) H Q :=
  ⟨_, _, .lst h1 (dpAll_of hd), dp_ints (xs := []) (.inl (.inl h2)), (Pl.lst hp).shaped (by omega), (pl_ints []).shaped (by decide), by
    have e : PyData.eqv (.list ds) (.list (([] : List Int).map PyData.int)) = decide (ds = []) := by
      cases ds with
      | nil => rfl
      | cons d t => rfl
    rw [e]
    exact q⟩
/-- a pair of ints -/
def Pr2 (H : Hp) (v : V) (r : Int × Int) : Prop := ∃ t, v = V.ref t ∧ H t = some (.tup [.int r.1, .int r.2])
theorem Pr2.same {H H' : Hp} {v : V} {r : Int × Int} (e : Same H H') (h : Pr2 H v r) : Pr2 H' v r := by
  obtain ⟨t, rfl, h⟩ := h
  exact ⟨t, rfl, e _ _ h⟩
def pr2D (r : Int × Int) : PyData := .tuple [.int r.1, .int r.2]
theorem Pr2.dp {K : PySem.W.Frag} {H : Hp} {v : V} {r : Int × Int} (h : Pr2 H v r) : Dp K H v (pr2D r) := by
  obtain ⟨t, rfl, h⟩ := h
  exact .tup (.inl (.inl h)) (.cons (.int _) (.cons (.int _) .nil))
theorem pl_pr2 (r : Int × Int) : Pl 1 (pr2D r) := Pl.tup fun d m => by
  rcases List.mem_cons.mp m with rfl | m
  · exact pl_int 0 _
  · rcases List.mem_cons.mp m with rfl | m
    · exact pl_int 0 _
    · cases m
/-! ### stretches of like numbers -/
def stepR (rs : List (Int × Int)) (n : Int) : List (Int × Int) :=
  match rs.reverse with
  | [] => [(n, 1)]
  | (m, k) :: t => if m = n then t.reverse ++ [(n, k + 1)] else rs ++ [(n, 1)]
theorem stepR_nil (n : Int) : stepR [] n = [(n, 1)] := rfl
theorem stepR_snoc (rs : List (Int × Int)) (m k n : Int) : stepR (rs ++ [(m, k)]) n = if m = n then rs ++ [(n, k + 1)] else rs ++ [(m, k)] ++ [(n, 1)] := by
  unfold stepR
  simp
def runs (row : List Int) : List (Int × Int) := row.foldl stepR []
theorem runs_snoc (row : List Int) (n : Int) : runs (row ++ [n]) = stepR (runs row) n := by
  unfold runs
  rw [List.foldl_append]
  rfl
theorem stepR_length (rs : List (Int × Int)) (n : Int) : (stepR rs n).length ≤ rs.length + 1 := by
  rcases nil_or_snoc rs with rfl | ⟨rs', ⟨m, k⟩, rfl⟩
  · simp [stepR_nil]
  · rw [stepR_snoc]
    split <;> simp
theorem fold_length : ∀ (row : List Int) (rs : List (Int × Int)), (row.foldl stepR rs).length ≤ rs.length + row.length
  | [], _ => Nat.le_refl _
  | x :: row, rs => by
    have h1 := fold_length row (stepR rs x)
    have h2 := stepR_length rs x
    show (row.foldl stepR (stepR rs x)).length ≤ rs.length + (row.length + 1)
    omega
theorem runs_length (row : List Int) : (runs row).length ≤ row.length := by
  have h := fold_length row []
  rw [List.length_nil, Nat.zero_add] at h
  exact h
/-! ### for and comprehension over a list or a tuple, held by a name -/
section
variable {K : PySem.W.Frag} {a : Addr} {xs : List V} {g : TG} {σ : L2.St} {H : Hp} {k : Nat}
theorem for_seq {tb : TS} {D : Ends} {H0 : Hp} (hi : σ[k]? = some (some (.ref a))) (hq : SqQ K H0 a xs) (e0 : Same H0 H) (Pv : Nat → L2.St → Hp → Prop) (h0 : Pv 0 σ H) (stay : ∀ i σ' H', i ≤ xs.length → Pv i σ' H' → Same H0 H')
    (hs : ∀ i x σ H, xs[i]? = some x → Pv i σ H → g x σ H fun σ2 H2 => tb { D with nx := Pv (i + 1), ct := Pv (i + 1), bk := D.nx } σ2 H2) (hd : ∀ σ H, Pv xs.length σ H → D.nx σ H) :
    tFor (fun σ H R => iList K (tVar k) σ H R ∨ iTup K (tVar k) σ H R) g tb D σ H := by
  rcases hq with h | h
  · exact .inl ⟨_, hi, a, rfl, ⟨_, e0.seq h⟩, for_list Pv h0 (fun i σ' H' l p => (stay i σ' H' l p).seq h) hs hd⟩
  · exact .inr ⟨_, hi, a, rfl, ⟨_, Same.t e0 h⟩, for_tup Pv h0 (fun i σ' H' l p => Same.t (stay i σ' H' l p) h) hs hd⟩
theorem lc_seqmap {tt : TT} {te : TE} {vs : List Nat} {Q : VK} (f : V → V) (hi : σ[k]? = some (some (.ref a))) (hq : SqQ K H a xs) (len : xs.length ≤ 100000)
    (turn : ∀ (i : Nat) (x : V) (Hc : Hp) (Q' : VK) (R' : Hp → Prop), xs[i]? = some x → Same H Hc → (∀ H4, Same Hc H4 → Q' (f x) H4) → g x (wipe σ vs) Hc fun σ2 H2 => wipe σ2 vs = wipe σ vs ∧ tt σ2 H2 fun b H3 => if b = true then te σ2 H3 Q' else R' H3)
    (fin : ∀ (D : Addr) (Hc : Hp), Same H Hc → Hc D = some (.lst (xs.map f)) → Q (.ref D) Hc) :
    tLc (fun σ H R => iList K (tVar k) σ H R ∨ iTup K (tVar k) σ H R) g tt te vs σ H Q := by
  rcases hq with h | h
  · exact .inl ⟨_, hi, a, rfl, ⟨_, h⟩, fun D nD => lc_mapL f h nD len turn (fin D)⟩
  · exact .inr ⟨_, hi, a, rfl, ⟨_, h⟩, fun D nD => lc_mapT f h nD len turn (fin D)⟩
theorem lc_lstmap {tt : TT} {te : TE} {vs : List Nat} {Q : VK} (f : V → V) (hi : σ[k]? = some (some (.ref a))) (hq : SqL K H a xs) (len : xs.length ≤ 100000)
    (turn : ∀ (i : Nat) (x : V) (Hc : Hp) (Q' : VK) (R' : Hp → Prop), xs[i]? = some x → Same H Hc → (∀ H4, Same Hc H4 → Q' (f x) H4) → g x (wipe σ vs) Hc fun σ2 H2 => wipe σ2 vs = wipe σ vs ∧ tt σ2 H2 fun b H3 => if b = true then te σ2 H3 Q' else R' H3)
    (fin : ∀ (D : Addr) (Hc : Hp), Same H Hc → Hc D = some (.lst (xs.map f)) → Q (.ref D) Hc) :
    tLc (iList K (tVar k)) g tt te vs σ H Q := ⟨_, hi, a, rfl, ⟨_, hq⟩, fun D nD => lc_mapL f hq nD len turn (fin D)⟩
end
theorem Pr2.set {H : Hp} {p : Addr} {us : List V} {v : V} {r : Int × Int} {o : HO} (hp : H p = some (.lst us)) (h : Pr2 H v r) : Pr2 (upd H p o) v r := by
  obtain ⟨t, rfl, h⟩ := h
  refine ⟨t, rfl, ?_⟩
  rw [upd_ne (fun e => by rw [e, hp] at h; cases h)]
  exact h
theorem same_set {H Hd : Hp} {p : Addr} {o : HO} (e : Same H Hd) (np : H p = none) : Same H (upd Hd p o) := fun b u h => by
  rw [upd_ne (ne_of_none h np)]
  exact e b u h
theorem Pr2.new {H : Hp} {t : Addr} {x y : Int} : Pr2 (upd H t (.tup [.int x, .int y])) (.ref t) (x, y) := ⟨t, rfl, upd_same⟩
theorem sz1 {x : V} : [x].length ≤ sizeLine := by
  show 1 ≤ sizeLine
  decide
theorem sz2 {x y : V} : [x, y].length ≤ sizeLine := by
  show 2 ≤ sizeLine
  decide
theorem sz3 {x y z : V} : [x, y, z].length ≤ sizeLine := by
  show 3 ≤ sizeLine
  decide
theorem sz4 {x y z u : V} : [x, y, z, u].length ≤ sizeLine := by
  show 4 ≤ sizeLine
  decide
theorem ix_last {n : Nat} : ixN (n + 1) (-1) = some n := by
  unfold ixN
  rw [if_neg (by omega), if_pos (by omega)]
  congr 1
  omega
/-- xs[-1] = y, what is set -/
theorem set_last {H : Hp} {p : Addr} {xs : List V} {x y : V} {Q : Hp → Prop} (hp : H p = some (.lst (xs ++ [x]))) (q : Q (upd H p (.lst (xs ++ [y])))) : rSetL (.ref p) (.int (-1)) y H Q :=
  ⟨p, _, -1, xs.length, rfl, rfl, hp, by rw [List.length_append]; exact ix_last, by rw [show (xs ++ [x]).set xs.length y = xs ++ [y] by simp]; exact q⟩
end Kx
namespace Kx
open PySem PySem.Spec PyProof.Rows L2 SX LamX
/-! ### rules that name the frame, within a comprehension -/
section
variable {X : Cx} {K : PySem.W.Frag}
theorem inK_ix_list (e : X.K = K) : IxR X (rIxL K) := e ▸ ix_list
theorem inK_ix_tup (e : X.K = K) : IxR X (rIxT K) := e ▸ ix_tup
theorem inK_call_len_seq (e : X.K = K) : CallR X (.builtin "len") (fun xs H Q => ∃ p ys, xs = [.ref p] ∧ (SqL K H p ys ∨ SqT K H p ys) ∧ Q (.int ys.length) H) := e ▸ call_len_seq
theorem inK_sl_list (e : X.K = K) : SlR X (rSlL K) := e ▸ sl_list
theorem inK_op_eqD (e : X.K = K) (hu : X.A.units + 64 < cLine) : OpR X (compareOp .Eq) (rEqD K) := e ▸ op_eqD hu
theorem inK_op_neD (e : X.K = K) (hu : X.A.units + 64 < cLine) : OpR X (compareOp .NotEq) (rNeD K) := e ▸ op_neD hu
theorem inK_pg_tup {es : List Expr} {k : Nat} {t : TGs} {n : Nat} {pos : Pos} (e : X.K = K) (hc : X.calm = true) (h : PGs X es t) (hn : (assignEach es X.env).length = n := by rfl) (hst : (assignEach es X.env).findIdx? (·.1) = none := by rfl) : PG X (.Tuple es k pos) (gTup K n t) := e ▸ pg_tup hc h hn hst
end
end Kx
namespace Kx
open PySem PySem.Spec PyProof.Rows L2 SX LamX
/-- an error is made with its part -/
theorem mk_part {K : PySem.W.Frag} {C : Addr} {σ : L2.St} {H : Hp} {Q : XK} {v : V} (o : OexC K C) (n : PySem.W.findIn K (.ref C) "part" = some none)
    (q : ∀ d H', Same H H' → H' d = some (.xd [("part", v)]) → Q (.ref C) (some d) H') : tMkO C (sp_init K) [] (tCons (tC v) tNil) σ H Q := by
  refine ⟨by show 1 ≤ 1000; decide, fun a na => ⟨a, C, v, rfl, o, n, upd_same, fun dx nd hne => ⟨rfl, dx, [("part", v)], upd_same, ?_, ?_, q dx _ ?_ upd_same⟩⟩⟩
  · rw [upd_ne hne, upd_same]
  · rw [upd_ne hne] at nd
    exact nd
  · rw [upd_ne hne] at nd
    intro b u h
    rw [upd_ne (ne_of_none h nd)]
    show (if b = a then none else _) = some u
    rw [if_neg (ne_of_none h na), upd_ne (ne_of_none h na), upd_ne (ne_of_none h nd), upd_ne (ne_of_none h na)]
    exact h
end Kx
namespace Kx
open PySem PySem.Spec PyProof.Rows L2 SX LamX
section
variable {K : PySem.W.Frag} {J : It} {n : Nat} {G : Hp → Prop} {Y : Nat → Hp → V → Hp → Prop} {g : TG} {tt : TT} {te : TE} {vs : List Nat} {σ : L2.St} {H1 : Hp} {D : Addr} {Qd : Hp → Prop}
/-- a comprehension whose items are told ahead -/
theorem lc_out (w : Walk J n G Y) (zs : List V) (hz : zs.length = n) (nD : H1 D = none) (len : n ≤ 100000) (hG : ∀ Hc, Same H1 Hc → G Hc)
    (turn : ∀ (i : Nat) (x z : V) (Hc Hx : Hp) (Q' : VK) (R' : Hp → Prop), i < n → zs[i]? = some z → Same H1 Hc → Y i Hc x Hx → (∀ H4, Same Hc H4 → Q' z H4) → g x (wipe σ vs) Hx fun σ2 H2 => wipe σ2 vs = wipe σ vs ∧ tt σ2 H2 fun b H3 => if b = true then te σ2 H3 Q' else R' H3)
    (fin : ∀ Hc, Same H1 Hc → Hc D = some (.lst zs) → Qd Hc) :
    ∃ W : Nat → Nat → Hp → Prop, (∃ m, W 0 m (upd H1 D (.lst []))) ∧ ∀ i m H, W i m H →
      (J.stop i H ∧ Qd H) ∨ (J.go i H ∧ ∃ Nx : Hp → Prop, (∀ H', Nx H' → ∃ m', m' < m ∧ W (i + 1) m' H') ∧ ∀ x H', J.yld i H x H' → g x (wipe σ vs) H' fun σ2 H2 => wipe σ2 vs = wipe σ vs ∧ tt σ2 H2 fun b H3 =>
        if b = true then te σ2 H3 fun y H4 => ∃ acc, H4 D = some (.lst acc) ∧ acc.length < sizeLine ∧ Nx (upd H4 D (.lst (acc ++ [y]))) else Nx H3) := by
  refine lc_it w (fun i Hc => Same H1 Hc ∧ Hc D = some (.lst (zs.take i))) ⟨same_new nD, upd_same⟩ (fun i H _ p => hG H p.1) (fun i x Hc Hx hi p y => ?_) (fun Hc p => ?_)
  · have hzi : zs[i]? = some (zs[i]'(by omega)) := List.getElem?_eq_getElem (by omega)
    refine turn i x _ Hc Hx _ _ hi hzi p.1 y (fun H4 e4 => ⟨_, e4 _ _ p.2, ?_, ?_⟩)
    · rw [List.length_take]
      exact Nat.lt_of_le_of_lt (Nat.min_le_right _ _) (Nat.lt_of_le_of_lt (by omega) (by decide : 100000 < sizeLine))
    · refine ⟨fun b o z => ?_, ?_⟩
      · rw [upd_ne (ne_of_none z nD)]
        exact e4 _ _ (p.1 b o z)
      · rw [upd_same, List.take_add_one, hzi]
        rfl
  · rw [← hz, List.take_length] at p
    exact fin Hc p.1 p.2
end
section
variable {K : PySem.W.Frag} {a b : Addr} {xs ys : List V} {g : TG} {tt : TT} {te : TE} {vs : List Nat} {σ : L2.St} {H : Hp} {k l : Nat} {Q : VK}
/-- [e for x in NAME], NAME a list: the items told ahead -/
theorem lc_lst (zs : List V) (hz : zs.length = xs.length) (hi : σ[k]? = some (some (.ref a))) (hq : SqL K H a xs) (len : xs.length ≤ 100000)
    (turn : ∀ (i : Nat) (x z : V) (Hc : Hp) (Q' : VK) (R' : Hp → Prop), xs[i]? = some x → zs[i]? = some z → Same H Hc → (∀ H4, Same Hc H4 → Q' z H4) → g x (wipe σ vs) Hc fun σ2 H2 => wipe σ2 vs = wipe σ vs ∧ tt σ2 H2 fun b H3 => if b = true then te σ2 H3 Q' else R' H3)
    (fin : ∀ (D : Addr) (Hc : Hp), Same H Hc → Hc D = some (.lst zs) → Q (.ref D) Hc) :
    tLc (iList K (tVar k)) g tt te vs σ H Q := ⟨_, hi, a, rfl, ⟨_, hq⟩, fun D nD => lc_out walk_list zs hz nD len (fun Hc e => e.seq hq) (fun i x z Hc Hx Q' R' _ hzi e y q => by
      obtain ⟨rfl, hx⟩ := y
      exact turn i x z _ Q' R' hx hzi e q) (fin D)⟩
/-- [e for x, y in zip(NAME, NAME)], both lists -/
theorem lc_zip (zs : List V) (hz : zs.length = min xs.length ys.length) (hi : σ[k]? = some (some (.ref a))) (hj : σ[l]? = some (some (.ref b))) (hq : SqL K H a xs) (hp : SqL K H b ys) (len : xs.length ≤ 100000)
    (turn : ∀ (i : Nat) (x y z : V) (t : Addr) (Hc : Hp) (Q' : VK) (R' : Hp → Prop), xs[i]? = some x → ys[i]? = some y → zs[i]? = some z → Same H Hc → Hc t = some (.tup [x, y]) → (∀ H4, Same Hc H4 → Q' z H4) → g (.ref t) (wipe σ vs) Hc fun σ2 H2 => wipe σ2 vs = wipe σ vs ∧ tt σ2 H2 fun b H3 => if b = true then te σ2 H3 Q' else R' H3)
    (fin : ∀ (D : Addr) (Hc : Hp), Same H Hc → Hc D = some (.lst zs) → Q (.ref D) Hc) :
    tLc (iZip K (tCons (tVar k) (tCons (tVar l) tNil))) g tt te vs σ H Q := ⟨_, hi, _, hj, a, b, xs, ys, rfl, hq, hp, fun D nD => lc_out (walk_zip rfl) zs hz nD (by omega) (fun Hc e => ⟨e.seq hq, e.seq hp⟩) (fun i x z Hc Hx Q' R' _ hzi e y q => by
      obtain ⟨t, x', y', rfl, nt, rfl, hx, hy⟩ := y
      exact turn i x' y' z t _ Q' R' hx hy hzi (e.trans (same_new nt)) upd_same (fun H4 e4 => q H4 ((same_new nt).trans e4))) (fin D)⟩
end
/-- «xs != ys», ints -/
theorem ne_ints {K : PySem.W.Frag} {H : Hp} {a b : Addr} {xs ys : List Int} {Q : VK} (h1 : SqL K H a (xs.map V.int)) (h2 : SqL K H b (ys.map V.int)) (q : Q (.bl (!decide (xs = ys))) H) : rNeD K (.ref a) (.ref b) H Q :=
  ⟨_, _, dp_ints h1, dp_ints h2, (pl_ints xs).shaped (by decide), (pl_ints ys).shaped (by decide), by rw [eqv_ints]; exact q⟩
theorem paired_at {α β : Type} {F : α → β → Prop} {l : List α} {m : List β} (h : Paired F l m) {i : Nat} {a : α} {b : β} (ha : l[i]? = some a) (hb : m[i]? = some b) : F a b := by
  obtain ⟨b', e, f⟩ := paired_get h ha
  rw [hb] at e
  cases e
  exact f
theorem map_at {α β : Type} {f : α → β} {l : List α} {i : Nat} {z : β} (h : (l.map f)[i]? = some z) : ∃ x, l[i]? = some x ∧ z = f x := by
  rw [List.getElem?_map] at h
  cases e : l[i]? with
  | none => rw [e] at h; cases h
  | some x => rw [e] at h; exact ⟨x, rfl, (Option.some.inj h).symm⟩
/-! ### one step into a reading -/
section
variable {D : Ends} {σ : L2.St} {H : Hp}
theorem go_seq {t u : TS} (h : t { D with nx := u D } σ H) : tSeq t u D σ H := h
theorem go_if {c : TT} {t u : TS} (h : c σ H fun b H1 => if b = true then t D σ H1 else u D σ H1) : tIfS c t u D σ H := h
theorem go_test {te : TE} {Q : Bool → Hp → Prop} (h : te σ H fun x H' => ∃ k, x = .bl k ∧ Q k H') : tTest te σ H Q := h
theorem go_op {r : R2} {ta tb : TE} {Q : VK} (h : ta σ H fun x H1 => tb σ H1 fun y H2 => r x y H2 Q) : tOp r ta tb σ H Q := h
theorem go_ret {te : TE} (h : te σ H D.rt) : tRet te D σ H := h
theorem go_asg {te : TE} {g : TG} (h : te σ H fun x H1 => g x σ H1 D.nx) : tAsg te g D σ H := h
theorem go_cb {r : List V → Hp → VK → Prop} {t : TA} {Q : VK} (h : t σ H fun vs H1 => r vs H1 Q) : tCB r t σ H Q := h
theorem go_cons {te : TE} {t : TA} {Q : List V → Hp → Prop} (h : te σ H fun x H1 => t σ H1 fun xs H2 => Q (x :: xs) H2) : tCons te t σ H Q := h
end
theorem cut_toI {xs : List Int} {k : Int} (h : 0 ≤ k) : cutV (xs.map V.int) none (some k) = (xs.take k.toNat).map V.int := by
  obtain ⟨n, rfl⟩ : ∃ n : Nat, k = n := ⟨k.toNat, by omega⟩
  rw [cut_to, List.map_take, Int.toNat_natCast]
theorem cut_fromI {xs : List Int} {k : Int} (h : 0 ≤ k) : cutV (xs.map V.int) (some k) none = (xs.drop k.toNat).map V.int := by
  obtain ⟨n, rfl⟩ : ∃ n : Nat, k = n := ⟨k.toNat, by omega⟩
  rw [cut_from, List.map_drop, Int.toNat_natCast]
theorem ne_of_two {H : Hp} {a b : Addr} {o u : HO} (ha : H a = some o) (hb : H b = some u) (h : o ≠ u) : a ≠ b := fun e => by
  rw [e, hb] at ha
  exact h (Option.some.inj ha).symm
theorem Wh.held {H : Hp} {a c : Addr} {n : Nat} (h : Wh H a c n) : ∃ o, H a = some o := by
  obtain ⟨cs, t, l, h1, _⟩ := h
  exact ⟨_, h1⟩
theorem Wh.ne {H : Hp} {a c p : Addr} {n : Nat} (h : Wh H a c n) (np : H p = none) : p ≠ a := fun e => by
  obtain ⟨o, h⟩ := h.held
  rw [← e, np] at h
  cases h
theorem Wh.new {H : Hp} {a c p : Addr} {n : Nat} {o : HO} (h : Wh H a c n) (np : H p = none) : Wh (upd H p o) a c n := h.same (same_new np)
theorem Mv.new {H H' : Hp} {a p : Addr} {o : HO} (h : Mv a H H') (np : H' p = none) : Mv a H (L2.upd H' p o) := h.trans (Mv.of (same_new np))
theorem Wh.cell {H : Hp} {a c : Addr} {n : Nat} (h : Wh H a c n) : ∃ o, H c = some o := by
  obtain ⟨cs, t, l, _, h2, _⟩ := h
  exact ⟨_, h2⟩
/-- a list of the law's own is written: the wheel stays -/
theorem Wh.set {H : Hp} {a c p : Addr} {n : Nat} {o : HO} (h : Wh H a c n) (h1 : p ≠ a) (h2 : p ≠ c) : Wh (upd H p o) a c n := by
  obtain ⟨cs, t, l, g1, g2, g3⟩ := h
  exact ⟨cs, t, l, by rw [upd_ne h1.symm]; exact g1, by rw [upd_ne h2.symm]; exact g2, g3⟩
theorem Wh.nc {H : Hp} {a c p : Addr} {n : Nat} (h : Wh H a c n) (np : H p = none) : p ≠ c := fun e => by
  obtain ⟨o, h⟩ := h.cell
  rw [← e, np] at h
  cases h
end Kx
namespace Kx
open PySem
/-- other can be cut into pieces, none empty, one for each number of row -/
inductive Th : List Int → List Int → Prop
  | nil : Th [] []
  | more {r o : List Int} (x : Int) (k : Nat) : Th r o → Th (r ++ [x]) (o ++ List.replicate (k + 1) x)
def LeR (p q : Int × Int) : Prop := p.1 = q.1 ∧ p.2 ≤ q.2
theorem snoc_inj {α : Type} {l m : List α} {a b : α} (h : l ++ [a] = m ++ [b]) : l = m ∧ a = b := by
  have h2 := List.append_inj' h rfl
  exact ⟨h2.1, by simpa using h2.2⟩
theorem snoc_ne {α : Type} {l : List α} {a : α} : l ++ [a] ≠ [] := by
  intro h
  have := congrArg List.length h
  simp at this
theorem stepR_le {rs ss : List (Int × Int)} (h : Paired LeR rs ss) (x : Int) : Paired LeR (stepR rs x) (stepR ss x) := by
  rcases nil_or_snoc ss with rfl | ⟨ss', ⟨m, d⟩, rfl⟩
  · cases paired_nil h
    exact .cons ⟨rfl, Int.le_refl _⟩ .nil
  · obtain ⟨rs', ⟨m', c⟩, rfl, h1, h2, h3⟩ := paired_split ss' h
    have e : m' = m := h2
    subst e
    rw [stepR_snoc, stepR_snoc]
    by_cases e : m' = x
    · rw [if_pos e, if_pos e]
      exact Paired.snoc h1 ⟨rfl, by have : c ≤ d := h3; show c + 1 ≤ d + 1; omega⟩
    · rw [if_neg e, if_neg e]
      exact Paired.snoc (Paired.snoc h1 ⟨rfl, h3⟩) ⟨rfl, Int.le_refl _⟩
theorem stepR_up (rs : List (Int × Int)) (x : Int) : ∃ rs' c, stepR rs x = rs' ++ [(x, c)] := by
  rcases nil_or_snoc rs with rfl | ⟨rs', ⟨m, d⟩, rfl⟩
  · exact ⟨[], 1, rfl⟩
  · rw [stepR_snoc]
    by_cases e : m = x
    · exact ⟨rs', d + 1, by rw [if_pos e]⟩
    · exact ⟨rs' ++ [(m, d)], 1, by rw [if_neg e]⟩
theorem more_le {rs ss : List (Int × Int)} {x c : Int} (h : Paired LeR (rs ++ [(x, c)]) ss) : Paired LeR (rs ++ [(x, c)]) (stepR ss x) := by
  rcases nil_or_snoc ss with rfl | ⟨ss', ⟨m, d⟩, rfl⟩
  · exact absurd (paired_nil h) snoc_ne
  · obtain ⟨rs', ⟨m', c'⟩, e, h1, h2, h3⟩ := paired_split ss' h
    obtain ⟨rfl, e2⟩ := snoc_inj e
    cases e2
    have e : x = m := h2
    subst e
    rw [stepR_snoc, if_pos rfl]
    exact Paired.snoc h1 ⟨rfl, by have : c ≤ d := h3; show c ≤ d + 1; omega⟩
theorem runs_rep (o : List Int) (x : Int) : ∀ k : Nat, runs (o ++ List.replicate (k + 1) x) = stepR (runs (o ++ List.replicate k x)) x := fun k => by
  rw [List.replicate_succ', ← List.append_assoc, runs_snoc]
theorem th_le {r o : List Int} (h : Th r o) : Paired LeR (runs r) (runs o) := by
  induction h with
  | nil => exact .nil
  | @more r o x k _ ih =>
    rw [runs_snoc]
    induction k with
    | zero =>
      rw [runs_rep]
      simp only [List.replicate_zero, List.append_nil]
      exact stepR_le ih x
    | succ k ihk =>
      rw [runs_rep]
      obtain ⟨rs', c, e⟩ := stepR_up (runs r) x
      rw [e] at ihk ⊢
      exact more_le ihk
theorem fold_pos : ∀ (o : List Int) (rs : List (Int × Int)), (∀ p ∈ rs, 1 ≤ p.2) → ∀ p ∈ o.foldl stepR rs, 1 ≤ p.2
  | [], _, h => h
  | x :: o, rs, h => by
    refine fold_pos o (stepR rs x) fun p m => ?_
    rcases nil_or_snoc rs with rfl | ⟨rs', ⟨y, d⟩, rfl⟩
    · rcases List.mem_singleton.mp m with rfl
      exact Int.le_refl _
    · have hd : (1 : Int) ≤ d := h (y, d) (by simp)
      rw [stepR_snoc] at m
      by_cases e : y = x
      · rw [if_pos e] at m
        rcases List.mem_append.mp m with m | m
        · exact h p (List.mem_append_left _ m)
        · rcases List.mem_singleton.mp m with rfl
          show (1 : Int) ≤ d + 1
          omega
      · rw [if_neg e] at m
        rcases List.mem_append.mp m with m | m
        · exact h p m
        · rcases List.mem_singleton.mp m with rfl
          exact Int.le_refl _
theorem runs_pos (o : List Int) : ∀ p ∈ runs o, 1 ≤ p.2 := fold_pos o [] (fun _ m => by cases m)
theorem runs_nil {o : List Int} (h : runs o = []) : o = [] := by
  rcases nil_or_snoc o with rfl | ⟨o', x, rfl⟩
  · rfl
  · rw [runs_snoc] at h
    obtain ⟨rs', c, e⟩ := stepR_up (runs o') x
    rw [e] at h
    exact absurd h snoc_ne
theorem runs_last {o : List Int} {ss : List (Int × Int)} {x d : Int} (h : runs o = ss ++ [(x, d)]) : ∃ o', o = o' ++ [x] ∧ ((d = 1 ∧ runs o' = ss) ∨ (2 ≤ d ∧ runs o' = ss ++ [(x, d - 1)])) := by
  rcases nil_or_snoc o with rfl | ⟨o', y, rfl⟩
  · exact absurd h.symm snoc_ne
  · rw [runs_snoc] at h
    rcases nil_or_snoc (runs o') with e | ⟨rs', ⟨m, c⟩, e⟩
    · rw [e] at h
      obtain ⟨h1, h2⟩ := snoc_inj (l := []) h
      cases h2
      exact ⟨o', rfl, .inl ⟨rfl, by rw [e, h1]⟩⟩
    · have hc : (1 : Int) ≤ c := runs_pos o' (m, c) (by rw [e]; simp)
      rw [e, stepR_snoc] at h
      by_cases em : m = y
      · rw [if_pos em] at h
        obtain ⟨h1, h2⟩ := snoc_inj h
        cases h2
        subst em h1
        exact ⟨o', rfl, .inr ⟨by omega, by rw [e, Int.add_sub_cancel]⟩⟩
      · rw [if_neg em] at h
        obtain ⟨h1, h2⟩ := snoc_inj h
        cases h2
        exact ⟨o', rfl, .inl ⟨rfl, by rw [e, h1]⟩⟩
theorem runs_piece {x : Int} {ss : List (Int × Int)} : ∀ (n : Nat) {o : List Int}, runs o = ss ++ [(x, (n : Int) + 1)] → ∃ o', o = o' ++ List.replicate (n + 1) x ∧ runs o' = ss
  | 0, o, h => by
    obtain ⟨o', e, h1 | h1⟩ := runs_last h
    · exact ⟨o', e, h1.2⟩
    · omega
  | n + 1, o, h => by
    obtain ⟨o', rfl, h1 | h1⟩ := runs_last h
    · omega
    · rw [show ((n + 1 : Nat) : Int) + 1 - 1 = (n : Int) + 1 by omega] at h1
      obtain ⟨o2, rfl, e2⟩ := runs_piece n h1.2
      exact ⟨o2, by rw [List.replicate_succ' (n := n + 1), List.append_assoc], e2⟩
theorem le_th : ∀ (n : Nat) {r o : List Int}, r.length = n → Paired LeR (runs r) (runs o) → Th r o
  | 0, r, o, hn, h => by
    cases r with
    | nil =>
      have e : runs o = [] := by
        cases h' : runs o with
        | nil => rfl
        | cons p t => rw [h'] at h; cases h
      rw [runs_nil e]
      exact .nil
    | cons _ _ => simp at hn
  | n + 1, r, o, hn, h => by
    rcases nil_or_snoc r with rfl | ⟨r', x, rfl⟩
    · simp at hn
    · have hn' : r'.length = n := by simpa using hn
      rw [runs_snoc] at h
      obtain ⟨rs', c, e⟩ := stepR_up (runs r') x
      rw [e] at h
      rcases nil_or_snoc (runs o) with eo | ⟨ss, ⟨y, d⟩, eo⟩
      · rw [eo] at h
        exact absurd (paired_nil h) snoc_ne
      · rw [eo] at h
        obtain ⟨q', ⟨x', c'⟩, e1, h1, h2, h3⟩ := paired_split ss h
        obtain ⟨e3, e2⟩ := snoc_inj e1
        cases e2
        subst e3
        have e4 : x = y := h2
        subst e4
        have h3 : c ≤ d := h3
        have hpos : (1 : Int) ≤ d := runs_pos o (x, d) (by rw [eo]; simp)
        rcases nil_or_snoc (runs r') with er | ⟨ts, ⟨m, c2⟩, er⟩
        · rw [er] at e
          obtain ⟨e5, e6⟩ := snoc_inj (l := []) e
          subst e5
          obtain ⟨o', rfl, eo'⟩ := runs_piece (d - 1).toNat (o := o) (ss := ss) (x := x) (by rw [eo]; congr 3; omega)
          exact .more x _ (le_th n hn' (by rw [er, eo']; exact h1))
        · have hc2 : (1 : Int) ≤ c2 := runs_pos r' (m, c2) (by rw [er]; simp)
          rw [er, stepR_snoc] at e
          by_cases em : m = x
          · rw [if_pos em] at e
            obtain ⟨e5, e6⟩ := snoc_inj e
            cases e6
            subst e5 em
            obtain ⟨o', rfl, hh | ⟨_, hh⟩⟩ := runs_last eo
            · omega
            · exact .more m 0 (le_th n hn' (by rw [er, hh]; exact Paired.snoc h1 ⟨rfl, by show c2 ≤ d - 1; omega⟩))
          · rw [if_neg em] at e
            obtain ⟨e5, e6⟩ := snoc_inj e
            cases e6
            subst e5
            obtain ⟨o', rfl, eo'⟩ := runs_piece (d - 1).toNat (o := o) (ss := ss) (x := x) (by rw [eo]; congr 3; omega)
            exact .more x _ (le_th n hn' (by rw [er, eo']; exact h1))
theorem leR_iff : ∀ (rs ss : List (Int × Int)), (decide (rs.map Prod.fst = ss.map Prod.fst) && (rs.zip ss).all fun p => decide (p.1.2 ≤ p.2.2)) = true ↔ Paired LeR rs ss
  | [], [] => ⟨fun _ => .nil, fun _ => rfl⟩
  | [], q :: ss => ⟨fun h => by simp at h, fun h => by cases h⟩
  | p :: rs, [] => ⟨fun h => by simp at h, fun h => by cases h⟩
  | p :: rs, q :: ss => by
    have ih := leR_iff rs ss
    constructor
    · intro h
      simp only [List.map_cons, List.zip_cons_cons, List.all_cons, Bool.and_eq_true, decide_eq_true_eq, List.cons.injEq] at h
      obtain ⟨⟨h1, h2⟩, h3, h4⟩ := h
      refine .cons ⟨h1, h3⟩ (ih.mp ?_)
      simp only [Bool.and_eq_true, decide_eq_true_eq]
      exact ⟨h2, h4⟩
    · intro h
      cases h with
      | cons h1 h2 =>
        have h3 := ih.mpr h2
        simp only [Bool.and_eq_true, decide_eq_true_eq] at h3
        simp only [List.map_cons, List.zip_cons_cons, List.all_cons, Bool.and_eq_true, decide_eq_true_eq, List.cons.injEq]
        exact ⟨⟨h1.1, h3.1⟩, h1.2, h3.2⟩
theorem th_iff (r o : List Int) : (decide ((runs r).map Prod.fst = (runs o).map Prod.fst) && ((runs r).zip (runs o)).all fun p => decide (p.1.2 ≤ p.2.2)) = true ↔ Th r o :=
  (leR_iff _ _).trans ⟨le_th _ rfl, th_le⟩
end Kx
namespace Kx
open PySem PySem.Spec PyProof.Rows L2 SX LamX
/-- a def whose code object is known -/
def FunC (K : PySem.W.Frag) (x qual : Str) (st : Stmt) (f : Addr) (fd : FuncData) (c : Addr) : Prop :=
  ∃ (oc : Value) (od : Option Addr) (kV doc pm : Value) (an : Option Addr) (ct : Value) (osl : Array (Option Value)), fd = PySem.W.fnOf x qual (defArgs st) (defBody st) (defScope st) .none kV doc pm an (.ref c) ct ∧
    K.lookup f = some ⟨oc, od, .func (PySem.W.fnOf x qual (defArgs st) (defBody st) (defScope st) .none kV doc pm an (.ref c) ct), osl⟩ ∧ PySem.W.codeIn K (.ref c) qual = true
section
variable {P : Program} {w : World} {K : PySem.W.Frag} {mg : Str → Option Value} {base : Heap}
/-- the body's rule: guards told, the code object known -/
theorem okC {x qual : Str} {st : Stmt} {f c : Addr} {fd : FuncData} {N ps : List Str} {k : Nat} {sp : Sp} (F : FunC K x qual st f fd c) (S : FnScope N ps (defScope st)) (len : ∀ vs H Q E, sp vs H Q E → vs.length = ps.length)
    (hbody : ∀ (A : Around) (outer : List Env) (s : Shared) (H : Hp) (vs : List V) (Q : VK) (E : XK), A.guards = some [] → Room k (A.deeper (envOfC qual (defScope st) s.heap.objs.size f (.ref c))) → sp vs H Q E →
      ∃ t, PSs (cxOf CX0 P w K mg base N qual (defScope st) f (.ref c) A outer s H E).nox (defBody st) t ∧ t { nx := fun _ H' => Q .non H', rt := Q } (start N vs) H) :
    FnG P w K mg base CX0 (k + 1) f fd ps sp := by
  obtain ⟨oc, od, kV, doc, pm, an, ct, osl, rfl, lk, hcd⟩ := F
  refine ⟨len, fun A outer s H args us vs Q E hg hr e0 hb r hsp => ?_⟩
  refine LamX.run_ofS lk hcd S hr e0 hb r (len _ _ _ _ hsp) fun hr' => ?_
  obtain ⟨t, h, q⟩ := hbody A outer s H vs Q E hg hr' hsp
  exact ⟨t, h.nox, q⟩
theorem funC_mk {x qual : Str} {st : Stmt} {f c : Addr} {oc : Value} {od an : Option Addr} {osl : Array (Option Value)} {kV doc pm ct : Value} (l : K.lookup f = some ⟨oc, od, .func (PySem.W.fnOf x qual (defArgs st) (defBody st) (defScope st) .none kV doc pm an (.ref c) ct), osl⟩)
    (h : PySem.W.codeIn K (.ref c) qual = true) : FunC K x qual st f (PySem.W.fnOf x qual (defArgs st) (defBody st) (defScope st) .none kV doc pm an (.ref c) ct) c := ⟨oc, od, kV, doc, pm, an, ct, osl, rfl, l, h⟩
theorem funC_of {x qual : Str} {st : Stmt} {f c Pt : Addr} {fd : FuncData} (F : Fun K x qual st f fd) (g : PySem.W.nsIn K mainGlobals x = some (some (.ref f))) (t : PySem.W.tabIn K x = some (c, Pt)) : FunC K x qual st f fd c := by
  obtain ⟨oc, od, kV, doc, pm, an, cdv, ct, osl, rfl, lk, hcd⟩ := F.ex
  unfold PySem.W.tabIn at t
  rw [g] at t
  simp only [lk] at t
  have e : (PySem.W.fnOf x qual (defArgs st) (defBody st) (defScope st) .none kV doc pm an cdv ct).code = cdv := rfl
  clear e
  cases cdv with
  | ref c' =>
    simp only at t
    split at t
    · split at t
      · injection t with t
        injection t with t1 t2
        subst t1
        exact ⟨oc, od, kV, doc, pm, an, ct, osl, rfl, lk, hcd⟩
      · cases t
    · cases t
  | _ => simp at t
end
/-- no positional value, two by name: exchanged -/
def swapG {α : Type} (us ws : List α) : List α := match us, ws with | [], [v, u] => [u, v] | _, _ => []
/-- f(b = .., a = ..): two parameters, both by name, the other way round -/
theorem kb_swap {K : PySem.W.Frag} {x qual : Str} {st : Stmt} {f : Addr} {fd : FuncData} {a b : Str} (F : Fun K x qual st f fd)
    (h : ∀ (kV doc pm : Value) (an : Option Addr) (cdv ct : Value) (u v : Value), bindArgs (PySem.W.fnOf x qual (defArgs st) (defBody st) (defScope st) .none kV doc pm an cdv ct) ⟨[], [(b, v), (a, u)]⟩ = pure [(a, u), (b, v)]) :
    KBinds K fd [a, b] [b, a] swapG swapG := by
  obtain ⟨oc, od, kV, doc, pm, an, cdv, ct, osl, rfl, lk, hcd⟩ := F.ex
  refine ⟨fun s us ws X l => ?_, fun {vs us zs ws} r1 r2 => ?_⟩
  · match us, ws, l with
    | [], [v, u], _ => exact .of_eq (h kV doc pm an cdv ct u v)
    | [], [], l => cases l
    | [], [_], l => cases l
    | [], _ :: _ :: _ :: _, l => cases l
    | _ :: _, _, l => cases l
  · cases r1 with
    | cons _ _ => exact .nil
    | nil =>
      cases r2 with
      | nil => exact .nil
      | cons h1 r2 =>
        cases r2 with
        | nil => exact .nil
        | cons h2 r2 =>
          cases r2 with
          | nil => exact .cons h2 (.cons h1 .nil)
          | cons _ _ => exact .nil
/-! ### the scope of a lambda with one default, checked -/
def lamPB (sc scope : Scope) (z : Str) : Bool :=
  decide (scope.kind = .function) && !scope.isCoroutine && !scope.isGenerator && decide (scope.names.lookup z = some .local) && scope.names.all fun y => !decide (y.2 = .cell) && (!decide (y.2 = .local) || decide (y.1 = z)) && (!decide (y.2 = .free) || decide (sc.names.lookup y.1 = some .cell) || decide (sc.names.lookup y.1 = some .free))
theorem lamP_by {sc scope : Scope} {z : Str} (h : lamPB sc scope z = true) : LamP sc scope z := by
  unfold lamPB at h
  simp only [Bool.and_eq_true, Bool.or_eq_true, Bool.not_eq_true', decide_eq_true_eq, decide_eq_false_iff_not, List.all_eq_true] at h
  obtain ⟨⟨⟨⟨h1, h2⟩, h3⟩, h5⟩, h4⟩ := h
  refine { kind := h1, co := h2, gen := h3, own := fun y hy => ⟨(h4 y hy).1.1, fun e => ?_⟩, par := h5, free := fun y hy e => ?_ }
  · rcases (h4 y hy).1.2 with z | z
    · exact absurd e z
    · exact z
  · rcases (h4 y hy).2 with (z | z) | z
    · exact absurd e z
    · exact .inl z
    · exact .inr z
open PySem.W in
/-- the goal that the head leaves, of a law that makes lambdas: x its def's name, P its table -/
theorem walkL {l : OpenLaw} {n k : Nat} {q : Program} {loose : List Str} {XP : (Str → Option Value) → Heap → Prop} {YP : World → Heap → Prop} {d : DefRec} {K : Params → Frag} {x y : Str} (sp : Frag → Addr → Sp)
    (hn : l.most = some n) (hz : n ≤ sizeLine) (h0 : d.params.defaults = []) (hr : Room k callerA) (hY : ∀ (w : World) (h : Heap), YP w h → (K w.params).In h)
    (hc : ∀ p, (∃ r, (recsOf q).find? (fun r => r.name == y) = some r) ∧ ∃ c Pt, tabIn (K p) y = some (c, Pt) ∧ (K p).lookup Pt = none)
    (F : ∀ (w : World) (mg : Str → Option Value) (fa : Addr) (h : Heap), (K w.params).In h → h.Ns mainGlobals mg → mg d.name = some (.ref fa) → ∃ fd : FuncData,
      (∀ (t : Shared) (u : Value), BindsTo t fd ⟨[u], []⟩ [(x, u)]) ∧ ∀ (c Pt : Addr), tabIn (K w.params) y = some (c, Pt) → ∀ base : Heap, (K w.params).In base → base.Ns mainGlobals mg → TabB base mg c Pt → FnG l.prog w (K w.params) mg base CX0 k fa fd [x] (sp (K w.params) Pt))
    (pr : ∀ (K : Frag) (Pt : Addr) (H : Hp) (a : Addr) (ns : List Int), ns.length ≤ n → H Pt = some (.tbl #[]) → SqL K H a (ns.map V.int) → sp K Pt [.ref a] H (fun v _ => v = .bl true) fun _ _ _ => False) :
    WalkO q loose XP YP l.row.toRowW d [] (fun f us => PySem.call f us) := by
  refine walkT (x := x) (K := K) (cs := fun p => [(y, ((tabIn (K p) y).getD (0, 0)))]) (sp := fun K => sp K ((tabIn K y).getD (0, 0)).2) hn hz h0 hr hY (fun p e he => ?_) (fun w mg fa h KX G hmg => ?_) (fun p H a ns hl ht hS _ => pr _ _ H a ns hl (ht _ (List.mem_singleton.mpr rfl)) hS)
  · obtain ⟨h1, c, Pt, h2, h3⟩ := hc p
    cases List.mem_singleton.mp he
    refine ⟨h1, ?_, ?_⟩
    · rw [h2]
      rfl
    · rw [h2]
      exact h3
  · obtain ⟨fd, hb, hF⟩ := F w mg fa h KX G hmg
    obtain ⟨_, c, Pt, h2, _⟩ := hc w.params
    refine ⟨fd, hb, fun base hk hg ht => ?_⟩
    have hT := ht _ (List.mem_singleton.mpr rfl)
    simp only [h2, Option.getD_some] at hT ⊢
    exact hF c Pt h2 base hk hg hT
theorem useIt {α : Type} {P : Prop} (x : α) (h : α → P) : P := h x
theorem binds_one {K : PySem.W.Frag} {x qual a : Str} {st : Stmt} {f : Addr} {fd : FuncData} (F : Fun K x qual st f fd)
    (h : ∀ (kV doc pm : Value) (an : Option Addr) (cdv ct u : Value), bindArgs (PySem.W.fnOf x qual (defArgs st) (defBody st) (defScope st) .none kV doc pm an cdv ct) ⟨[u], []⟩ = pure [(a, u)]) : ∀ (t : Shared) (u : Value), BindsTo t fd ⟨[u], []⟩ [(a, u)] := by
  obtain ⟨oc, od, kV, doc, pm, an, cdv, ct, osl, rfl, lk, hcd⟩ := F.ex
  exact fun t u => .of_eq (h kV doc pm an cdv ct u)
theorem same_ref {mg : Str → Option Value} {x : Str} {a b : Addr} (h : mg x = some (.ref a)) (k : mg x = some (.ref b)) : a = b := by
  rw [h] at k
  injection k with k
  injection k
theorem tabIn_of {K : PySem.W.Frag} {x : Str} {f c Pt : Addr} {oc oc2 : Value} {od od2 : Option Addr} {osl osl2 : Array (Option Value)} {fd : FuncData} {vs : Array Value} (a : PySem.W.nsIn K mainGlobals x = some (some (.ref f)))
    (l : K.lookup f = some ⟨oc, od, .func fd, osl⟩) (e : fd.code = .ref c) (l2 : K.lookup c = some ⟨oc2, od2, .fields vs, osl2⟩) (v : (vs[11]? : Option Value) = some (.ref Pt)) (n : K.lookup Pt = none) :
    ∃ c Pt, PySem.W.tabIn K x = some (c, Pt) ∧ K.lookup Pt = none := by
  refine ⟨c, Pt, ?_, n⟩
  unfold PySem.W.tabIn
  rw [a]
  simp only [l, e, l2, v]
end Kx
namespace Kx
open PySem PySem.Spec PyProof.Rows L2 SX LamX
/-! ### what stays through draws and through the making of lambdas -/
/-- H without what stands at a and without tables -/
def core (a : Addr) (H : Hp) : Hp := fun b => if b = a then none else match H b with | some (.tbl _) => none | o => o
theorem core_at {a b : Addr} {H : Hp} {o : HO} (h : H b = some o) (n : b ≠ a) (t : ∀ ps, o ≠ .tbl ps) : core a H b = some o := by
  unfold core
  rw [if_neg n, h]
  cases o with
  | tbl ps => exact absurd rfl (t ps)
  | _ => rfl
theorem of_core {a b : Addr} {H : Hp} {o : HO} (h : core a H b = some o) : b ≠ a ∧ H b = some o ∧ ∀ ps, o ≠ .tbl ps := by
  unfold core at h
  by_cases e : b = a
  · rw [if_pos e] at h
    cases h
  · rw [if_neg e] at h
    cases q : H b with
    | none => rw [q] at h; cases h
    | some u =>
      rw [q] at h
      cases u with
      | tbl ps => cases h
      | _ =>
        have h' := Option.some.inj h
        subst h'
        exact ⟨e, rfl, fun ps z => by cases z⟩
theorem core_mv {a : Addr} {H H' : Hp} (m : Mv a H H') : Same (core a H) H' := fun b o h => m b o (of_core h).1 (of_core h).2.1
theorem core_ext {a : Addr} {H0 H H' : Hp} (s : Same (core a H0) H) (e : ExtN H H') : Same (core a H0) H' := fun b o h => e b o (s b o h) (of_core h).2.2
theorem Wh.ext {H H' : Hp} {a c : Addr} {n : Nat} (h : Wh H a c n) (e : ExtN H H') : Wh H' a c n := by
  obtain ⟨cs, t, l', h1, h2, h3⟩ := h
  exact ⟨cs, t, l', e _ _ h1 (fun ps z => by cases z), e _ _ h2 (fun ps z => by cases z), h3⟩
theorem Wh.tab {H : Hp} {a c P : Addr} {n : Nat} {ps : Array Value} (h : Wh H a c n) (t : H P = some (.tbl ps)) : P ≠ a := by
  obtain ⟨cs, x, l', h1, _⟩ := h
  exact ne_of_two t h1 (fun z => by cases z)
/-! ### what never is a list or tuple -/
theorem no_list {K : PySem.W.Frag} {n : String} (h1 : kitB n "list" = some false) (h2 : kitB n "tuple" = some false) : PySem.W.kitAny K (.type n) [.type "list", .type "tuple"] = some false := kit_at h1 h2
theorem flat_rep (n : Nat) (xs : List Int) : (List.replicate n (xs.map V.int)).flatten = ((List.replicate n xs).flatten).map V.int := by
  rw [List.map_flatten, List.map_replicate]
theorem rep_one (n : Nat) (x : Int) : (List.replicate n [V.int x]).flatten = (List.replicate n x).map V.int := by
  rw [List.map_replicate]
  induction n with
  | zero => rfl
  | succ j ih => rw [List.replicate_succ, List.flatten_cons, ih, List.replicate_succ]; rfl
theorem flat_length (n : Nat) (xs : List Int) : ((List.replicate n xs).flatten).length = n * xs.length := by
  induction n with
  | zero => simp
  | succ j ih => rw [List.replicate_succ, List.flatten_cons, List.length_append, ih, Nat.succ_mul, Nat.add_comm]
theorem flat_mem {n : Nat} {xs : List Int} {i : Int} (h : i ∈ (List.replicate n xs).flatten) : i ∈ xs := by
  obtain ⟨l, hl, hi⟩ := List.mem_flatten.mp h
  rw [List.eq_of_mem_replicate hl] at hi
  exact hi
/-- one and the same truth, twice -/
theorem dp_bb {K : PySem.W.Frag} {H : Hp} {p : Addr} {b : Bool} (h : H p = some (.lst [.bl b, .bl b])) : Dp K H (.ref p) (.list [.bool b, .bool b]) := .lst (.inl (.inl h)) (.cons (.bl b) (.cons (.bl b) .nil))
/-- [b, b] is shown -/
theorem bb1 (b : Bool) : (PyData.list [.bool b, .bool b]).showable = true := by cases b <;> rfl
theorem bb2 (b : Bool) : (PyData.list [.bool b, .bool b]).hasDict = false := by cases b <;> rfl
theorem bb3 (b : Bool) : (PyData.list [.bool b, .bool b]).depth ≤ 60 := by cases b <;> decide
theorem bb4 (b : Bool) : (PyData.list [.bool b, .bool b]).shown.length ≤ sizeLine := by cases b <;> decide +kernel
theorem bool_of {P : Prop} {a b : Bool} (h1 : a = true ↔ P) (h2 : b = true ↔ P) : a = b := Bool.eq_iff_iff.mpr (h1.trans h2.symm)
theorem ne_self {x : V} : (!decide (x = x)) = false := by simp
theorem th_refl : ∀ (n : Nat) (r : List Int), r.length = n → Th r r
  | 0, r, h => by
    cases r with
    | nil => exact .nil
    | cons _ _ => simp at h
  | n + 1, r, h => by
    rcases nil_or_snoc r with rfl | ⟨r', x, rfl⟩
    · simp at h
    · exact .more x 0 (th_refl n r' (by simpa using h))
end Kx
namespace Kx
open PySem PySem.Spec PyProof.Rows L2 SX LamX
/-! ### a def that calls replace: a token is out when it begins -/
section
variable {X : Cx}
theorem pst_set {i : Nat} {x : Str} {e : Expr} {te : TE} {pos pos' : Pos} (hN : X.N.Nodup) (hi : X.N[i]? = some x) (hx : Loc X.env.scope x) (he : PET X e te) (hs : swapsWith e (some (.Name x pos')) pos.line X.env = pure false := by rfl)
    (hf : X.fn x = true ∨ X.env.scope.names.lookup x = some .local := by first | exact .inl rfl | exact .inr rfl | assumption) : PST X (.Assign [.Name x pos'] e pos) (tAsg te (gName i)) := by
  intro pins s σ H D h0 I h
  refine wpAny_Assign_Name (thn (he pins s σ H _ h0 I h) fun v s1 hh => ?_) hs
  obtain ⟨y, H1, I1, r1, q1⟩ := hh
  exact store_ok I1 hN hi hx r1 (fun s2 I2 => ⟨_, H1, I2, q1⟩) hf
end
theorem okT {P : Program} {w : World} {K : PySem.W.Frag} {mg : Str → Option Value} {base : Heap} {x qual : Str} {st : Stmt} {f : Addr} {fd : FuncData} {N ps : List Str} {k : Nat} {sp : Sp} (F : Fun K x qual st f fd) (S : FnScope N ps (defScope st))
    (hnc : ((defScope st).names.all fun y => !decide (y.2 = .cell)) = true) (hps : 1 ≤ ps.length) (len : ∀ vs H Q E, sp vs H Q E → vs.length = ps.length)
    (hbody : ∀ (cdv : Value) (A : Around) (outer : List Env) (s : Shared) (H : Hp) (vs : List V) (Q : VK) (E : XK), Room k (A.deeper (envOfC qual (defScope st) s.heap.objs.size f cdv)) → sp vs H Q E →
      ∃ t, PSsT (cxOf CX0 P w K mg base N qual (defScope st) f cdv A outer s H E) (defBody st) t ∧ t { nx := fun _ H' => Q .non H', rt := Q } (start N vs) H) :
    FnOk P w K mg base CX0 (k + 1) f fd ps sp := by
  obtain ⟨oc, od, kV, doc, pm, an, cdv, ct, osl, rfl, lk, hcd⟩ := F.ex
  refine fn_ofT lk hcd S (fun y hy e => ?_) hps len fun A outer s H vs Q E hr hsp => hbody cdv A outer s H vs Q E hr hsp
  have h := List.all_eq_true.mp hnc y hy
  rw [e] at h
  exact absurd h (by decide)
/-! ### texts -/
theorem replace_S (l : List Nat) : Txt.replace (S l) ⟨#[32]⟩ ⟨#[]⟩ = S (l.filter (· != 32)) := by
  have h := PyProof.Rows.replace_strikes (S l) 32
  refine TL.ext_tl ?_
  show (Txt.replace (S l) ⟨#[32]⟩ ⟨#[]⟩).cps.toList = (S (l.filter (· != 32))).cps.toList
  rw [h]
theorem S_nil (l : List Nat) : decide (V.str (S l) = V.str "") = l.isEmpty := by
  cases l with
  | nil => rfl
  | cons c t =>
    rw [decide_eq_false]
    · rfl
    · intro e
      injection e with e
      have := congrArg (fun z : Str => z.cps.size) e
      have e0 : (Str.ofString "").cps.size = 0 := rfl
      simp [S] at this
      omega
/-- letters and blanks alone -/
theorem text_filter (l : List Nat) : ((l.filter (· != 32)).isEmpty || lowB (l.filter (· != 32))) = l.all sg := by
  have h : (l.filter (· != 32)).all low = l.all sg := by
    induction l with
    | nil => rfl
    | cons c t ih =>
      by_cases e : c = 32
      · subst e
        rw [List.filter_cons_of_neg (by simp), ih]
        rfl
      · rw [List.filter_cons_of_pos (by simpa using e), List.all_cons, List.all_cons, ih]
        have : sg c = low c := by
          unfold sg
          rw [decide_eq_false e, Bool.false_or]
        rw [this]
  unfold lowB
  rw [h]
  cases hE : (l.filter (· != 32)).isEmpty with
  | true =>
    have : l.filter (· != 32) = [] := List.isEmpty_iff.mp hE
    rw [← h, this]
    rfl
  | false => simp
/-- as an error with its part is raised -/
def RaisedPart (E : XK) (C : Addr) (H : Hp) (part : Str) : Prop := ∀ d H', Same H H' → H' d = some (.xd [("part", .str part)]) → E (.ref C) (some d) H'
/-! ### items between blanks -/
def itemsA (acc : List Nat) : List Nat → List (List Nat)
  | [] => [acc]
  | c :: r => if c = 32 then acc :: itemsA [] r else itemsA (acc ++ [c]) r
theorem pre_blank (c : Nat) (r : List Nat) : TL.pre [32] (c :: r) = decide (c = 32) := by
  by_cases h : c = 32
  · subst h
    simp [TL.pre]
  · have h' : ¬ 32 = c := fun e => h e.symm
    simp [TL.pre, h, h']
theorem spl_items : ∀ (l acc : List Nat), TL.spl [32] 0 acc l = itemsA acc l
  | [], acc => TL.spl_nil _ _ _
  | c :: r, acc => by
    by_cases h : c = 32
    · rw [TL.spl_hit (by rw [pre_blank, decide_eq_true h])]
      show acc :: TL.spl [32] 0 [] r = if c = 32 then acc :: itemsA [] r else itemsA (acc ++ [c]) r
      rw [if_pos h, spl_items r []]
    · rw [TL.spl_miss (by rw [pre_blank, decide_eq_false h])]
      show TL.spl [32] 0 (acc ++ [c]) r = if c = 32 then acc :: itemsA [] r else itemsA (acc ++ [c]) r
      rw [if_neg h, spl_items r (acc ++ [c])]
theorem split_items (l : List Nat) : Txt.split (S l) " " = (itemsA [] l).map S := by
  have h := SX.split_S (a := l) (b := [32]) (by simp) (by decide)
  rw [spl_items] at h
  exact h
def beginsA : Nat → List (List Nat) → List Nat
  | _, [] => []
  | p, x :: xs => p :: beginsA (p + x.length + 1) xs
/-- how far items reach -/
def reachA : Nat → List (List Nat) → Nat
  | p, [] => p
  | p, x :: xs => reachA (p + x.length + 1) xs
theorem beginsA_snoc : ∀ (xs : List (List Nat)) (p : Nat) (x : List Nat), beginsA p (xs ++ [x]) = beginsA p xs ++ [reachA p xs]
  | [], _, _ => rfl
  | y :: ys, p, x => by
    show p :: beginsA (p + y.length + 1) (ys ++ [x]) = p :: (beginsA (p + y.length + 1) ys ++ [reachA (p + y.length + 1) ys])
    rw [beginsA_snoc ys]
theorem reachA_snoc : ∀ (xs : List (List Nat)) (p : Nat) (x : List Nat), reachA p (xs ++ [x]) = reachA p xs + x.length + 1
  | [], _, _ => rfl
  | y :: ys, p, x => reachA_snoc ys _ x
theorem reach_items : ∀ (l acc : List Nat) (p : Nat), reachA p (itemsA acc l) = p + acc.length + l.length + 1
  | [], acc, p => rfl
  | c :: r, acc, p => by
    show reachA p (if c = 32 then acc :: itemsA [] r else itemsA (acc ++ [c]) r) = _
    by_cases h : c = 32
    · rw [if_pos h]
      show reachA (p + acc.length + 1) (itemsA [] r) = _
      rw [reach_items]
      simp
      omega
    · rw [if_neg h, reach_items]
      simp
      omega
theorem items_blank : ∀ (l acc : List Nat), itemsA acc (l ++ [32]) = itemsA acc l ++ [[]]
  | [], acc => rfl
  | c :: r, acc => by
    show (if c = 32 then acc :: itemsA [] (r ++ [32]) else itemsA (acc ++ [c]) (r ++ [32])) = (if c = 32 then acc :: itemsA [] r else itemsA (acc ++ [c]) r) ++ [[]]
    by_cases h : c = 32
    · rw [if_pos h, if_pos h, items_blank]
      rfl
    · rw [if_neg h, if_neg h, items_blank]
theorem items_sign {s : Nat} (hs : s ≠ 32) : ∀ (l acc : List Nat), ∃ xs x, itemsA acc l = xs ++ [x] ∧ itemsA acc (l ++ [s]) = xs ++ [x ++ [s]]
  | [], acc => ⟨[], acc, rfl, by show (if s = 32 then _ else itemsA (acc ++ [s]) []) = _; rw [if_neg hs]; rfl⟩
  | c :: r, acc => by
    by_cases h : c = 32
    · obtain ⟨xs, x, h1, h2⟩ := items_sign hs r []
      refine ⟨acc :: xs, x, ?_, ?_⟩
      · show (if c = 32 then acc :: itemsA [] r else _) = _
        rw [if_pos h, h1]
        rfl
      · show (if c = 32 then acc :: itemsA [] (r ++ [s]) else _) = _
        rw [if_pos h, h2]
        rfl
    · obtain ⟨xs, x, h1, h2⟩ := items_sign hs r (acc ++ [c])
      refine ⟨xs, x, ?_, ?_⟩
      · show (if c = 32 then _ else itemsA (acc ++ [c]) r) = _
        rw [if_neg h, h1]
      · show (if c = 32 then _ else itemsA (acc ++ [c]) (r ++ [s])) = _
        rw [if_neg h, h2]
theorem items_length : ∀ (l acc : List Nat), (itemsA acc l).length = l.count 32 + 1
  | [], acc => rfl
  | c :: r, acc => by
    show (if c = 32 then acc :: itemsA [] r else itemsA (acc ++ [c]) r).length = _
    by_cases h : c = 32
    · subst h
      rw [if_pos rfl, List.length_cons, items_length, List.count_cons_self]
    · rw [if_neg h, items_length, List.count_cons_of_ne h]
theorem join_items : ∀ (l acc : List Nat), TL.joinL [32] (itemsA acc l) = acc ++ l
  | [], acc => by simp [itemsA, TL.joinL]
  | c :: r, acc => by
    show TL.joinL [32] (if c = 32 then acc :: itemsA [] r else itemsA (acc ++ [c]) r) = _
    by_cases h : c = 32
    · subst h
      rw [if_pos rfl]
      have ih := join_items r []
      cases hi : itemsA [] r with
      | nil =>
        have := items_length r []
        rw [hi] at this
        simp at this
      | cons x xs =>
        rw [hi] at ih
        show acc ++ ([32] ++ TL.joinL [32] (x :: xs)) = _
        rw [ih]
        simp
    · rw [if_neg h, join_items]
      simp
theorem beginsA_length : ∀ (xs : List (List Nat)) (p : Nat), (beginsA p xs).length = xs.length
  | [], _ => rfl
  | x :: xs, p => by
    show (beginsA (p + x.length + 1) xs).length + 1 = xs.length + 1
    rw [beginsA_length xs]
theorem item_le : ∀ (l acc it : List Nat), it ∈ itemsA acc l → it.length ≤ acc.length + l.length
  | [], acc, it, h => by
    rw [List.mem_singleton.mp h]
    simp
  | c :: r, acc, it, h => by
    have h : it ∈ (if c = 32 then acc :: itemsA [] r else itemsA (acc ++ [c]) r) := h
    by_cases e : c = 32
    · rw [if_pos e] at h
      rcases List.mem_cons.mp h with rfl | h
      · simp
      · have := item_le r [] it h
        simp at this ⊢
        omega
    · rw [if_neg e] at h
      have := item_le r _ it h
      simp at this ⊢
      omega
end Kx
namespace Kx
open PySem PySem.Spec PyProof.Rows L2 SX LamX
/-! ### an int or a truth is (not) a truth -/
def rNotBI : R2 := fun x y H Q => ∃ b : Bool, y = .bl b ∧ ((∃ i : Int, x = .int i ∧ Q (.bl true) H) ∨ ∃ a : Bool, x = .bl a ∧ Q (.bl (!decide (a = b))) H)
section
variable {X : Cx}
theorem op_notBI : OpR X (compareOp .IsNot) rNotBI := by
  intro pins s σ H x y v u Q I rx ry h
  obtain ⟨b, rfl, h⟩ := h
  rcases h with ⟨i, rfl, q⟩ | ⟨a, rfl, q⟩
  · obtain ⟨t, rfl⟩ := rx
    obtain rfl : u = Value.bool b := ry
    exact wpAny_isNot_other rfl (fun z => nomatch z) ⟨.bl true, H, I, rfl, q⟩
  · exact op_notBl pins s σ H _ _ v u Q I rx ry ⟨a, b, rfl, rfl, q⟩
/-! ### list(text) -/
def signsV (l : List Nat) : List V := l.map fun c => V.str (S [c])
theorem vals_signs : ∀ {l : List Nat} {its : List Value}, l.length = its.length → (∀ (i : Nat) (c : Nat), l[i]? = some c → ∃ u : Tok, its[i]? = some (Value.str (S [c]) u)) → Vals (signsV l) its
  | [], [], _, _ => .nil
  | [], _ :: _, h, _ => by simp at h
  | _ :: _, [], h, _ => by simp at h
  | c :: l, v :: its, hl, h => by
    obtain ⟨u, e⟩ := h 0 c rfl
    have e' : v = .str (S [c]) u := by simpa using e
    exact .cons ⟨u, e'⟩ (vals_signs (by simpa using hl) fun i d hd => by
      have := h (i + 1) d (by simpa using hd)
      simpa using this)
theorem call_list_txt (hc : X.calm = true) : CallR X (.type "list") (fun xs H Q => ∃ l : List Nat, xs = [.str (S l)] ∧ l.length ≤ 1000000 ∧ ∀ p, H p = none → Q (.ref p) (upd H p (.lst (signsV l)))) := by
  intro pins s σ H xs us Q I r h
  obtain ⟨l, rfl, hl, q⟩ := h
  obtain ⟨u, rfl, t, rfl⟩ := vals1 r
  have hz : (S l).cps.size = l.length := by simp [S]
  have hn : (S l).cps.size ≤ sizeLine := by
    rw [hz]
    exact Nat.le_trans hl (by decide)
  refine call_list_str (hn := hn) (I.ok.hd hc) (S l) t fun h' tk acc' c' k e1 e2 => ?_
  obtain ⟨z1, z2⟩ := e2
  rw [hz] at z1
  have rv : Vals (signsV l) acc'.toList := by
    refine vals_signs (l := l) (by have e := Array.length_toList (xs := acc'); omega) fun i c hi => ?_
    have il : i < l.length := by
      rcases Nat.lt_or_ge i l.length with h | h
      · exact h
      · rw [List.getElem?_eq_none h] at hi
        cases hi
    have ia : i < acc'.size := by omega
    obtain ⟨d, u, h3, h4⟩ := z2 i acc'[i] (by simp [ia])
    have h5 : (S l).cps[i]? = l[i]? := by simp [S]
    rw [h5, hi] at h3
    cases h3
    refine ⟨u, ?_⟩
    have h6 : acc'.toList[i]? = some acc'[i] := by simp [ia]
    rw [h6, h4]
  exact ⟨.ref s.heap.objs.size, upd H s.heap.objs.size (.lst (signsV l)), I.laid (t' := tk) k (Nat.le_refl _) (show ObjOk X.prog X.w _ h' _ (.lst (signsV l)) from ⟨by unfold signsV; rw [List.length_map]; exact Nat.le_trans hl (by decide), acc'.toList, c', rv, by simpa using e1⟩), rfl, q _ (I.hok.fresh (Nat.le_refl _))⟩
end
/-! ### enumerate(text) -/
def IteS (x : Str) : It :=
  ⟨fun i _ => i < x.cps.size, fun i H v H' => ∃ T c, v = .ref T ∧ H T = none ∧ H' = upd H T (.tup [.int (i : Nat), .str ⟨#[c]⟩]) ∧ x.cps[i]? = some c, fun i _ => i = x.cps.size⟩
theorem draws_str {prog : Program} {w : World} {A : Around} (hh : A.handled = none) (it : Addr) (x : Str) (t : Tok) :
    Draws prog w A it [it] x.cps.size (fun i v => ∃ c u, x.cps[i]? = some c ∧ v = .str ⟨#[c]⟩ u) (fun i h => h.IsStrIter it (strIterType x) x t i) := by
  unfold strIterType
  cases x.cps.all (· < 128)
  · exact Draws.strWide hh it x t
  · exact Draws.strAscii hh it x t
theorem turn_enumS {P : Program} {w : World} {K : PySem.W.Frag} {elts : List Expr} {kk : Nat} {tpos : Pos} (x : Str) (t : Tok) (e it : Addr) :
    Turn P w K (.Tuple elts kk tpos) (IteS x) [e, it] e (fun i h => (∃ old, IsEnum h e it ((i : Nat) : Int) old) ∧ h.IsStrIter it (strIterType x) x t i ∧ e ≠ it) where
  mem := by simp
  obj := fun i h st b hb => by
    obtain ⟨⟨old, he⟩, ⟨o, ho, hc, hd⟩, _⟩ := st
    rcases (show b = e ∨ b = it by simpa using hb) with z | z
    · rw [z]
      exact ⟨_, he, fun v q => nomatch q⟩
    · rw [z]
      exact ⟨o, ho, fun v q => by rw [hd] at q; cases q⟩
  keep := fun i h h' st k => by
    obtain ⟨⟨old, he⟩, ⟨o, ho, r⟩, hne⟩ := st
    exact ⟨⟨old, k e (by simp) _ he⟩, ⟨o, k it (by simp) _ ho, r⟩, hne⟩
  item := by
    intro X hP hw hK hc i pins s σ H E I hf st hg
    subst hP hw hK
    obtain ⟨⟨old, he⟩, hit, hne⟩ := st
    have el : e < s.heap.objs.size := Heap.lt_size he
    have il : it < s.heap.objs.size := by
      obtain ⟨_, q, _⟩ := hit
      exact Heap.lt_size q
    have D := draws_str (prog := X.prog) (w := X.w) (A := X.A.in1) (I.ok.hd hc) it x t
    refine wpAny_pyNext_enum_itemD D he hit hg hne (by simpa using hne) fun u h' tk hu ho hit' hT hz hk => ?_
    obtain ⟨c, tu, hcx, rfl⟩ := hu
    refine ⟨_, rfl, wpAny_letOwnedTupleGo_enum (s := { s with heap := h', toks := tk + 1 }) ho fun h2 he' sb => ?_⟩
    have T2 := (sb.2 _ (Nat.ne_of_gt el)).trans hT
    have new : ObjOk X.prog X.w (upd H s.heap.objs.size (.tup [.int (i : Nat), .str ⟨#[c]⟩])) h2 s.heap.objs.size (.tup [.int (i : Nat), .str ⟨#[c]⟩]) :=
      ⟨by show 2 ≤ sizeLine; decide, [.int i tk, .str ⟨#[c]⟩ tu], .cons ⟨_, rfl⟩ (.cons ⟨_, rfl⟩ .nil), ⟨_, T2, rfl, _, rfl⟩⟩
    have I1 : Inv X pins σ (upd H s.heap.objs.size (.tup [.int (i : Nat), .str ⟨#[c]⟩])) { s with heap := h2, toks := tk + 1 } :=
      I.turnedNew (ch := [e, it]) (fun b ob hb q => (sb.2 b (fun z => hb (by simp [z]))).trans (hk b ob (fun z => hb (by simp [z])) (fun z => hb (by simp [z])) q)) hf (Nat.le_refl _) new
    refine ⟨.ref s.heap.objs.size, _, I1, rfl, ⟨_, c, rfl, I.hok.fresh (Nat.le_refl _), rfl, hcx⟩, ⟨⟨.str ⟨#[c]⟩ tu, ?_⟩, ?_, hne⟩, fun b hb => ?_⟩
    · rw [show ((i + 1 : Nat) : Int) = (i : Int) + 1 by omega]
      exact he'
    · obtain ⟨o, ho2, r⟩ := hit'
      exact ⟨o, (sb.2 it (Ne.symm hne)).trans ho2, r⟩
    · have hb' : b < s.heap.objs.size := by
        rcases (show b = e ∨ b = it by simpa using hb) with z | z
        · rw [z]
          exact el
        · rw [z]
          exact il
      rw [upd_ne (Nat.ne_of_lt hb')]
      exact (hf b hb).1
  done := by
    intro X hP hw hK hc i pins s σ H E I hf st hg
    subst hP hw hK
    obtain ⟨⟨old, he⟩, hit, hne⟩ := st
    obtain ⟨f0, f1, f2, f3, f4, f5⟩ := hf it (by simp)
    have hg : i = x.cps.size := hg
    subst hg
    have D := draws_str (prog := X.prog) (w := X.w) (A := X.A.in1) (I.ok.hd hc) it x t
    exact wpAny_pyNext_enum_endD D he hit fun h' eb => ⟨rfl, I.turned (t' := s.toks) (fun b o hb q => eb b o hb q) f0 f1 f3 f4 f5⟩
  self := fun A i s Q E st h => by
    obtain ⟨⟨_, he⟩, _⟩ := st
    exact wpAny_pyIter_enum he h
def iEnumS (ta : TA) : TI := fun σ H R => ta σ H fun vs H1 => ∃ x : Str, vs = [.str x] ∧ R (IteS x) H1
theorem pi_enumS {X : Cx} {e : Expr} {ta : TA} {p pos tpos : Pos} {elts : List Expr} {kk : Nat} (hg : Gl X "enumerate") (hm : X.mg "enumerate" = none) (ha : PA X [e] ta) (hs : starEach [e] X.env = [(false, eval e X.env)] := by rfl) :
    PI X (.Tuple elts kk tpos) (.Call (.Name "enumerate" p) [e] [] pos) (iEnumS ta) := by
  refine ⟨fun pins s σ H R I h => ?_⟩
  refine Call_ (ld_blt I hg hm boot_enumerate (PyProof.Rows.callWith_type1 (thn (ha.run pos pins s σ H _ I h) fun us s1 hh => ?_) hs rfl))
  obtain ⟨vs, H1, I1, r1, x, rfl, q⟩ := hh
  obtain ⟨u, rfl, t, rfl⟩ := vals1 r1
  refine call_enumerate_str fun h' he hit hz hk => wpAny_pyIter_enum he ?_
  have I2 : Inv X pins σ H1 { s1 with heap := h' } := I1.kept (t' := s1.toks) hk
  refine ⟨s1.heap.objs.size + 1, [s1.heap.objs.size + 1, s1.heap.objs.size], _, _, H1, rfl, I2, turn_enumS x t (s1.heap.objs.size + 1) s1.heap.objs.size, ⟨⟨.none, he⟩, hit, Nat.succ_ne_self _⟩, fun b hb => ?_, q⟩
  have hle : s1.heap.objs.size ≤ b := by
    rcases (show b = s1.heap.objs.size + 1 ∨ b = s1.heap.objs.size by simpa using hb) with z | z
    · rw [z]
      exact Nat.le_add_right _ _
    · rw [z]
      exact Nat.le_refl _
  exact I1.fpOk hle (I1.hok.fresh hle)
theorem walk_enumS {x : Str} : Walk (IteS x) x.cps.size (fun _ => True) (fun i H v H' => ∃ T c, v = .ref T ∧ H T = none ∧ H' = upd H T (.tup [.int (i : Nat), .str ⟨#[c]⟩]) ∧ x.cps[i]? = some c) :=
  ⟨fun _ _ h _ => h, fun _ _ => rfl, fun _ _ _ _ _ _ y => y⟩
end Kx
namespace Kx
open PySem PySem.Spec PyProof.Rows L2 SX LamX
/-! ### values of all kinds -/
def KindIs (K : PySem.W.Frag) (H : Hp) (x : V) : Prop := (∃ i, x = .int i) ∨ (∃ b, x = .bl b) ∨ (isIntV x = false ∧ ∃ n, TyX K H x (.type n) ∧ kitB n "int" = some false)
section
variable {K : PySem.W.Frag} {H H' : Hp}
theorem KindIs.same {x : V} (e : Same H H') (h : KindIs K H x) : KindIs K H' x := by
  rcases h with h | h | ⟨h, n, h1, h2⟩
  · exact .inl h
  · exact .inr (.inl h)
  · exact .inr (.inr ⟨h, n, tyx_same e h1, h2⟩)
theorem kind_non : KindIs K H .non := .inr (.inr ⟨rfl, "NoneType", .base .non, by decide +kernel⟩)
theorem kind_str (x : Str) : KindIs K H (.str x) := .inr (.inr ⟨rfl, "str", .base (.str x), by decide +kernel⟩)
theorem kind_lst {a : Addr} {ws : List V} (h : SqL K H a ws) : KindIs K H (.ref a) := .inr (.inr ⟨rfl, "list", tyL h, by decide +kernel⟩)
theorem kind_tup {a : Addr} {ws : List V} (h : SqT K H a ws) : KindIs K H (.ref a) := .inr (.inr ⟨rfl, "tuple", tyT h, by decide +kernel⟩)
theorem kind_dk {a : Addr} {kvs : List (Key × V)} (h : H a = some (.dK kvs)) : KindIs K H (.ref a) := .inr (.inr ⟨rfl, "dict", .base (.dK h), by decide +kernel⟩)
theorem hasInt_dk {a : Addr} {kvs : List (Key × V)} (h : H a = some (.dK kvs)) : HasInt K H (.ref a) := ⟨"dict", false, false, .base (.dK h), by decide +kernel, by decide +kernel, rfl⟩
end
/-- an item: of what kind it is -/
def Itm (K : PySem.W.Frag) (H : Hp) (v : V) : Prop := HasInt K H v ∧ KindIs K H v
theorem Itm.same {K : PySem.W.Frag} {H H' : Hp} {x : V} (e : Same H H') (h : Itm K H x) : Itm K H' x := ⟨h.1.same e, h.2.same e⟩
/-- codes of signs -/
def cdC (l : List Nat) : Prop := l.all (fun c => decide (c < 1114112)) = true
theorem cdC.app {l m : List Nat} (h : cdC l) (k : cdC m) : cdC (l ++ m) := by
  unfold cdC at h k ⊢
  rw [List.all_append, h, k]
  rfl
theorem cdC.sub {l m : List Nat} (h : cdC l) (k : ∀ c ∈ m, c ∈ l) : cdC m := by
  unfold cdC at h ⊢
  exact List.all_eq_true.mpr fun c hc => List.all_eq_true.mp h c (k c hc)
theorem ok_ofString (s : String) : cdC (Str.ofString s).cps.toList := by
  rw [Str.ofString_eq_toList]
  unfold cdC
  refine List.all_eq_true.mpr fun n hn => ?_
  obtain ⟨c, _, rfl⟩ := List.mem_map.mp (by simpa using hn)
  refine decide_eq_true ?_
  have hv := c.valid
  show c.val.toNat < 1114112
  rcases hv with h | ⟨_, h⟩
  · have h' : c.val.toNat < 55296 := h
    omega
  · exact h
inductive AnyV (K : PySem.W.Frag) (H : Hp) : V → Prop where
  | non : AnyV K H .non
  | bl (b : Bool) : AnyV K H (.bl b)
  | int (i : Int) : AnyV K H (.int i)
  | str (l : List Nat) (h : l.length ≤ 5000) (v : cdC l) : AnyV K H (.str (S l))
  | lst {a : Addr} {ws : List V} (h : SqL K H a ws) (n : ws.length ≤ 1000) (t : ∀ v ∈ ws, Itm K H v) : AnyV K H (.ref a)
  | tup {a : Addr} {ws : List V} (h : SqT K H a ws) (n : ws.length ≤ 1000) (t : ∀ v ∈ ws, Itm K H v) : AnyV K H (.ref a)
  | dk {a : Addr} {kvs : List (Key × V)} (h : H a = some (.dK kvs)) : AnyV K H (.ref a)
section
variable {K : PySem.W.Frag} {H H' : Hp} {x : V}
theorem AnyV.same (e : Same H H') (h : AnyV K H x) : AnyV K H' x := by
  cases h with
  | non => exact .non
  | bl b => exact .bl b
  | int i => exact .int i
  | str l h v => exact .str l h v
  | lst h n t => exact .lst (e.seq h) n fun v m => (t v m).same e
  | tup h n t => exact .tup (Same.t e h) n fun v m => (t v m).same e
  | dk h => exact .dk (e _ _ h)
theorem AnyV.itm (h : AnyV K H x) : Itm K H x := by
  cases h with
  | non => exact ⟨hasInt_non, kind_non⟩
  | bl b => exact ⟨hasInt_bl b, .inr (.inl ⟨b, rfl⟩)⟩
  | int i => exact ⟨hasInt_int i, .inl ⟨i, rfl⟩⟩
  | str l h v => exact ⟨hasInt_str _, kind_str _⟩
  | lst h n t => exact ⟨hasInt_lst h, kind_lst h⟩
  | tup h n t => exact ⟨hasInt_tup h, kind_tup h⟩
  | dk h => exact ⟨hasInt_dk h, kind_dk h⟩
/-- is it a list or a tuple -/
theorem AnyV.seq (h : AnyV K H x) : (∃ n, TyX K H x (.type n) ∧ PySem.W.kitAny K (.type n) [.type "list", .type "tuple"] = some false) ∨
    ∃ (a : Addr) (ws : List V), x = .ref a ∧ SqQ K H a ws ∧ ws.length ≤ 1000 ∧ ∀ v ∈ ws, Itm K H v := by
  cases h with
  | non => exact .inl ⟨"NoneType", .base .non, no_list (by decide +kernel) (by decide +kernel)⟩
  | bl b => exact .inl ⟨"bool", .base (.bl b), no_list (by decide +kernel) (by decide +kernel)⟩
  | int i => exact .inl ⟨"int", .base (.int i), no_list (by decide +kernel) (by decide +kernel)⟩
  | str l h v => exact .inl ⟨"str", .base (.str _), no_list (by decide +kernel) (by decide +kernel)⟩
  | lst h n t => exact .inr ⟨_, _, rfl, .inl h, n, t⟩
  | tup h n t => exact .inr ⟨_, _, rfl, .inr h, n, t⟩
  | dk h => exact .inl ⟨"dict", .base (.dK h), no_list (by decide +kernel) (by decide +kernel)⟩
/-- is it a text -/
theorem AnyV.str? (h : AnyV K H x) : (∃ l : List Nat, x = .str (S l) ∧ l.length ≤ 5000 ∧ cdC l) ∨ ∃ n, TyX K H x (.type n) ∧ kitB n "str" = some false := by
  cases h with
  | non => exact .inr ⟨"NoneType", .base .non, by decide +kernel⟩
  | bl b => exact .inr ⟨"bool", .base (.bl b), by decide +kernel⟩
  | int i => exact .inr ⟨"int", .base (.int i), by decide +kernel⟩
  | str l h v => exact .inl ⟨l, rfl, h, v⟩
  | lst h n t => exact .inr ⟨"list", tyL h, by decide +kernel⟩
  | tup h n t => exact .inr ⟨"tuple", tyT h, by decide +kernel⟩
  | dk h => exact .inr ⟨"dict", .base (.dK h), by decide +kernel⟩
end
theorem S_of (x : Str) : S x.cps.toList = x := by
  cases x
  simp [S]
theorem any_text {K : PySem.W.Frag} {H : Hp} (x : Str) (h : x.length ≤ 5000) (v : cdC x.cps.toList) : AnyV K H (.str x) := by
  have e := AnyV.str (K := K) (H := H) x.cps.toList (by simpa [Str.length] using h) v
  rw [S_of] at e
  exact e
theorem itms_nil {K : PySem.W.Frag} {H : Hp} : ∀ v ∈ ([] : List V), Itm K H v := fun _ m => by cases m
theorem itms_cons {K : PySem.W.Frag} {H : Hp} {x : V} {xs : List V} (h : Itm K H x) (t : ∀ v ∈ xs, Itm K H v) : ∀ v ∈ x :: xs, Itm K H v := fun v m => by
  rcases List.mem_cons.mp m with rfl | m
  · exact h
  · exact t v m
theorem itm_int {K : PySem.W.Frag} {H : Hp} (i : Int) : Itm K H (.int i) := ⟨hasInt_int i, .inl ⟨i, rfl⟩⟩
theorem itm_bl {K : PySem.W.Frag} {H : Hp} (b : Bool) : Itm K H (.bl b) := ⟨hasInt_bl b, .inr (.inl ⟨b, rfl⟩)⟩
theorem joinL_nil : ∀ (l : List Nat), TL.joinL [] (l.map fun c => [c]) = l
  | [] => rfl
  | [c] => rfl
  | c :: d :: r => by
    have ih := joinL_nil (d :: r)
    show [c] ++ ([] ++ TL.joinL [] ((d :: r).map fun c => [c])) = c :: d :: r
    rw [ih]
    rfl
theorem join_signs (l : List Nat) : Txt.join "" (l.map fun c => S [c]) = S l := by
  have h := SX.join_S [] (l.map fun c => [c])
  rw [joinL_nil, List.map_map] at h
  exact h
theorem sum_signs : ∀ (l : List Nat), ((l.map fun c => S [c]).map (·.length)).sum = l.length
  | [] => rfl
  | c :: r => by
    show (S [c]).length + ((r.map fun c => S [c]).map (·.length)).sum = r.length + 1
    rw [sum_signs r, S_len]
    show 1 + r.length = _
    omega
theorem signs_map (l : List Nat) : signsV l = (l.map fun c => S [c]).map V.str := by
  unfold signsV
  rw [List.map_map]
  rfl
theorem in_signs {l : List Nat} {v : V} (h : v ∈ signsV l) : ∃ c, c ∈ l ∧ v = .str (S [c]) := by
  obtain ⟨c, hc, e⟩ := List.mem_map.mp h
  exact ⟨c, hc, e.symm⟩
end Kx
namespace Kx
open PySem PySem.Spec PyProof.Rows L2 SX LamX
section
variable {K : PySem.W.Frag} {J : It} {n : Nat} {G : Hp → Prop} {Y : Nat → Hp → V → Hp → Prop} {g : TG} {tt : TT} {te : TE} {vs : List Nat} {σ : L2.St} {H1 : Hp} {D : Addr} {Qd : Hp → Prop}
theorem keep_some {zs : List (Option V)} {i : Nat} {v : V} (h : zs[i]? = some (some v)) : (zs.take (i + 1)).filterMap id = (zs.take i).filterMap id ++ [v] := by
  rw [List.take_add_one, h, List.filterMap_append]
  rfl
theorem keep_none {zs : List (Option V)} {i : Nat} (h : zs[i]? = some none) : (zs.take (i + 1)).filterMap id = (zs.take i).filterMap id := by
  rw [List.take_add_one, h, List.filterMap_append]
  simp
/-- a comprehension with a test, its items told ahead: none where the test fails -/
theorem lc_keep (w : Walk J n G Y) (zs : List (Option V)) (hz : zs.length = n) (nD : H1 D = none) (len : n ≤ 1000000) (hG : ∀ Hc, Same H1 Hc → G Hc)
    (turn : ∀ (i : Nat) (x : V) (z : Option V) (Hc Hx : Hp) (Q' : VK) (R' : Hp → Prop), i < n → zs[i]? = some z → Same H1 Hc → Y i Hc x Hx → (∀ v H4, z = some v → Same Hc H4 → Q' v H4) → (∀ H4, z = none → Same Hc H4 → R' H4) → g x (wipe σ vs) Hx fun σ2 H2 => wipe σ2 vs = wipe σ vs ∧ tt σ2 H2 fun b H3 => if b = true then te σ2 H3 Q' else R' H3)
    (fin : ∀ Hc, Same H1 Hc → Hc D = some (.lst (zs.filterMap id)) → Qd Hc) :
    ∃ W : Nat → Nat → Hp → Prop, (∃ m, W 0 m (upd H1 D (.lst []))) ∧ ∀ i m H, W i m H →
      (J.stop i H ∧ Qd H) ∨ (J.go i H ∧ ∃ Nx : Hp → Prop, (∀ H', Nx H' → ∃ m', m' < m ∧ W (i + 1) m' H') ∧ ∀ x H', J.yld i H x H' → g x (wipe σ vs) H' fun σ2 H2 => wipe σ2 vs = wipe σ vs ∧ tt σ2 H2 fun b H3 =>
        if b = true then te σ2 H3 fun y H4 => ∃ acc, H4 D = some (.lst acc) ∧ acc.length < sizeLine ∧ Nx (upd H4 D (.lst (acc ++ [y]))) else Nx H3) := by
  refine lc_it w (fun i Hc => Same H1 Hc ∧ Hc D = some (.lst ((zs.take i).filterMap id))) ⟨same_new nD, upd_same⟩ (fun i H _ p => hG H p.1) (fun i x Hc Hx hi p y => ?_) (fun Hc p => ?_)
  · have hzi : zs[i]? = some (zs[i]'(by omega)) := List.getElem?_eq_getElem (by omega)
    refine turn i x _ Hc Hx _ _ hi hzi p.1 y (fun v H4 ev e4 => ⟨_, e4 _ _ p.2, ?_, ?_⟩) (fun H4 ev e4 => ⟨p.1.trans e4, ?_⟩)
    · have h1 : ((zs.take i).filterMap id).length ≤ (zs.take i).length := List.length_filterMap_le ..
      rw [List.length_take] at h1
      exact Nat.lt_of_le_of_lt (show _ ≤ 1000000 by omega) (by decide)
    · refine ⟨fun b o z => ?_, ?_⟩
      · rw [upd_ne (ne_of_none z nD)]
        exact e4 _ _ (p.1 b o z)
      · rw [upd_same, keep_some (by rw [hzi, ev])]
    · rw [keep_none (by rw [hzi, ev])]
      exact e4 _ _ p.2
  · rw [← hz, List.take_length] at p
    exact fin Hc p.1 p.2
end
section
variable {K : PySem.W.Frag} {a : Addr} {xs : List V} {g : TG} {tt : TT} {te : TE} {vs : List Nat} {σ : L2.St} {H : Hp} {k : Nat} {Q : VK} {l : List Nat}
/-- [e for c in NAME if t], NAME a text -/
theorem lc_txt (zs : List (Option V)) (hz : zs.length = l.length) (hi : σ[k]? = some (some (.str (S l)))) (len : l.length ≤ 1000000)
    (turn : ∀ (i : Nat) (c : Nat) (z : Option V) (Hc : Hp) (Q' : VK) (R' : Hp → Prop), l[i]? = some c → zs[i]? = some z → Same H Hc → (∀ v H4, z = some v → Same Hc H4 → Q' v H4) → (∀ H4, z = none → Same Hc H4 → R' H4) → g (.str (S [c])) (wipe σ vs) Hc fun σ2 H2 => wipe σ2 vs = wipe σ vs ∧ tt σ2 H2 fun b H3 => if b = true then te σ2 H3 Q' else R' H3)
    (fin : ∀ (D : Addr) (Hc : Hp), Same H Hc → Hc D = some (.lst (zs.filterMap id)) → Q (.ref D) Hc) :
    tLc (iStr (tVar k)) g tt te vs σ H Q := by
  have e : (S l).cps.size = l.length := by simp [S]
  refine ⟨_, hi, S l, rfl, fun D nD => lc_keep walk_str zs (by rw [hz, e]) nD (by rw [e]; exact len) (fun _ _ => trivial) (fun i x z Hc Hx Q' R' _ hzi e1 y q r => ?_) (fin D)⟩
  obtain ⟨rfl, c, hc, rfl⟩ := y
  have hc' : l[i]? = some c := by
    have : (S l).cps[i]? = l[i]? := by simp [S]
    rw [← this]
    exact hc
  exact turn i c z _ Q' R' hc' hzi e1 q r
/-- [e for x in NAME if t], NAME a list -/
theorem lc_lstk (zs : List (Option V)) (hz : zs.length = xs.length) (hi : σ[k]? = some (some (.ref a))) (hq : SqL K H a xs) (len : xs.length ≤ 1000000)
    (turn : ∀ (i : Nat) (x : V) (z : Option V) (Hc : Hp) (Q' : VK) (R' : Hp → Prop), xs[i]? = some x → zs[i]? = some z → Same H Hc → (∀ v H4, z = some v → Same Hc H4 → Q' v H4) → (∀ H4, z = none → Same Hc H4 → R' H4) → g x (wipe σ vs) Hc fun σ2 H2 => wipe σ2 vs = wipe σ vs ∧ tt σ2 H2 fun b H3 => if b = true then te σ2 H3 Q' else R' H3)
    (fin : ∀ (D : Addr) (Hc : Hp), Same H Hc → Hc D = some (.lst (zs.filterMap id)) → Q (.ref D) Hc) :
    tLc (iList K (tVar k)) g tt te vs σ H Q := ⟨_, hi, a, rfl, ⟨_, hq⟩, fun D nD => lc_keep walk_list zs hz nD len (fun Hc e => e.seq hq) (fun i x z Hc Hx Q' R' _ hzi e y q r => by
      obtain ⟨rfl, hx⟩ := y
      exact turn i x z _ Q' R' hx hzi e q r) (fin D)⟩
end
/-- texts of one sign each, laid -/
theorem pl_signs {l : List Nat} (h : cdC l) : ∀ d ∈ l.map (fun c => PyData.str (S [c])), Pl 0 d := fun d m => by
  obtain ⟨c, hc, rfl⟩ := List.mem_map.mp m
  refine ⟨?_, Nat.le_refl _⟩
  have h2 := List.all_eq_true.mp h c hc
  show (S [c]).cps.all (· < 0x110000) = true
  simpa [S] using of_decide_eq_true h2
theorem dp_signs {K : PySem.W.Frag} {H : Hp} (l : List Nat) : Paired (fun v d => Dp K H v d) (signsV l) (l.map fun c => PyData.str (S [c])) := paired_of_map _ _ fun c _ => .str (S [c])
/-- «xs == []», any laid items -/
theorem eq_nilD {K : PySem.W.Frag} {H : Hp} {a p : Addr} {vs : List V} {ds : List PyData} {k : Nat} {Q : VK} (h1 : SqL K H a vs) (hd : Paired (fun v d => Dp K H v d) vs ds) (hp : ∀ d ∈ ds, Pl k d) (hk : k ≤ 60) (h2 : H p = some (.lst [])) (q : Q (.bl (decide (ds = []))) H) : rEqD K (.ref a) (.ref p) H Q :=
  ⟨_, _, .lst h1 (dpAll_of hd), dp_ints (xs := []) (.inl (.inl h2)), (Pl.lst hp).shaped (by omega), (pl_ints []).shaped (by decide), by
    have e : PyData.eqv (.list ds) (.list (([] : List Int).map PyData.int)) = decide (ds = []) := by
      cases ds with
      | nil => rfl
      | cons d t => rfl
    rw [e]
    exact q⟩
theorem filt_map {α β : Type} (p : α → Bool) (f : α → β) : ∀ (l : List α), (l.map fun c => if p c = true then some (f c) else none).filterMap id = (l.filter p).map f
  | [] => rfl
  | c :: l => by
    rw [List.map_cons, List.filterMap_cons]
    cases h : p c with
    | true =>
      rw [List.filter_cons_of_pos h]
      show f c :: _ = f c :: _
      rw [filt_map p f l]
    | false =>
      rw [List.filter_cons_of_neg (by rw [h]; decide)]
      exact filt_map p f l
end Kx
namespace Kx
open PySem PySem.Spec PyProof.Rows L2 SX LamX
section
variable {D : Ends} {σ : L2.St} {H : Hp}
theorem go_and {ta tb : TE} {Q : VK} (h : ta σ H fun x H1 => ∃ c, x = .bl c ∧ if c = true then tb σ H1 Q else Q (.bl false) H1) : tAndV ta tb σ H Q := h
theorem go_chain {r r' : R2} {ta tb tc : TE} {Q : VK} (h : ta σ H fun x H1 => tb σ H1 fun y H2 => r x y H2 fun z H3 => ∃ k, z = .bl k ∧ if k = true then tc σ H3 fun w' H4 => r' y w' H4 Q else Q (.bl false) H3) : tChain r r' ta tb tc σ H Q := h
theorem go_or {ta tb : TE} {Q : VK} (h : ta σ H fun x H1 => ∃ c, x = .bl c ∧ if c = true then Q (.bl true) H1 else tb σ H1 Q) : tOrV ta tb σ H Q := h
theorem go_lst {t : TA} {Q : VK} (h : t σ H fun xs H1 => xs.length ≤ sizeLine ∧ ∀ p, H1 p = none → Q (.ref p) (upd H1 p (.lst xs))) : tLst t σ H Q := h
end
/-- both, told as one truth -/
theorem and_join {c : Bool} {tb : TE} {Q : VK} {σ : L2.St} {H : Hp} (d : Bool) (h : c = true → ∀ Q' : VK, Q' (.bl d) H → tb σ H Q') (q : Q (.bl (c && d)) H) : ∃ c', V.bl c = .bl c' ∧ if c' = true then tb σ H Q else Q (.bl false) H := by
  refine ⟨c, rfl, ?_⟩
  cases c with
  | true => exact h rfl _ q
  | false => exact q
theorem and_b {c : Bool} {A B : Prop} (h1 : c = true → A) (h2 : c = false → B) : if c = true then A else B := by
  cases c with
  | true => rw [if_pos rfl]; exact h1 rfl
  | false => rw [if_neg (by decide)]; exact h2 rfl
theorem map_nil_dec {α β : Type} (f : α → β) (l : List α) [Decidable (l.map f = [])] : decide (l.map f = []) = l.isEmpty := by
  cases l with
  | nil => exact decide_eq_true rfl
  | cons a t => exact decide_eq_false (fun e => nomatch e)
theorem filt_empty (p : Nat → Bool) (l : List Nat) : (l.filter fun c => !p c).isEmpty = l.all p := by
  induction l with
  | nil => rfl
  | cons c t ih =>
    cases h : p c with
    | true =>
      rw [List.filter_cons_of_neg (by rw [h]; decide), List.all_cons, h, ih]
      rfl
    | false =>
      rw [List.filter_cons_of_pos (by rw [h]; rfl), List.all_cons, h]
      rfl
/-- one sign is the blank -/
theorem is_blank (c : Nat) : decide (V.str (S [c]) = V.str (Str.ofString " ")) = decide (c = 32) := by
  by_cases hc : c = 32
  · subst hc
    rfl
  · rw [decide_eq_false hc, decide_eq_false]
    intro e
    injection e with e
    have := congrArg (fun z : Str => z.cps.toList) e
    simp [S] at this
    exact hc (by have h2 : (Str.ofString " ").cps.toList = [32] := rfl; rw [h2] at this; simpa using this)
theorem take_succ {α : Type} {l : List α} {i : Nat} {c : α} (h : l[i]? = some c) : l.take (i + 1) = l.take i ++ [c] := by
  rw [List.take_add_one, h]
  rfl
theorem ixN_last (n : Nat) : ixN (n + 1) (-1) = some n := by
  unfold ixN
  rw [if_neg (by decide), if_pos (by omega)]
  congr 1
  omega
end Kx
namespace Kx
open PySem PySem.Spec PyProof.Rows L2 SX LamX
section
variable {X : Cx} {k : Nat} {f : Addr} {fd : FuncData} {ps : List Str} {sp : Sp} {x : Str} {p pos : Pos} {e1 : Expr} {more : List Expr} {t : TA}
/-! ### a call of a def that is promised only where no repr runs around it; it raises nothing -/
theorem pe_callG (F : FnG X.prog X.w X.K X.mg X.base CX0 k f fd ps sp) (nog : X.A.guards = some []) (room : Room k X.A) (here : Gl X x) (at_f : X.mg x = some (.ref f)) (keeps : PySem.W.keepIn X.K (.ref f) = true) (bd : Binds X.K fd ps [])
    (args : PA X (e1 :: more) t) (nd : (x == ("__debug__" : Str)) = false := by decide) (h1 : starEach (e1 :: more) X.env = (false, eval e1 X.env) :: starEach more X.env := by rfl) (h2 : (backTo pos (starEach more X.env)).any (·.1) = false := by rfl) :
    PE X (.Call (.Name x p) (e1 :: more) [] pos) (tCall sp [] C8.E0 t) := by
  constructor
  intro pins s σ H Q I want
  apply wpAny_Call_Name_kw
  refine ld_glob I here at_f ?_ nd
  refine PySem.W.callWith_K (h₀ := X.base) I.ok.mod.kin keeps (thn (args.run pos pins s σ H _ I want) fun us st hh => ?_) h1 h2
  obtain ⟨vs, Hm, J, rv, promise⟩ := hh
  rw [List.append_nil] at promise
  have size : (us ++ []).length = ps.length := by
    rw [List.append_nil, ← rv.length]
    exact F.len _ _ _ _ promise
  have bound := bd st us J.kIn size
  rw [List.append_nil] at bound
  refine ⟨J.kIn, wpAny_call (codeAny_mono (F.go X.A X.stack st Hm ⟨us, []⟩ us vs Q C8.E0 nog room J.env0 bound rv promise) fun r st2 done => ?_)⟩
  match r, done with
  | .ok (.ret u), done => exact J.after done
  | .error e, done => exact (show False from done).elim
  | .ok .next, done => exact done.elim
  | .ok .brk, done => exact done.elim
  | .ok .cont, done => exact done.elim
end
/-! ### tables stay through draws -/
theorem Tabs.mv {T : List (Addr × Str)} {a c : Addr} {n : Nat} {H H' : Hp} (t : Tabs T H) (w : Wh H a c n) (m : Mv a H H') : Tabs T H' := fun p hp => by
  obtain ⟨ps, h1, h2, h3⟩ := t p hp
  obtain ⟨cs, x, l', g1, _⟩ := w
  refine ⟨ps, m _ _ (ne_of_two h1 g1 (fun z => by cases z)) h1, h2, fun pos cv hc => ?_⟩
  obtain ⟨c', e1, e2⟩ := h3 pos cv hc
  exact ⟨c', e1, m _ _ (ne_of_two e2 g1 (fun z => by cases z)) e2⟩
theorem Tabs.same {T : List (Addr × Str)} {H H' : Hp} (t : Tabs T H) (m : Same H H') : Tabs T H' := fun p hp => (t p hp).ext m
end Kx
namespace Kx
open PySem PySem.Spec PyProof.Rows L2 SX LamX
/-! ### data that repr shows -/
structure Sh (k m : Nat) (d : PyData) : Prop where
  sh : d.showable = true
  nd : d.hasDict = false
  dp : d.depth ≤ k
  lv : d.leavesShort 13 = true
  bk : d.bulk ≤ m
theorem Sh.len {k m : Nat} {d : PyData} (h : Sh k m d) (hm : m ≤ 1048576) : d.shown.length ≤ sizeLine :=
  PyData.shown_fits_bulk (B := 13) (by decide) (by decide) h.lv (Nat.le_trans h.bk hm)
theorem Sh.up {k l m n : Nat} {d : PyData} (h : Sh k m d) (hk : k ≤ l) (hm : m ≤ n) : Sh l n d := ⟨h.sh, h.nd, Nat.le_trans h.dp hk, h.lv, Nat.le_trans h.bk hm⟩
theorem sh_bool (b : Bool) : Sh 0 0 (.bool b) := ⟨rfl, rfl, Nat.le_refl _, rfl, Nat.le_refl _⟩
theorem sh_none : Sh 0 0 .none := ⟨rfl, rfl, Nat.le_refl _, rfl, Nat.le_refl _⟩
theorem sh_int {i : Int} (h : i.natAbs < 1000000000000) : Sh 0 0 (.int i) :=
  ⟨by
    simp only [PyData.showable, decide_eq_true_eq]
    by_cases z : i.natAbs = 0
    · rw [z]; decide
    · exact Nat.lt_of_lt_of_le ((Nat.log2_lt z).mpr (Nat.lt_of_lt_of_le h (by decide : 1000000000000 ≤ 2 ^ 40))) (by decide), rfl, Nat.le_refl _, by simp only [PyData.leavesShort, decide_eq_true_eq]; exact PyData.shown_int_le (by exact h), Nat.le_refl _⟩
theorem sh_str {x : Str} {l : List Nat} (e : x = S l) (h : cdC l) : Sh 0 l.length (.str x) :=
  ⟨rfl, rfl, Nat.le_refl _, by
    subst e
    simp only [PyData.leavesShort, List.all_eq_true, decide_eq_true_eq]
    intro c hc
    have h2 := List.all_eq_true.mp h c (by simpa [S] using hc)
    have h3 := of_decide_eq_true h2
    exact Nat.lt_of_lt_of_le h3 (by decide), by
    subst e
    simp [PyData.bulk, S]⟩
/-- items that are shown, m: their signs and one each -/
inductive ShA (k : Nat) : Nat → List PyData → Prop
  | nil : ShA k 0 []
  | cons {m n : Nat} {d : PyData} {ds : List PyData} : Sh k m d → ShA k n ds → ShA k (m + 1 + n) (d :: ds)
theorem ShA.all {k m : Nat} {ds : List PyData} (h : ShA k m ds) : PyData.showableAll ds = true ∧ PyData.hasDictAll ds = false ∧ PyData.depthAll ds ≤ k ∧ PyData.leavesShortAll 13 ds = true ∧ PyData.bulkAll ds ≤ m := by
  induction h with
  | nil => exact ⟨rfl, rfl, Nat.zero_le _, rfl, Nat.le_refl _⟩
  | cons h1 _ ih =>
    obtain ⟨a, b, c, d, e⟩ := ih
    refine ⟨?_, ?_, ?_, ?_, ?_⟩
    · simp only [PyData.showableAll, h1.sh, a, Bool.and_self]
    · simp only [PyData.hasDictAll, h1.nd, b, Bool.or_self]
    · simp only [PyData.depthAll]
      exact Nat.max_le.mpr ⟨h1.dp, c⟩
    · simp only [PyData.leavesShortAll, h1.lv, d, Bool.and_self]
    · simp only [PyData.bulkAll]
      have := h1.bk
      omega
theorem ShA.lst {k m : Nat} {ds : List PyData} (h : ShA k m ds) : Sh (k + 1) m (.list ds) := by
  obtain ⟨a, b, c, d, e⟩ := h.all
  exact ⟨by simp only [PyData.showable, a], by simp only [PyData.hasDict, b], by simp only [PyData.depth]; omega, by simp only [PyData.leavesShort, d], by simp only [PyData.bulk]; exact e⟩
theorem ShA.tup {k m : Nat} {ds : List PyData} (h : ShA k m ds) : Sh (k + 1) m (.tuple ds) := by
  obtain ⟨a, b, c, d, e⟩ := h.all
  exact ⟨by simp only [PyData.showable, a], by simp only [PyData.hasDict, b], by simp only [PyData.depth]; omega, by simp only [PyData.leavesShort, d], by simp only [PyData.bulk]; exact e⟩
theorem shA_ints {k : Nat} : ∀ (l : List Int), (∀ i ∈ l, i.natAbs < 1000000000000) → ShA k l.length (l.map PyData.int)
  | [], _ => .nil
  | i :: r, h => by
    have := ShA.cons ((sh_int (h i List.mem_cons_self)).up (Nat.zero_le k) (Nat.le_refl _)) (shA_ints r fun j m => h j (List.mem_cons_of_mem _ m))
    have e : 0 + 1 + r.length = (i :: r).length := by rw [List.length_cons]; omega
    rw [e] at this
    exact this
theorem shA_texts {k : Nat} : ∀ (xs : List (List Nat)), (∀ x ∈ xs, cdC x) → ShA k (reachA 0 xs) (xs.map fun x => PyData.str (S x))
  | [], _ => .nil
  | x :: r, h => by
    have := ShA.cons ((sh_str rfl (h x List.mem_cons_self)).up (Nat.zero_le k) (Nat.le_refl _)) (shA_texts r fun y m => h y (List.mem_cons_of_mem _ m))
    have e : ∀ (r : List (List Nat)) (p : Nat), reachA p r = p + reachA 0 r := fun r => by
      induction r with
      | nil => intro p; rfl
      | cons y r ih =>
        intro p
        show reachA (p + y.length + 1) r = p + reachA (0 + y.length + 1) r
        rw [ih, ih (0 + y.length + 1)]
        omega
    have e2 : x.length + 1 + reachA 0 r = reachA 0 (x :: r) := by
      show _ = reachA (0 + x.length + 1) r
      rw [e r (0 + x.length + 1)]
      omega
    rw [e2] at this
    exact this
theorem item_cd : ∀ (l acc it : List Nat), it ∈ itemsA acc l → ∀ c ∈ it, c ∈ acc ∨ c ∈ l
  | [], acc, it, h, c, hc => by
    rw [List.mem_singleton.mp h] at hc
    exact .inl hc
  | d :: r, acc, it, h, c, hc => by
    have h : it ∈ (if d = 32 then acc :: itemsA [] r else itemsA (acc ++ [d]) r) := h
    by_cases e : d = 32
    · rw [if_pos e] at h
      rcases List.mem_cons.mp h with rfl | h
      · exact .inl hc
      · rcases item_cd r [] it h c hc with z | z
        · cases z
        · exact .inr (List.mem_cons_of_mem _ z)
    · rw [if_neg e] at h
      rcases item_cd r _ it h c hc with z | z
      · rcases List.mem_append.mp z with z | z
        · exact .inl z
        · rw [List.mem_singleton.mp z]
          exact .inr List.mem_cons_self
      · exact .inr (List.mem_cons_of_mem _ z)
theorem begins_le : ∀ (xs : List (List Nat)) (p : Nat), ∀ b ∈ beginsA p xs, b ≤ reachA p xs
  | [], p, b, h => by cases h
  | x :: xs, p, b, h => by
    have r : ∀ (xs : List (List Nat)) (p : Nat), p ≤ reachA p xs := fun xs => by
      induction xs with
      | nil => exact fun p => Nat.le_refl _
      | cons y ys ih =>
        intro p
        show p ≤ reachA (p + y.length + 1) ys
        exact Nat.le_trans (by omega) (ih _)
    show b ≤ reachA (p + x.length + 1) xs
    rcases List.mem_cons.mp h with rfl | h
    · exact Nat.le_trans (by omega) (r xs _)
    · exact begins_le xs _ b h
/-- repr of data -/
theorem go_repr {K : PySem.W.Frag} {a : Addr} {d : PyData} {k m : Nat} {H : Hp} {Q : VK} (hd : Dp K H (.ref a) d) (h : Sh k m d) (hk : k ≤ 60) (hm : m ≤ 1048576) (q : Q (.str d.shown) H) : rRepr K [.ref a] H Q :=
  ⟨a, d, rfl, hd, h.sh, h.nd, Nat.le_trans h.dp hk, h.len hm, q⟩
/-- one and the same text is no other -/
theorem rne_self {x : Str} {H : Hp} {Q : Bool → Hp → Prop} (q : Q false H) : ∃ k, V.bl (!decide (V.str x = V.str x)) = .bl k ∧ Q k H := ⟨false, by simp, q⟩
theorem bools_dp {K : PySem.W.Frag} {H : Hp} {p : Addr} {bs : List Bool} (h : H p = some (.lst (bs.map V.bl))) : Dp K H (.ref p) (.list (bs.map PyData.bool)) := .lst (.inl (.inl h)) (by
  clear h
  induction bs with
  | nil => exact .nil
  | cons b t ih => exact .cons (.bl b) ih)
theorem shA_bools {k : Nat} : ∀ (l : List Bool), ShA k l.length (l.map PyData.bool)
  | [] => .nil
  | i :: r => by
    have := ShA.cons ((sh_bool i).up (Nat.zero_le k) (Nat.le_refl _)) (shA_bools r)
    have e : 0 + 1 + r.length = (i :: r).length := by rw [List.length_cons]; omega
    rw [e] at this
    exact this
theorem cnt_count : ∀ (l : List Nat), cnt 32 l = (l.count 32 : Nat)
  | [] => rfl
  | c :: r => by
    rw [cnt_cons, cnt_count r]
    by_cases h : c = 32
    · subst h
      rw [List.count_cons_self]
      simp
      omega
    · rw [List.count_cons_of_ne h]
      simp [h]
theorem count_blank (l : List Nat) : Txt.count (S l) " " = (l.count 32 : Nat) := by
  have h := count_cnt (S l) 32
  have e : (" " : Str) = ⟨#[32]⟩ := rfl
  rw [e, h]
  have e2 : (S l).cps.toList = l := by simp [S]
  rw [e2, cnt_count]
end Kx
namespace Kx
open PySem PySem.Spec PyProof.Rows L2 SX LamX
/-- no positional value, one by name -/
def oneG {α : Type} (us ws : List α) : List α := match us, ws with | [], [u] => [u] | _, _ => []
theorem kb_one {K : PySem.W.Frag} {x qual : Str} {st : Stmt} {f : Addr} {fd : FuncData} {a : Str} (F : Fun K x qual st f fd)
    (h : ∀ (kV doc pm : Value) (an : Option Addr) (cdv ct : Value) (u : Value), bindArgs (PySem.W.fnOf x qual (defArgs st) (defBody st) (defScope st) .none kV doc pm an cdv ct) ⟨[], [(a, u)]⟩ = pure [(a, u)]) :
    KBinds K fd [a] [a] oneG oneG := by
  obtain ⟨oc, od, kV, doc, pm, an, cdv, ct, osl, rfl, lk, hcd⟩ := F.ex
  refine ⟨fun s us ws X l => ?_, fun {vs us zs ws} r1 r2 => ?_⟩
  · match us, ws, l with
    | [], [u], _ => exact .of_eq (h kV doc pm an cdv ct u)
    | [], [], l => cases l
    | [], _ :: _ :: _, l => cases l
    | _ :: _, _, l => cases l
  · cases r1 with
    | cons _ _ => exact .nil
    | nil =>
      cases r2 with
      | nil => exact .nil
      | cons h1 r2 =>
        cases r2 with
        | nil => exact .cons h1 .nil
        | cons _ _ => exact .nil
/-- no positional value, three by name: c, a, b for a, b, c -/
def turnG {α : Type} (us ws : List α) : List α := match us, ws with | [], [c, a, b] => [a, b, c] | _, _ => []
theorem kb_turn {K : PySem.W.Frag} {x qual : Str} {st : Stmt} {f : Addr} {fd : FuncData} {a b c : Str} (F : Fun K x qual st f fd)
    (h : ∀ (kV doc pm : Value) (an : Option Addr) (cdv ct : Value) (u v w : Value), bindArgs (PySem.W.fnOf x qual (defArgs st) (defBody st) (defScope st) .none kV doc pm an cdv ct) ⟨[], [(c, w), (a, u), (b, v)]⟩ = pure [(a, u), (b, v), (c, w)]) :
    KBinds K fd [a, b, c] [c, a, b] turnG turnG := by
  obtain ⟨oc, od, kV, doc, pm, an, cdv, ct, osl, rfl, lk, hcd⟩ := F.ex
  refine ⟨fun s us ws X l => ?_, fun {vs us zs ws} r1 r2 => ?_⟩
  · match us, ws, l with
    | [], [w, u, v], _ => exact .of_eq (h kV doc pm an cdv ct u v w)
    | [], [], l => cases l
    | [], [_], l => cases l
    | [], [_, _], l => cases l
    | [], _ :: _ :: _ :: _ :: _, l => cases l
    | _ :: _, _, l => cases l
  · cases r1 with
    | cons _ _ => exact .nil
    | nil =>
      cases r2 with
      | nil => exact .nil
      | cons h1 r2 =>
        cases r2 with
        | nil => exact .nil
        | cons h2 r2 =>
          cases r2 with
          | nil => exact .nil
          | cons h3 r2 =>
            cases r2 with
            | nil => exact .cons h2 (.cons h3 (.cons h1 .nil))
            | cons _ _ => exact .nil
end Kx
namespace Kx
open PySem PySem.Spec PyProof.Rows L2 SX LamX
theorem go_nil {σ : L2.St} {H : Hp} {Q : List V → Hp → Prop} (h : Q [] H) : tNil σ H Q := h
theorem go_var {σ : L2.St} {H : Hp} {i : Nat} {v : V} {Q : VK} (e : σ[i]? = some (some v)) (h : Q v H) : tVar i σ H Q := ⟨v, e, h⟩
theorem go_or2 {ta tb : TT} {σ : L2.St} {H : Hp} {Q : Bool → Hp → Prop} (h : ta σ H fun b H1 => if b = true then Q true H1 else tb σ H1 Q) : tOr ta tb σ H Q := h
theorem go_not {ta : TT} {σ : L2.St} {H : Hp} {Q : Bool → Hp → Prop} (h : ta σ H fun b H1 => Q (!b) H1) : tNot ta σ H Q := h
theorem go_b {te : TE} {σ : L2.St} {H : Hp} {Q : Bool → Hp → Prop} (h : te σ H fun x H1 => ∃ c, x = .bl c ∧ Q c H1) : tB te σ H Q := h
end Kx
namespace Kx
open PySem PySem.Spec PyProof.Rows L2 SX LamX
theorem ext_at {H H' : Hp} {b : Addr} {o : HO} (e : ExtN H H') (h : H b = some o) (n : ∀ ps, o ≠ .tbl ps := by intro ps z; cases z) : H' b = some o := e b o h n
theorem tyx_ext {K : PySem.W.Frag} {H H' : Hp} {x : V} {n : String} (e : ExtN H H') (h : TyX K H x (.type n)) : TyX K H' x (.type n) := by
  cases h with
  | base b =>
    cases b with
    | non => exact .base .non
    | bl y => exact .base (.bl y)
    | int i => exact .base (.int i)
    | str z => exact .base (.str z)
    | flt z => exact .base (.flt z)
    | lst h => exact .base (.lst (ext_at e h))
    | frz h => exact .base (.frz (ext_at e h))
    | tup h => exact .base (.tup (ext_at e h))
    | dK h => exact .base (.dK (ext_at e h))
    | dT h => exact .base (.dT (ext_at e h))
  | byt b => exact .byt b
  | set h => exact .set (ext_at e h)
  | kList h c => exact .kList h c
  | kTuple h c => exact .kTuple h c
  | kDict h c => exact .kDict h c
  | fTuple h => exact .fTuple (ext_at e h)
  | fDict h => exact .fDict (ext_at e h)
theorem sqL_ext {K : PySem.W.Frag} {H H' : Hp} {a : Addr} {xs : List V} (e : ExtN H H') (h : SqL K H a xs) : SqL K H' a xs := by
  rcases h with (h | ⟨o, h⟩) | h
  · exact .inl (.inl (ext_at e h))
  · exact .inl (.inr ⟨o, ext_at e h⟩)
  · exact .inr h
theorem sqT_ext {K : PySem.W.Frag} {H H' : Hp} {a : Addr} {xs : List V} (e : ExtN H H') (h : SqT K H a xs) : SqT K H' a xs := by
  rcases h with (h | ⟨o, h⟩) | h
  · exact .inl (.inl (ext_at e h))
  · exact .inl (.inr ⟨o, ext_at e h⟩)
  · exact .inr h
/-- ["text", "text"] == ["text", "text"] -/
theorem eq_data {K : PySem.W.Frag} {H : Hp} {a b : Addr} {d e : PyData} {Q : VK} (h1 : Dp K H (.ref a) d) (h2 : Dp K H (.ref b) e) (s1 : SeqAt.shaped d = true) (s2 : SeqAt.shaped e = true) (q : Q (.bl (PyData.eqv d e)) H) : rEqD K (.ref a) (.ref b) H Q :=
  ⟨d, e, h1, h2, s1, s2, q⟩
end Kx
namespace Kx
open PySem PySem.Spec PyProof.Rows L2 SX LamX
theorem reachA_add : ∀ (r : List (List Nat)) (p : Nat), reachA p r = p + reachA 0 r
  | [], p => rfl
  | y :: r, p => by
    show reachA (p + y.length + 1) r = p + reachA (0 + y.length + 1) r
    rw [reachA_add r, reachA_add r (0 + y.length + 1)]
    omega
theorem sum_texts : ∀ xs : List (List Nat), ((xs.map S).map (·.length)).sum + xs.length = reachA 0 xs
  | [] => rfl
  | x :: r => by
    have e : reachA 0 (x :: r) = x.length + 1 + reachA 0 r := by
      show reachA (0 + x.length + 1) r = _
      rw [reachA_add]
      omega
    rw [e, ← sum_texts r]
    simp only [List.map_cons, List.sum_cons, List.length_cons, S_len]
    omega
end Kx
namespace Kx
open PySem PySem.Spec PyProof.Rows L2 SX LamX
theorem S_inj {a b : Str} (h : a.cps.toList = b.cps.toList) : a = b := by
  cases a with
  | mk a =>
    cases b with
    | mk b =>
      have : a = b := Array.toList_inj.mp h
      rw [this]
theorem fold_arr (a : Array Nat) : ∀ (n : Nat) (acc : Array Nat), ((List.replicate n a).foldl (· ++ ·) acc).toList = acc.toList ++ (List.replicate n a.toList).flatten
  | 0, acc => by simp
  | n + 1, acc => by
    rw [List.replicate_succ, List.foldl_cons, fold_arr a n, List.replicate_succ, List.flatten_cons, Array.toList_append, List.append_assoc]
theorem mul_S (l : List Nat) (n : Nat) : Txt.mul (S l) n = S ((List.replicate n l).flatten) := by
  refine S_inj ?_
  have e0 : ∀ m : List Nat, (S m).cps.toList = m := fun m => by simp [S]
  rw [e0]
  unfold Txt.mul
  by_cases h1 : (n : Int) < 1
  · rw [if_pos h1]
    have : n = 0 := by omega
    subst this
    rfl
  · rw [if_neg h1]
    by_cases h2 : ((n : Int) == 1 || (S l).length == 0) = true
    · rw [if_pos h2, e0]
      simp only [Bool.or_eq_true, beq_iff_eq] at h2
      rcases h2 with h2 | h2
      · have : n = 1 := by omega
        subst this
        simp
      · rw [S_len] at h2
        cases l with
        | nil => simp
        | cons _ _ => simp at h2
    · rw [if_neg h2]
      show ((List.replicate (n : Int).toNat (S l).cps).foldl (· ++ ·) #[]).toList = _
      rw [fold_arr, Int.toNat_natCast, e0]
      simp
section
variable {X : Cx}
/-- a text times an int -/
def rRepS : R2 := fun x y H Q => ∃ (l : List Nat) (n : Nat), x = .str (S l) ∧ y = .int n ∧ l.length ≤ 16 ∧ n ≤ 1048576 ∧ Q (.str (S ((List.replicate n l).flatten))) H
theorem op_repS : OpR X (binaryOp .Mult) rRepS := by
  intro pins s σ H x y v u Q I rx ry h
  obtain ⟨l, n, rfl, rfl, h1, h2, q⟩ := h
  obtain ⟨t, rfl⟩ := rx
  obtain ⟨t', rfl⟩ := ry
  refine PySem.W.KXi.mul (n := l.length) (S_len l) h1 (by omega) (by omega) (fun t2 tk _ _ => ⟨.str _, H, I.tok _, ⟨_, rfl⟩, ?_⟩)
  rw [mul_S]
  exact q
end
end Kx
namespace Kx
open PySem PySem.Spec PyProof.Rows L2 SX LamX
section
variable {X : Cx}
/-- a list of whatever values == [] -/
def rEqE : R2 := fun x y H Q => ∃ (a b : Addr) (xs : List V), x = .ref a ∧ y = .ref b ∧ H a = some (.lst xs) ∧ H b = some (.lst []) ∧ Q (.bl xs.isEmpty) H
theorem op_eqE (hu : X.A.units + 64 < cLine) : OpR X (compareOp .Eq) rEqE := by
  intro pins s σ H x y v u Q I rx ry h
  obtain ⟨a, b, xs, rfl, rfl, ha, hb, q⟩ := h
  cases rx
  cases ry
  obtain ⟨z, its, n, r, hl, e⟩ := I.lstM ha
  obtain ⟨z2, its2, n2, r2, hl2, e2⟩ := I.lstM hb
  have l2 : its2 = [] := by
    cases its2 with
    | nil => rfl
    | cons _ _ => simp at hl2
  subst l2
  cases xs with
  | nil =>
    have l1 : its = [] := by
      cases its with
      | nil => rfl
      | cons _ _ => simp at hl
    subst l1
    exact P.eq_list (e := fun _ => true) e e2 rfl (fun j h1 _ => absurd h1 (Nat.not_lt_zero j)) (by omega) ⟨.bl true, H, I, rfl, q⟩
  | cons x r' =>
    exact P.eq_list_lengths e e2 (by
      simp only [List.size_toArray, List.length_nil]
      rw [← hl]
      simp) (by omega) ⟨.bl false, H, I, rfl, q⟩
end
end Kx
namespace Kx
open PySem PySem.Spec PyProof.Rows L2 SX LamX
section
variable {K : PySem.W.Frag} {a : Addr} {xs : List V} {g : TG} {tt : TT} {te : TE} {vs : List Nat} {σ : L2.St} {H : Hp} {k : Nat} {Q : VK}
/-- [e for x in NAME if t], NAME a tuple -/
theorem lc_tupk (zs : List (Option V)) (hz : zs.length = xs.length) (hi : σ[k]? = some (some (.ref a))) (hq : SqT K H a xs) (len : xs.length ≤ 1000000)
    (turn : ∀ (i : Nat) (x : V) (z : Option V) (Hc : Hp) (Q' : VK) (R' : Hp → Prop), xs[i]? = some x → zs[i]? = some z → Same H Hc → (∀ v H4, z = some v → Same Hc H4 → Q' v H4) → (∀ H4, z = none → Same Hc H4 → R' H4) → g x (wipe σ vs) Hc fun σ2 H2 => wipe σ2 vs = wipe σ vs ∧ tt σ2 H2 fun b H3 => if b = true then te σ2 H3 Q' else R' H3)
    (fin : ∀ (D : Addr) (Hc : Hp), Same H Hc → Hc D = some (.lst (zs.filterMap id)) → Q (.ref D) Hc) :
    tLc (iTup K (tVar k)) g tt te vs σ H Q := ⟨_, hi, a, rfl, ⟨_, hq⟩, fun D nD => lc_keep walk_tup zs hz nD len (fun Hc e => Same.t e hq) (fun i x z Hc Hx Q' R' _ hzi e y q r => by
      obtain ⟨rfl, hx⟩ := y
      exact turn i x z _ Q' R' hx hzi e q r) (fin D)⟩
theorem lc_or {I J : TI} (h : tLc I g tt te vs σ H Q ∨ tLc J g tt te vs σ H Q) : tLc (fun σ H R => I σ H R ∨ J σ H R) g tt te vs σ H Q := h
/-- .. a list or a tuple -/
theorem lc_seqk (zs : List (Option V)) (hz : zs.length = xs.length) (hi : σ[k]? = some (some (.ref a))) (hq : SqQ K H a xs) (len : xs.length ≤ 1000000)
    (turn : ∀ (i : Nat) (x : V) (z : Option V) (Hc : Hp) (Q' : VK) (R' : Hp → Prop), xs[i]? = some x → zs[i]? = some z → Same H Hc → (∀ v H4, z = some v → Same Hc H4 → Q' v H4) → (∀ H4, z = none → Same Hc H4 → R' H4) → g x (wipe σ vs) Hc fun σ2 H2 => wipe σ2 vs = wipe σ vs ∧ tt σ2 H2 fun b H3 => if b = true then te σ2 H3 Q' else R' H3)
    (fin : ∀ (D : Addr) (Hc : Hp), Same H Hc → Hc D = some (.lst (zs.filterMap id)) → Q (.ref D) Hc) :
    tLc (fun σ H R => iList K (tVar k) σ H R ∨ iTup K (tVar k) σ H R) g tt te vs σ H Q :=
  lc_or (hq.imp (fun h => lc_lstk zs hz hi h len turn fin) (fun h => lc_tupk zs hz hi h len turn fin))
end
theorem filt_none {α : Type} (p : α → Bool) : ∀ (l : List α), ((l.map fun x => if p x = true then some x else none).filterMap id).isEmpty = l.all fun x => !p x
  | [] => rfl
  | x :: r => by
    cases h : p x with
    | true =>
      simp only [List.map_cons, h, if_true, List.filterMap_cons, id, List.all_cons, Bool.not_true, Bool.false_and]
      rfl
    | false =>
      have := filt_none p r
      simp only [List.map_cons, h, Bool.false_eq_true, if_false, List.filterMap_cons, id, List.all_cons, Bool.not_false, Bool.true_and]
      exact this
theorem core_same {a : Addr} {H H' : Hp} (e : Same (core a H) H') (h : ∀ b o, core a H b = some o → b ≠ a) : Same (core a H) (core a H') := fun b o k => core_at (e b o k) (h b o k) (of_core k).2.2
theorem core_core {a : Addr} {H0 H : Hp} (e : Same (core a H0) H) : Same (core a H0) (core a H) := fun b o k => core_at (e b o k) (of_core k).1 (of_core k).2.2
theorem go_par {i j : Nat} {t : TA} {D : Ends} {σ : L2.St} {H : Hp} (h : tPar i j t D σ H) : tPar i j t D σ H := h
end Kx
namespace Kx
open PySem PySem.Spec PyProof.Rows L2 SX LamX
section
variable {K : PySem.W.Frag} {σ : L2.St} {H : Hp} {ta tb : TE} {k m : Nat}
/-- repr(x) != repr(y), of one and the same data -/
theorem nerepr_t (d : PyData) (hd : Sh k m d) (hk : k ≤ 60) (hm : m ≤ 1048576) {Q : Bool → Hp → Prop}
    (ha : ∀ Q : VK, (∀ a H', Same H H' → Dp K H' (.ref a) d → Q (.ref a) H') → ta σ H Q)
    (hb : ∀ H0, Same H H0 → ∀ Q : VK, (∀ b H', Same H0 H' → Dp K H' (.ref b) d → Q (.ref b) H') → tb σ H0 Q)
    (h : ∀ H', Same H H' → Q false H') : tTest (tOp rNe (tCB (rRepr K) (tCons ta tNil)) (tCB (rRepr K) (tCons tb tNil))) σ H Q := by
  refine go_test (go_op (go_cb (go_cons (ha _ fun a H1 e1 h1 => go_nil (go_repr h1 hd hk hm (go_cb (go_cons (hb H1 e1 _ fun b H2 e2 h2 => go_nil (go_repr h2 hd hk hm ⟨rfl, false, ?_, h H2 (e1.trans e2)⟩)))))))))
  rw [ne_self]
theorem nerepr_if (d : PyData) (hd : Sh k m d) (hk : k ≤ 60) (hm : m ≤ 1048576) {D : Ends} {t u : TS}
    (ha : ∀ Q : VK, (∀ a H', Same H H' → Dp K H' (.ref a) d → Q (.ref a) H') → ta σ H Q)
    (hb : ∀ H0, Same H H0 → ∀ Q : VK, (∀ b H', Same H0 H' → Dp K H' (.ref b) d → Q (.ref b) H') → tb σ H0 Q)
    (h : ∀ H', Same H H' → u D σ H') : tIfS (tTest (tOp rNe (tCB (rRepr K) (tCons ta tNil)) (tCB (rRepr K) (tCons tb tNil)))) t u D σ H :=
  go_if (nerepr_t d hd hk hm ha hb fun H' e => iteF (A := _) (h H' e))
end
theorem sh_bb (b c : Bool) : Sh 1 2 (.list [.bool b, .bool c]) := (shA_bools (k := 0) [b, c]).lst
theorem dp_bc {K : PySem.W.Frag} {H : Hp} {p : Addr} {b c : Bool} (h : H p = some (.lst [.bl b, .bl c])) : Dp K H (.ref p) (.list [.bool b, .bool c]) := .lst (.inl (.inl h)) (.cons (.bl b) (.cons (.bl c) .nil))
end Kx
namespace Kx
open PySem PySem.Spec PyProof.Rows L2 SX LamX
theorem go_c {v : V} {σ : L2.St} {H : Hp} {Q : VK} (h : Q v H) : tC v σ H Q := h
theorem core_sub {a : Addr} {H : Hp} : Same (core a H) H := fun b o h => (of_core h).2.1
theorem core_mvO {a : Addr} {H0 H H' : Hp} (e : Same (core a H0) H) (m : Mv a H H') : Same (core a H0) H' := fun b o h => m b o (of_core h).1 (e b o h)
theorem sz5 : 5 ≤ sizeLine := by decide
theorem rep_flat (n x : Nat) : (List.replicate n [x]).flatten = List.replicate n x := by
  induction n with
  | zero => rfl
  | succ j ih => rw [List.replicate_succ, List.flatten_cons, ih, List.replicate_succ]; rfl
theorem rep_len (n : Nat) (l : List Nat) : ((List.replicate n l).flatten).length = n * l.length := by
  induction n with
  | zero => simp
  | succ j ih => rw [List.replicate_succ, List.flatten_cons, List.length_append, ih, Nat.succ_mul, Nat.add_comm]
theorem rep_mem {n : Nat} {l : List Nat} {i : Nat} (h : i ∈ (List.replicate n l).flatten) : i ∈ l := by
  obtain ⟨m, hm, hi⟩ := List.mem_flatten.mp h
  rw [List.eq_of_mem_replicate hm] at hi
  exact hi
end Kx
namespace Kx
open PySem PySem.Spec PyProof.Rows L2 SX LamX
section
variable {M : Model} {prog : Program} {w : World} {A : Around} {E : Value → Shared → Prop} {s : Shared} {K : PySem.W.Frag} {x C f : Addr} {ox : Obj} {od : Option Obj} {y : Value}
theorem objNe (X : K.In s.heap) (I : PySem.W.InstAt s.heap x ox C od) (hu : A.units < cLine) (hs : PySem.W.findIn K (.ref C) "__eq__" = some (some (.ref f))) (hf : PySem.W.isFn K (.ref f) = true) {Q : Fin → Shared → Prop}
    (hcall : wpAny (model prog w) A (call (.ref f) [.ref x, y]) (fun v s' => ∃ b, v = .bool b ∧ Q (.done (.ret (.bool (!b)))) s') E s) : wpAny (model prog w) A (Builtin.«object.__ne__» ⟨[.ref x, y], []⟩) Q E s := by
  unfold Builtin.«object.__ne__»
  repeat (first
    | with_reducible refine wpAny_cRoomFor hu ?_
    | (refine wpAny_bind (m := callSpecialIfBound? (.ref x) (Str.ofString "__eq__") [y])
        (PySem.W.ifBound_K X I hs hf (wpAny_mono hcall (fun r s' hr => by
          obtain ⟨b, rfl, hq⟩ := hr
          repeat (first | exact hq | exact wpAny_pure hq | exact wpAny_truthy_bool hq | (refine wpAny_bind (m := truthy (.bool _)) (wpAny_truthy_bool ?_)) | wp_step)) fun _ _ e => e)))
    | wp_step)
theorem call_ne {Q : Value → Shared → Prop} (X : K.In s.heap) (I : PySem.W.InstAt s.heap x ox C od) (hu : A.in1.units < cLine) (hm : PySem.W.mroIn K C (.type "object") = some true) (hs : PySem.W.findIn K (.ref C) "__eq__" = some (some (.ref f))) (hf : PySem.W.isFn K (.ref f) = true)
    (hcall : wpAny (model prog w) A.in1 (call (.ref f) [.ref x, y]) (fun v s' => ∃ b, v = .bool b ∧ Q (.bool (!b)) s') E s) : wpAny (model prog w) A (call (.builtin "object.__ne__") [.ref x, y]) Q E s :=
  wpAny_call (codeAny_call_builtin F.cmp_object.ne.plain F.cmpEntry_ne (PySem.W.check_slot F.cmpKind_ne F.cmpSplit_ne (I.type.andThen (PySem.W.looks_mroIn X hm)) (F.cmpArgs_ne _ _) (objNe X I hu hs hf hcall)))
theorem ifBound_objNe {args : List Value} {Q : Option Value → Shared → Prop} (X : K.In s.heap) (I : PySem.W.InstAt s.heap x ox C od) (hs : PySem.W.findIn K (.ref C) "__ne__" = some (some (.builtin "object.__ne__")))
    (h : wpAny M A (call (.builtin "object.__ne__") (.ref x :: args)) (fun v => Q (some v)) E s) : wpAny M A (callSpecialIfBound? (.ref x) "__ne__" args) Q E s := by
  simp only [callSpecialIfBound?, bindSpecialIfBound?]
  refine wpAny_holding (wpAny_bind (wpAny_bind (wpAny_bind (I.type.here ((PySem.W.looks_findIn X hs).here ?_)))))
  refine wpAny_bind (wpAny_askSetting (wpAny_ite ?_))
  have fin : wpAny M A (call (.builtin "object.__ne__") ([.ref x] ++ args) >>= fun v => pure (some v)) Q E s := wpAny_bind (wpAny_mono h (fun v s' h' => wpAny_pure h') fun _ _ h' => h')
  split
  · exact wpAny_bind (wpAny_of_eq (F.cmp_object.ne.bind _) (wpAny_pure (by exact fin)))
  · exact wpAny_tryCatch (wpAny_bind (wpAny_of_eq (F.cmp_object.ne.bind _) (wpAny_pure (by exact fin))))
/-- x != y, x an instance with an == of its own, no != -/
theorem rich_ne {Q : Value → Shared → Prop} {tb : Value} (hu : A.in1.units < cLine) (X : K.In s.heap) (I : PySem.W.InstAt s.heap x ox C od) (hb : PySem.W.Looks (model prog w) s.heap (typeOf y) tb) (hn : PySem.W.notFirst K C tb = true) (hm : PySem.W.mroIn K C (.type "object") = some true)
    (hs : PySem.W.findIn K (.ref C) "__eq__" = some (some (.ref f))) (hf : PySem.W.isFn K (.ref f) = true) (hne : PySem.W.findIn K (.ref C) "__ne__" = some (some (.builtin "object.__ne__")))
    (h : wpAny (model prog w) A.in1 (call (.ref f) [.ref x, y]) (fun v s' => ∃ b, v = .bool b ∧ Q (.bool (!b)) s') E s) : wpAny (model prog w) A (richCompare .NotEq (.ref x) y) Q E s := by
  have one : wpAny (model prog w) A (tryCompare (.ref x) "__ne__" y) (fun r s' => ∃ v, r = some v ∧ Q v s') E s := by
    unfold tryCompare
    refine wpAny_bind (ifBound_objNe X I hne (call_ne X I hu hm hs hf (wpAny_mono h (fun v s' hv => ?_) fun _ _ e => e)))
    obtain ⟨b, rfl, hq⟩ := hv
    exact ⟨b, rfl, wpAny_pure ⟨_, rfl, hq⟩⟩
  have hu0 : A.units < cLine := Nat.lt_of_succ_lt (show A.units + 1 < cLine from hu)
  unfold richCompare
  simp only [oneThing_ref]
  refine wpAny_holding (wpAny_bind (wpAny_cRoomFor hu0 ?_))
  rw [cmpInfo_NotEq]
  dsimp only
  refine wpAny_bind (I.type.here (wpAny_bind (hb.here ?_)))
  split
  · rename_i q
    have e : PySem.W.subIn K tb (.ref C) = some false := by
      rcases Bool.or_eq_true_iff.mp hn with e | e
      · rw [beq_iff_eq.mp e] at q; simp at q
      · exact beq_iff_eq.mp e
    refine wpAny_bind ((PySem.W.looks_subIn X e).here ?_)
    simp only [Bool.false_eq_true, if_false]
    refine wpAny_bind (wpAny_mono one (fun r s' z => ?_) fun _ _ e => e)
    obtain ⟨v, rfl, hq⟩ := z
    exact wpAny_pure hq
  · refine wpAny_bind (wpAny_pure ?_)
    simp only [Bool.false_eq_true, if_false]
    refine wpAny_bind (wpAny_mono one (fun r s' z => ?_) fun _ _ e => e)
    obtain ⟨v, rfl, hq⟩ := z
    exact wpAny_pure hq
theorem sub_list : PySem.W.subIn K (.type "list") (.ref C) = some false := by
  have e : fastBuiltinMro "list" = some [.type "list", .type "object"] := by decide +kernel
  show (fastBuiltinMro "list").map (·.contains (.ref C)) = some false
  rw [e]
  first
    | rfl
    | simp
theorem sub_tuple : PySem.W.subIn K (.type "tuple") (.ref C) = some false := by
  have e : fastBuiltinMro "tuple" = some [.type "tuple", .type "object"] := by decide +kernel
  show (fastBuiltinMro "tuple").map (·.contains (.ref C)) = some false
  rw [e]
  first
    | rfl
    | simp
end
end Kx
namespace Kx
open PySem PySem.Spec PyProof.Rows L2 SX LamX
section
variable {X : Cx} {pins : List (Addr × Obj)} {σ : L2.St} {H : Hp} {s : Shared}
/-- what stands at the other side of an own ==: an instance of the class, a list, a tuple -/
def OthV (K : PySem.W.Frag) (C : Addr) (H : Hp) (y : V) : Prop := ∃ b, y = .ref b ∧ ((∃ dx fs, H b = some (.ins C dx fs)) ∨ ∃ xs, SqQ K H b xs)
theorem oth_looks {C : Addr} {y : V} {u : Value} (I : Inv X pins σ H s) (ry : RelV y u) (h : OthV X.K C H y) : ∃ b tb, y = .ref b ∧ u = .ref b ∧ (∀ M, PySem.W.Looks M s.heap (typeOf u) tb) ∧ PySem.W.notFirst X.K C tb = true := by
  obtain ⟨b, rfl, h⟩ := h
  obtain rfl : u = Value.ref b := ry
  rcases h with ⟨dx, fs, h⟩ | ⟨xs, h | h⟩
  · obtain ⟨mA, J, _⟩ := ins_get I.hok h
    obtain ⟨od, J, _⟩ := J.look
    exact ⟨b, _, rfl, rfl, fun M => J.type, by simp [PySem.W.notFirst]⟩
  · obtain ⟨us, r1, p1, _⟩ := I.list h
    obtain ⟨o, n, e, c1, c2, d⟩ := p1
    have c : o.cls = .type "list" := by first | exact c1 | exact c2
    refine ⟨b, .type "list", rfl, rfl, fun M => c ▸ (PySem.W.Looks.ld e).andThen .now, ?_⟩
    unfold PySem.W.notFirst
    rw [sub_list]
    rfl
  · obtain ⟨us, r1, ⟨o, e, c, _⟩, _⟩ := I.tuple h
    refine ⟨b, .type "tuple", rfl, rfl, fun M => c ▸ (PySem.W.Looks.ld e).andThen .now, ?_⟩
    unfold PySem.W.notFirst
    rw [sub_tuple]
    rfl
end
end Kx
namespace Kx
open PySem PySem.Spec PyProof.Rows L2 SX LamX
section
variable {X : Cx}
/-- x == y by the class's own ==: what it promises, a truth -/
def rEqI (K : PySem.W.Frag) (C : Addr) (sp : Sp) : R2 := fun x y H Q => ∃ a dx fs, x = .ref a ∧ H a = some (.ins C dx fs) ∧ OthV K C H y ∧ sp [x, y] H (fun v H' => ∃ b, v = .bl b ∧ Q (.bl b) H') C8.E0
def rNeI (K : PySem.W.Frag) (C : Addr) (sp : Sp) : R2 := fun x y H Q => ∃ a dx fs, x = .ref a ∧ H a = some (.ins C dx fs) ∧ OthV K C H y ∧ sp [x, y] H (fun v H' => ∃ b, v = .bl b ∧ Q (.bl (!b)) H') C8.E0
theorem own_run {f : Addr} {fd : FuncData} {ps : List Str} {n : Nat} {sp : Sp} {A : Around} {pins : List (Addr × Obj)} {σ : L2.St} {H : Hp} {s : Shared} {a b : Addr} {Q : VK} {R : Value → Shared → Prop} {xe : Value → Shared → Prop}
    (F : FnOk X.prog X.w X.K X.mg X.base C8.CX0 n f fd ps sp) (hb : Binds X.K fd ps []) (hr : Room n A) (hf : A.frames = X.A.frames) (I : Inv X pins σ H s) (h : sp [.ref a, .ref b] H Q C8.E0)
    (back : ∀ u s', EP X pins σ Q u s' → R u s') : wpAny (model X.prog X.w) A (call (.ref f) [.ref a, .ref b]) R xe s := by
  have e0 : Env0 X.prog X.w X.K X.mg X.base A X.stack s H := by
    have e := I.env0
    exact ⟨by rw [hf]; exact e.frames, e.mod, e.bs, e.bsz, e.funs, e.frf, e.hok, e.bare⟩
  have hl := F.len _ _ _ _ h
  have r2 : Vals [V.ref a, V.ref b] [Value.ref a, Value.ref b] := .cons rfl (.cons rfl .nil)
  refine wpAny_call (codeAny_mono (F.run A X.stack s H ⟨[.ref a, .ref b], []⟩ [.ref a, .ref b] [.ref a, .ref b] _ C8.E0 hr e0 (by
    have := hb s [.ref a, .ref b] I.kIn (by simpa using hl)
    simpa using this) r2 h) fun r s' hq => ?_)
  match r, hq with
  | .error e, hq => exact (show False from hq).elim
  | .ok (.ret w), hq => exact back w s' (I.after hq)
  | .ok .next, hq => exact False.elim hq
  | .ok .brk, hq => exact False.elim hq
  | .ok .cont, hq => exact False.elim hq
theorem op_eqI {C f : Addr} {fd : FuncData} {ps : List Str} {n : Nat} {sp : Sp} (F : FnOk X.prog X.w X.K X.mg X.base C8.CX0 n f fd ps sp) (hb : Binds X.K fd ps []) (hr : Room n X.A)
    (hs : PySem.W.findIn X.K (.ref C) "__eq__" = some (some (.ref f))) (hf : PySem.W.isFn X.K (.ref f) = true) : OpR X (compareOp .Eq) (rEqI X.K C sp) := by
  intro pins s σ H x y v u Q I rx ry hq
  obtain ⟨a, dx, fs, rfl, ha, oth, h⟩ := hq
  cases rx
  obtain ⟨mA, J, _⟩ := ins_get I.hok ha
  obtain ⟨od, J, _⟩ := J.look
  obtain ⟨b, tb, rfl, rfl, lk, nf⟩ := oth_looks I ry oth
  obtain ⟨m, hF⟩ := I.fr
  show wpAny (model X.prog X.w) X.A (richCompare .Eq (.ref a) (.ref b)) _ _ s
  refine PySem.W.cmp_K (op := .Eq) (tb := tb) hr.units0 hF I.ok.mod.kin J (lk _) nf hs hf (own_run F hb hr rfl I h fun u s' ep => ?_)
  obtain ⟨z, H', I', rz, c, rfl, q⟩ := ep
  cases rz
  exact ⟨.bl c, H', I', rfl, q⟩
theorem op_neI {C f : Addr} {fd : FuncData} {ps : List Str} {n : Nat} {sp : Sp} (F : FnOk X.prog X.w X.K X.mg X.base C8.CX0 n f fd ps sp) (hb : Binds X.K fd ps []) (hr : Room (n + 1) X.A)
    (hs : PySem.W.findIn X.K (.ref C) "__eq__" = some (some (.ref f))) (hf : PySem.W.isFn X.K (.ref f) = true) (hm : PySem.W.mroIn X.K C (.type "object") = some true) (hne : PySem.W.findIn X.K (.ref C) "__ne__" = some (some (.builtin "object.__ne__"))) :
    OpR X (compareOp .NotEq) (rNeI X.K C sp) := by
  intro pins s σ H x y v u Q I rx ry hq
  obtain ⟨a, dx, fs, rfl, ha, oth, h⟩ := hq
  cases rx
  obtain ⟨mA, J, _⟩ := ins_get I.hok ha
  obtain ⟨od, J, _⟩ := J.look
  obtain ⟨b, tb, rfl, rfl, lk, nf⟩ := oth_looks I ry oth
  show wpAny (model X.prog X.w) X.A (richCompare .NotEq (.ref a) (.ref b)) _ _ s
  refine rich_ne hr.in1.units0 I.kIn J (lk _) nf hm hs hf hne (own_run F hb hr.in1 rfl I h fun u s' ep => ?_)
  obtain ⟨z, H', I', rz, c, rfl, q⟩ := ep
  cases rz
  exact ⟨c, rfl, .bl (!c), H', I', rfl, q⟩
end
end Kx
namespace Kx
open PySem PySem.Spec PyProof.Rows L2 SX LamX
/-! ### texts, each once -/
def onceStep (σ : List Str) (x : Str) : List Str := if σ.any (· == x) = true then σ else σ ++ [x]
def onceS (xs : List Str) : List Str := xs.foldl onceStep []
theorem once_any (σ : List Str) (v k : Str) : (onceStep σ v).any (· == k) = (σ.any (· == k) || decide (k = v)) := by
  unfold onceStep
  by_cases h : σ.any (· == v) = true
  · rw [if_pos h]
    by_cases e : k = v
    · rw [e, h]; simp
    · simp [e]
  · rw [if_neg h, List.any_append]
    by_cases e : k = v
    · rw [e]; simp
    · have hb : (v == k) = false := by simpa [beq_iff_eq] using (fun h' : v = k => e h'.symm)
      simp [hb, e]
theorem once_len (σ : List Str) (v : Str) : (onceStep σ v).length = if σ.any (· == v) = true then σ.length else σ.length + 1 := by
  unfold onceStep
  split <;> simp
theorem once_fold : ∀ (xs σ : List Str), (xs.foldl onceStep σ).length ≤ σ.length + xs.length
  | [], σ => Nat.le_refl _
  | x :: r, σ => by
    have h := once_fold r (onceStep σ x)
    have h2 := once_len σ x
    rw [List.foldl_cons, List.length_cons]
    split at h2 <;> omega
theorem onceS_le (xs : List Str) : (onceS xs).length ≤ xs.length := by
  have h := once_fold xs []
  simpa [onceS] using h
theorem onceS_take {xs : List Str} {i : Nat} {x : Str} (h : xs[i]? = some x) : onceS (xs.take (i + 1)) = onceStep (onceS (xs.take i)) x := by
  unfold onceS
  rw [List.take_add_one, h, List.foldl_append]
  rfl
section
variable {prog : Program} {w : World} {A : Around} {R : Result → Shared → Prop} {I : Addr} {fp wr : List Addr} {G : Array GenState → Array GenState → Prop} {n : Nat} {P : Nat → Value → Prop} {St : Nat → Shared → Prop}
def txSet (prog : Program) (w : World) (h : Heap) (S : Addr) (l : List Str) : Prop := h.SetOf (PySem.strKind prog w) S (fun k => l.any (· == k)) l.length
theorem txSet_at {h h' : Heap} {S : Addr} {l : List Str} (t : txSet prog w h S l) (k : ∀ o, h.get? S = some o → h'.get? S = some o) : txSet prog w h' S l := by
  obtain ⟨o, es, ep, tb, ho, rest⟩ := t
  exact ⟨o, es, ep, tb, k o ho, rest⟩
/-- set.update over texts, whatever walks over them -/
theorem upd_texts (W : WalksS prog w A.in1 I fp wr G n P St) (S : Addr) (hSf : S ∉ fp) (xs : List Str) (hn : n = xs.length) (hval : ∀ i v, P i v → ∃ x t, xs[i]? = some x ∧ v = .str x t) (hb : n + 1 < scanBound) :
    ∀ (k i : Nat) (s : Shared), n - i = k → i ≤ n → St i s → txSet prog w s.heap S (onceS (xs.take i)) →
      (∀ s', Moved (S :: wr) G s s' → txSet prog w s'.heap S (onceS xs) → R (.ok (.ret .none)) s') → codeAny (model prog w) A (.builtin "set.update.loop" ⟨[.ref S, .ref I], []⟩) R s := by
  have out : S ∉ wr := fun h => hSf (W.sub _ h)
  have more : ∀ b ∈ wr, b ∈ S :: wr := fun b hb => List.mem_cons_of_mem _ hb
  intro k
  induction k with
  | zero =>
    intro i s hk hi hst hS hR
    obtain rfl : i = n := by omega
    refine codeAny_builtin PyProof.Rows.F.entry_set_update_loop ?_
    rw [Around.under_plainId PyProof.Rows.F.plain_set_update_loop _]
    show wpAny _ A.in1 (pyNext (.ref I) >>= _) _ _ s
    refine wpAny_bind (W.done s _ _ hst fun s' hm => ?_)
    show wpAny _ A.in1 (ret Value.none) _ _ s'
    rw [hn, List.take_length] at hS
    exact wpAny_pure (hR s' (hm.mono more) (txSet_at hS fun o e => hm.heap S o out e))
  | succ k ih =>
    intro i s hk hi hst hS hR
    have hlt : i < n := by omega
    refine codeAny_builtin PyProof.Rows.F.entry_set_update_loop ?_
    rw [Around.under_plainId PyProof.Rows.F.plain_set_update_loop _]
    show wpAny _ A.in1 (pyNext (.ref I) >>= _) _ _ s
    refine wpAny_bind (W.item i s _ _ hlt hst fun v s' hP hst' hm => ?_)
    obtain ⟨x, t, hx, rfl⟩ := hval i v hP
    have hS' := txSet_at hS fun o e => hm.heap S o out e
    show wpAny _ A.in1 (holding [Value.str x t] (setAdd S (.str x t)) >>= _) _ _ s'
    refine wpAny_bind (wpAny_holding ?_)
    unfold setAdd
    refine wpAny_holding (wpAny_bind ((PySem.strKind prog w).pyHash (k := x) (strKind_is _ _ _ _) ?_))
    have room : (onceS (xs.take i)).length + 1 < scanBound := by
      have h1 := onceS_le (xs.take i)
      rw [List.length_take] at h1
      omega
    refine wpAny_setAddHashed_of (knd := PySem.strKind prog w) (s := { s' with toks := s'.toks + 1 }) (strKind_is _ _ _ _) rfl hS' room fun h' same hS2 => ?_
    have hS3 : txSet prog w h' S (onceS (xs.take (i + 1))) := PyProof.Rows.SetOf_congr hS2 (fun k' => by rw [onceS_take hx, once_any]) (by rw [onceS_take hx, once_len])
    refine wpAny_pure ⟨plainId_quiet PyProof.Rows.F.plain_set_update_loop _, ih (i + 1) _ (by omega) hlt (W.frame _ s' _ _ hst' (Nat.le_succ _) fun b hb o e => ?_) hS3 fun s2 hm2 hS4 => ?_⟩
    · rw [same.2 b (fun h : b = S => hSf (by rw [← h]; exact hb))]
      exact e
    · refine hR s2 (Moved.trans W.gtrans ((hm.mono more).then_heap (Nat.le_succ _) fun b o hb e => ?_) hm2) hS4
      rw [same.2 b (fun h : b = S => hb (by rw [h]; exact List.mem_cons_self))]
      exact e
end
section
variable {prog : Program} {w : World} {A : Around} {E : Value → Shared → Prop} {s : Shared}
abbrev freshSet (led : Bool) : Obj := { cls := .type "set", dict := none, data := .set #[] 0 (.fresh 0 0 led) }
/-- what a set of these texts leaves -/
def MadeTx (prog : Program) (w : World) (s : Shared) (xs : List Str) (h' : Heap) : Prop := txSet prog w h' s.heap.objs.size (onceS xs) ∧ ∀ b o, s.heap.get? b = some o → h'.get? b = some o
/-- set(x): what its __init__ has to do -/
theorem set_made {x : Value} {xs : List Str} {Q : Value → Shared → Prop}
    (hin : ∀ (led : Bool) (A' : Around) (E' : Value → Shared → Prop) (Q' : Fin → Shared → Prop), A'.handled = A.handled → (∀ h' tk, MadeTx prog w s xs h' → Q' (.done (.ret .none)) { s with heap := h', toks := tk }) →
      wpAny (model prog w) A' (Builtin.«set.__init__» ⟨[.ref s.heap.objs.size, x], []⟩) Q' E' { s with heap := s.heap.push (freshSet led) })
    (h : ∀ (h' : Heap) (tk : Nat), MadeTx prog w s xs h' → Q (.ref s.heap.objs.size) { s with heap := h', toks := tk }) : wpAny (model prog w) A (call (.type "set") [x]) Q E s := by
  obtain ⟨c, tl, hmro⟩ := PySem.F.called_set.mro
  have hmade := PySem.F.called_set.made
  have hsub := PySem.F.called_set.sub
  refine wpAny_call (codeAny_of_tree ?_)
  show wpAny _ _ (callAny (.type "set") _) _ _ _
  refine wpAny_pure ⟨Code.quiet_builtin _ (by decide +kernel), codeAny_builtin PySem.F.entry_type_call ?_⟩
  rw [Around.under_plain (weight_type_call_type "set" [x] []) rfl]
  have h1 := PySem.F.called_set.notType
  have h2 := PySem.F.called_set.canCreate
  have hct := PySem.F.typeCall_set_1 x
  repeat (any_goals (first | assumption | wp_step))
  refine codeAny_mono (code_set_new_1 x (E := E) (Q₁ := fun obj s₁ => ∃ led : Bool, obj = .ref s.heap.objs.size ∧ s₁ = { s with heap := s.heap.push (freshSet led) }) fun led => ⟨led, rfl, rfl⟩) fun r s₁ hr => ?_
  match r, hr with
  | .error e, hr => exact hr
  | .ok .next, hr => exact hr.elim
  | .ok .brk, hr => exact hr.elim
  | .ok .cont, hr => exact hr.elim
  | .ok (.ret obj), hr =>
    obtain ⟨led, rfl, rfl⟩ := hr
    have hS : (s.heap.push (freshSet led)).get? s.heap.objs.size = some (freshSet led) := Heap.get?_push_size _ rfl
    have hT : Shared.TypeIs { s with heap := s.heap.push (freshSet led) } (.ref s.heap.objs.size) "set" := ⟨_, hS, rfl⟩
    have hli := PySem.F.called_set.init.lookup
    have hbi := PySem.F.called_set.init.bind (.ref s.heap.objs.size)
    repeat (any_goals (first | assumption | wp_step))
    refine codeAny_mono (codeAny_call_builtin (R := wants (fun r s₂ => r = .none ∧ ∃ h' tk, s₂ = { s with heap := h', toks := tk } ∧ MadeTx prog w s xs h') E) PySem.F.called_set.init.plain PySem.F.entry_set_init (check_set_init_1 hT ?_)) fun r₂ s₂ hr₂ => ?_
    · exact hin led _ _ _ rfl fun h' tk m => ⟨rfl, h', tk, rfl, m⟩
    · match r₂, hr₂ with
      | .error e, hr₂ => exact hr₂
      | .ok .next, hr₂ => exact hr₂.elim
      | .ok .brk, hr₂ => exact hr₂.elim
      | .ok .cont, hr₂ => exact hr₂.elim
      | .ok (.ret r), hr₂ =>
        obtain ⟨rfl, h', tk, rfl, m⟩ := hr₂
        repeat (any_goals (first | assumption | wp_step))
        exact h _ _ m
end
end Kx
namespace Kx
open PySem PySem.Spec PyProof.Rows L2 SX LamX
section
variable {prog : Program} {w : World} {A : Around} {E : Value → Shared → Prop} {s : Shared}
theorem strs_get : ∀ {us : List Value} {xs : List Str}, StrsAre us xs → ∀ (i : Nat) (v : Value), us[i]? = some v → ∃ x t, xs[i]? = some x ∧ v = .str x t
  | _, _, .nil, i, v, h => by simp at h
  | _, _, .cons y t hr, 0, v, h => by
    simp at h
    exact ⟨y, t, rfl, h.symm⟩
  | _, _, .cons y t hr, i + 1, v, h => by
    simp only [List.getElem?_cons_succ] at h
    exact strs_get hr i v h
theorem strs_len : ∀ {us : List Value} {xs : List Str}, StrsAre us xs → us.length = xs.length
  | _, _, .nil => rfl
  | _, _, .cons _ _ r => by rw [List.length_cons, List.length_cons, strs_len r]
/-- set(x), a list or a tuple of texts -/
theorem call_set_texts {l : Addr} {items : Array Value} {xs : List Str} {Q : Value → Shared → Prop} (hh : A.handled = none) (hl : s.heap.IsList l items ∨ s.heap.IsTuple l items) (hi : StrsAre items.toList xs) (hb : xs.length + 1 < scanBound)
    (h : ∀ (h' : Heap) (tk : Nat), MadeTx prog w s xs h' → Q (.ref s.heap.objs.size) { s with heap := h', toks := tk }) : wpAny (model prog w) A (call (.type "set") [.ref l]) Q E s := by
  refine set_made (xs := xs) (fun led A' E' Q' hA q => ?_) h
  have isz : items.size = xs.length := by rw [← strs_len hi, Array.length_toList]
  have hS : (s.heap.push (freshSet led)).get? s.heap.objs.size = some (freshSet led) := Heap.get?_push_size _ rfl
  have hlS : l < s.heap.objs.size := by
    rcases hl with ⟨o, ho, _⟩ | ⟨o, ho, _⟩ <;> exact Heap.lt_size ho
  have hneI : l ≠ (s.heap.push (freshSet led)).objs.size := by
    rw [Heap.size_push]
    exact Nat.ne_of_lt (Nat.lt_succ_of_lt hlS)
  have hSf : s.heap.objs.size ∉ [(s.heap.push (freshSet led)).objs.size, l] := by
    rw [Heap.size_push]
    simp only [List.mem_cons, List.not_mem_nil, or_false, not_or]
    exact ⟨Nat.ne_of_lt (Nat.lt_succ_self _), Nat.ne_of_gt hlS⟩
  have hval : ∀ (i : Nat) (v : Value), items[i]? = some v → ∃ x t, xs[i]? = some x ∧ v = .str x t := fun i v hv => strs_get hi i v (by rw [Array.getElem?_toList]; exact hv)
  have hh3 : A'.in1.handled = none := by simp [hA, hh]
  have done : ∀ (it : Obj) (s' : Shared), Moved (s.heap.objs.size :: [(s.heap.push (freshSet led)).objs.size]) (fun a b => b = a) { s with heap := (s.heap.push (freshSet led)).push it } s' → txSet prog w s'.heap s.heap.objs.size (onceS xs) →
      wpAny (model prog w) A' (ret Value.none) Q' E' s' := fun it s' hm hS' => by
    obtain ⟨h', g', d', tk', os'⟩ := s'
    have eg : g' = s.gens := hm.gens
    have ed : d' = s.drawn := hm.drawn
    have eo : os' = s.os := hm.os
    subst eg
    subst ed
    subst eo
    refine wpAny_pure (q h' tk' ⟨hS', fun b o e => ?_⟩)
    have hb0 : b < s.heap.objs.size := Heap.lt_size e
    have hb1 : b ≠ s.heap.objs.size := Nat.ne_of_lt hb0
    have hb2 : b ≠ (s.heap.push (freshSet led)).objs.size := by
      rw [Heap.size_push]
      exact Nat.ne_of_lt (Nat.lt_succ_of_lt hb0)
    exact hm.heap b o (by simp only [List.mem_cons, List.not_mem_nil, or_false, not_or]; exact ⟨hb1, hb2⟩) (Heap.get?_push_of_some _ (Heap.get?_push_of_some _ e))
  unfold Builtin.«set.__init__» noKeywords Builtin.Frozenset.updateFrom
  rcases hl with hl | hl
  · obtain ⟨ol, hol, hcl, nl, hdl⟩ := hl
    obtain ⟨ocls, odict, odata, oslots⟩ := ol
    simp only at hcl hdl
    subst hcl
    subst hdl
    have hol' : (s.heap.push (freshSet led)).get? l = some { cls := .type "list", dict := odict, data := .seq items nl, slots := oslots } := Heap.get?_push_of_some _ hol
    have hsls := PySem.F.sub_list_set
    have hslf := PySem.F.sub_list_frozenset
    have hne : (Value.type "list" == Value.type "dict") = false := by decide
    have hl1 : (s.heap.push (freshSet led)).IsList l items := ⟨_, hol', rfl, nl, rfl⟩
    generalize hPI : pyIter = PI
    wp_walk
    subst hPI
    refine wpAny_pyIter_list hl1 ?_
    refine wpAny_bind (wpAny_runValue ?_)
    refine upd_texts ((Walks.list hh3 _ l hneI items).toS) s.heap.objs.size hSf xs isz hval (by omega) (items.size - 0) 0 _ (by omega) (Nat.zero_le _) ⟨⟨_, Heap.get?_push_size _ rfl, rfl, rfl⟩, (hl1.push _)⟩ ?_ (fun s' hm hS' => ?_)
    · have hget : ((s.heap.push (freshSet led)).push { cls := .type "list_iterator", data := .fields #[.ref l, .int 0 0] }).get? s.heap.objs.size = some (freshSet led) := Heap.get?_push_of_some _ hS
      exact PyProof.Rows.SetOf_congr ((PyProof.Rows.setObjOf_fresh (knd := PySem.strKind prog w) led).setOf hget (by unfold scanBound; omega)) (fun _ => rfl) rfl
    · exact wpAny_pure (done _ s' hm hS')
  · obtain ⟨ol, hol, hcl, nl, hdl⟩ := hl
    obtain ⟨ocls, odict, odata, oslots⟩ := ol
    simp only at hcl hdl
    subst hcl
    subst hdl
    have hol' : (s.heap.push (freshSet led)).get? l = some { cls := .type "tuple", dict := odict, data := .seq items nl, slots := oslots } := Heap.get?_push_of_some _ hol
    have hsls := PySem.F.sub_tuple_set
    have hslf := PySem.F.sub_tuple_frozenset
    have hne : (Value.type "tuple" == Value.type "dict") = false := by decide
    have hl1 : (s.heap.push (freshSet led)).IsTuple l items := ⟨_, hol', rfl, nl, rfl⟩
    generalize hPI : pyIter = PI
    wp_walk
    subst hPI
    refine wpAny_pyIter_tuple hl1 ?_
    refine wpAny_bind (wpAny_runValue ?_)
    refine upd_texts ((Walks.tuple hh3 _ l hneI items).toS) s.heap.objs.size hSf xs isz hval (by omega) (items.size - 0) 0 _ (by omega) (Nat.zero_le _) ⟨⟨_, Heap.get?_push_size _ rfl, rfl, rfl⟩, (hl1.push _)⟩ ?_ (fun s' hm hS' => ?_)
    · have hget : ((s.heap.push (freshSet led)).push { cls := .type "tuple_iterator", data := .fields #[.ref l, .int 0 0] }).get? s.heap.objs.size = some (freshSet led) := Heap.get?_push_of_some _ hS
      exact PyProof.Rows.SetOf_congr ((PyProof.Rows.setObjOf_fresh (knd := PySem.strKind prog w) led).setOf hget (by unfold scanBound; omega)) (fun _ => rfl) rfl
    · exact wpAny_pure (done _ s' hm hS')
end
end Kx
namespace Kx
open PySem PySem.Spec PyProof.Rows L2 SX LamX
section
variable {X : Cx}
/-- len(set(e)), e a list or a tuple of texts -/
def tLenSetN (K : PySem.W.Frag) (ta : TE) : TE := fun σ H Q => ta σ H fun x H1 => ∃ (l : Addr) (xs : List Str), x = .ref l ∧ SqQ K H1 l (xs.map V.str) ∧ xs.length ≤ 4000 ∧ Q (.int ((onceS xs).length : Nat)) H1
theorem pe_lenSetN {a : Expr} {ta : TE} {p p2 q pos : Pos} (hg : Gl X "len") (hm : X.mg "len" = none) (hg2 : Gl X "set") (hm2 : X.mg "set" = none) (ha : PE X a ta) (hc : X.calm = true := by rfl)
    (na : starEach [a] X.env = (false, eval a X.env) :: starEach [] X.env := by rfl) : PE X (.Call (.Name "len" p) [.Call (.Name "set" p2) [a] [] q] [] pos) (tLenSetN X.K ta) := by
  refine ⟨fun pins s σ H Q I h => ?_⟩
  refine Call_ (ld_blt I hg hm boot_len ?_)
  refine PyProof.Rows.callWith_builtin1 (PyProof.Rows.args_cons ?_ rfl) rfl rfl
  refine Call_ (ld_blt I hg2 hm2 boot_set ?_)
  refine PyProof.Rows.callWith_type1 (PyProof.Rows.args_cons (thn (ha.run pins s σ H _ I h) fun v s1 ⟨x, H1, I1, r1, q1⟩ => PyProof.Rows.args_nil ?_) na) na rfl
  obtain ⟨l, xs, rfl, hq, h1, q1⟩ := q1
  cases r1
  have fin : ∀ (h' : Heap) (tk : Nat), MadeTx X.prog X.w s1 xs h' →
      wpAny (model X.prog X.w) X.A (spliced (backTo pos (starEach [] X.env))) (fun vs s₂ => wpAny (model X.prog X.w) X.A (call (.builtin "len") (Value.ref s1.heap.objs.size :: vs)) (EP X pins σ Q) X.xe s₂) X.xe { s1 with heap := h', toks := tk } := fun h' tk m => by
    refine PyProof.Rows.args_nil ?_
    obtain ⟨⟨o, es, ep, t, ho, hex, hd, _, _, _, hf, hn⟩, hk⟩ := m
    have I2 : Inv X pins σ H1 { s1 with heap := h', toks := tk } := I1.kept fun b o e => hk b o e
    have h2 := onceS_le xs
    exact call_len_set ho hex hd hf (by rw [hn] <;> omega) ⟨.int ((onceS xs).length : Nat), H1, I2.tok _, ⟨_, by rw [hn]⟩, q1⟩
  rcases hq with hq | hq
  · obtain ⟨its, r, pl, hz⟩ := I1.list hq
    exact call_set_texts (I1.ok.hd hc) (.inl pl.isList) (by simpa using strsAre_of r) (by unfold scanBound; omega) fin
  · obtain ⟨its, r, pl, hz⟩ := I1.tuple hq
    exact call_set_texts (I1.ok.hd hc) (.inr pl) (by simpa using strsAre_of r) (by unfold scanBound; omega) fin
end
theorem onceS_nodup : ∀ (xs : List Str), (onceS xs).length = xs.length ↔ xs.Nodup := by
  have key : ∀ (xs σ : List Str), σ.Nodup → ((xs.foldl onceStep σ).length = σ.length + xs.length ↔ (xs.Nodup ∧ ∀ x ∈ xs, x ∉ σ)) := by
    intro xs
    induction xs with
    | nil => intro σ _; simp
    | cons x r ih =>
      intro σ hσ
      rw [List.foldl_cons, List.length_cons]
      by_cases hx : σ.any (· == x) = true
      · have e : onceStep σ x = σ := by unfold onceStep; rw [if_pos hx]
        have hm : x ∈ σ := by
          obtain ⟨y, hy, e⟩ := List.any_eq_true.mp hx
          rw [← beq_iff_eq.mp e]
          exact hy
        rw [e]
        have := once_fold r σ
        constructor
        · intro h; omega
        · intro ⟨_, h⟩
          exact absurd hm (h x List.mem_cons_self)
      · have e : onceStep σ x = σ ++ [x] := by unfold onceStep; rw [if_neg hx]
        have hm : x ∉ σ := fun hm => hx (List.any_eq_true.mpr ⟨x, hm, by simp⟩)
        rw [e]
        have hn : (σ ++ [x]).Nodup := List.nodup_append.mpr ⟨hσ, by simp, fun a ha b hb => by
          rw [List.mem_singleton.mp hb]
          exact fun e => hm (e ▸ ha)⟩
        have h := ih (σ ++ [x]) hn
        rw [List.length_append, List.length_singleton] at h
        have e2 : σ.length + 1 + r.length = σ.length + (r.length + 1) := by omega
        rw [e2] at h
        rw [h, List.nodup_cons]
        constructor
        · rintro ⟨h1, h2⟩
          refine ⟨⟨fun hr => h2 x hr (List.mem_append_right _ (List.mem_singleton.mpr rfl)), h1⟩, fun y hy => ?_⟩
          rcases List.mem_cons.mp hy with rfl | hy
          · exact hm
          · exact fun z => h2 y hy (List.mem_append_left _ z)
        · rintro ⟨⟨h1, h2⟩, h3⟩
          refine ⟨h2, fun y hy z => ?_⟩
          rcases List.mem_append.mp z with z | z
          · exact h3 y (List.mem_cons_of_mem _ hy) z
          · rw [List.mem_singleton.mp z] at hy
            exact h1 hy
  intro xs
  have h := key xs [] List.nodup_nil
  simpa [onceS] using h
end Kx
namespace Kx
open PySem PySem.Spec PyProof.Rows L2 SX LamX
section
variable {X : Cx}
/-- tuple(list): the tuple is known to the object -/
theorem call_tuple_frz : CallR X (.type "tuple") (fun xs H Q => ∃ p ys, xs = [.ref p] ∧ ((SqL X.K H p ys ∧ ∀ l o, H l = none → o.dict = none → Q (.ref l) (upd H l (.frz o (.tup ys)))) ∨ (SqT X.K H p ys ∧ Q (.ref p) H))) := by
  intro pins s σ H xs us Q I r h
  obtain ⟨p, ys, rfl, h⟩ := h
  obtain ⟨u, rfl, rx⟩ := vals1 r
  cases rx
  rcases h with ⟨hq, q⟩ | ⟨hq, q⟩
  · obtain ⟨its, r', pl, hz⟩ := I.list hq
    have hlen := r'.length
    refine call_tuple_list pl.isList (fun h' kp => ?_) (by simp only [List.size_toArray] <;> omega)
    have I1 : Inv X pins σ H { s with heap := h' } := I.kept (t' := s.toks) kp
    have I2 : Inv X pins σ (upd H h'.objs.size (.frz { cls := .type "tuple", data := .seq its.toArray } (.tup ys))) { s with heap := h'.push { cls := .type "tuple", data := .seq its.toArray } } :=
      I1.laid (t' := s.toks) (fun b o e => Heap.get?_push_of_some _ e) (Nat.le_refl _) (show ObjOk X.prog X.w _ _ _ (.frz _ (.tup ys)) from ⟨Heap.get?_push_size _ rfl, hz, its, r', IsTup.new _ _⟩)
    exact ⟨.ref h'.objs.size, _, I2, rfl, q _ _ (I1.hok.fresh (Nat.le_refl _)) rfl⟩
  · obtain ⟨its, r', pl, hz⟩ := I.tuple hq
    exact call_tuple_same pl ⟨.ref p, H, I, rfl, q⟩
/-- a tuple that has no dict -/
def TupN (K : PySem.W.Frag) (H : Hp) (p : Addr) : Prop := (∃ o xs, H p = some (.frz o (.tup xs)) ∧ o.dict = none) ∨ ∃ o, K.lookup p = some o ∧ o.cls = .type "tuple" ∧ o.dict = none
theorem TupN.same {K : PySem.W.Frag} {H H' : Hp} {p : Addr} (e : Same H H') (h : TupN K H p) : TupN K H' p := by
  rcases h with ⟨o, xs, h1, h2⟩ | h
  · exact .inl ⟨o, xs, e _ _ h1, h2⟩
  · exact .inr h
theorem TupN.ext {K : PySem.W.Frag} {H H' : Hp} {p : Addr} (e : ExtN H H') (h : TupN K H p) : TupN K H' p := by
  rcases h with ⟨o, xs, h1, h2⟩ | h
  · exact .inl ⟨o, xs, ext_at e h1, h2⟩
  · exact .inr h
theorem tupN_ty {pins : List (Addr × Obj)} {σ : L2.St} {H : Hp} {s : Shared} {y : V} {v : Value} (I : Inv X pins σ H s) (r : RelV y v) (ty : ∃ p, y = .ref p ∧ TupN X.K H p) :
    s.TypeIs v "tuple" ∧ ∀ a, v = .ref a → ∃ ob, s.heap.get? a = some ob ∧ ob.dict = none := by
  obtain ⟨p, rfl, h⟩ := ty
  cases r
  have key : ∃ ob, s.heap.get? p = some ob ∧ ob.cls = .type "tuple" ∧ ob.dict = none := by
    rcases h with ⟨o, xs, e, d⟩ | ⟨o, e, c, d⟩
    · have h1 : ObjOk X.prog X.w H s.heap p (.frz o (.tup xs)) := I.hok p _ e
      obtain ⟨g, _, its, _, ⟨o2, g2, c2, _⟩⟩ := h1
      rw [g] at g2
      cases g2
      exact ⟨o, g, c2, d⟩
    · exact ⟨o, I.kIn _ _ e, c, d⟩
  obtain ⟨ob, g, c, d⟩ := key
  refine ⟨⟨ob, g, c⟩, fun b hb => ?_⟩
  cases hb
  exact ⟨ob, g, d⟩
def tTM (K : PySem.W.Frag) (r : V → List V → Hp → VK → Prop) (to : TE) (t : TA) : TE := fun σ H Q => to σ H fun x H1 => (∃ p, x = .ref p ∧ TupN K H1 p) ∧ t σ H1 fun xs H2 => r x xs H2 Q
variable {o e : Expr} {es : List Expr} {to : TE} {t : TA} {name : Str} {apos cpos : Pos} {id : String} {r : V → List V → Hp → VK → Prop}
/-- o.m(e, ..), o a tuple -/
theorem pe_tm (slot : Slot "tuple" name id) (hty : typeOf (.builtin id) = pure (.type "method_descriptor")) (hm : MtR X id r) (ho : PE X o to) (ha : PA X (e :: es) t)
    (hbase : attributeBase o name X.env (eval o X.env) = eval o X.env := by rfl)
    (hfew : ((backTo cpos (starEach (e :: es) X.env)).all (fun x => !x.1) && (backToKw cpos (keywordEach [] X.env)).all (fun x => x.1.isSome)
      && decide ((e :: es).length + ([] : List Keyword).length + (if ([] : List Keyword).isEmpty then 0 else 1) < 30)) = true := by rfl)
    (hline : (apos.endLine == cpos.line) = true := by rfl) (hs : starEach (e :: es) X.env = (false, eval e X.env) :: starEach es X.env := by rfl) (hplain : (backTo cpos (starEach es X.env)).any (·.1) = false := by rfl) :
    PE X (.Call (.Attribute o name apos) (e :: es) [] cpos) (tTM X.K r to t) := by
  refine ⟨fun pins s σ H Q I h => ?_⟩
  refine wpAny_Call_method_late hbase hfew hline rfl (thn (ho.run pins s σ H _ I h) fun v s1 ⟨x, H1, I1, r1, ty, q1⟩ => ?_)
  obtain ⟨h1, h2⟩ := tupN_ty I1 r1 ty
  refine ⟨"tuple", id, PySem.F.plainAttrs_tuple, slot, hty, h1, h2, ?_⟩
  have hA := ha.run cpos pins s1 σ H1 _ I1 q1
  rw [hs] at hA ⊢
  refine Calls.callWith_builtin (by show (false || (backTo cpos (starEach es X.env)).any (·.1)) = false; rw [hplain] <;> rfl) (Calls.evalArgs_plain ?_)
  exact thn hA fun us s2 ⟨vs, H2, I2, r2, q2⟩ => hm pins s2 σ H2 x vs v us Q I2 r1 r2 q2
end
section
variable {X : Cx} {CX : CXT} {k : Nat} {f C : Addr} {fd : FuncData} {ps ks : List Str} {sp : Sp} {E : XK} {o : Expr} {m : Str} {apos pos : Pos} {kws : List Keyword} {ta : TE} {tk : TA} {g : List Value → List Value → List Value} {gV : List V → List V → List V}
def tMethK (C : Addr) (m : Str) (sp : Sp) (gV : List V → List V → List V) (E : XK) (ta : TE) (tk : TA) : TE := fun σ H Q => ta σ H fun x H1 => ∃ a dx fs, x = .ref a ∧ H1 a = some (.ins C dx fs) ∧ fs.lookup m = none ∧ tk σ H1 fun zs H2 => sp (gV [x] zs) H2 Q E
/-- o.m(k = v) -/
theorem pe_methK0 {pl : Sem Bool} (he : PE X o ta) (c : Cls X.K C) (hm : Meth X.K C m f) (F : FnOk X.prog X.w X.K X.mg X.base CX k f fd ps sp) (hr : Room k X.A) (hb : KBinds X.K fd ps ks g gV) (hx : Passes CX X E) (hkw : PK X kws tk)
    (hall : (backToKw pos (keywordEach kws X.env)).all (·.1.isSome) = true := by rfl) (hks : (backToKw pos (keywordEach kws X.env)).filterMap (·.1) = ks := by rfl)
    (hpl : ((backTo pos (starEach [] X.env)).any (·.1) || (backToKw pos (keywordEach kws X.env)).any (·.1.isNone)) = false := by rfl)
    (ht : eval (.Call (.Attribute o m apos) [] kws pos) X.env = (do
      let ov ← eval o X.env
      standAt apos.atName
      let (f, first) ← holding [ov] (getMethod ov m pl)
      callWith pos f first (backTo pos (starEach [] X.env)) (backToKw pos (keywordEach kws X.env))) := by rfl) :
    PE X (.Call (.Attribute o m apos) [] kws pos) (tMethK C m sp gV E ta tk) := by
  refine ⟨fun pins s σ H Q I h => ?_⟩
  refine PySem.W.methodCall_KW (pl := pl) (thn (he.run pins s σ H _ I h) fun u s1 ⟨x, H1, I1, rx, a, dx, fs, ex, ea, l, q⟩ => ?_) ht
  subst ex
  obtain rfl : u = Value.ref a := rx
  refine getmeth_ok I1 ea c hm l ?_
  show wpAny _ _ (callWith pos (.ref f) [.ref a] (backTo pos (starEach [] X.env)) (backToKw pos (keywordEach kws X.env))) _ _ _
  refine PySem.W.callWith_KW0 (first := [.ref a]) (h₀ := X.base) I.ok.mod.kin hm.kp hall (thn (hkw.run pos pins s1 σ H1 _ I1 q) fun ws s2 ⟨zs, H2, I2, rz, q2⟩ => ⟨I2.kIn, ?_⟩) hpl
  rw [hks]
  exact run_fnk (us := [.ref a]) (vs := [.ref a]) F hr hb hx I2 (.cons rfl .nil) rz q2
end
/-- self, and one by name -/
def selfG {α : Type} (us ws : List α) : List α := match us, ws with | [s], [u] => [s, u] | _, _ => []
theorem kb_self {K : PySem.W.Frag} {x qual : Str} {st : Stmt} {f : Addr} {fd : FuncData} {a b : Str} (F : Fun K x qual st f fd)
    (h : ∀ (kV doc pm : Value) (an : Option Addr) (cdv ct : Value) (s u : Value), bindArgs (PySem.W.fnOf x qual (defArgs st) (defBody st) (defScope st) .none kV doc pm an cdv ct) ⟨[s], [(b, u)]⟩ = pure [(a, s), (b, u)]) :
    KBinds K fd [a, b] [b] selfG selfG := by
  obtain ⟨oc, od, kV, doc, pm, an, cdv, ct, osl, rfl, lk, hcd⟩ := F.ex
  refine ⟨fun s us ws X l => ?_, fun {vs us zs ws} r1 r2 => ?_⟩
  · match us, ws, l with
    | [s], [u], _ => exact .of_eq (h kV doc pm an cdv ct s u)
    | [], _, l => cases l
    | [_], [], l => cases l
    | [_], _ :: _ :: _, l => cases l
    | _ :: _ :: _, _, l => cases l
  · cases r1 with
    | nil => exact .nil
    | cons h1 r1 =>
      cases r1 with
      | cons _ _ => exact .nil
      | nil =>
        cases r2 with
        | nil => exact .nil
        | cons h2 r2 =>
          cases r2 with
          | nil => exact .cons h1 (.cons h2 .nil)
          | cons _ _ => exact .nil
/-- .. the same for the making of an instance -/
theorem kbn_self {K : PySem.W.Frag} {x qual : Str} {st : Stmt} {f : Addr} {fd : FuncData} {a b : Str} (F : Fun K x qual st f fd)
    (h : ∀ (kV doc pm : Value) (an : Option Addr) (cdv ct : Value) (s u : Value), bindArgs (PySem.W.fnOf x qual (defArgs st) (defBody st) (defScope st) .none kV doc pm an cdv ct) ⟨[s], [(b, u)]⟩ = pure [(a, s), (b, u)]) :
    KBn K fd [a, b] 1 [b] selfG selfG := by
  have kb := kb_self F h
  refine ⟨fun s us ws X l1 l2 => kb.to s us ws X ?_, kb.rel⟩
  match us, ws, l1, l2 with
  | [_], [_], _, _ => rfl
end Kx
namespace Kx
open PySem PySem.Spec PyProof.Rows L2 SX LamX
theorem sqT_put {K : PySem.W.Frag} {H : Hp} {p a C dx : Addr} {fs : List (Str × V)} {o : HO} {xs : List V} (hp : H p = some (.ins C dx fs)) (h : SqT K H a xs) : SqT K (upd H p o) a xs := by
  rcases h with (h | ⟨ob, h⟩) | h
  · exact .inl (.inl (by rw [upd_ne (ne_of_two h hp (fun z => by cases z))]; exact h))
  · exact .inl (.inr ⟨ob, by rw [upd_ne (ne_of_two h hp (fun z => by cases z))]; exact h⟩)
  · exact .inr h
theorem tupN_put {K : PySem.W.Frag} {H : Hp} {p a C dx : Addr} {fs : List (Str × V)} {o : HO} (hp : H p = some (.ins C dx fs)) (h : TupN K H a) : TupN K (upd H p o) a := by
  rcases h with ⟨ob, xs, h, d⟩ | h
  · exact .inl ⟨ob, xs, by rw [upd_ne (ne_of_two h hp (fun z => by cases z))]; exact h, d⟩
  · exact .inr h
theorem kitOne_no {K : PySem.W.Frag} {C : Addr} {n : String} (h1 : PySem.W.isClsIn K C = true) (h2 : PySem.W.typeIn K (.ref C) = some (.type "type")) (h3 : PySem.W.subIn K (.type n) (.ref C) = some false) : PySem.W.kitOne K (.type n) (.ref C) = some false := by
  unfold PySem.W.kitOne
  rw [if_neg (by simp)]
  unfold PySem.W.kitCls
  have h1' : (PySem.W.clsIn K C).isSome = true := h1
  dsimp only
  rw [h1', h2]
  exact h3
theorem kitOne_self {K : PySem.W.Frag} {C : Addr} : PySem.W.kitOne K (.ref C) (.ref C) = some true := by
  unfold PySem.W.kitOne
  simp
theorem kitOne_other {K : PySem.W.Frag} {C D : Addr} (h1 : PySem.W.isClsIn K C = true) (h2 : PySem.W.typeIn K (.ref C) = some (.type "type")) (h3 : PySem.W.subIn K (.ref D) (.ref C) = some false) (h4 : PySem.W.subIn K (.ref D) (.ref D) = some true) : PySem.W.kitOne K (.ref D) (.ref C) = some false := by
  have ne : D ≠ C := fun e => by
    rw [e] at h3 h4
    rw [h3] at h4
    cases h4
  unfold PySem.W.kitOne
  rw [if_neg (by simpa using ne)]
  unfold PySem.W.kitCls
  have h1' : (PySem.W.clsIn K C).isSome = true := h1
  dsimp only
  rw [h1', h2]
  exact h3
theorem sub_non {K : PySem.W.Frag} {C : Addr} : PySem.W.subIn K (.type "NoneType") (.ref C) = some false := HN.sub_none
theorem eqv_text (a b : List Nat) : PyData.eqv (.str (S a)) (.str (S b)) = decide (a = b) := by
  show (S a == S b) = _
  by_cases h : a = b
  · rw [h, decide_eq_true rfl]
    simp
  · rw [decide_eq_false h, beq_eq_false_iff_ne]
    intro e
    have := congrArg (fun z : Str => z.cps.toList) e
    exact h (by simpa [S] using this)
theorem eqv_texts (xs ys : List (List Nat)) : PyData.eqv (.tuple (xs.map fun l => PyData.str (S l))) (.tuple (ys.map fun l => PyData.str (S l))) = decide (xs = ys) := eqvAll_map eqv_text xs ys
theorem pl_text {l : List Nat} (h : cdC l) : Pl 0 (.str (S l)) := ⟨by
  show (S l).cps.all (· < 0x110000) = true
  have e : (S l).cps.all (· < 0x110000) = l.all (fun c => decide (c < 1114112)) := by simp [S]
  rw [e]
  exact h, Nat.le_refl _⟩
theorem low_cd {l : List Nat} (h : l.all low = true) : cdC l := by
  unfold cdC
  rw [List.all_eq_true] at h ⊢
  intro c hc
  have := low_lt (h c hc)
  exact decide_eq_true (by omega)
theorem inV_texts {v : V} (ws : List (List Nat)) : inV v (ws.map fun l => V.str (S l)) = true ↔ ∃ w ∈ ws, v = .str (S w) := by
  unfold inV
  rw [List.any_map, List.any_eq_true]
  constructor
  · rintro ⟨w, hw, h⟩
    refine ⟨w, hw, ?_⟩
    cases v with
    | str x =>
      have h' : (S w == x) = true := h
      rw [beq_iff_eq.mp h']
    | _ => cases h
  · rintro ⟨w, hw, rfl⟩
    exact ⟨w, hw, by show (S w == S w) = true; simp⟩
end Kx
namespace Kx
open PySem PySem.Spec PyProof.Rows L2 SX LamX
section
variable {X : Cx}
theorem rev_pick (z : Str) : ((Builtin.Str.strSliceIndices none none (-1) z.length).filterMap (z.cps[·]?)).toArray = z.cps.toList.reverse.toArray := by
  have e : Builtin.Str.strSliceIndices none none (-1) z.length = sliceRange ((z.cps.size : Int) - 1) (-1) (-1) := rfl
  rw [e, PySem.W.krv_sliceRange, PySem.W.krv_range, List.filterMap_reverse, PySem.W.krv_all]
/-- x[::-1], a text -/
def tRevS (te : TE) : TE := fun σ H Q => te σ H fun x H1 => ∃ l : List Nat, x = .str (S l) ∧ l.length ≤ 1000000 ∧ Q (.str (S l.reverse)) H1
theorem pe_revS {e : Expr} {te : TE} {k : Nat} {p1 p2 p3 pos : Pos} (he : PE X e te) : PE X (.Subscript e (.Slice none none (some (.UnaryOp .USub (.Constant (.int 1) k p1) p2)) p3) pos) (tRevS te) := by
  refine ⟨fun pins s σ H Q I h => ?_⟩
  refine Subscript_ (thn (he.run pins s σ H _ I h) fun v s1 ⟨x, H1, I1, r1, q1⟩ => ?_)
  obtain ⟨z, ex, hz, q⟩ := q1
  subst ex
  obtain ⟨t, rfl⟩ := r1
  have hst : PO X (some (.UnaryOp .USub (.Constant (.int 1) k p1) p2)) (tPart (tUn (rU fun i => .int (-i)) (tC (.int 1)))) := po_some (pe_un un_neg pe_int)
  refine wpAny_Slice (thn (po_none.run pins s1 σ H1 (fun o H2 => o = none ∧ H2 = H1) I1 ⟨rfl, rfl⟩) fun vl s2 ⟨l, H2, I2, pl, el, e2⟩ => ?_)
  subst el e2
  refine thn (po_none.run pins s2 σ H2 (fun o H3 => o = none ∧ H3 = H2) I2 ⟨rfl, rfl⟩) fun vu s3 ⟨u, H3, I3, pu, eu, e3⟩ => ?_
  subst eu e3
  refine thn (hst.run pins s3 σ H3 (fun o H4 => o = some (-1) ∧ H4 = H3) I3 ⟨1, rfl, -1, rfl, rfl, rfl⟩) fun vs s4 ⟨o, H4, I4, ps, eo, e4⟩ => ?_
  subst eo e4
  have I5 : Inv X pins σ H4 { s4 with heap := s4.heap.push { cls := .type "slice", data := .fields #[vl, vu, vs] } } := I4.kept (t' := s4.toks) fun b ob q => Heap.get?_push_of_some _ q
  obtain ⟨l', rfl, e1⟩ := IsPart.raw pl
  obtain ⟨u', rfl, e2⟩ := IsPart.raw pu
  obtain ⟨w', rfl, e3⟩ := IsPart.raw ps
  show wpAny (model X.prog X.w) X.A (subscriptTail e (.Slice none none (some (.UnaryOp .USub (.Constant (.int 1) k p1) p2)) p3) (.str (S z) t) (.ref s4.heap.objs.size)) (EP X pins σ Q) X.xe _
  refine tail_any (ops := [.str (S z) t, .ref s4.heap.objs.size]) (typeIs_str _ _ _) (PySem.F.slot_str_getitem.lookup) ?_ (by with_unfolding_all rfl)
  refine wpAny_getItem_str_slice (l := l') (u := u') (st := w') ⟨_, Heap.get?_push_size _ rfl, rfl, rfl⟩ (by rw [e3]; decide) ?_
  have hm : l'.map (·.1) = none := e1
  have hu : u'.map (·.1) = none := e2
  have made : sliceMade (S z) t l' u' w' = Made.str (S z.reverse) := by
    unfold sliceMade slicePicked
    rw [hm, hu, e3]
    show (if ((-1 : Int) == 1 && _) = true then _ else _) = _
    rw [if_neg (by simp)]
    have e0 : (S z).cps.toList = z := by simp [S]
    have e5 := rev_pick (S z)
    rw [e0] at e5
    exact congrArg (fun a => Made.str ⟨a⟩) e5
  rw [made]
  exact ⟨by rw [S_len, List.length_reverse]; exact Nat.le_trans hz (by decide), .str _, _, I5.tok _, ⟨_, rfl⟩, q⟩
end
end Kx
namespace Kx
open PySem PySem.Spec PyProof.Rows L2 SX LamX
theorem go_set {te : TE} {u : TS} {D : Ends} {σ : L2.St} {H : Hp} {i : Nat} (h : te σ H fun x H1 => u D (σ.set i (some x)) H1) : tSeq (tAsg te (gName i)) u D σ H := h
theorem go_next {D : Ends} {σ : L2.St} {H : Hp} (h : D.nx σ H) : tNext D σ H := h
theorem go_and2 {ta tb : TT} {σ : L2.St} {H : Hp} {Q : Bool → Hp → Prop} (h : ta σ H fun b H1 => if b = true then tb σ H1 Q else Q false H1) : tAnd ta tb σ H Q := h
end Kx
namespace Kx
open PySem PySem.Spec PyProof.Rows L2 SX LamX
/-- a test that fails -/
theorem if_same {c : TT} {t u : TS} {D : Ends} {σ : L2.St} {H : Hp} (hc : ∀ Q : Bool → Hp → Prop, (∀ H', Same H H' → Q false H') → c σ H Q) (h : ∀ H', Same H H' → u D σ H') : tIfS c t u D σ H := go_if (hc _ fun H' e => iteF (A := _) (h H' e))
theorem nodup_rev {α : Type} {l : List α} (h : l.Nodup) : l.reverse.Nodup := by
  unfold List.Nodup at h ⊢
  rw [List.pairwise_reverse]
  exact h.imp fun h e => h e.symm
end Kx
namespace Kx
open PySem PySem.Spec PyProof.Rows L2 SX LamX
open PySem.W in
/-- the goal that the head leaves, of a law in which two defs make lambdas -/
theorem walkL2 {l : OpenLaw} {n k : Nat} {q : Program} {loose : List Str} {XP : (Str → Option Value) → Heap → Prop} {YP : World → Heap → Prop} {d : DefRec} {K : Params → Frag} {x y z : Str} (sp : Frag → Addr → Addr → Sp)
    (hn : l.most = some n) (hz : n ≤ sizeLine) (h0 : d.params.defaults = []) (hr : Room k callerA) (hY : ∀ (w : World) (h : Heap), YP w h → (K w.params).In h)
    (hc : ∀ p, ((∃ r, (recsOf q).find? (fun r => r.name == y) = some r) ∧ ∃ r, (recsOf q).find? (fun r => r.name == z) = some r) ∧ ∃ c Pt c2 Pu, (tabIn (K p) y = some (c, Pt) ∧ (K p).lookup Pt = none) ∧ (tabIn (K p) z = some (c2, Pu) ∧ (K p).lookup Pu = none) ∧ Pt ≠ Pu)
    (F : ∀ (w : World) (mg : Str → Option Value) (fa : Addr) (h : Heap), (K w.params).In h → h.Ns mainGlobals mg → mg d.name = some (.ref fa) → ∃ fd : FuncData,
      (∀ (t : Shared) (u : Value), BindsTo t fd ⟨[u], []⟩ [(x, u)]) ∧ ∀ (c Pt c2 Pu : Addr), tabIn (K w.params) y = some (c, Pt) → tabIn (K w.params) z = some (c2, Pu) → Pt ≠ Pu → ∀ base : Heap, (K w.params).In base → base.Ns mainGlobals mg → TabB base mg c Pt → TabB base mg c2 Pu → FnG l.prog w (K w.params) mg base CX0 k fa fd [x] (sp (K w.params) Pt Pu))
    (pr : ∀ (K : Frag) (Pt Pu : Addr) (H : Hp) (a : Addr) (ns : List Int), ns.length ≤ n → H Pt = some (.tbl #[]) → H Pu = some (.tbl #[]) → SqL K H a (ns.map V.int) → sp K Pt Pu [.ref a] H (fun v _ => v = .bl true) fun _ _ _ => False) :
    WalkO q loose XP YP l.row.toRowW d [] (fun f us => PySem.call f us) := by
  refine walkT (x := x) (K := K) (cs := fun p => [(y, ((tabIn (K p) y).getD (0, 0))), (z, ((tabIn (K p) z).getD (0, 0)))]) (sp := fun K => sp K ((tabIn K y).getD (0, 0)).2 ((tabIn K z).getD (0, 0)).2) hn hz h0 hr hY (fun p e he => ?_) (fun w mg fa h KX G hmg => ?_) (fun p H a ns hl ht hS _ => pr _ _ _ H a ns hl (ht _ List.mem_cons_self) (ht _ (List.mem_cons_of_mem _ List.mem_cons_self)) hS)
  · obtain ⟨⟨r1, r2⟩, c, Pt, c2, Pu, ⟨h2, h3⟩, ⟨h4, h5⟩, _⟩ := hc p
    rcases List.mem_cons.mp he with rfl | he
    · refine ⟨r1, ?_, ?_⟩
      · rw [h2]
        rfl
      · rw [h2]
        exact h3
    · cases List.mem_singleton.mp he
      refine ⟨r2, ?_, ?_⟩
      · rw [h4]
        rfl
      · rw [h4]
        exact h5
  · obtain ⟨fd, hb, hF⟩ := F w mg fa h KX G hmg
    obtain ⟨_, c, Pt, c2, Pu, ⟨h2, _⟩, ⟨h4, _⟩, hne⟩ := hc w.params
    refine ⟨fd, hb, fun base hk hg ht => ?_⟩
    have hT := ht _ List.mem_cons_self
    have hU := ht _ (List.mem_cons_of_mem _ List.mem_cons_self)
    simp only [h2, h4, Option.getD_some] at hT hU ⊢
    exact hF c Pt c2 Pu h2 h4 hne base hk hg hT hU
theorem tab_at {K : PySem.W.Frag} {x : Str} {f c Pt : Addr} {oc oc2 : Value} {od od2 : Option Addr} {osl osl2 : Array (Option Value)} {fd : FuncData} {vs : Array Value} (a : PySem.W.nsIn K mainGlobals x = some (some (.ref f)))
    (l : K.lookup f = some ⟨oc, od, .func fd, osl⟩) (e : fd.code = .ref c) (l2 : K.lookup c = some ⟨oc2, od2, .fields vs, osl2⟩) (v : (vs[11]? : Option Value) = some (.ref Pt)) (n : K.lookup Pt = none) :
    PySem.W.tabIn K x = some (c, Pt) ∧ K.lookup Pt = none := by
  refine ⟨?_, n⟩
  unfold PySem.W.tabIn
  rw [a]
  simp only [l, e, l2, v]
end Kx
namespace Kx
open PySem PySem.Spec PyProof.Rows L2 SX LamX
section
variable {X : Cx} {K : PySem.W.Frag}
theorem inK_op_in_seq (e : X.K = K) : OpR X (compareOp .In) (rIn K false) := e ▸ op_in_seq
theorem inK_op_notIn_seq (e : X.K = K) : OpR X (compareOp .NotIn) (rIn K true) := e ▸ op_notIn_seq
theorem inK_call_tuple_frz (e : X.K = K) : CallR X (.type "tuple") (fun xs H Q => ∃ p ys, xs = [.ref p] ∧ ((SqL K H p ys ∧ ∀ l o, H l = none → o.dict = none → Q (.ref l) (upd H l (.frz o (.tup ys)))) ∨ (SqT K H p ys ∧ Q (.ref p) H))) := e ▸ call_tuple_frz
end
theorem sub_int {K : PySem.W.Frag} {C : Addr} : PySem.W.subIn K (.type "int") (.ref C) = some false := by
  have e : fastBuiltinMro "int" = some [.type "int", .type "object"] := by decide +kernel
  show (fastBuiltinMro "int").map (·.contains (.ref C)) = some false
  rw [e]
  first
    | rfl
    | simp
end Kx
namespace PySem
open Sem (wp)
open AutoSeq1 (wpAny_loadPart')
theorem meets_enumerate_newT (l : Addr) (items : Array Value) (n : Nat) (dct : Option Addr) (sl : Array (Option Value)) :
    Meets (Builtin.«enumerate.__new__» ⟨[.type "enumerate", .ref l], []⟩) (fun _ R s => s.heap.get? l = some { cls := .type "tuple", dict := dct, data := .seq items n, slots := sl } ∧
      R (.ok (.ret (.ref (s.heap.push { cls := .type "tuple_iterator", data := .fields #[.ref l, .int 0 0] }).objs.size)))
        { s with heap := (s.heap.push { cls := .type "tuple_iterator", data := .fields #[.ref l, .int 0 0] }).push { cls := .type "enumerate", data := .fields #[.none, .bool false, .ref s.heap.objs.size, rawInt 0, .none, .none] } }) :=
  .of_wp fun prog w A R s h => by
    obtain ⟨hp, g, d, tk, os⟩ := s
    obtain ⟨hl, h⟩ := h
    have hsub := sub_enumerate
    have hL : Heap.IsTuple (Shared.heap ⟨hp, g, d, tk, os⟩) l items := ⟨_, hl, rfl, n, rfl⟩
    wp_walk using wpAny_loadPart' hl
    refine wpAny_stack_any fun st => wpAny_pure ?_
    split
    · rename_i c _ _ _ _ _
      cases (c == Value.type "enumerate")
      · wp_walk using wpAny_loadPart' hl, wpAny_pyIter_tuple hL
        exact ⟨_, rfl, h⟩
      · wp_walk using wpAny_loadPart' hl, wpAny_pyIter_tuple hL
        exact ⟨_, rfl, h⟩
    · wp_walk using wpAny_loadPart' hl, wpAny_pyIter_tuple hL
      exact ⟨_, rfl, h⟩
section
variable {prog : Program} {w : World} {A : Around} {E : Value → Shared → Prop} {s : Shared}
theorem call_enumerate_tuple {l : Addr} {items : Array Value} {Q : Value → Shared → Prop} (hL : s.heap.IsTuple l items)
    (h : ∀ h', IsEnum h' (s.heap.objs.size + 1) s.heap.objs.size 0 .none → h'.IsTupleIter s.heap.objs.size l 0 → h'.objs.size = s.heap.objs.size + 2 →
      (∀ b o, s.heap.get? b = some o → h'.get? b = some o) → Q (.ref (s.heap.objs.size + 1)) { s with heap := h' }) :
    wpAny (model prog w) A (call (.type "enumerate") [.ref l]) Q E s := by
  obtain ⟨⟨c, dct, dt, sl⟩, hl, hc, n, hd⟩ := hL
  replace hc : c = .type "tuple" := hc
  replace hd : dt = .seq items n := hd
  subst hc hd
  refine callType_new F.called_enumerate (by decide) (F.typeCall_enumerate_1 _) (F.newCall_enumerate_1 _) (fun obj => F.args_object_init_2 obj _) F.entry_enumerate_new
    (meets_enumerate_newT l items n dct sl) ⟨hl, ?_⟩
  have hz : (s.heap.push { cls := .type "tuple_iterator", data := .fields #[.ref l, .int 0 0] }).objs.size = s.heap.objs.size + 1 := Heap.size_push ..
  show _ ∧ _
  rw [hz]
  have he : IsEnum ((s.heap.push { cls := .type "tuple_iterator", data := .fields #[.ref l, .int 0 0] }).push
      { cls := .type "enumerate", data := .fields #[.none, .bool false, .ref s.heap.objs.size, rawInt 0, .none, .none] }) (s.heap.objs.size + 1) s.heap.objs.size 0 .none := by
    have := Heap.get?_push_size (s.heap.push { cls := .type "tuple_iterator", data := .fields #[.ref l, .int 0 0] })
      (o := { cls := .type "enumerate", data := .fields #[.none, .bool false, .ref s.heap.objs.size, rawInt 0, .none, .none] }) rfl
    rw [hz] at this; exact this
  refine ⟨⟨_, he, rfl⟩, h _ he ⟨_, Heap.get?_push_of_some _ (Heap.get?_push_size _ rfl), rfl, rfl⟩ (by rw [Heap.size_push, hz]) fun b o x => Heap.get?_push_of_some _ (Heap.get?_push_of_some _ x)⟩
end
end PySem
namespace Kx
open PySem PySem.Spec PyProof.Rows L2 SX LamX
/-! ### enumerate(tuple) -/
def IteT (K : PySem.W.Frag) (a : Addr) : It :=
  ⟨fun i H => ∃ (xs : List V) (x : V), SqT K H a xs ∧ xs[i]? = some x, fun i H v H' => ∃ T x, v = .ref T ∧ H T = none ∧ H' = upd H T (.tup [.int (i : Nat), x]) ∧ ∀ xs, SqT K H a xs → xs[i]? = some x, fun i H => ∃ xs : List V, SqT K H a xs ∧ i = xs.length⟩
theorem turn_enumT {P : Program} {w : World} {K : PySem.W.Frag} {elts : List Expr} {kk : Nat} {tpos : Pos} (a e it : Addr) :
    Turn P w K (.Tuple elts kk tpos) (IteT K a) [e, it] e (fun i h => (∃ old, IsEnum h e it ((i : Nat) : Int) old) ∧ h.IsTupleIter it a i ∧ e ≠ it ∧ a ≠ it ∧ a ≠ e) where
  mem := by simp
  obj := fun i h st b hb => by
    obtain ⟨⟨old, he⟩, ⟨o, ho, hc, hd⟩, _⟩ := st
    rcases (show b = e ∨ b = it by simpa using hb) with z | z
    · rw [z]
      exact ⟨_, he, fun v q => nomatch q⟩
    · rw [z]
      exact ⟨o, ho, fun v q => by rw [hd] at q; cases q⟩
  keep := fun i h h' st k => by
    obtain ⟨⟨old, he⟩, ⟨o, ho, r⟩, hne⟩ := st
    exact ⟨⟨old, k e (by simp) _ he⟩, ⟨o, k it (by simp) _ ho, r⟩, hne⟩
  item := by
    intro X hP hw hK hc i pins s σ H E I hf st hg
    subst hP hw hK
    obtain ⟨⟨old, he⟩, hit, hne, n1, n2⟩ := st
    obtain ⟨xs, x, hq, hx⟩ := hg
    obtain ⟨its, rv, p, hz⟩ := I.tuple hq
    obtain ⟨u, hu, ru⟩ := rv.get hx
    have el : e < s.heap.objs.size := Heap.lt_size he
    have il : it < s.heap.objs.size := by
      obtain ⟨_, q, _⟩ := hit
      exact Heap.lt_size q
    have D := Draws.tuple (prog := X.prog) (w := X.w) (A := X.A.in1) (I.ok.hd hc) it a n1 its.toArray
    have hlt : i < its.toArray.size := by
      have := (List.getElem?_eq_some_iff.mp hu).1
      simpa using this
    refine wpAny_pyNext_enum_itemD D he ⟨hit, p⟩ hlt hne (by simp [hne, Ne.symm n2]) fun u' h' tk hu' ho hit' hT hz' hk => ?_
    obtain rfl : u = u' := by
      have h1 : its.toArray[i]? = some u := by simpa using hu
      rw [h1] at hu'
      exact Option.some.inj hu'
    refine ⟨_, rfl, wpAny_letOwnedTupleGo_enum (s := { s with heap := h', toks := tk + 1 }) ho fun h2 he' sb => ?_⟩
    have T2 := (sb.2 _ (Nat.ne_of_gt el)).trans hT
    have new : ObjOk X.prog X.w (upd H s.heap.objs.size (.tup [.int (i : Nat), x])) h2 s.heap.objs.size (.tup [.int (i : Nat), x]) :=
      ⟨by show 2 ≤ sizeLine; decide, [.int i tk, u], .cons ⟨_, rfl⟩ (.cons ru .nil), ⟨_, T2, rfl, _, rfl⟩⟩
    have I1 : Inv X pins σ (upd H s.heap.objs.size (.tup [.int (i : Nat), x])) { s with heap := h2, toks := tk + 1 } :=
      I.turnedNew (ch := [e, it]) (fun b ob hb q => (sb.2 b (fun z => hb (by simp [z]))).trans (hk b ob (fun z => hb (by simp [z])) (fun z => hb (by simp [z])) q)) hf (Nat.le_refl _) new
    refine ⟨.ref s.heap.objs.size, _, I1, rfl, ⟨_, x, rfl, I.hok.fresh (Nat.le_refl _), rfl, fun ys hy => by rw [I.tuple_inj hy hq]; exact hx⟩, ⟨⟨u, ?_⟩, ?_, hne, n1, n2⟩, fun b hb => ?_⟩
    · rw [show ((i + 1 : Nat) : Int) = (i : Int) + 1 by omega]
      exact he'
    · obtain ⟨⟨o, ho2, r⟩, _⟩ := hit'
      exact ⟨o, (sb.2 it (Ne.symm hne)).trans ho2, r⟩
    · have hb' : b < s.heap.objs.size := by
        rcases (show b = e ∨ b = it by simpa using hb) with z | z
        · rw [z]
          exact el
        · rw [z]
          exact il
      rw [upd_ne (Nat.ne_of_lt hb')]
      exact (hf b hb).1
  done := by
    intro X hP hw hK hc i pins s σ H E I hf st hg
    subst hP hw hK
    obtain ⟨⟨old, he⟩, hit, hne, n1, n2⟩ := st
    obtain ⟨xs, hq, hx⟩ := hg
    obtain ⟨its, rv, p, hz⟩ := I.tuple hq
    obtain ⟨f0, f1, f2, f3, f4, f5⟩ := hf it (by simp)
    have hl : i = its.toArray.size := by
      rw [hx, rv.length]
      simp
    have D := Draws.tuple (prog := X.prog) (w := X.w) (A := X.A.in1) (I.ok.hd hc) it a n1 its.toArray
    rw [hl] at hit he
    exact wpAny_pyNext_enum_endD D he ⟨hit, p⟩ fun h' eb => ⟨rfl, I.turned (t' := s.toks) (fun b o hb q => eb b o hb q) f0 f1 f3 f4 f5⟩
  self := fun A i s Q E st h => by
    obtain ⟨⟨_, he⟩, _⟩ := st
    exact wpAny_pyIter_enum he h
def iEnumT (K : PySem.W.Frag) (ta : TA) : TI := fun σ H R => ta σ H fun vs H1 => ∃ a xs, vs = [.ref a] ∧ SqT K H1 a xs ∧ R (IteT K a) H1
theorem pi_enumT {X : Cx} {e : Expr} {ta : TA} {p pos tpos : Pos} {elts : List Expr} {kk : Nat} (hg : Gl X "enumerate") (hm : X.mg "enumerate" = none) (ha : PA X [e] ta) (hs : starEach [e] X.env = [(false, eval e X.env)] := by rfl) :
    PI X (.Tuple elts kk tpos) (.Call (.Name "enumerate" p) [e] [] pos) (iEnumT X.K ta) := by
  refine ⟨fun pins s σ H R I h => ?_⟩
  refine Call_ (ld_blt I hg hm boot_enumerate (PyProof.Rows.callWith_type1 (thn (ha.run pos pins s σ H _ I h) fun us s1 hh => ?_) hs rfl))
  obtain ⟨vs, H1, I1, r1, a, xs, rfl, hq, q⟩ := hh
  obtain ⟨u, rfl, rx⟩ := vals1 r1
  cases rx
  obtain ⟨its, rv, pp, hz⟩ := I1.tuple hq
  have hla : a < s1.heap.objs.size := by
    obtain ⟨_, q, _⟩ := pp
    exact Heap.lt_size q
  refine call_enumerate_tuple pp fun h' he hit hsz hk => wpAny_pyIter_enum he ?_
  have I2 : Inv X pins σ H1 { s1 with heap := h' } := I1.kept (t' := s1.toks) hk
  refine ⟨s1.heap.objs.size + 1, [s1.heap.objs.size + 1, s1.heap.objs.size], _, _, H1, rfl, I2, turn_enumT a (s1.heap.objs.size + 1) s1.heap.objs.size, ⟨⟨.none, he⟩, hit, Nat.succ_ne_self _, Nat.ne_of_lt hla, Nat.ne_of_lt (Nat.lt_succ_of_lt hla)⟩, fun b hb => ?_, q⟩
  have hle : s1.heap.objs.size ≤ b := by
    rcases (show b = s1.heap.objs.size + 1 ∨ b = s1.heap.objs.size by simpa using hb) with z | z
    · rw [z]
      exact Nat.le_add_right _ _
    · rw [z]
      exact Nat.le_refl _
  exact I1.fpOk hle (I1.hok.fresh hle)
theorem walk_enumT {K : PySem.W.Frag} {a : Addr} {xs : List V} : Walk (IteT K a) xs.length (fun H => SqT K H a xs) (fun i H v H' => ∃ T x, v = .ref T ∧ H T = none ∧ H' = upd H T (.tup [.int (i : Nat), x]) ∧ xs[i]? = some x) :=
  ⟨fun i _ hi q => ⟨xs, xs[i], q, by simp [hi]⟩, fun _ q => ⟨xs, q, rfl⟩, fun _ _ _ _ _ q y => by
    obtain ⟨T, x, h1, h2, h3, h4⟩ := y
    exact ⟨T, x, h1, h2, h3, h4 xs q⟩⟩
section
variable {J : It} {n : Nat} {G : Hp → Prop} {Y : Nat → Hp → V → Hp → Prop}
/-- a dict comprehension over whatever walks: Pv by the turn and the heap (the new dict at D within) -/
theorem dc_it (w : Walk J n G Y) {g : TG} {tt : TT} {tk tv : TE} {vs : List Nat} {σ : L2.St} {H1 : Hp} {D : Addr} {Qd : Hp → Prop} (Pv : Nat → Hp → Prop) (h0 : Pv 0 (upd H1 D (.dK []))) (hG : ∀ i H, i ≤ n → Pv i H → G H)
    (hs : ∀ i x H H', i < n → Pv i H → Y i H x H' → g x (wipe σ vs) H' fun σ2 H2 => wipe σ2 vs = wipe σ vs ∧ tt σ2 H2 fun b H3 =>
      if b = true then tk σ2 H3 fun y H4 => tv σ2 H4 fun z H5 => ∃ kvs k, y = kV k ∧ H5 D = some (.dK kvs) ∧ kvs.length < sizeLine ∧ Pv (i + 1) (upd H5 D (.dK (putK kvs k z))) else Pv (i + 1) H3) (hd : ∀ H, Pv n H → Qd H) :
    ∃ W : Nat → Nat → Hp → Prop, (∃ m, W 0 m (upd H1 D (.dK []))) ∧ ∀ i m H, W i m H →
      (J.stop i H ∧ Qd H) ∨ (J.go i H ∧ ∃ Nx : Hp → Prop, (∀ H', Nx H' → ∃ m', m' < m ∧ W (i + 1) m' H') ∧ ∀ x H', J.yld i H x H' → g x (wipe σ vs) H' fun σ2 H2 => wipe σ2 vs = wipe σ vs ∧ tt σ2 H2 fun b H3 =>
        if b = true then tk σ2 H3 fun y H4 => tv σ2 H4 fun z H5 => ∃ kvs k, y = kV k ∧ H5 D = some (.dK kvs) ∧ kvs.length < sizeLine ∧ Nx (upd H5 D (.dK (putK kvs k z))) else Nx H3) := by
  refine ⟨fun i m H => m = n - i ∧ i ≤ n ∧ Pv i H, ⟨n, by simp, Nat.zero_le _, h0⟩, ?_⟩
  rintro i m H ⟨rfl, hi, p⟩
  have q := hG i H hi p
  by_cases hlt : i < n
  · refine .inr ⟨w.goes i H hlt q, Pv (i + 1), fun H' p' => ⟨n - (i + 1), by omega, rfl, hlt, p'⟩, fun x H' y => hs i x H H' hlt p (w.yields i H x H' hlt q y)⟩
  · have e : i = n := by omega
    subst e
    exact .inl ⟨w.stops H q, hd H p⟩
end
theorem inK_pe_fld {X : Cx} {K : PySem.W.Frag} {e : Expr} {ta : TE} {f : Str} {pos : Pos} (q : X.K = K) (he : PE X e ta) (hb : attributeBase e f X.env (eval e X.env) = eval e X.env) : PE X (.Attribute e f pos) (tFld K ta f) := q ▸ pe_fld he hb
end Kx
namespace Kx
open PySem PySem.Spec PyProof.Rows L2 SX LamX
/-- a method called by two names, the other way round -/
def selfSwapG {α : Type} (us ws : List α) : List α := match us, ws with | [s], [v, u] => [s, u, v] | _, _ => []
theorem kb_selfSwap {K : PySem.W.Frag} {x qual : Str} {st : Stmt} {f : Addr} {fd : FuncData} {a b c : Str} (F : Fun K x qual st f fd)
    (h : ∀ (kV doc pm : Value) (an : Option Addr) (cdv ct : Value) (s u v : Value), bindArgs (PySem.W.fnOf x qual (defArgs st) (defBody st) (defScope st) .none kV doc pm an cdv ct) ⟨[s], [(c, v), (b, u)]⟩ = pure [(a, s), (b, u), (c, v)]) :
    KBinds K fd [a, b, c] [c, b] selfSwapG selfSwapG := by
  obtain ⟨oc, od, kV, doc, pm, an, cdv, ct, osl, rfl, lk, hcd⟩ := F.ex
  refine ⟨fun s us ws X l => ?_, fun {vs us zs ws} r1 r2 => ?_⟩
  · match us, ws, l with
    | [s], [v, u], _ => exact .of_eq (h kV doc pm an cdv ct s u v)
    | [], _, l => cases l
    | [_], [], l => cases l
    | [_], [_], l => cases l
    | [_], _ :: _ :: _ :: _, l => cases l
    | _ :: _ :: _, _, l => cases l
  · cases r1 with
    | nil => exact .nil
    | cons h1 r1 =>
      cases r1 with
      | cons _ _ => exact .nil
      | nil =>
        cases r2 with
        | nil => exact .nil
        | cons h2 r2 =>
          cases r2 with
          | nil => exact .nil
          | cons h3 r2 =>
            cases r2 with
            | nil => exact .cons h1 (.cons h3 (.cons h2 .nil))
            | cons _ _ => exact .nil
theorem kbn_selfSwap {K : PySem.W.Frag} {x qual : Str} {st : Stmt} {f : Addr} {fd : FuncData} {a b c : Str} (F : Fun K x qual st f fd)
    (h : ∀ (kV doc pm : Value) (an : Option Addr) (cdv ct : Value) (s u v : Value), bindArgs (PySem.W.fnOf x qual (defArgs st) (defBody st) (defScope st) .none kV doc pm an cdv ct) ⟨[s], [(c, v), (b, u)]⟩ = pure [(a, s), (b, u), (c, v)]) :
    KBn K fd [a, b, c] 1 [c, b] selfSwapG selfSwapG := by
  have kb := kb_selfSwap F h
  refine ⟨fun s us ws X l1 l2 => kb.to s us ws X ?_, kb.rel⟩
  match us, ws, l1, l2 with
  | [_], [_, _], _, _ => rfl
end Kx
namespace Kx
open PySem PySem.Spec PyProof.Rows L2 SX LamX
/-! ### texts joined by blanks -/
theorem itemsA_app : ∀ (x acc r : List Nat), 32 ∉ x → itemsA acc (x ++ r) = itemsA (acc ++ x) r
  | [], acc, r, _ => by rw [List.append_nil, List.nil_append]
  | c :: x, acc, r, h => by
    have hc : c ≠ 32 := fun e => h (by rw [e]; exact List.mem_cons_self)
    show (if c = 32 then acc :: itemsA [] (x ++ r) else itemsA (acc ++ [c]) (x ++ r)) = _
    rw [if_neg hc, itemsA_app x (acc ++ [c]) r (fun m => h (List.mem_cons_of_mem _ m)), List.append_assoc]
    rfl
theorem itemsA_one {x acc : List Nat} (h : 32 ∉ x) : itemsA acc x = [acc ++ x] := by
  have := itemsA_app x acc [] h
  rw [List.append_nil] at this
  rw [this]
  rfl
theorem items_join : ∀ (its : List (List Nat)), its ≠ [] → (∀ it ∈ its, 32 ∉ it) → itemsA [] (TL.joinL [32] its) = its
  | [], h, _ => absurd rfl h
  | [x], _, h => by
    show itemsA [] x = [x]
    rw [itemsA_one (h x (List.mem_singleton.mpr rfl))]
    rfl
  | x :: y :: r, _, h => by
    show itemsA [] (x ++ (32 :: TL.joinL [32] (y :: r))) = _
    rw [itemsA_app x [] _ (h x List.mem_cons_self)]
    show (if (32 : Nat) = 32 then ([] ++ x) :: itemsA [] (TL.joinL [32] (y :: r)) else _) = _
    rw [if_pos rfl, items_join (y :: r) (List.cons_ne_nil _ _) (fun it m => h it (List.mem_cons_of_mem _ m))]
    rfl
theorem joinL_all {p : Nat → Bool} (h32 : p 32 = true) : ∀ (its : List (List Nat)), (∀ it ∈ its, it.all p = true) → (TL.joinL [32] its).all p = true
  | [], _ => rfl
  | [x], h => by
    show x.all p = true
    exact h x (List.mem_singleton.mpr rfl)
  | x :: y :: r, h => by
    show (x ++ (32 :: TL.joinL [32] (y :: r))).all p = true
    rw [List.all_append, List.all_cons, h32, joinL_all h32 (y :: r) (fun it m => h it (List.mem_cons_of_mem _ m)), h x List.mem_cons_self]
    rfl
theorem joinL_len {k : Nat} : ∀ (its : List (List Nat)), (∀ it ∈ its, it.length ≤ k) → (TL.joinL [32] its).length ≤ its.length * (k + 1)
  | [], _ => Nat.zero_le _
  | [x], h => by
    show x.length ≤ _
    have := h x (List.mem_singleton.mpr rfl)
    simp only [List.length_cons, List.length_nil]
    omega
  | x :: y :: r, h => by
    have h1 := joinL_len (y :: r) (fun it m => h it (List.mem_cons_of_mem _ m))
    have h2 := h x List.mem_cons_self
    show (x ++ (32 :: TL.joinL [32] (y :: r))).length ≤ _
    rw [List.length_append, List.length_cons]
    rw [List.length_cons (a := x), Nat.succ_mul]
    omega
/-- the length of a joined text -/
theorem joinL_sum : ∀ (its : List (List Nat)), its ≠ [] → (TL.joinL [32] its).length + 1 = (its.map fun it => it.length + 1).sum
  | [], h => absurd rfl h
  | [x], _ => by simp [TL.joinL]
  | x :: y :: r, _ => by
    have h1 := joinL_sum (y :: r) (List.cons_ne_nil _ _)
    show (x ++ (32 :: TL.joinL [32] (y :: r))).length + 1 = (x.length + 1) + ((y :: r).map fun it => it.length + 1).sum
    rw [List.length_append, List.length_cons, ← h1]
    omega
/-! ### slices of texts -/
theorem slice_S (l : List Nat) (lo hi : Option Int) : Txt.slice (S l) lo hi = S ((l.drop (HT.sIx l.length 0 lo)).take (HT.sIx l.length l.length hi - HT.sIx l.length 0 lo)) := by
  rw [← C8.cutS_slice]
  unfold cutS
  rw [S_len]
theorem slice_part {l : List Nat} {lo hi : Option Int} : ∃ m : List Nat, Txt.slice (S l) lo hi = S m ∧ m.length ≤ l.length ∧ ∀ c ∈ m, c ∈ l :=
  ⟨_, slice_S l lo hi, by rw [List.length_take, List.length_drop]; omega, fun c h => List.mem_of_mem_drop (List.mem_of_mem_take h)⟩
theorem slice_fromS (l : List Nat) (k : Nat) : Txt.slice (S l) (some (k : Int)) none = S (l.drop k) := by
  rw [slice_S, HT.sIx_none, HT.sIx_nat]
  by_cases h : k ≤ l.length
  · rw [Nat.min_eq_left h, List.take_of_length_le (by rw [List.length_drop]; omega)]
  · rw [Nat.min_eq_right (by omega), List.drop_of_length_le (Nat.le_refl _), List.drop_of_length_le (by omega), List.take_nil]
theorem slice_toS (l : List Nat) (k : Nat) : Txt.slice (S l) none (some (k : Int)) = S (l.take k) := by
  rw [slice_S, HT.sIx_none, HT.sIx_nat, List.drop_zero, Nat.sub_zero]
  by_cases h : k ≤ l.length
  · rw [Nat.min_eq_left h]
  · rw [Nat.min_eq_right (by omega), List.take_of_length_le (Nat.le_refl _), List.take_of_length_le (by omega)]
theorem sum_S_le {k : Nat} : ∀ its : List (List Nat), (∀ it ∈ its, it.length ≤ k) → ((its.map S).map (·.length)).sum ≤ its.length * k
  | [], _ => Nat.zero_le _
  | x :: r, h => by
    have h1 := sum_S_le r (fun it m => h it (List.mem_cons_of_mem _ m))
    have h2 := h x List.mem_cons_self
    have h3 : (S x).length = x.length := S_len x
    show (S x).length + ((r.map S).map (·.length)).sum ≤ (r.length + 1) * k
    rw [h3, Nat.succ_mul]
    omega
theorem inK_call_list_of {X : Cx} {K : PySem.W.Frag} (e : X.K = K) : CallR X (.type "list") (fun xs H Q => ∃ p ys, xs = [.ref p] ∧ (SqL K H p ys ∨ SqT K H p ys) ∧ ∀ l, H l = none → Q (.ref l) (upd H l (.lst ys))) := e ▸ call_list_of
end Kx
namespace K21
open PySem PySem.Spec PyProof.Rows L2 Kx SX LamX
def topS (i : Nat) : Stmt := PySem.Challenge.pw_anyletter_k21_machines_done.main.body.getD i (.Pass ⟨0, 0, 0, 0⟩)
abbrev s_is_list : Stmt := topS 3
theorem sc_is_list : FnScope ["value"] ["value"] (defScope s_is_list) := ⟨rfl, rfl, rfl, by decide +kernel, rfl, by decide +kernel, by decide +kernel⟩
abbrev s_is_integer : Stmt := topS 4
theorem sc_is_integer : FnScope ["value"] ["value"] (defScope s_is_integer) := ⟨rfl, rfl, rfl, by decide +kernel, rfl, by decide +kernel, by decide +kernel⟩
abbrev s_is_within : Stmt := topS 5
theorem sc_is_within : FnScope ["value", "least", "most"] ["value", "least", "most"] (defScope s_is_within) := ⟨rfl, rfl, rfl, by decide +kernel, rfl, by decide +kernel, by decide +kernel⟩
abbrev s_are_letters : Stmt := topS 6
theorem sc_are_letters : FnScope ["text"] ["text"] (defScope s_are_letters) := ⟨rfl, rfl, rfl, by decide +kernel, rfl, by decide +kernel, by decide +kernel⟩
abbrev s_is_word : Stmt := topS 7
theorem sc_is_word : FnScope ["value"] ["value"] (defScope s_is_word) := ⟨rfl, rfl, rfl, by decide +kernel, rfl, by decide +kernel, by decide +kernel⟩
abbrev s_is_text : Stmt := topS 8
theorem sc_is_text : FnScope ["value", "letters"] ["value"] (defScope s_is_text) := ⟨rfl, rfl, rfl, by decide +kernel, rfl, by decide +kernel, by decide +kernel⟩
abbrev s_are_words : Stmt := topS 23
theorem sc_are_words : FnScope ["value", "most", "word"] ["value", "most"] (defScope s_are_words) := ⟨rfl, rfl, rfl, by decide +kernel, rfl, by decide +kernel, by decide +kernel⟩
abbrev s_Book_init : Stmt := inClass (topS 24) 0
theorem sc_Book_init : FnScope ["self", "words"] ["self", "words"] (defScope s_Book_init) := ⟨rfl, rfl, rfl, by decide +kernel, rfl, by decide +kernel, by decide +kernel⟩
abbrev s_Book_eq : Stmt := inClass (topS 24) 1
theorem sc_Book_eq : FnScope ["self", "other"] ["self", "other"] (defScope s_Book_eq) := ⟨rfl, rfl, rfl, by decide +kernel, rfl, by decide +kernel, by decide +kernel⟩
abbrev s_is_row : Stmt := topS 25
theorem sc_is_row : FnScope ["book", "value", "number"] ["book", "value"] (defScope s_is_row) := ⟨rfl, rfl, rfl, by decide +kernel, rfl, by decide +kernel, by decide +kernel⟩
abbrev s_read : Stmt := topS 26
theorem sc_read : FnScope ["book", "text", "number", "word", "numbers", "item"] ["book", "text"] (defScope s_read) := ⟨rfl, rfl, rfl, by decide +kernel, rfl, by decide +kernel, by decide +kernel⟩
abbrev s_are_deeds : Stmt := topS 29
theorem sc_are_deeds : FnScope ["value", "words", "deed", "states", "state"] ["value", "words"] (defScope s_are_deeds) := ⟨rfl, rfl, rfl, by decide +kernel, rfl, by decide +kernel, by decide +kernel⟩
abbrev s_end_of_row : Stmt := topS 30
theorem sc_end_of_row : FnScope ["deeds", "row", "start", "state", "number"] ["deeds", "row", "start"] (defScope s_end_of_row) := ⟨rfl, rfl, rfl, by decide +kernel, rfl, by decide +kernel, by decide +kernel⟩
abbrev s_Machine_init : Stmt := inClass (topS 31) 0
theorem sc_Machine_init : FnScope ["self", "book", "deeds", "deed"] ["self", "book", "deeds"] (defScope s_Machine_init) := ⟨rfl, rfl, rfl, by decide +kernel, rfl, by decide +kernel, by decide +kernel⟩
abbrev s_Machine_eq : Stmt := inClass (topS 31) 1
theorem sc_Machine_eq : FnScope ["self", "other"] ["self", "other"] (defScope s_Machine_eq) := ⟨rfl, rfl, rfl, by decide +kernel, rfl, by decide +kernel, by decide +kernel⟩
abbrev s_Machine_done : Stmt := inClass (topS 31) 2
theorem sc_Machine_done : FnScope ["self", "row", "start"] ["self", "row", "start"] (defScope s_Machine_done) := ⟨rfl, rfl, rfl, by decide +kernel, rfl, by decide +kernel, by decide +kernel⟩
abbrev s_Machine_done_text : Stmt := inClass (topS 31) 3
theorem sc_Machine_done_text : FnScope ["self", "text", "start"] ["self", "text", "start"] (defScope s_Machine_done_text) := ⟨rfl, rfl, rfl, by decide +kernel, rfl, by decide +kernel, by decide +kernel⟩
abbrev s_law_engine : Stmt := topS 33
theorem sc_law_engine : FnScope ["_law_script", "_law_cell"] ["_law_script"] (defScope s_law_engine) := ⟨rfl, rfl, rfl, by decide +kernel, rfl, by decide +kernel, by decide +kernel⟩
abbrev s_law_crank : Stmt := topS 34
theorem sc_law_crank : FnScope ["_law_engine_here", "_law_many", "_law_rest", "_law_turn", "_law_cell", "_law_mixed"] ["_law_engine_here", "_law_many"] (defScope s_law_crank) := ⟨rfl, rfl, rfl, by decide +kernel, rfl, by decide +kernel, by decide +kernel⟩
abbrev s_law_one : Stmt := topS 35
theorem sc_law_one : FnScope ["_law_engine_here", "_law_some"] ["_law_engine_here", "_law_some"] (defScope s_law_one) := ⟨rfl, rfl, rfl, by decide +kernel, rfl, by decide +kernel, by decide +kernel⟩
abbrev s_law_book : Stmt := topS 36
theorem sc_law_book : FnScope ["_law_engine_here", "_law_many", "_law_letter"] ["_law_engine_here", "_law_many"] (defScope s_law_book) := ⟨rfl, rfl, rfl, by decide +kernel, rfl, by decide +kernel, by decide +kernel⟩
abbrev s_law_deed : Stmt := topS 38
theorem sc_law_deed : FnScope ["_law_engine_here", "_law_states", "_law_way", "_law_state", "_law_top"] ["_law_engine_here", "_law_states"] (defScope s_law_deed) := ⟨rfl, rfl, rfl, by decide +kernel, rfl, by decide +kernel, by decide +kernel⟩
abbrev s_law_once : Stmt := topS 39
theorem sc_law_once : FnScope ["_law_engine_here", "_law_states", "_law_state", "_law_some"] ["_law_engine_here", "_law_states"] (defScope s_law_once) := ⟨rfl, rfl, rfl, by decide +kernel, rfl, by decide +kernel, by decide +kernel⟩
abbrev s_law_end : Stmt := topS 42
theorem sc_law_end : FnScope ["_law_words", "_law_deeds", "_law_text", "_law_start", "_law_item"] ["_law_words", "_law_deeds", "_law_text", "_law_start"] (defScope s_law_end) := ⟨rfl, rfl, rfl, by decide +kernel, rfl, by decide +kernel, by decide +kernel⟩
abbrev s_law_heard : Stmt := topS 44
theorem sc_law_heard : FnScope ["_law_ask", "_law_caught", "error", "_law_kinds"] ["_law_ask"] (defScope s_law_heard) := ⟨rfl, rfl, rfl, by decide +kernel, rfl, by decide +kernel, by decide +kernel⟩
abbrev s_law_odd : Stmt := topS 45
theorem sc_law_odd : FnScope ["_law_engine_here", "_law_deeds", "_law_states", "_law_at", "_law_spot", "_law_low", "_law_found"] ["_law_engine_here", "_law_deeds", "_law_states"] (defScope s_law_odd) := ⟨rfl, rfl, rfl, by decide +kernel, rfl, by decide +kernel, by decide +kernel⟩
abbrev s_law_ends_right : Stmt := topS 46
theorem sc_law_ends_right : FnScope ["_law_engine_here", "_law_machine", "_law_words", "_law_deeds", "_law_states", "_law_turn", "_law_lap", "_law_row", "_law_start", "_law_due", "_law_number", "_law_items", "_law_text"] ["_law_engine_here", "_law_machine", "_law_words", "_law_deeds"] (defScope s_law_ends_right) := ⟨rfl, rfl, rfl, by decide +kernel, rfl, by decide +kernel, by decide +kernel⟩
abbrev s_law : Stmt := topS 47
theorem sc_law : FnScope ["_law_script", "_law_engine_here", "_law_turn", "_law_words", "_law_states", "_law_word", "_law_deeds", "_law_book_here", "_law_deed_here", "_law_passed", "_law_machine", "_law_due", "_law_other", "_law_none", "_law_odd_here", "_law_bad", "_law_low", "_law_wrong", "_law_heard_here"] ["_law_script"] (defScope s_law) := ⟨rfl, rfl, rfl, by decide +kernel, rfl, by decide +kernel, by decide +kernel⟩
abbrev s_BadBook_init : Stmt := inClass (topS 14) 0
theorem sc_BadBook_init : FnScope ["self", "part"] ["self", "part"] (defScope s_BadBook_init) := ⟨rfl, rfl, rfl, by decide +kernel, rfl, by decide +kernel, by decide +kernel⟩
theorem in_BadBook : IsInit s_BadBook_init := ⟨_, _, _, _, rfl, sc_BadBook_init, rfl, rfl⟩
abbrev s_BadMachine_init : Stmt := inClass (topS 17) 0
theorem sc_BadMachine_init : FnScope ["self", "part"] ["self", "part"] (defScope s_BadMachine_init) := ⟨rfl, rfl, rfl, by decide +kernel, rfl, by decide +kernel, by decide +kernel⟩
theorem in_BadMachine : IsInit s_BadMachine_init := ⟨_, _, _, _, rfl, sc_BadMachine_init, rfl, rfl⟩
abbrev s_BadNumber_init : Stmt := inClass (topS 11) 0
theorem sc_BadNumber_init : FnScope ["self", "part"] ["self", "part"] (defScope s_BadNumber_init) := ⟨rfl, rfl, rfl, by decide +kernel, rfl, by decide +kernel, by decide +kernel⟩
theorem in_BadNumber : IsInit s_BadNumber_init := ⟨_, _, _, _, rfl, sc_BadNumber_init, rfl, rfl⟩
abbrev s_BadText_init : Stmt := inClass (topS 12) 0
theorem sc_BadText_init : FnScope ["self", "part"] ["self", "part"] (defScope s_BadText_init) := ⟨rfl, rfl, rfl, by decide +kernel, rfl, by decide +kernel, by decide +kernel⟩
theorem in_BadText : IsInit s_BadText_init := ⟨_, _, _, _, rfl, sc_BadText_init, rfl, rfl⟩
abbrev s_BadRow_init : Stmt := inClass (topS 15) 0
theorem sc_BadRow_init : FnScope ["self", "part"] ["self", "part"] (defScope s_BadRow_init) := ⟨rfl, rfl, rfl, by decide +kernel, rfl, by decide +kernel, by decide +kernel⟩
theorem in_BadRow : IsInit s_BadRow_init := ⟨_, _, _, _, rfl, sc_BadRow_init, rfl, rfl⟩
structure Tx (K : PySem.W.Frag) (mg : Str → Option Value) where
  f_is_list : Addr
  fd_is_list : FuncData
  F_is_list : Fun K "is_list" "is_list" s_is_list f_is_list fd_is_list
  g_is_list : mg "is_list" = some (.ref f_is_list)
  b_is_list : Binds K fd_is_list ["value"] []
  f_is_integer : Addr
  fd_is_integer : FuncData
  F_is_integer : Fun K "is_integer" "is_integer" s_is_integer f_is_integer fd_is_integer
  g_is_integer : mg "is_integer" = some (.ref f_is_integer)
  b_is_integer : Binds K fd_is_integer ["value"] []
  f_is_within : Addr
  fd_is_within : FuncData
  F_is_within : Fun K "is_within" "is_within" s_is_within f_is_within fd_is_within
  g_is_within : mg "is_within" = some (.ref f_is_within)
  b_is_within : Binds K fd_is_within ["value", "least", "most"] []
  f_are_letters : Addr
  fd_are_letters : FuncData
  F_are_letters : Fun K "are_letters" "are_letters" s_are_letters f_are_letters fd_are_letters
  g_are_letters : mg "are_letters" = some (.ref f_are_letters)
  b_are_letters : Binds K fd_are_letters ["text"] []
  f_is_word : Addr
  fd_is_word : FuncData
  F_is_word : Fun K "is_word" "is_word" s_is_word f_is_word fd_is_word
  g_is_word : mg "is_word" = some (.ref f_is_word)
  b_is_word : Binds K fd_is_word ["value"] []
  f_is_text : Addr
  fd_is_text : FuncData
  F_is_text : Fun K "is_text" "is_text" s_is_text f_is_text fd_is_text
  g_is_text : mg "is_text" = some (.ref f_is_text)
  b_is_text : Binds K fd_is_text ["value"] []
  f_are_words : Addr
  fd_are_words : FuncData
  F_are_words : Fun K "are_words" "are_words" s_are_words f_are_words fd_are_words
  g_are_words : mg "are_words" = some (.ref f_are_words)
  b_are_words : Binds K fd_are_words ["value", "most"] []
  f_is_row : Addr
  fd_is_row : FuncData
  F_is_row : Fun K "is_row" "is_row" s_is_row f_is_row fd_is_row
  g_is_row : mg "is_row" = some (.ref f_is_row)
  b_is_row : Binds K fd_is_row ["book", "value"] []
  f_read : Addr
  fd_read : FuncData
  F_read : Fun K "read" "read" s_read f_read fd_read
  g_read : mg "read" = some (.ref f_read)
  b_read : Binds K fd_read ["book", "text"] []
  f_are_deeds : Addr
  fd_are_deeds : FuncData
  F_are_deeds : Fun K "are_deeds" "are_deeds" s_are_deeds f_are_deeds fd_are_deeds
  g_are_deeds : mg "are_deeds" = some (.ref f_are_deeds)
  b_are_deeds : Binds K fd_are_deeds ["value", "words"] []
  f_end_of_row : Addr
  fd_end_of_row : FuncData
  F_end_of_row : Fun K "end_of_row" "end_of_row" s_end_of_row f_end_of_row fd_end_of_row
  g_end_of_row : mg "end_of_row" = some (.ref f_end_of_row)
  b_end_of_row : Binds K fd_end_of_row ["deeds", "row", "start"] []
  f_law_engine : Addr
  fd_law_engine : FuncData
  F_law_engine : Fun K "_law_engine" "_law_engine" s_law_engine f_law_engine fd_law_engine
  g_law_engine : mg "_law_engine" = some (.ref f_law_engine)
  b_law_engine : Binds K fd_law_engine ["_law_script"] []
  f_law_crank : Addr
  fd_law_crank : FuncData
  F_law_crank : Fun K "_law_crank" "_law_crank" s_law_crank f_law_crank fd_law_crank
  g_law_crank : mg "_law_crank" = some (.ref f_law_crank)
  b_law_crank : Binds K fd_law_crank ["_law_engine_here", "_law_many"] []
  f_law_one : Addr
  fd_law_one : FuncData
  F_law_one : Fun K "_law_one" "_law_one" s_law_one f_law_one fd_law_one
  g_law_one : mg "_law_one" = some (.ref f_law_one)
  b_law_one : Binds K fd_law_one ["_law_engine_here", "_law_some"] []
  f_law_book : Addr
  fd_law_book : FuncData
  F_law_book : Fun K "_law_book" "_law_book" s_law_book f_law_book fd_law_book
  g_law_book : mg "_law_book" = some (.ref f_law_book)
  b_law_book : Binds K fd_law_book ["_law_engine_here", "_law_many"] []
  f_law_deed : Addr
  fd_law_deed : FuncData
  F_law_deed : Fun K "_law_deed" "_law_deed" s_law_deed f_law_deed fd_law_deed
  g_law_deed : mg "_law_deed" = some (.ref f_law_deed)
  b_law_deed : Binds K fd_law_deed ["_law_engine_here", "_law_states"] []
  f_law_once : Addr
  fd_law_once : FuncData
  F_law_once : Fun K "_law_once" "_law_once" s_law_once f_law_once fd_law_once
  g_law_once : mg "_law_once" = some (.ref f_law_once)
  b_law_once : Binds K fd_law_once ["_law_engine_here", "_law_states"] []
  f_law_end : Addr
  fd_law_end : FuncData
  F_law_end : Fun K "_law_end" "_law_end" s_law_end f_law_end fd_law_end
  g_law_end : mg "_law_end" = some (.ref f_law_end)
  b_law_end : Binds K fd_law_end ["_law_words", "_law_deeds", "_law_text", "_law_start"] []
  f_law_heard : Addr
  fd_law_heard : FuncData
  F_law_heard : Fun K "_law_heard" "_law_heard" s_law_heard f_law_heard fd_law_heard
  g_law_heard : mg "_law_heard" = some (.ref f_law_heard)
  b_law_heard : Binds K fd_law_heard ["_law_ask"] []
  f_law_odd : Addr
  fd_law_odd : FuncData
  F_law_odd : Fun K "_law_odd" "_law_odd" s_law_odd f_law_odd fd_law_odd
  g_law_odd : mg "_law_odd" = some (.ref f_law_odd)
  b_law_odd : Binds K fd_law_odd ["_law_engine_here", "_law_deeds", "_law_states"] []
  f_law_ends_right : Addr
  fd_law_ends_right : FuncData
  F_law_ends_right : Fun K "_law_ends_right" "_law_ends_right" s_law_ends_right f_law_ends_right fd_law_ends_right
  g_law_ends_right : mg "_law_ends_right" = some (.ref f_law_ends_right)
  b_law_ends_right : Binds K fd_law_ends_right ["_law_engine_here", "_law_machine", "_law_words", "_law_deeds"] []
  f_law : Addr
  fd_law : FuncData
  F_law : Fun K "law" "law" s_law f_law fd_law
  g_law : mg "law" = some (.ref f_law)
  b_law : Binds K fd_law ["_law_script"] []
  n_law : PySem.W.nsIn K mainGlobals "law" = some (some (.ref f_law))
  f_Book_init : Addr
  fd_Book_init : FuncData
  F_Book_init : Fun K "__init__" "Book.__init__" s_Book_init f_Book_init fd_Book_init
  b_Book_init : Binds K fd_Book_init ["self", "words"] []
  f_Book_eq : Addr
  fd_Book_eq : FuncData
  F_Book_eq : Fun K "__eq__" "Book.__eq__" s_Book_eq f_Book_eq fd_Book_eq
  b_Book_eq : Binds K fd_Book_eq ["self", "other"] []
  f_Machine_init : Addr
  fd_Machine_init : FuncData
  F_Machine_init : Fun K "__init__" "Machine.__init__" s_Machine_init f_Machine_init fd_Machine_init
  b_Machine_init : Binds K fd_Machine_init ["self", "book", "deeds"] []
  f_Machine_eq : Addr
  fd_Machine_eq : FuncData
  F_Machine_eq : Fun K "__eq__" "Machine.__eq__" s_Machine_eq f_Machine_eq fd_Machine_eq
  b_Machine_eq : Binds K fd_Machine_eq ["self", "other"] []
  f_Machine_done : Addr
  fd_Machine_done : FuncData
  F_Machine_done : Fun K "done" "Machine.done" s_Machine_done f_Machine_done fd_Machine_done
  b_Machine_done : Binds K fd_Machine_done ["self", "row", "start"] []
  f_Machine_done_text : Addr
  fd_Machine_done_text : FuncData
  F_Machine_done_text : Fun K "done_text" "Machine.done_text" s_Machine_done_text f_Machine_done_text fd_Machine_done_text
  b_Machine_done_text : Binds K fd_Machine_done_text ["self", "text", "start"] []
  C_Book : Addr
  gC_Book : mg "Book" = some (.ref C_Book)
  cl_Book : Cls K C_Book
  mk_Book : Mk K C_Book f_Book_init
  ob_Book : PySem.W.mroIn K C_Book (.type "object") = some true
  ne_Book : PySem.W.findIn K (.ref C_Book) "__ne__" = some (some (.builtin "object.__ne__"))
  oc_Book : PySem.W.findIn K (.ref C_Book) "__class__" = some (some (.builtin "object.__class__"))
  on_Book : PySem.W.specialIn K (.builtin "object.__class__") "__get__" = some (some (.builtin "getset_descriptor.__get__"))
  ot_Book : PySem.W.takesIn K (.builtin "object.__class__") = some true
  kc_Book : PySem.W.isClsIn K C_Book = true
  kt_Book : PySem.W.typeIn K (.ref C_Book) = some (.type "type")
  na_Book_words : NoAttr K C_Book "words"
  C_Machine : Addr
  gC_Machine : mg "Machine" = some (.ref C_Machine)
  cl_Machine : Cls K C_Machine
  mk_Machine : Mk K C_Machine f_Machine_init
  ob_Machine : PySem.W.mroIn K C_Machine (.type "object") = some true
  ne_Machine : PySem.W.findIn K (.ref C_Machine) "__ne__" = some (some (.builtin "object.__ne__"))
  oc_Machine : PySem.W.findIn K (.ref C_Machine) "__class__" = some (some (.builtin "object.__class__"))
  on_Machine : PySem.W.specialIn K (.builtin "object.__class__") "__get__" = some (some (.builtin "getset_descriptor.__get__"))
  ot_Machine : PySem.W.takesIn K (.builtin "object.__class__") = some true
  kc_Machine : PySem.W.isClsIn K C_Machine = true
  kt_Machine : PySem.W.typeIn K (.ref C_Machine) = some (.type "type")
  na_Machine_book : NoAttr K C_Machine "book"
  na_Machine_deeds : NoAttr K C_Machine "deeds"
  na_Machine_states : NoAttr K C_Machine "states"
  me_Book_eq : Meth K C_Book "__eq__" f_Book_eq
  me_Machine_eq : Meth K C_Machine "__eq__" f_Machine_eq
  me_Machine_done : Meth K C_Machine "done" f_Machine_done
  me_Machine_done_text : Meth K C_Machine "done_text" f_Machine_done_text
  k_TooMany : Addr
  gk_TooMany : mg "TooMany" = some (.ref k_TooMany)
  kc_TooMany : PySem.W.isClsIn K k_TooMany = true
  kt_TooMany : PySem.W.typeIn K (.ref k_TooMany) = some (.type "type")
  k_BadText : Addr
  gk_BadText : mg "BadText" = some (.ref k_BadText)
  kc_BadText : PySem.W.isClsIn K k_BadText = true
  kt_BadText : PySem.W.typeIn K (.ref k_BadText) = some (.type "type")
  k_BadEdits : Addr
  gk_BadEdits : mg "BadEdits" = some (.ref k_BadEdits)
  kc_BadEdits : PySem.W.isClsIn K k_BadEdits = true
  kt_BadEdits : PySem.W.typeIn K (.ref k_BadEdits) = some (.type "type")
  k_BadNumber : Addr
  gk_BadNumber : mg "BadNumber" = some (.ref k_BadNumber)
  kc_BadNumber : PySem.W.isClsIn K k_BadNumber = true
  kt_BadNumber : PySem.W.typeIn K (.ref k_BadNumber) = some (.type "type")
  k_BadBook : Addr
  gk_BadBook : mg "BadBook" = some (.ref k_BadBook)
  kc_BadBook : PySem.W.isClsIn K k_BadBook = true
  kt_BadBook : PySem.W.typeIn K (.ref k_BadBook) = some (.type "type")
  k_BadMachine : Addr
  gk_BadMachine : mg "BadMachine" = some (.ref k_BadMachine)
  kc_BadMachine : PySem.W.isClsIn K k_BadMachine = true
  kt_BadMachine : PySem.W.typeIn K (.ref k_BadMachine) = some (.type "type")
  k_BadRow : Addr
  gk_BadRow : mg "BadRow" = some (.ref k_BadRow)
  kc_BadRow : PySem.W.isClsIn K k_BadRow = true
  kt_BadRow : PySem.W.typeIn K (.ref k_BadRow) = some (.type "type")
  k_Misfit : Addr
  gk_Misfit : mg "Misfit" = some (.ref k_Misfit)
  kc_Misfit : PySem.W.isClsIn K k_Misfit = true
  kt_Misfit : PySem.W.typeIn K (.ref k_Misfit) = some (.type "type")
  su_BadMachine_TooMany : PySem.W.subIn K (.ref k_BadMachine) (.ref k_TooMany) = some false
  su_BadMachine_BadText : PySem.W.subIn K (.ref k_BadMachine) (.ref k_BadText) = some false
  su_BadMachine_BadEdits : PySem.W.subIn K (.ref k_BadMachine) (.ref k_BadEdits) = some false
  su_BadMachine_BadNumber : PySem.W.subIn K (.ref k_BadMachine) (.ref k_BadNumber) = some false
  su_BadMachine_BadBook : PySem.W.subIn K (.ref k_BadMachine) (.ref k_BadBook) = some false
  su_BadMachine_BadMachine : PySem.W.subIn K (.ref k_BadMachine) (.ref k_BadMachine) = some true
  su_BadMachine_BadRow : PySem.W.subIn K (.ref k_BadMachine) (.ref k_BadRow) = some false
  su_BadMachine_Misfit : PySem.W.subIn K (.ref k_BadMachine) (.ref k_Misfit) = some false
  su_BadNumber_TooMany : PySem.W.subIn K (.ref k_BadNumber) (.ref k_TooMany) = some false
  su_BadNumber_BadText : PySem.W.subIn K (.ref k_BadNumber) (.ref k_BadText) = some false
  su_BadNumber_BadEdits : PySem.W.subIn K (.ref k_BadNumber) (.ref k_BadEdits) = some false
  su_BadNumber_BadNumber : PySem.W.subIn K (.ref k_BadNumber) (.ref k_BadNumber) = some true
  su_BadNumber_BadBook : PySem.W.subIn K (.ref k_BadNumber) (.ref k_BadBook) = some false
  su_BadNumber_BadMachine : PySem.W.subIn K (.ref k_BadNumber) (.ref k_BadMachine) = some false
  su_BadNumber_BadRow : PySem.W.subIn K (.ref k_BadNumber) (.ref k_BadRow) = some false
  su_BadNumber_Misfit : PySem.W.subIn K (.ref k_BadNumber) (.ref k_Misfit) = some false
  su_BadBook_TooMany : PySem.W.subIn K (.ref k_BadBook) (.ref k_TooMany) = some false
  su_BadBook_BadText : PySem.W.subIn K (.ref k_BadBook) (.ref k_BadText) = some false
  su_BadBook_BadEdits : PySem.W.subIn K (.ref k_BadBook) (.ref k_BadEdits) = some false
  su_BadBook_BadNumber : PySem.W.subIn K (.ref k_BadBook) (.ref k_BadNumber) = some false
  su_BadBook_BadBook : PySem.W.subIn K (.ref k_BadBook) (.ref k_BadBook) = some true
  su_BadBook_BadMachine : PySem.W.subIn K (.ref k_BadBook) (.ref k_BadMachine) = some false
  su_BadBook_BadRow : PySem.W.subIn K (.ref k_BadBook) (.ref k_BadRow) = some false
  su_BadBook_Misfit : PySem.W.subIn K (.ref k_BadBook) (.ref k_Misfit) = some false
  su_BadText_TooMany : PySem.W.subIn K (.ref k_BadText) (.ref k_TooMany) = some false
  su_BadText_BadText : PySem.W.subIn K (.ref k_BadText) (.ref k_BadText) = some true
  su_BadText_BadEdits : PySem.W.subIn K (.ref k_BadText) (.ref k_BadEdits) = some false
  su_BadText_BadNumber : PySem.W.subIn K (.ref k_BadText) (.ref k_BadNumber) = some false
  su_BadText_BadBook : PySem.W.subIn K (.ref k_BadText) (.ref k_BadBook) = some false
  su_BadText_BadMachine : PySem.W.subIn K (.ref k_BadText) (.ref k_BadMachine) = some false
  su_BadText_BadRow : PySem.W.subIn K (.ref k_BadText) (.ref k_BadRow) = some false
  su_BadText_Misfit : PySem.W.subIn K (.ref k_BadText) (.ref k_Misfit) = some false
  su_BadRow_TooMany : PySem.W.subIn K (.ref k_BadRow) (.ref k_TooMany) = some false
  su_BadRow_BadText : PySem.W.subIn K (.ref k_BadRow) (.ref k_BadText) = some false
  su_BadRow_BadEdits : PySem.W.subIn K (.ref k_BadRow) (.ref k_BadEdits) = some false
  su_BadRow_BadNumber : PySem.W.subIn K (.ref k_BadRow) (.ref k_BadNumber) = some false
  su_BadRow_BadBook : PySem.W.subIn K (.ref k_BadRow) (.ref k_BadBook) = some false
  su_BadRow_BadMachine : PySem.W.subIn K (.ref k_BadRow) (.ref k_BadMachine) = some false
  su_BadRow_BadRow : PySem.W.subIn K (.ref k_BadRow) (.ref k_BadRow) = some true
  su_BadRow_Misfit : PySem.W.subIn K (.ref k_BadRow) (.ref k_Misfit) = some false
  su_Book_Machine : PySem.W.subIn K (.ref C_Book) (.ref C_Machine) = some false
  su_Book_Book : PySem.W.subIn K (.ref C_Book) (.ref C_Book) = some true
  m_isinstance : mg "isinstance" = none
  m_list : mg "list" = none
  m_tuple : mg "tuple" = none
  m_int : mg "int" = none
  m_bool : mg "bool" = none
  m_str : mg "str" = none
  m_len : mg "len" = none
  m_all : mg "all" = none
  m_set : mg "set" = none
  m_enumerate : mg "enumerate" = none
  m_abs : mg "abs" = none
  m_min : mg "min" = none
  m_range : mg "range" = none
  m_repr : mg "repr" = none
  e_BadBook : Er K mg "BadBook" "BadBook.__init__" s_BadBook_init "LetterError"
  e_BadMachine : Er K mg "BadMachine" "BadMachine.__init__" s_BadMachine_init "LetterError"
  e_BadNumber : Er K mg "BadNumber" "BadNumber.__init__" s_BadNumber_init "LetterError"
  e_BadText : Er K mg "BadText" "BadText.__init__" s_BadText_init "LetterError"
  e_BadRow : Er K mg "BadRow" "BadRow.__init__" s_BadRow_init "LetterError"
  t_MOST_LETTERS : Tok
  c_MOST_LETTERS : mg "MOST_LETTERS" = some (.int 12 t_MOST_LETTERS)
  t_MOST_SIGNS : Tok
  c_MOST_SIGNS : mg "MOST_SIGNS" = some (.int 200000 t_MOST_SIGNS)
  t_MOST_WORDS : Tok
  c_MOST_WORDS : mg "MOST_WORDS" = some (.int 40 t_MOST_WORDS)
  t_MOST_STATES : Tok
  c_MOST_STATES : mg "MOST_STATES" = some (.int 40 t_MOST_STATES)
  t_MOST_NUMBERS : Tok
  c_MOST_NUMBERS : mg "MOST_NUMBERS" = some (.int 10000 t_MOST_NUMBERS)
section
variable {P : Program} {w : World} {K : PySem.W.Frag} {mg : Str → Option Value} {base : Heap} (T : Tx K mg)
/-! ### checks -/
def sp_is_list (K : PySem.W.Frag) : Sp := fun vs H Q _ => ∃ (x : V) (n : String) (b : Bool), vs = [x] ∧ TyX K H x (.type n) ∧ PySem.W.kitAny K (.type n) [.type "list", .type "tuple"] = some b ∧ ∀ H', Same H H' → Q (.bl b) H'
theorem ok_is_list : FnOk P w K mg base CX0 1 T.f_is_list T.fd_is_list ["value"] (sp_is_list K) := by
  refine T.F_is_list.ok sc_is_list (fun vs H Q E h => ?_) (fun cdv A outer s H vs Q E hr h => ?_)
  · obtain ⟨x, n, b, rfl, _⟩ := h
    rfl
  · obtain ⟨x, n, b, rfl, ht, hk, q⟩ := h
    refine ⟨_, (pss_one (ps_ret (pe_callB call_isiT (by rfl) T.m_isinstance (by decide +kernel) (pa_cons (pv 0) (pa_cons (pe_tup (pa_cons (pe_bltn (v := .ty "list") (by rfl) T.m_list (by decide +kernel) rfl) (pa_cons (pe_bltn (v := .ty "tuple") (by rfl) T.m_tuple (by decide +kernel) rfl) pa_nil))) pa_nil))))), ?_⟩
    refine ⟨x, rfl, by show 2 ≤ sizeLine; decide, fun p np => ?_⟩
    exact ⟨x, p, _, _, _, b, rfl, upd_same, .cons (.ty _) (.cons (.ty _) .nil), tyx_same (same_new np) ht, hk, q _ (same_new np)⟩
def sp_is_integer (K : PySem.W.Frag) : Sp := fun vs H Q _ => ∃ (x : V) (n : String) (a b : Bool), vs = [x] ∧ TyX K H x (.type n) ∧ kitB n "int" = some a ∧ kitB n "bool" = some b ∧ Q (.bl (a && !b)) H
theorem ok_is_integer : FnOk P w K mg base CX0 1 T.f_is_integer T.fd_is_integer ["value"] (sp_is_integer K) := by
  refine T.F_is_integer.ok sc_is_integer (fun vs H Q E h => ?_) (fun cdv A outer s H vs Q E hr h => ?_)
  · obtain ⟨x, n, a, b, rfl, _⟩ := h
    rfl
  · obtain ⟨x, n, a, b, rfl, ht, h1, h2, q⟩ := h
    refine ⟨_, (pss_one (ps_ret (pe_and (pe_callB call_isi (by rfl) T.m_isinstance (by decide +kernel) (pa_cons (pv 0) (pa_cons (pe_bltn (v := .ty "int") (by rfl) T.m_int (by decide +kernel) rfl) pa_nil))) (pe_one (pe_not (pe_callB call_isi (by rfl) T.m_isinstance (by decide +kernel) (pa_cons (pv 0) (pa_cons (pe_bltn (v := .ty "bool") (by rfl) T.m_bool (by decide +kernel) rfl) pa_nil)))))))), ?_⟩
    refine ⟨x, rfl, x, _, _, _, a, rfl, .ty _, ht, kit_ty h1, a, rfl, iteC (fun e => ?_) (fun e => ?_)⟩
    · refine ⟨x, rfl, x, _, _, _, b, rfl, .ty _, ht, kit_ty h2, b, rfl, ?_⟩
      rw [e] at q
      exact q
    · rw [e] at q
      exact q
def sp_is_within (K : PySem.W.Frag) : Sp := fun vs H Q _ => ∃ (x : V) (lo hi : Option Int), vs = [x, bdV lo, bdV hi] ∧ HasInt K H x ∧ Q (.bl (withinV x lo hi)) H
theorem ok_is_within : FnOk P w K mg base CX0 2 T.f_is_within T.fd_is_within ["value", "least", "most"] (sp_is_within K) := by
  refine T.F_is_within.ok sc_is_within (fun vs H Q E h => ?_) (fun cdv A outer s H vs Q E hr h => ?_)
  · obtain ⟨i, lo, hi, rfl, _⟩ := h
    rfl
  · obtain ⟨x, lo, hi, rfl, ⟨n, a, b, ht, k1, k2, e⟩, q⟩ := h
    refine ⟨_, (pss_cons (ps_if (pt_not (pt_val (pe_call (ok_is_integer T) (hr.mono (by decide)) (by rfl) T.g_is_integer T.F_is_integer.kp T.b_is_integer .nil pass0 (pa_cons (pv 0) pa_nil))))
      (pss_one (ps_ret pe_bl))
      pss_nil)
    (pss_one (ps_ret (pe_and (pe_or (pe_cmpR op_isN (pv 1) pe_non (nomark _)) (pe_one (pe_cmpR op_ge (pv 0) (pv 1) (nomark _)))) (pe_one (pe_or (pe_cmpR op_isN (pv 2) pe_non (nomark _)) (pe_one (pe_cmpR op_le (pv 0) (pv 2) (nomark _))))))))), ?_⟩
    refine ⟨_, rfl, x, n, a, b, rfl, ht, k1, k2, _, rfl, ?_⟩
    rw [e]
    cases x with
    | int i =>
      refine iteF ⟨_, rfl, rfl, _, rfl, ?_⟩
      cases lo with
      | none =>
        refine iteT ⟨_, rfl, iteT ⟨_, rfl, rfl, _, rfl, ?_⟩⟩
        cases hi with
        | none => exact iteT q
        | some h => exact iteF ⟨_, rfl, _, rfl, _, _, rfl, rfl, q⟩
      | some l =>
        have q' : Q (.bl (decide (l ≤ i) && hiB i hi)) H := q
        refine iteF ⟨_, rfl, _, rfl, _, _, rfl, rfl, _, rfl, iteC (fun e => ?_) (fun e => ?_)⟩
        · rw [e] at q'
          refine ⟨_, rfl, rfl, _, rfl, ?_⟩
          cases hi with
          | none => exact iteT q'
          | some h => exact iteF ⟨_, rfl, _, rfl, _, _, rfl, rfl, q'⟩
        · rw [e] at q'
          exact q'
    | _ => exact iteT q
/-! ### words, signs, texts -/
def sp_are_letters (K : PySem.W.Frag) : Sp := fun vs H Q _ => ∃ (l : List Nat), vs = [.str (S l)] ∧ Q (.bl (lowB l)) H
theorem ok_are_letters : FnOk P w K mg base CX0 1 T.f_are_letters T.fd_are_letters ["text"] (sp_are_letters K) := by
  refine T.F_are_letters.ok sc_are_letters (fun vs H Q E h => ?_) (fun cdv A outer s H vs Q E hr h => ?_)
  · obtain ⟨l, rfl, _⟩ := h
    rfl
  · obtain ⟨l, rfl, q⟩ := h
    rw [← letters_S] at q
    refine ⟨_, (pss_one (ps_ret (pe_and (pe_m0 PySem.F.slot_str_isascii PySem.F.type_str_isascii mt_isascii (pv 0)) (pe_and (pe_m0 PySem.F.slot_str_isalpha PySem.F.type_str_isalpha mt_isalpha (pv 0)) (pe_one (pe_m0 PySem.F.slot_str_islower PySem.F.type_str_islower mt_islower (pv 0))))))), ?_⟩
    refine ⟨_, rfl, ⟨_, rfl⟩, S l, rfl, rfl, trivial, _, rfl, iteC (fun e => ?_) (fun e => ?_)⟩
    · rw [e] at q
      refine ⟨_, rfl, ⟨_, rfl⟩, S l, rfl, rfl, trivial, _, rfl, iteC (fun e => ?_) (fun e => ?_)⟩
      · rw [e] at q
        exact ⟨_, rfl, ⟨_, rfl⟩, S l, rfl, rfl, trivial, q⟩
      · rw [e] at q
        exact q
    · rw [e] at q
      exact q
/-- a text, or what is none -/
def StrIs (K : PySem.W.Frag) (H : Hp) (x : V) (o : Option (List Nat)) : Prop := match o with
  | some l => x = .str (S l) ∧ l.length ≤ 1000000
  | none => ∃ n, TyX K H x (.type n) ∧ kitB n "str" = some false
theorem StrIs.same {K : PySem.W.Frag} {H H' : Hp} {x : V} {o : Option (List Nat)} (e : Same H H') (h : StrIs K H x o) : StrIs K H' x o := by
  cases o with
  | some l => exact h
  | none =>
    obtain ⟨n, h1, h2⟩ := h
    exact ⟨n, tyx_same e h1, h2⟩
theorem kit_str : kitB "str" "str" = some true := by decide +kernel
def wordB (l : List Nat) : Bool := decide (l.length ≤ 12) && lowB l
def signB (l : List Nat) : Bool := decide (l.length = 1) && l.all sg
def sp_is_word (K : PySem.W.Frag) : Sp := fun vs H Q _ => ∃ (x : V) (o : Option (List Nat)), vs = [x] ∧ StrIs K H x o ∧ Q (.bl (o.elim false wordB)) H
theorem ok_is_word : FnOk P w K mg base CX0 2 T.f_is_word T.fd_is_word ["value"] (sp_is_word K) := by
  refine T.F_is_word.ok sc_is_word (fun vs H Q E h => ?_) (fun cdv A outer s H vs Q E hr h => ?_)
  · obtain ⟨x, o, rfl, _⟩ := h
    rfl
  · obtain ⟨x, o, rfl, hx, q⟩ := h
    refine ⟨_, (pss_one (ps_ret (pe_and (pe_callB call_isi (by rfl) T.m_isinstance (by decide +kernel) (pa_cons (pv 0) (pa_cons (pe_bltn (v := .ty "str") (by rfl) T.m_str (by decide +kernel) rfl) pa_nil))) (pe_and (pe_cmpR op_le (pe_callB call_len_str (by rfl) T.m_len PySem.boot_len (pa_cons (pv 0) pa_nil)) (pe_glob (v := .int 12) (by rfl) T.c_MOST_LETTERS ⟨_, rfl⟩) (nomark _)) (pe_one (pe_call (ok_are_letters T) (hr.mono (by decide)) (by rfl) T.g_are_letters T.F_are_letters.kp T.b_are_letters .nil pass0 (pa_cons (pv 0) pa_nil))))))), ?_⟩
    cases o with
    | none =>
      obtain ⟨n, h1, h2⟩ := hx
      exact ⟨x, rfl, x, _, _, _, false, rfl, .ty _, h1, kit_ty h2, _, rfl, iteF q⟩
    | some l =>
      obtain ⟨rfl, hl⟩ := hx
      refine ⟨_, rfl, _, _, _, _, true, rfl, .ty _, .base (.str (S l)), kit_ty kit_str, _, rfl, ?_⟩
      refine iteT (B := _) ?_
      have q' : Q (.bl (decide (l.length ≤ 12) && lowB l)) H := q
      have e1 : decide (((S l).length : Int) ≤ 12) = decide (l.length ≤ 12) := by
        rw [S_len]
        by_cases h : l.length ≤ 12
        · rw [decide_eq_true h, decide_eq_true (by omega)]
        · rw [decide_eq_false h, decide_eq_false (by omega)]
      refine ⟨_, rfl, S l, rfl, by rw [S_len]; exact Nat.le_trans hl (by decide), _, _, rfl, rfl, _, rfl, ?_⟩
      rw [e1]
      cases h : decide (l.length ≤ 12) with
      | true =>
        rw [h] at q'
        refine iteT (B := _) ?_
        exact ⟨_, rfl, l, rfl, q'⟩
      | false =>
        rw [h] at q'
        exact iteF q'
theorem StrIs.ext {K : PySem.W.Frag} {H H' : Hp} {x : V} {o : Option (List Nat)} (e : ExtN H H') (h : StrIs K H x o) : StrIs K H' x o := by
  cases o with
  | none =>
    obtain ⟨n, h1, h2⟩ := h
    exact ⟨n, tyx_ext e h1, h2⟩
  | some l => exact h
def sp_is_text (K : PySem.W.Frag) : Sp := fun vs H Q _ => ∃ (x : V) (o : Option (List Nat)), vs = [x] ∧ StrIs K H x o ∧ Q (.bl (o.elim false textB)) H
theorem ok_is_text : FnOk P w K mg base CX0 2 T.f_is_text T.fd_is_text ["value"] (sp_is_text K) := by
  refine okT T.F_is_text sc_is_text (by decide +kernel) (by decide) (fun vs H Q E h => ?_) (fun cdv A outer s H vs Q E hr h => ?_)
  · obtain ⟨x, o, rfl, _⟩ := h
    rfl
  · obtain ⟨x, o, rfl, hx, q⟩ := h
    refine ⟨_, (psst_cons (PST.of (ps_if (PW.pt (pw_or (pt_not (pt_val (pe_callB call_isi (by rfl) T.m_isinstance (by decide +kernel) (pa_cons (pv 0) (pa_cons (pe_bltn (v := .ty "str") (by rfl) T.m_str (by decide +kernel) rfl) pa_nil))))) (pw_or1 (pt_cmpR op_gt (pe_callB call_len_str (by rfl) T.m_len PySem.boot_len (pa_cons (pv 0) pa_nil)) (pe_glob (v := .int 200000) (by rfl) T.c_MOST_SIGNS ⟨_, rfl⟩) (nomark _)))))
      (pss_one (ps_ret pe_bl))
      pss_nil))
    (psst_cons (pst_set (i := 1) sc_is_text.nd rfl (.inl rfl) (CwR.pet_replC (pv 0)))
    (PSsT.of (pss_one (ps_ret (pe_or (pe_cmpR op_eq (pv 1) pe_str (nomark _)) (pe_one (pe_call (ok_are_letters T) (hr.mono (by decide)) (by rfl) T.g_are_letters T.F_are_letters.kp T.b_are_letters .nil pass0 (pa_cons (pv 1) pa_nil))))))))), ?_⟩
    cases o with
    | none =>
      obtain ⟨n, h1, h2⟩ := hx
      refine ⟨x, rfl, x, _, _, _, false, rfl, .ty _, h1, kit_ty h2, _, rfl, ?_⟩
      refine iteT (B := _) ?_
      refine iteT (B := _) ?_
      exact q
    | some l =>
      obtain ⟨rfl, hl⟩ := hx
      refine ⟨_, rfl, _, _, _, _, true, rfl, .ty _, .base (.str (S l)), kit_ty kit_str, _, rfl, ?_⟩
      refine iteF (A := _) ?_
      have q' : Q (.bl (decide (l.length ≤ 200000) && l.all sg)) H := q
      have e1 : decide ((200000 : Int) < ((S l).length : Int)) = !decide (l.length ≤ 200000) := by
        rw [S_len]
        by_cases h : l.length ≤ 200000
        · rw [decide_eq_true h, decide_eq_false (by omega)]
          rfl
        · rw [decide_eq_false h, decide_eq_true (by omega)]
          rfl
      refine ⟨_, rfl, S l, rfl, by rw [S_len]; exact Nat.le_trans hl (by decide), _, _, rfl, rfl, _, rfl, ?_⟩
      rw [e1]
      cases h : decide (l.length ≤ 200000) with
      | false =>
        rw [h] at q'
        refine iteT (B := _) ?_
        exact q'
      | true =>
        rw [h] at q'
        have h' : l.length ≤ 200000 := of_decide_eq_true h
        refine iteF (A := _) ?_
        refine ⟨_, rfl, S l, rfl, by rw [S_len]; show l.length + (l.length + 1) * 0 ≤ 16777216; omega, ?_⟩
        have eR : Txt.replace (S l) " " "" = S (l.filter (· != 32)) := replace_S l
        rw [eR]
        have q2 : Q (.bl ((l.filter (· != 32)).isEmpty || lowB (l.filter (· != 32)))) H := by
          rw [text_filter]
          exact q'
        refine ⟨_, rfl, rfl, _, rfl, ?_⟩
        rw [S_nil]
        cases hE : (l.filter (· != 32)).isEmpty with
        | true =>
          rw [hE] at q2
          refine iteT (B := _) ?_
          exact q2
        | false =>
          rw [hE] at q2
          refine iteF (A := _) ?_
          exact ⟨_, rfl, _, rfl, q2⟩
/-! ### books -/
def tx (l : List Nat) : V := .str (S l)
def txtV : V → Option (List Nat)
  | .str x => some x.cps.toList
  | _ => none
theorem txt_tx (l : List Nat) : txtV (tx l) = some l := by
  unfold txtV tx
  simp [S]
theorem tx_txt {v : V} {l : List Nat} (h : txtV v = some l) : v = tx l := by
  cases v with
  | str x =>
    have e : x.cps.toList = l := Option.some.inj h
    show V.str x = V.str (S l)
    rw [← e, S_of]
  | _ => cases h
theorem nodup_some {α : Type} : ∀ {l : List α}, l.Nodup → (l.map some).Nodup
  | [], _ => List.nodup_nil
  | a :: r, h => by
    rw [List.nodup_cons] at h
    rw [List.map_cons, List.nodup_cons]
    refine ⟨fun m => ?_, nodup_some h.2⟩
    obtain ⟨b, hb, e⟩ := List.mem_map.mp m
    exact h.1 (Option.some.inj e ▸ hb)
def wordV (v : V) : Bool := (txtV v).elim false wordB
theorem words_strs : ∀ (vs : List V), vs.all wordV = true → ∃ ls : List (List Nat), vs = ls.map tx ∧ vs.map txtV = ls.map some
  | [], _ => ⟨[], rfl, rfl⟩
  | v :: r, h => by
    rw [List.all_cons, Bool.and_eq_true] at h
    obtain ⟨ls, e1, e2⟩ := words_strs r h.2
    have h1 := h.1
    unfold wordV at h1
    cases ht : txtV v with
    | none =>
      rw [ht] at h1
      cases h1
    | some l => exact ⟨l :: ls, by rw [List.map_cons, ← e1, tx_txt ht], by rw [List.map_cons, List.map_cons, e2, ht]⟩
theorem nodup_map_S : ∀ (ls : List (List Nat)), (ls.map S).Nodup ↔ (ls.map some).Nodup
  | [] => by simp
  | l :: r => by
    rw [List.map_cons, List.map_cons, List.nodup_cons, List.nodup_cons, nodup_map_S r]
    have e : S l ∈ r.map S ↔ some l ∈ r.map some := by
      constructor
      · intro m
        obtain ⟨k, hk, e⟩ := List.mem_map.mp m
        have : k = l := by
          have := congrArg (fun z : Str => z.cps.toList) e
          simpa [S] using this
        rw [← this]
        exact List.mem_map.mpr ⟨k, hk, rfl⟩
      · intro m
        obtain ⟨k, hk, e⟩ := List.mem_map.mp m
        cases e
        exact List.mem_map.mpr ⟨l, hk, rfl⟩
    rw [e]
def wordsB (m : Nat) (os : List (Option (List Nat))) : Bool := decide (1 ≤ os.length) && decide (os.length ≤ m) && (os.all (fun o => o.elim false wordB) && decide os.Nodup)
/-- what is told as words, and which they are if they are any -/
def WArg (K : PySem.W.Frag) (H : Hp) (x : V) (m : Nat) (o : Option (List (List Nat))) : Prop :=
  (o = none ∧ ∃ n, TyX K H x (.type n) ∧ PySem.W.kitAny K (.type n) [.type "list", .type "tuple"] = some false) ∨
  ∃ (a : Addr) (vs : List V), x = .ref a ∧ SqQ K H a vs ∧ vs.length ≤ 4000 ∧ (∀ v ∈ vs, StrIs K H v (txtV v)) ∧ wordsB m (vs.map txtV) = o.isSome ∧ ∀ ws, o = some ws → vs = ws.map tx
theorem WArg.same {K : PySem.W.Frag} {H H' : Hp} {x : V} {m : Nat} {o : Option (List (List Nat))} (e : Same H H') (h : WArg K H x m o) : WArg K H' x m o := by
  rcases h with ⟨h1, n, h2, h3⟩ | ⟨a, vs, h1, h2, h3, h4, h5, h6⟩
  · exact .inl ⟨h1, n, tyx_same e h2, h3⟩
  · exact .inr ⟨a, vs, h1, Same.q e h2, h3, fun v m => (h4 v m).same e, h5, h6⟩
theorem WArg.ext {K : PySem.W.Frag} {H H' : Hp} {x : V} {m : Nat} {o : Option (List (List Nat))} (e : ExtN H H') (h : WArg K H x m o) : WArg K H' x m o := by
  rcases h with ⟨h1, n, h2, h3⟩ | ⟨a, vs, h1, h2, h3, h4, h5, h6⟩
  · exact .inl ⟨h1, n, tyx_ext e h2, h3⟩
  · exact .inr ⟨a, vs, h1, h2.imp (sqL_ext e) (sqT_ext e), h3, fun v m => (h4 v m).ext e, h5, h6⟩
theorem words_arg {K : PySem.W.Frag} {H : Hp} {a : Addr} {ws : List (List Nat)} {m : Nat} (h : SqQ K H a (ws.map tx)) (l1 : 1 ≤ ws.length) (l2 : ws.length ≤ m) (l3 : m ≤ 4000) (hw : ∀ w ∈ ws, wordB w = true) (nd : ws.Nodup) : WArg K H (.ref a) m (some ws) := by
  refine .inr ⟨a, _, rfl, h, by rw [List.length_map]; omega, fun v hv => ?_, ?_, fun ws' e => by cases e; rfl⟩
  · obtain ⟨w, hwm, rfl⟩ := List.mem_map.mp hv
    rw [txt_tx]
    refine ⟨rfl, ?_⟩
    have := hw w hwm
    unfold wordB at this
    rw [Bool.and_eq_true, decide_eq_true_eq] at this
    omega
  · have e : (ws.map tx).map txtV = ws.map some := by
      rw [List.map_map]
      refine List.map_congr_left fun w _ => ?_
      exact txt_tx w
    rw [e]
    unfold wordsB
    rw [List.length_map, decide_eq_true l1, decide_eq_true l2]
    simp only [Bool.true_and, Option.isSome_some, Bool.and_eq_true, decide_eq_true_eq]
    refine ⟨?_, ?_⟩
    · rw [List.all_map, List.all_eq_true]
      exact fun w hwm => hw w hwm
    · exact nodup_some nd
def sp_are_words (K : PySem.W.Frag) : Sp := fun vs H Q _ => ∃ (x : V) (m : Nat) (o : Option (List (List Nat))), vs = [x, .int m] ∧ WArg K H x m o ∧ ∀ H', Same H H' → Q (.bl o.isSome) H'
theorem ok_are_words : FnOk P w K mg base CX0 3 T.f_are_words T.fd_are_words ["value", "most"] (sp_are_words K) := by
  refine T.F_are_words.ok sc_are_words (fun vs H Q E h => ?_) (fun cdv A outer s H vs Q E hr h => ?_)
  · obtain ⟨x, m, o, rfl, _⟩ := h
    rfl
  · obtain ⟨x, m, o, rfl, h, q⟩ := h
    refine ⟨_, (pss_cons (ps_if (PW.pt (pw_or (pt_not (pt_val (pe_call (ok_is_list T) (hr.mono (by decide)) (by rfl) T.g_is_list T.F_is_list.kp T.b_is_list .nil pass0 (pa_cons (pv 0) pa_nil)))) (pw_or1 (pt_not (pt_chain op_le op_le pe_int (pe_callB call_len_seq (by rfl) T.m_len PySem.boot_len (pa_cons (pv 0) pa_nil)) (pv 1))))))
      (pss_one (ps_ret pe_bl))
      pss_nil)
    (pss_one (ps_ret (pe_and (pe_callB (cr_all rfl) (by rfl) T.m_all (by decide +kernel) (pa_cons (pe_lc (own := [("word", 2)]) rfl sc_are_words.nd (pi_seq (pv 0)) (blkOk_by (own := [("word", 2)]) (N := ["value", "most", "word"]) (sc := defScope s_are_words) (by decide +kernel)) (fun _ _ _ _ _ => (pg_name (i := 2) sc_are_words.nd rfl (.inl rfl))) (fun _ _ _ _ _ => pts_nil) (fun _ _ _ _ _ => (pe_call (ok_is_word T) (hr.mono (by decide)) (by rfl) T.g_is_word T.F_is_word.kp T.b_is_word .nil pass0 (pa_cons (pv 2) pa_nil)))) pa_nil)) (pe_one (pe_cmpR op_eq (pe_lenSetN (by rfl) T.m_len (by rfl) T.m_set (pv 0)) (pe_callB call_len_seq (by rfl) T.m_len PySem.boot_len (pa_cons (pv 0) pa_nil)) (nomark _))))))), ?_⟩
    rcases h with ⟨rfl, n, ht, hk⟩ | ⟨a, ws, rfl, hq, hl, hw, hb, _⟩
    · refine go_seq (go_if (go_or2 (go_not (go_b ⟨x, rfl, x, n, false, rfl, ht, hk, fun H1 e1 => ⟨_, rfl, iteT (B := _) (iteT (B := _) (go_ret (q H1 e1)))⟩⟩))))
    · obtain ⟨n, ht, hk⟩ := isl_q hq
      refine go_seq (go_if (go_or2 (go_not (go_b ⟨_, rfl, _, n, true, rfl, ht, hk, fun H1 e1 => ⟨_, rfl, iteF (A := _) ?_⟩⟩))))
      have hb' : (decide (1 ≤ ws.length) && decide (ws.length ≤ m) && (ws.all wordV && decide (ws.map txtV).Nodup)) = o.isSome := by
        rw [← hb]
        unfold wordsB
        rw [List.length_map, List.all_map]
        rfl
      have f1 : decide ((1 : Int) ≤ (ws.length : Int)) = decide (1 ≤ ws.length) := by
        by_cases h : 1 ≤ ws.length
        · rw [decide_eq_true h, decide_eq_true (by omega)]
        · rw [decide_eq_false h, decide_eq_false (by omega)]
      have f2 : decide ((ws.length : Int) ≤ (m : Int)) = decide (ws.length ≤ m) := by
        by_cases h : ws.length ≤ m
        · rw [decide_eq_true h, decide_eq_true (by omega)]
        · rw [decide_eq_false h, decide_eq_false (by omega)]
      refine go_not (go_test (go_chain (go_c (go_cb (go_cons (go_var rfl (go_nil ⟨a, ws, rfl, Same.q e1 hq, ?_⟩)))))))
      refine ⟨_, _, rfl, rfl, _, rfl, ?_⟩
      rw [f1]
      refine iteC (fun h1 => ?_) (fun h1 => ?_)
      · refine go_var rfl ⟨_, _, rfl, rfl, _, rfl, ?_⟩
        rw [f2]
        rw [h1, Bool.true_and] at hb'
        refine iteC (fun h2 => ?_) (fun h2 => ?_)
        · have h2 : decide (ws.length ≤ m) = false := by simpa using h2
          rw [h2, Bool.false_and] at hb'
          rw [← hb'] at q
          exact go_ret (q H1 e1)
        · have h2 : decide (ws.length ≤ m) = true := by simpa using h2
          rw [h2, Bool.true_and] at hb'
          dsimp only [tNext]
          refine go_ret (go_and (go_cb (go_cons (lc_seqmap (a := a) (xs := ws) (fun v => .bl (wordV v)) (by exact rfl) (Same.q e1 hq) (by omega) (fun i v Hc Q' R' hv e2 q' => ?_) (fun D Hc e2 hD => ?_)))))
          · refine ⟨rfl, ?_⟩
            refine iteT (B := True) ?_
            exact ⟨_, rfl, v, txtV v, rfl, ((hw v (List.mem_of_getElem? hv)).same e1).same e2, q' Hc (Same.refl _)⟩
          · refine ⟨D, ws.map wordV, rfl, .inl (.inl (by rw [hD, List.map_map]; rfl)), ?_⟩
            rw [List.all_map]
            refine ⟨_, rfl, iteC (fun h3 => ?_) (fun h3 => ?_)⟩
            · have h3 : ws.all wordV = true := h3
              rw [h3, Bool.true_and] at hb'
              obtain ⟨ls, e3, e4⟩ := words_strs ws h3
              refine go_op ⟨_, rfl, a, ls.map S, rfl, ?_, ?_, ?_⟩
              · have : (ls.map S).map V.str = ws := by
                  rw [List.map_map, e3]
                  rfl
                rw [this]
                exact Same.q (e1.trans e2) hq
              · rw [List.length_map]
                rw [e3, List.length_map] at hl
                exact hl
              refine go_cb (go_cons (go_var rfl (go_nil ⟨a, ws, rfl, Same.q (e1.trans e2) hq, rfl, ?_⟩)))
              have e5 : decide (V.int ((onceS (ls.map S)).length : Nat) = V.int (ws.length : Nat)) = o.isSome := by
                rw [← hb', e4]
                have hz : ws.length = (ls.map S).length := by rw [e3, List.length_map, List.length_map]
                have h := (onceS_nodup (ls.map S)).trans (nodup_map_S ls)
                by_cases hd : (ls.map some).Nodup
                · rw [decide_eq_true hd, decide_eq_true]
                  rw [h.mpr hd, hz]
                · rw [decide_eq_false hd, decide_eq_false]
                  intro e
                  injection e with e
                  exact hd (h.mp (by omega))
              rw [e5]
              exact q _ (e1.trans e2)
            · have h3 : ws.all wordV = false := h3
              rw [h3, Bool.false_and] at hb'
              rw [← hb'] at q
              exact q _ (e1.trans e2)
      · rw [h1, Bool.false_and, Bool.false_and] at hb'
        rw [← hb'] at q
        exact ⟨_, rfl, iteT (B := _) (go_ret (q H1 e1))⟩
/-! ### Book -/
def BookAt (K : PySem.W.Frag) (C : Addr) (H : Hp) (p : Addr) (ws : List (List Nat)) : Prop := ∃ dx t, H p = some (.ins C dx [("words", .ref t)]) ∧ SqT K H t (ws.map tx) ∧ TupN K H t
theorem BookAt.same {C : Addr} {H H' : Hp} {p : Addr} {ws : List (List Nat)} (e : Same H H') (h : BookAt K C H p ws) : BookAt K C H' p ws := by
  obtain ⟨dx, t, h1, h2, h3⟩ := h
  exact ⟨dx, t, e _ _ h1, Same.t e h2, h3.same e⟩
theorem BookAt.ext {C : Addr} {H H' : Hp} {p : Addr} {ws : List (List Nat)} (e : ExtN H H') (h : BookAt K C H p ws) : BookAt K C H' p ws := by
  obtain ⟨dx, t, h1, h2, h3⟩ := h
  exact ⟨dx, t, ext_at e h1, sqT_ext e h2, h3.ext e⟩
def WSeq (K : PySem.W.Frag) (H : Hp) (x : V) (ws : List (List Nat)) : Prop := ∃ a, x = .ref a ∧ (SqL K H a (ws.map tx) ∨ (SqT K H a (ws.map tx) ∧ TupN K H a))
theorem WSeq.same {H H' : Hp} {x : V} {ws : List (List Nat)} (e : Same H H') (h : WSeq K H x ws) : WSeq K H' x ws := by
  obtain ⟨a, h1, h2 | ⟨h2, h3⟩⟩ := h
  · exact ⟨a, h1, .inl (e.seq h2)⟩
  · exact ⟨a, h1, .inr ⟨Same.t e h2, h3.same e⟩⟩
theorem BookAt.put {C : Addr} {H : Hp} {p q : Addr} {ws : List (List Nat)} {xs : List V} {o : HO} (hq : H q = some (.lst xs)) (h : BookAt K C H p ws) : BookAt K C (upd H q o) p ws := by
  obtain ⟨dx, t, h1, h2, h3⟩ := h
  refine ⟨dx, t, by rw [upd_ne (ne_of_two h1 hq (fun z => by cases z))]; exact h1, ?_, ?_⟩
  · rcases h2 with (h | ⟨ob, h⟩) | h
    · exact .inl (.inl (by rw [upd_ne (ne_of_two h hq (fun z => by cases z))]; exact h))
    · exact .inl (.inr ⟨ob, by rw [upd_ne (ne_of_two h hq (fun z => by cases z))]; exact h⟩)
    · exact .inr h
  · rcases h3 with ⟨ob, ys, h, d⟩ | h
    · exact .inl ⟨ob, ys, by rw [upd_ne (ne_of_two h hq (fun z => by cases z))]; exact h, d⟩
    · exact .inr h
def sp_Book_init (K : PySem.W.Frag) (C CB : Addr) : Sp := fun vs H Q E => ∃ (p dx : Addr) (x : V) (o : Option (List (List Nat))), vs = [.ref p, x] ∧ H p = some (.ins C dx []) ∧ WArg K H x 40 o ∧ (∀ ws, o = some ws → WSeq K H x ws) ∧ (o = none → RaisedPart E CB H "words") ∧
  ∀ ws, o = some ws → ∀ H', (∀ b u, H b = some u → b ≠ p → H' b = some u) → BookAt K C H' p ws → Q .non H'
theorem ok_Book_init : FnOk P w K mg base (L2.CX P w) 7 T.f_Book_init T.fd_Book_init ["self", "words"] (sp_Book_init K T.C_Book T.e_BadBook.C) := by
  refine T.F_Book_init.okX sc_Book_init (fun vs H Q E h => ?_) (fun cdv A outer s H vs Q E hr h => ?_)
  · obtain ⟨p, dx, x, o, rfl, _⟩ := h
    rfl
  · obtain ⟨p, dx, x, o, rfl, hp, hW, hN, he, q⟩ := h
    refine ⟨_, (pss_cons (ps_if (pt_not (pt_val (pe_call (ok_are_words T) (hr.mono (by decide)) (by rfl) T.g_are_words T.F_are_words.kp T.b_are_words .nil pass0 (pa_cons (pv 1) (pa_cons (pe_glob (v := .int 40) (by rfl) T.c_MOST_WORDS ⟨_, rfl⟩) pa_nil)))))
      (pss_one (ps_raise rfl (takes_of rfl rfl rfl rfl) (pmk_oex T.e_BadBook.oex T.e_BadBook.iC T.e_BadBook.tI (ok_init T.e_BadBook in_BadBook) (hr.mono (by decide)) T.e_BadBook.b .nil pass0 (by rfl) T.e_BadBook.gC (pa_cons pe_str pa_nil))))
      pss_nil)
    (pss_one (ps_fld (pv 0) (pe_callTy call_tuple_frz (by rfl) T.m_tuple (by decide +kernel) (pa_cons (pv 1) pa_nil)) rfl))), ?_⟩
    refine go_seq (go_if (go_not (go_b ⟨x, rfl, x, 40, o, rfl, hW, fun H1 e1 => ⟨_, rfl, ?_⟩⟩)))
    cases o with
    | none =>
      refine iteT (B := _) ?_
      exact mk_part T.e_BadBook.oex T.e_BadBook.np fun d H' e2 hd => he rfl d H' (e1.trans e2) hd
    | some ws =>
      refine iteF (A := _) ?_
      dsimp only [tNext]
      obtain ⟨a, rfl, hq⟩ := hN ws rfl
      have hp1 := e1 _ _ hp
      rcases hq with hq | ⟨hq, hn⟩
      · refine ⟨_, rfl, a, _, rfl, .inl ⟨e1.seq hq, fun t ob nt hd => ?_⟩⟩
        have hpt : p ≠ t := ne_of_none hp1 nt
        refine ⟨_, rfl, p, T.C_Book, dx, [], rfl, by rw [upd_ne hpt]; exact hp1, T.cl_Book, T.na_Book_words, by show 0 < 1000; decide, ?_⟩
        refine q ws rfl _ (fun b u hb hne => ?_) ⟨dx, t, upd_same, .inl (.inr ⟨ob, by rw [upd_ne (Ne.symm hpt), upd_same]⟩), .inl ⟨ob, _, by rw [upd_ne (Ne.symm hpt), upd_same], hd⟩⟩
        have hb1 := e1 _ _ hb
        rw [upd_ne hne, upd_ne (ne_of_none hb1 nt)]
        exact hb1
      · have hn := hn.same e1
        have hq1 := Same.t e1 hq
        refine ⟨_, rfl, a, _, rfl, .inr ⟨hq1, ?_⟩⟩
        refine ⟨_, rfl, p, T.C_Book, dx, [], rfl, hp1, T.cl_Book, T.na_Book_words, by show 0 < 1000; decide, ?_⟩
        refine q ws rfl _ (fun b u hb hne => ?_) ⟨dx, a, upd_same, sqT_put hp1 hq1, tupN_put hp1 hn⟩
        rw [upd_ne hne]
        exact e1 _ _ hb
/-- Book(x), x right words -/
theorem book_new {E : XK} {C CB x dx : Addr} {H : Hp} {v : V} {ws : List (List Nat)} {P : VK} (nx : H x = none) (ndx : H dx = none) (hW : WArg K H v 40 (some ws)) (hS : WSeq K H v ws) (q : ∀ H', Same H H' → BookAt K C H' x ws → P .non H') :
    sp_Book_init K C CB [.ref x, v] (upd (upd H dx (.own x)) x (.ins C dx [])) P E := by
  have s1 : Same H (upd (upd H dx (.own x)) x (.ins C dx [])) := fun b u h => by
    rw [upd_ne (ne_of_none h nx), upd_ne (ne_of_none h ndx)]
    exact h
  refine ⟨x, dx, v, some ws, rfl, upd_same, hW.same s1, fun ws' e => ?_, (fun e => by cases e), fun ws' e H' keep hb => q H' (fun b u h => keep b u (s1 _ _ h) (ne_of_none h nx)) ?_⟩
  · cases e
    exact hS.same s1
  · cases e
    exact hb
/-- Book(x), x no words -/
theorem book_none {E : XK} {C CB x dx : Addr} {H : Hp} {v : V} {P : VK} (nx : H x = none) (ndx : H dx = none) (hW : WArg K H v 40 none) (he : ∀ d H', Same H H' → H' d = some (.xd [("part", .str "words")]) → E (.ref CB) (some d) H') :
    sp_Book_init K C CB [.ref x, v] (upd (upd H dx (.own x)) x (.ins C dx [])) P E := by
  have s1 : Same H (upd (upd H dx (.own x)) x (.ins C dx [])) := fun b u h => by
    rw [upd_ne (ne_of_none h nx), upd_ne (ne_of_none h ndx)]
    exact h
  exact ⟨x, dx, v, none, rfl, upd_same, hW.same s1, fun ws' e => (by cases e), fun _ d H' e hd => he d H' (s1.trans e) hd, fun ws' e => by cases e⟩
end
end K21
namespace K21
open PySem PySem.Spec PyProof.Rows L2 Kx SX LamX
section
variable {P : Program} {w : World} {K : PySem.W.Frag} {mg : Str → Option Value} {base : Heap} (T : Tx K mg)
/-! ### read -/
/-- the dict of a book's words -/
def kvN : Nat → List (List Nat) → List (Key × V)
  | _, [] => []
  | i, w :: r => (.inr (S w), .int (i : Nat)) :: kvN (i + 1) r
theorem kvN_snoc : ∀ (i : Nat) (ws : List (List Nat)) (w : List Nat), kvN i (ws ++ [w]) = kvN i ws ++ [(.inr (S w), .int ((i + ws.length : Nat) : Int))]
  | i, [], w => rfl
  | i, x :: r, w => by
    show _ :: kvN (i + 1) (r ++ [w]) = _ :: (kvN (i + 1) r ++ _)
    rw [kvN_snoc (i + 1) r w, show i + 1 + r.length = i + (x :: r).length by rw [List.length_cons]; omega]
theorem S_inj {a b : List Nat} (h : S a = S b) : a = b := by
  have := congrArg (fun z : Str => z.cps.toList) h
  simpa [S] using this
theorem kvN_any : ∀ (i : Nat) (ws : List (List Nat)) (w : List Nat), w ∉ ws → ((kvN i ws).any fun kv => decide (kv.1 = (.inr (S w) : Key))) = false
  | _, [], _, _ => rfl
  | i, x :: r, w, h => by
    show (decide ((Sum.inr (S x) : Key) = .inr (S w)) || (kvN (i + 1) r).any fun kv => decide (kv.1 = (.inr (S w) : Key))) = false
    rw [kvN_any (i + 1) r w (fun m => h (List.mem_cons_of_mem _ m)), decide_eq_false fun e => h (by injection e with e; rw [S_inj e]; exact List.mem_cons_self)]
    rfl
theorem kvN_put {i : Nat} {ws : List (List Nat)} {w : List Nat} (h : w ∉ ws) : putK (kvN i ws) (.inr (S w)) (.int ((i + ws.length : Nat) : Int)) = kvN i (ws ++ [w]) := by
  unfold putK
  rw [kvN_any i ws w h, kvN_snoc]
  rfl
theorem kvN_len : ∀ (i : Nat) (ws : List (List Nat)), (kvN i ws).length = ws.length
  | _, [] => rfl
  | i, x :: r => by
    show (kvN (i + 1) r).length + 1 = _
    rw [kvN_len (i + 1) r, List.length_cons]
/-- the number of a word -/
def numOf : Nat → List (List Nat) → List Nat → Option Nat
  | _, [], _ => none
  | i, w :: r, x => if w = x then some i else numOf (i + 1) r x
theorem kvN_val : ∀ (i : Nat) (ws : List (List Nat)) (x : List Nat), valV (kvN i ws) (.inr (S x)) = (numOf i ws x).map fun k : Nat => V.int k
  | _, [], _ => rfl
  | i, w :: r, x => by
    have ih := kvN_val (i + 1) r x
    rw [show numOf i (w :: r) x = if w = x then some i else numOf (i + 1) r x from rfl]
    unfold valV at *
    show ((((Sum.inr (S w) : Key), V.int (i : Nat)) :: kvN (i + 1) r).find? fun kv => decide (kv.1 = (.inr (S x) : Key))).map (·.2) = _
    rw [List.find?_cons]
    by_cases e : w = x
    · rw [if_pos e, e]
      simp
    · rw [if_neg e, decide_eq_false fun z => e (by injection z with z; exact S_inj z)]
      exact ih
/-- the numbers that are read of a text -/
def readN (ws : List (List Nat)) (l : List Nat) : List Nat := (itemsA [] l).filterMap (numOf 0 ws)
def sp_read (K : PySem.W.Frag) (CB ET : Addr) : Sp := fun vs H Q E => ∃ (bk : Addr) (ws : List (List Nat)) (y : V) (o : Option (List Nat)), vs = [.ref bk, y] ∧ BookAt K CB H bk ws ∧ ws.length ≤ 40 ∧ ws.Nodup ∧ StrIs K H y o ∧
  (o.elim false textB = false → RaisedPart E ET H "text") ∧ ∀ l, o = some l → textB l = true → ∀ p H', SqT K H' p ((readN ws l).map fun s : Nat => V.int s) → TupN K H' p → Same H H' → Q (.ref p) H'
theorem ok_read : FnOk P w K mg base (L2.CX P w) 6 T.f_read T.fd_read ["book", "text"] (sp_read K T.C_Book T.e_BadText.C) := by
  refine T.F_read.okX sc_read (fun vs H Q E h => ?_) (fun cdv A outer s H vs Q E hr h => ?_)
  · obtain ⟨bk, ws, y, o, rfl, _⟩ := h
    rfl
  · obtain ⟨bk, ws, y, o, rfl, ⟨dx, t, hb, ht, htn⟩, l2, nd, hy, hE, q⟩ := h
    refine ⟨_, (pss_cons (ps_if (pt_not (pt_val (pe_callB call_isi (by rfl) T.m_isinstance (by decide +kernel) (pa_cons (pv 0) (pa_cons (pe_glob (v := .ref T.C_Book) (by rfl) T.gC_Book rfl) pa_nil)))))
      (pss_one (ps_raise rfl (takes_of rfl rfl rfl rfl) (pmk_oex T.e_BadBook.oex T.e_BadBook.iC T.e_BadBook.tI (ok_init T.e_BadBook in_BadBook) (hr.mono (by decide)) T.e_BadBook.b .nil pass0 (by rfl) T.e_BadBook.gC (pa_cons pe_str pa_nil))))
      pss_nil)
    (pss_cons (ps_if (pt_not (pt_val (pe_call (ok_is_text T) (hr.mono (by decide)) (by rfl) T.g_is_text T.F_is_text.kp T.b_is_text .nil pass0 (pa_cons (pv 1) pa_nil))))
      (pss_one (ps_raise rfl (takes_of rfl rfl rfl rfl) (pmk_oex T.e_BadText.oex T.e_BadText.iC T.e_BadText.tI (ok_init T.e_BadText in_BadText) (hr.mono (by decide)) T.e_BadText.b .nil pass0 (by rfl) T.e_BadText.gC (pa_cons pe_str pa_nil))))
      pss_nil)
    (pss_cons (ps_set (i := 4) sc_read.nd rfl (.inr rfl) (pe_dc (own := [("number", 2), ("word", 3)]) rfl sc_read.nd (pi_enumT (by rfl) T.m_enumerate (pa_cons (pe_fld (pv 0) rfl) pa_nil)) (blkOk_by (own := [("number", 2), ("word", 3)]) (N := ["book", "text", "number", "word", "numbers", "item"]) (sc := defScope s_read) (by decide +kernel)) (fun _ _ _ _ _ => (inK_pg_tup (K := K) (n := 2) (t := (gCons (gName 2) (gCons (gName 3) gNil))) rfl rfl (pgs_cons (pg_name (i := 2) sc_read.nd rfl (.inl rfl)) (pgs_cons (pg_name (i := 3) sc_read.nd rfl (.inl rfl)) pgs_nil)))) (fun _ _ _ _ _ => pts_nil) (fun _ _ _ _ _ => (pv 3)) (fun _ _ _ _ _ => (pv 2))))
    (pss_one (ps_ret (pe_callTy call_tuple_frz (by rfl) T.m_tuple (by decide +kernel) (pa_cons (pe_lc (own := [("item", 5)]) rfl sc_read.nd (pi_list (pe_split (pv 1) pe_str)) (blkOk_by (own := [("item", 5)]) (N := ["book", "text", "number", "word", "numbers", "item"]) (sc := defScope s_read) (by decide +kernel)) (fun _ _ _ _ _ => (pg_name (i := 5) sc_read.nd rfl (.inl rfl))) (fun _ _ _ _ _ => pts_one (pt_cmp (pc_din (Nat.lt_of_le_of_lt (Nat.add_le_add_left (show 1 ≤ 64 by decide) _) hr.units) (pv 5) (pv 4)) rfl)) (fun _ _ _ _ _ => (pe_dget (Nat.lt_of_le_of_lt (Nat.add_le_add_left (show 1 ≤ 64 by decide) _) hr.units) (pv 4) (pv 5) (fun _ _ => rfl)))) pa_nil))))))), ?_⟩
    refine go_seq (go_if (go_not (go_b ⟨_, rfl, .ref bk, .ref T.C_Book, _, _, true, rfl, .own _, .base (.ins hb T.cl_Book T.oc_Book T.on_Book T.ot_Book T.ob_Book), kitOne_self, _, rfl, iteF (A := _) ?_⟩)))
    dsimp only [tNext]
    refine go_seq (go_if (go_not (go_b ⟨_, rfl, y, o, rfl, hy, _, rfl, ?_⟩)))
    cases hbt : o.elim false textB with
    | false =>
      refine iteT (B := _) ?_
      exact mk_part T.e_BadText.oex T.e_BadText.np (hE hbt)
    | true =>
      refine iteF (A := _) ?_
      cases o with
      | none => cases hbt
      | some l =>
        obtain ⟨rfl, hl⟩ := hy
        dsimp only [tNext]
        have lt : (ws.map tx).length = ws.length := List.length_map ..
        refine go_seq (go_asg ⟨_, rfl, bk, T.C_Book, dx, _, .ref t, rfl, hb, T.cl_Book, T.na_Book_words, rfl, t, _, rfl, ht, fun D nD => dc_it (walk_enumT (xs := ws.map tx)) (fun i H' => H' D = some (.dK (kvN 0 (ws.take i))) ∧ Same H H') ⟨upd_same, same_new nD⟩ (fun i Hc _ h => Same.t h.2 ht) (fun i x Hc Hx hi h y => ?_) (fun Hc h => ?_)⟩)
        · obtain ⟨t', x', rfl, nt, rfl, hx⟩ := y
          obtain ⟨w, hw, rfl⟩ := map_at hx
          obtain ⟨hD, e⟩ := h
          have hi' : i < ws.length := by omega
          have hDt : D ≠ t' := ne_of_none hD nt
          refine ⟨t', _, rfl, .inl (.inl upd_same), rfl, _, _, rfl, _, _, rfl, rfl, rfl, ?_⟩
          refine iteT (B := True) ?_
          refine ⟨_, rfl, _, rfl, kvN 0 (ws.take i), .inr (S w), rfl, by rw [upd_ne hDt]; exact hD, ?_, ?_, ?_⟩
          · rw [kvN_len, List.length_take]
            exact Nat.lt_of_le_of_lt (Nat.min_le_left _ _) (Nat.lt_of_lt_of_le (show i < 41 by omega) (by decide))
          · have hwi : ws[i] = w := by
              rw [List.getElem?_eq_getElem hi'] at hw
              exact Option.some.inj hw
            have hn : w ∉ ws.take i := fun m => by
              have nd2 := nd
              rw [← List.take_append_drop i ws, List.drop_eq_getElem_cons hi', hwi, List.nodup_append] at nd2
              exact nd2.2.2 w m w List.mem_cons_self rfl
            have ln : (ws.take i).length = i := by rw [List.length_take]; omega
            have := kvN_put (i := 0) hn
            rw [ln, Nat.zero_add] at this
            rw [upd_same, this, List.take_add_one, hw]
            rfl
          · exact same_set (e.trans (same_new nt)) nD
        obtain ⟨hD, e⟩ := h
        rw [lt, List.take_length] at hD
        dsimp only [gName]
        refine go_ret (go_cb (go_cons ⟨_, rfl, ⟨_, rfl⟩, S l, " ", rfl, rfl, rfl, by rw [S_len]; exact Nat.le_trans (Nat.add_le_add_right hl 2) (by decide : 1000000 + 2 ≤ sizeLine), fun p np => ?_⟩))
        rw [split_items]
        have eV : ((itemsA [] l).map S).map V.str = (itemsA [] l).map fun it => V.str (S it) := by
          rw [List.map_map]
          rfl
        rw [eV]
        have il : (itemsA [] l).length ≤ 1000000 := by
          have h1 : textB l = true := hbt
          unfold textB at h1
          rw [Bool.and_eq_true, decide_eq_true_eq] at h1
          have h3 := List.count_le_length (a := 32) (l := l)
          rw [items_length]
          omega
        have hD1 := same_new (o := HO.lst ((itemsA [] l).map fun it => V.str (S it))) np _ _ hD
        have e1 := e.trans (same_new (o := HO.lst ((itemsA [] l).map fun it => V.str (S it))) np)
        have hp1 := upd_same (H := Hc) (a := p) (o := HO.lst ((itemsA [] l).map fun it => V.str (S it)))
        generalize upd Hc p (HO.lst ((itemsA [] l).map fun it => V.str (S it))) = H1 at hD1 e1 hp1 ⊢
        refine ⟨p, rfl, ⟨_, .inl (.inl hp1)⟩, fun D2 nD2 => lc_keep (walk_list (xs := (itemsA [] l).map fun it => V.str (S it))) ((itemsA [] l).map fun it => (numOf 0 ws it).map fun k : Nat => V.int k) (by rw [List.length_map, List.length_map]) nD2 (by rw [List.length_map]; exact il) (fun Hd e2 => .inl (.inl (e2 _ _ hp1))) (fun i x z Hd Hx Q' R' _ hzi e2 y q' r' => ?_) (fun Hd e2 hD2 => ?_)⟩
        · obtain ⟨rfl, hx⟩ := y
          obtain ⟨it, hit, rfl⟩ := map_at hx
          obtain ⟨it2, hit2, rfl⟩ := map_at hzi
          rw [hit] at hit2
          cases hit2
          have hDd := e2 _ _ hD1
          have gd := DGet.k (k := .inr (S it)) hDd
          rw [kvN_val] at gd
          refine ⟨rfl, ?_⟩
          refine ⟨_, rfl, _, rfl, D, _, rfl, gd, _, rfl, ?_⟩
          cases hk : numOf 0 ws it with
          | none =>
            refine iteF (A := _) ?_
            exact r' _ (by rw [hk]; rfl) (Same.refl _)
          | some k =>
            rw [hk] at gd
            refine iteT (B := _) ?_
            exact ⟨_, rfl, _, rfl, D, _, rfl, gd, q' _ _ (by rw [hk]; rfl) (Same.refl _)⟩
        · have eR : (((itemsA [] l).map fun it => (numOf 0 ws it).map fun k : Nat => V.int k).filterMap id) = (readN ws l).map fun s : Nat => V.int s := by
            unfold readN
            rw [List.filterMap_map, List.map_filterMap]
            rfl
          rw [eR] at hD2
          refine go_nil ⟨D2, _, rfl, .inl ⟨.inl (.inl hD2), fun t2 o nt hdn => ?_⟩⟩
          exact q l rfl hbt t2 _ (.inl (.inr ⟨o, upd_same⟩)) (.inl ⟨o, _, upd_same, hdn⟩) ((e1.trans e2).trans (same_new nt))
end
end K21
namespace K21
open PySem PySem.Spec PyProof.Rows L2 Kx SX LamX
section
variable {P : Program} {w : World} {K : PySem.W.Frag} {mg : Str → Option Value} {base : Heap} (T : Tx K mg)
/-! ### draws -/
def sp_law_crank (K : PySem.W.Frag) : Sp := fun vs H Q _ => ∃ (a c : Addr) (m : Int) (n : Nat), vs = [.ref a, .int m] ∧ 0 < m ∧ m ≤ 1000000 ∧ Wh H a c n ∧ n < 1000000 ∧ ∀ (r : Int) (H' : Hp), 0 ≤ r → r < m → Mv a H H' → Wh H' a c (n + 1) → Q (.int r) H'
theorem ok_law_crank : FnOk P w K mg base CX0 1 T.f_law_crank T.fd_law_crank ["_law_engine_here", "_law_many"] (sp_law_crank K) := by
  refine T.F_law_crank.ok sc_law_crank (fun vs H Q E h => ?_) (fun cdv A outer s H vs Q E hr h => ?_)
  · obtain ⟨a, c, m, n, rfl, _⟩ := h
    rfl
  · obtain ⟨a, c, m, n, rfl, hm, hM, ⟨cs, t, l, h1, h2, h3, h4, h5⟩, hn, q⟩ := h
    refine ⟨_, (pss_cons (ps_if (pt_cmpR op_gt (pe_ix ix_list (pv 0) pe_int (fun _ _ => rfl)) pe_int (nomark _))
      (pss_cons (ps_set (i := 2) sc_law_crank.nd rfl (.inl rfl) (pe_callTy call_int1 (by rfl) T.m_int (by decide +kernel) (pa_cons (pe_ix ix_list (pv 0) pe_int (fun _ _ => rfl)) pa_nil)))
      (pss_cons (ps_asg (pe_op op_fdivN (pv 2) (pv 1)) (pg_sub (pv 0) pe_int set_list))
      (pss_one (ps_ret (pe_op op_modN (pe_callTy call_int1 (by rfl) T.m_int (by decide +kernel) (pa_cons (pv 2) pa_nil)) (pv 1))))))
      pss_nil)
    (pss_cons (ps_set (i := 3) sc_law_crank.nd rfl (.inl rfl) (pe_ix ix_list (pv 0) pe_int (fun _ _ => rfl)))
    (pss_cons (ps_asg (pe_op op_add (pv 3) pe_int) (pg_sub (pv 0) pe_int set_list))
    (pss_cons (ps_if (pt_cmpR (op_eqE hr.units) (pe_ix ix_list (pv 0) pe_int (fun _ _ => rfl)) (pe_lst pa_nil) (nomark _))
      (pss_one (ps_ret pe_int))
      pss_nil)
    (pss_cons (ps_set (i := 4) sc_law_crank.nd rfl (.inl rfl) (pe_ix ix_list (pe_ix ix_list (pv 0) pe_int (fun _ _ => rfl)) (pe_op op_modN (pe_callTy call_int1 (by rfl) T.m_int (by decide +kernel) (pa_cons (pv 3) pa_nil)) (pe_callB call_len_seq (by rfl) T.m_len PySem.boot_len (pa_cons (pe_ix ix_list (pv 0) pe_int (fun _ _ => rfl)) pa_nil))) (fun _ _ => rfl)))
    (pss_cons (ps_if (PW.pt (pw_and (pt_cmpR op_lt (pv 3) (pe_callB call_len_seq (by rfl) T.m_len PySem.boot_len (pa_cons (pe_ix ix_list (pv 0) pe_int (fun _ _ => rfl)) pa_nil)) (nomark _)) (pw_and1 (pt_cmpR op_ge (pe_callB call_abs (by rfl) T.m_abs (by decide +kernel) (pa_cons (pv 4) pa_nil)) (pe_op op_pow pe_int pe_int) (nomark _)))))
      (pss_cons (ps_set (i := 2) sc_law_crank.nd rfl (.inl rfl) (pe_op op_add (pe_op op_mul pe_int (pe_op op_sub (pe_callB call_abs (by rfl) T.m_abs (by decide +kernel) (pa_cons (pv 4) pa_nil)) (pe_op op_pow pe_int pe_int))) (pe_callTy call_int1 (by rfl) T.m_int (by decide +kernel) (pa_cons (pe_cmpR op_lt (pv 4) pe_int (nomark _)) pa_nil))))
      (pss_cons (ps_asg (pe_op op_fdivN (pv 2) (pv 1)) (pg_sub (pv 0) pe_int set_list))
      (pss_one (ps_ret (pe_op op_modN (pe_callTy call_int1 (by rfl) T.m_int (by decide +kernel) (pa_cons (pv 2) pa_nil)) (pv 1))))))
      pss_nil)
    (pss_cons (ps_set (i := 5) sc_law_crank.nd rfl (.inl rfl) (pe_op op_modN (pe_callTy call_int1 (by rfl) T.m_int (by decide +kernel) (pa_cons (pe_op op_pow (pe_op op_add (pe_op op_add (pe_op op_modN (pe_callTy call_int1 (by rfl) T.m_int (by decide +kernel) (pa_cons (pv 4) pa_nil)) pe_int) (pe_op op_mul pe_int (pv 3))) pe_int) pe_int) pa_nil)) pe_int))
    (pss_cons (ps_set (i := 5) sc_law_crank.nd rfl (.inl rfl) (pe_op op_modN (pe_callTy call_int1 (by rfl) T.m_int (by decide +kernel) (pa_cons (pe_op op_pow (pe_op op_add (pe_op op_add (pe_op op_mul (pv 5) (pe_op op_add (pe_op op_mul pe_int (pv 3)) pe_int)) (pe_op op_mul (pe_op op_mul pe_int (pv 3)) (pv 3))) pe_int) pe_int) pa_nil)) pe_int))
    (pss_one (ps_ret (pe_op op_modN (pe_callTy call_int1 (by rfl) T.m_int (by decide +kernel) (pa_cons (pe_op op_fdivN (pv 5) pe_int) pa_nil)) (pv 1)))))))))))), ?_⟩
    have hac := wh_ac h1 h2
    have m0 : m ≠ 0 := by omega
    have mS : m.natAbs < 1073741824 := by omega
    have fin : ∀ (x y z : Int) (H' : Hp), Mv a H H' → H' a = some (.lst [.ref c, .int y, .int z]) → 0 ≤ y → y ≤ n + 1 → Q (.int (x.fmod m)) H' := fun x y z H' mv ha y0 y1 =>
      q _ _ (Int.fmod_nonneg_of_pos _ hm) (Int.fmod_lt_of_pos _ hm) mv ⟨cs, y, z, ha, mv c _ (fun e => hac e.symm) h2, h3, y0, by omega⟩
    refine ⟨_, rfl, a, _, 2, .int l, rfl, rfl, .inl (.inl h1), rfl, _, _, rfl, rfl, _, rfl, iteC (fun e => ?_) (fun e => ?_)⟩
    · refine ⟨_, rfl, a, _, 2, .int l, rfl, rfl, .inl (.inl h1), rfl, .inl ⟨l, rfl, ?_⟩⟩
      refine ⟨_, rfl, _, rfl, l, m, rfl, rfl, ⟨m0, mS⟩, _, rfl, a, _, 2, 2, rfl, rfl, h1, rfl, ?_⟩
      refine ⟨_, rfl, .inl ⟨l, rfl, _, rfl, l, m, rfl, rfl, m0, ?_⟩⟩
      exact fin _ t (l.fdiv m) _ (Mv.upd _ _ _) upd_same h4 (by omega)
    clear e
    refine ⟨_, rfl, a, _, 1, .int t, rfl, rfl, .inl (.inl h1), rfl, ?_⟩
    refine ⟨_, rfl, t, 1, rfl, rfl, _, rfl, a, _, 1, 1, rfl, rfl, h1, rfl, ?_⟩
    generalize hH1 : upd H a (HO.lst ([V.ref c, .int t, .int l].set 1 (.int (t + 1)))) = H1
    have a1 : H1 a = some (.lst [.ref c, .int (t + 1), .int l]) := by rw [← hH1]; exact upd_same
    have c1 : H1 c = some (.lst (cs.map V.int)) := by rw [← hH1, upd_ne (fun e => hac e.symm)]; exact h2
    have mv1 : Mv a H H1 := by rw [← hH1]; exact Mv.upd _ _ _
    refine ⟨_, rfl, a, _, 0, .ref c, rfl, rfl, .inl (.inl a1), rfl, Nat.zero_le _, fun p np => ⟨c, p, _, rfl, rfl, same_new np _ _ c1, upd_same, _, rfl, iteC (fun e => ?_) (fun e => ?_)⟩⟩
    · exact q 0 _ (Int.le_refl _) hm (mv1.trans (Mv.of (same_new np))) ⟨cs, t + 1, l, same_new np _ _ a1, same_new np _ _ c1, h3, by omega, by omega⟩
    have cs0 : cs ≠ [] := fun z => by
      rw [z] at e
      cases e
    have s0 := same_new (o := HO.lst []) np
    have a2 := s0 _ _ a1
    have c2 := s0 _ _ c1
    have mv2 := mv1.trans (Mv.of s0)
    generalize upd H1 p (HO.lst []) = H2 at a2 c2 mv2 ⊢
    clear e s0 np
    dsimp only [tNext]
    have z0 : (0 : Int) < (cs.map V.int).length := by
      cases cs with
      | nil => exact absurd rfl cs0
      | cons x xs => simp
    obtain ⟨v, hv, ev⟩ : ∃ v, v ∈ cs.map V.int ∧ atI (cs.map V.int) (t.fmod ((cs.map V.int).length : Int)) = some v := at_lt (Int.fmod_nonneg_of_pos _ z0) (Int.fmod_lt_of_pos _ z0)
    obtain ⟨i, _, rfl⟩ := List.mem_map.mp hv
    have z : ((cs.map V.int).length : Int) ≠ 0 := by omega
    refine ⟨_, rfl, a, _, 0, .ref c, rfl, rfl, .inl (.inl a2), rfl, ?_⟩
    refine ⟨_, rfl, .inl ⟨t, rfl, ?_⟩⟩
    refine ⟨_, rfl, a, _, 0, .ref c, rfl, rfl, .inl (.inl a2), rfl, c, _, rfl, .inl (.inl (.inl c2)), ?_⟩
    refine ⟨t, _, rfl, rfl, z, c, _, _, _, rfl, rfl, .inl (.inl c2), ev, ?_⟩
    refine genI (P := fun v => gName 4 v _ _ _) (fun cell => ?_)
    refine ⟨_, rfl, _, rfl, a, _, 0, .ref c, rfl, rfl, .inl (.inl a2), rfl, c, _, rfl, .inl (.inl (.inl c2)), _, _, rfl, rfl, _, rfl, cutP (fun _ r => iteF r) (fun r e => ?_) ?_⟩
    · refine ⟨_, rfl, cell, rfl, _, _, rfl, rfl, ⟨by decide, by decide, by decide⟩, _, _, rfl, rfl, _, rfl, iteC (fun e2 => ?_) (fun e2 => r)⟩
      refine ⟨_, rfl, cell, rfl, _, _, rfl, rfl, ⟨by decide, by decide, by decide⟩, _, _, rfl, rfl, _, _, rfl, rfl, .inl ⟨by decide, by decide⟩, _, rfl, _, _, rfl, rfl, .inr ⟨_, rfl, _, _, rfl, rfl, ?_⟩⟩
      refine genI (P := fun v => gName 2 v _ _ _) (fun rest => ?_)
      refine ⟨_, rfl, _, rfl, _, _, rfl, rfl, ⟨m0, mS⟩, _, rfl, a, _, 2, 2, rfl, rfl, a2, rfl, ?_⟩
      refine ⟨_, rfl, .inl ⟨rest, rfl, _, rfl, _, _, rfl, rfl, m0, ?_⟩⟩
      exact fin _ (t + 1) _ _ (mv2.trans (Mv.upd _ _ _)) upd_same (by omega) (by omega)
    · refine ⟨_, rfl, .inl ⟨cell, rfl, _, _, rfl, rfl, (by show (_ : Int) ≠ 0; decide), _, rfl, _, _, rfl, rfl, .inl ⟨by decide, by decide⟩, _, _, rfl, rfl, _, _, rfl, rfl, _, _, rfl, rfl, ⟨by decide, by decide, bnd5 (by decide) (by decide) h4 (by omega) (by decide) (by decide) (by decide) (by decide)⟩, .inl ⟨_, rfl, _, _, rfl, rfl, (by show (_ : Int) ≠ 0; decide), ?_⟩⟩⟩
      refine genIB (P := fun v => gName 5 v _ _ _) (by decide) (fun m1 m1a m1b => ?_)
      have m1c : m1 ≤ 4294967296 := Int.le_trans (Int.le_of_lt m1b) (by decide)
      refine ⟨_, rfl, _, rfl, _, _, rfl, rfl, .inl ⟨by decide, by decide⟩, _, _, rfl, rfl, _, _, rfl, rfl, .inl ⟨by omega, by omega⟩, _, rfl, _, _, rfl, rfl, .inl ⟨by decide, by decide⟩, _, rfl, _, _, rfl, rfl, .inr ⟨by omega, by omega⟩, _, _, rfl, rfl, _, _, rfl, rfl, _, _, rfl, rfl, ⟨by decide, by decide, bnd3 m1a m1c h4 (by omega) (by decide) (by decide) (by decide) (by decide) (by decide) (by decide)⟩, .inl ⟨_, rfl, _, _, rfl, rfl, (by show (_ : Int) ≠ 0; decide), ?_⟩⟩
      refine genI (P := fun v => gName 5 v _ _ _) (fun m2 => ?_)
      refine ⟨_, rfl, _, _, rfl, rfl, ⟨by decide, by decide⟩, .inl ⟨_, rfl, _, rfl, _, _, rfl, rfl, m0, ?_⟩⟩
      exact fin _ (t + 1) _ _ mv2 a2 (by omega) (by omega)
/-- one of some things -/
def sp_law_one (K : PySem.W.Frag) : Sp := fun vs H Q _ => ∃ (a b c : Addr) (xs : List V) (n : Nat), vs = [.ref a, .ref b] ∧ SqL K H b xs ∧ xs ≠ [] ∧ xs.length ≤ 1000000 ∧ Wh H a c n ∧ n < 1000000 ∧ (∀ H', Mv a H H' → SqL K H' b xs) ∧ ∀ (v : V) (H' : Hp), v ∈ xs → Mv a H H' → Wh H' a c (n + 1) → Q v H'
theorem ok_law_one : FnOk P w K mg base CX0 2 T.f_law_one T.fd_law_one ["_law_engine_here", "_law_some"] (sp_law_one K) := by
  refine T.F_law_one.ok sc_law_one (fun vs H Q E h => ?_) (fun cdv A outer s H vs Q E hr h => ?_)
  · obtain ⟨a, b, c, xs, n, rfl, _⟩ := h
    rfl
  · obtain ⟨a, b, c, xs, n, rfl, hs, hx, hl, hw, hn, hm, q⟩ := h
    refine ⟨_, (pss_one (ps_ret (pe_ix ix_list (pv 1) (pe_call (ok_law_crank T) (hr.mono (by decide)) (by rfl) T.g_law_crank T.F_law_crank.kp T.b_law_crank .nil pass0 (pa_cons (pv 0) (pa_cons (pe_callB call_len_seq (by rfl) T.m_len PySem.boot_len (pa_cons (pv 1) pa_nil)) pa_nil))) (fun _ _ => rfl)))), ?_⟩
    have z : 0 < xs.length := by
      cases xs with
      | nil => exact absurd rfl hx
      | cons x t => simp
    refine ⟨_, rfl, _, rfl, _, rfl, b, xs, rfl, .inl hs, a, c, _, n, rfl, by omega, by omega, hw, hn, fun r H' r0 r1 mv w' => ?_⟩
    obtain ⟨v, hv, ev⟩ := at_lt r0 r1
    exact ⟨b, xs, r, v, rfl, rfl, hm _ mv, ev, q v H' hv mv w'⟩
def sp_law_engine (K : PySem.W.Frag) : Sp := fun vs H Q _ => ∃ (b : Addr) (xs : List Int), vs = [.ref b] ∧ SqL K H b (xs.map V.int) ∧ ∀ (a c : Addr) (H' : Hp), H a = none → Same H H' → Wh H' a c 0 → Q (.ref a) H'
theorem ok_law_engine : FnOk P w K mg base CX0 1 T.f_law_engine T.fd_law_engine ["_law_script"] (sp_law_engine K) := by
  refine T.F_law_engine.ok sc_law_engine (fun vs H Q E h => ?_) (fun cdv A outer s H vs Q E hr h => ?_)
  · obtain ⟨b, xs, rfl, _⟩ := h
    rfl
  · obtain ⟨b, xs, rfl, hs, q⟩ := h
    refine ⟨_, (pss_one (ps_ret (pe_lst (pa_cons (pe_lc (own := [("_law_cell", 1)]) rfl sc_law_engine.nd (pi_list (pe_slice sl_list (pv 0) po_none (po_some pe_int))) (blkOk_by (own := [("_law_cell", 1)]) (N := ["_law_script", "_law_cell"]) (sc := defScope s_law_engine) (by decide +kernel)) (fun _ _ _ _ _ => (pg_name (i := 1) sc_law_engine.nd rfl (.inl rfl))) (fun _ _ _ _ _ => pts_nil) (fun _ _ _ _ _ => (pe_callTy call_int1 (by rfl) T.m_int (by decide +kernel) (pa_cons (pv 1) pa_nil)))) (pa_cons pe_int (pa_cons pe_int pa_nil)))))), ?_⟩
    refine ⟨_, rfl, _, rfl, b, _, rfl, hs, fun p np => ?_⟩
    have hc : cutV (xs.map V.int) none (some 60) = (xs.take 60).map V.int := by
      rw [List.map_take]
      exact cut_to _ 60
    rw [hc]
    refine ⟨p, rfl, ⟨_, .inl (.inl upd_same)⟩, fun D nD => lc_mapL id (.inl (.inl upd_same)) nD (by rw [List.length_map, List.length_take]; omega) (fun i x Hc Q' R' hx e1 q' => ?_) (fun Hc e1 hD => ?_)⟩
    · obtain ⟨j, _, rfl⟩ := List.mem_map.mp (List.mem_of_getElem? hx)
      refine ⟨rfl, ?_⟩
      refine iteT (B := True) ?_
      exact ⟨_, rfl, .inl ⟨j, rfl, q' Hc (Same.refl _)⟩⟩
    · rw [List.map_id] at hD
      have s0 := (same_new np).trans e1
      refine ⟨by show 3 ≤ sizeLine; decide, fun a na => q a D _ (s0.free na) (s0.trans (same_new na)) ⟨xs.take 60, 0, 0, upd_same, (same_new na) _ _ hD, ?_, by omega, by omega⟩⟩
      rw [List.length_take]
      omega
end
end K21
namespace K21
open PySem PySem.Spec PyProof.Rows L2 Kx SX LamX
section
variable {P : Program} {w : World} {K : PySem.W.Frag} {mg : Str → Option Value} {base : Heap} (T : Tx K mg)
def WordsAt (K : PySem.W.Frag) (H : Hp) (p : Addr) (ws : List (List Nat)) : Prop := H p = some (.lst (ws.map tx)) ∧ 1 ≤ ws.length ∧ ws.length ≤ 40 ∧ (∀ w ∈ ws, wordB w = true) ∧ ws.Nodup
theorem sl5 (m : Nat) (h1 : 1 ≤ m) (h2 : m ≤ 5) : Txt.slice (Str.ofString "abcde") none (some (m : Int)) = S ((List.range m).map (· + 97)) := by
  have : ∀ m : Nat, m < 6 → Txt.slice (Str.ofString "abcde") none (some (m : Int)) = S ((List.range m).map (· + 97)) := by decide +kernel
  exact this m (by omega)
def sp_law_book (K : PySem.W.Frag) : Sp := fun vs H Q _ => ∃ (a c : Addr) (many n : Nat), vs = [.ref a, .int many] ∧ 1 ≤ many ∧ many ≤ 5 ∧ Wh H a c n ∧ n < 800000 ∧
  ∀ (p : Addr) (ws : List (List Nat)) (H' : Hp), WordsAt K H' p ws → ws.length = many → (∀ w ∈ ws, ∀ x ∈ w, x < 102) → p ≠ a → Mv a H H' → Wh H' a c (n + 10) → Q (.ref p) H'
theorem ok_law_book : FnOk P w K mg base CX0 3 T.f_law_book T.fd_law_book ["_law_engine_here", "_law_many"] (sp_law_book K) := by
  refine T.F_law_book.ok sc_law_book (fun vs H Q E h => ?_) (fun cdv A outer s H vs Q E hr h => ?_)
  · obtain ⟨a, c, m, n, rfl, _⟩ := h
    rfl
  · obtain ⟨a, c, many, n, rfl, h1, h2, wh, hn, q⟩ := h
    refine ⟨_, (pss_one (ps_ret (pe_lc (own := [("_law_letter", 2)]) rfl sc_law_book.nd (pi_str (pe_slice C8.sl_txt pe_str po_none (po_some (pv 1)))) (blkOk_by (own := [("_law_letter", 2)]) (N := ["_law_engine_here", "_law_many", "_law_letter"]) (sc := defScope s_law_book) (by decide +kernel)) (fun _ _ _ _ _ => (pg_name (i := 2) sc_law_book.nd rfl (.inl rfl))) (fun _ _ _ _ _ => pts_nil) (fun _ _ _ _ _ => (pe_op op_repS (pv 2) (pe_op op_add pe_int (pe_call (ok_law_crank T) (hr.mono (by decide)) (by rfl) T.g_law_crank T.F_law_crank.kp T.b_law_crank .nil pass0 (pa_cons (pv 0) (pa_cons (pe_call (ok_law_one T) (hr.mono (by decide)) (by rfl) T.g_law_one T.F_law_one.kp T.b_law_one .nil pass0 (pa_cons (pv 0) (pa_cons (pe_lst (pa_cons pe_int (pa_cons pe_int pa_nil))) pa_nil))) pa_nil))))))))), ?_⟩
    refine ⟨_, rfl, _, rfl, _, rfl, (show 5 ≤ sizeLine by decide), _, rfl, fun D nD => ?_⟩
    rw [sl5 many h1 h2]
    have hDa := wh.ne nD
    refine lc_it walk_str (fun i H' => ∃ ws : List (List Nat), H' D = some (.lst (ws.map tx)) ∧ ws.length = i ∧ (∀ w ∈ ws, ∃ k c, w = List.replicate k c ∧ 2 ≤ k ∧ k ≤ 12 ∧ 97 ≤ c ∧ c < 97 + i) ∧ ws.Nodup ∧ Mv a H H' ∧ Wh H' a c (n + 2 * i))
      ⟨[], upd_same, rfl, (fun _ m => by cases m), List.nodup_nil, Mv.of (same_new nD), wh.new nD⟩ (fun _ _ _ _ => trivial) (fun i x Hc Hx hi h y => ?_) (fun Hc h => ?_)
    · obtain ⟨rfl, ch, hch, rfl⟩ := y
      obtain ⟨ws, hD, hl, hw, nd, mv, w⟩ := h
      have hi' : i < many := by simpa [S] using hi
      obtain rfl : 97 + i = ch := by
        have : (S ((List.range many).map (· + 97))).cps[i]? = some (97 + i) := by
          simp [S, hi', Nat.add_comm]
        rw [this] at hch
        exact Option.some.inj hch
      refine ⟨rfl, ?_⟩
      refine iteT (B := True) ?_
      refine ⟨_, rfl, _, rfl, _, rfl, sz2, fun p np => ?_⟩
      have hpw := w.ne np
      refine ⟨a, p, c, _, _, rfl, .inl (.inl upd_same), by simp, (show 2 ≤ 1000000 by decide), w.new np, by omega, fun H' m => .inl (.inl (m _ _ hpw upd_same)), fun v H4 hv m5 w5 => ?_⟩
      obtain ⟨m, rfl, m0, m1⟩ : ∃ m : Int, v = .int m ∧ 2 ≤ m ∧ m ≤ 5 := by
        simp only [List.mem_cons, List.not_mem_nil, or_false] at hv
        rcases hv with rfl | rfl <;> exact ⟨_, rfl, by decide, by decide⟩
      refine ⟨a, c, m, _, rfl, by omega, by omega, w5, by omega, fun r H5 r0 r1 m6 w6 => ?_⟩
      obtain ⟨k, rfl⟩ : ∃ k : Nat, r = k := ⟨r.toNat, by omega⟩
      have mm := (Mv.of (a := a) (same_new (o := HO.lst [V.int 2, V.int 5]) np)).trans (m5.trans m6)
      refine ⟨_, _, rfl, rfl, [97 + i], 2 + k, rfl, rfl, (show 1 ≤ 16 by decide), by omega, ?_⟩
      rw [rep_flat]
      refine ⟨_, mm _ _ hDa hD, ?_, ws ++ [List.replicate (2 + k) (97 + i)], ?_, ?_, ?_, ?_, ?_, ?_⟩
      · rw [List.length_map, hl]
        exact Nat.lt_of_lt_of_le (show i < 6 by omega) (by decide)
      · rw [upd_same, List.map_append]
        rfl
      · rw [List.length_append, hl]
        rfl
      · intro w hm
        rcases List.mem_append.mp hm with hm | hm
        · obtain ⟨k', c', e, q1, q2, q3, q4⟩ := hw w hm
          exact ⟨k', c', e, q1, q2, q3, by omega⟩
        · exact ⟨_, _, List.mem_singleton.mp hm, by omega, by omega, by omega, by omega⟩
      · refine List.nodup_append.mpr ⟨nd, by simp, fun x hx y hy e => ?_⟩
        rw [List.mem_singleton.mp hy] at e
        obtain ⟨k', c', e', q1, q2, q3, q4⟩ := hw x hx
        rw [e'] at e
        have h0 := congrArg (fun l => l[0]?) e
        simp only [List.getElem?_replicate] at h0
        rw [if_pos (by omega), if_pos (by omega)] at h0
        have := Option.some.inj h0
        omega
      · intro b o' nb h
        rw [upd_ne (ne_of_none h nD)]
        exact (mv.trans mm) b o' nb h
      · exact (w6.lt (show n + 2 * i + 1 + 1 ≤ n + 2 * (i + 1) by omega)).set hDa (wh.nc nD)
    · obtain ⟨ws, hD, hl, hw, nd, mv, w⟩ := h
      have hl' : ws.length = many := by simpa [S] using hl
      refine q D ws Hc ⟨hD, by omega, by omega, fun w hm => ?_, nd⟩ hl' (fun w hm x hx => ?_) hDa mv (w.lt ?_)
      · obtain ⟨k, c', rfl, q1, q2, q3, q4⟩ := hw w hm
        have q5 : c' < 97 + 5 := by
          have : (S ((List.range many).map (· + 97))).cps.size = many := by simp [S]
          omega
        unfold wordB lowB
        rw [List.length_replicate, decide_eq_true q2, List.all_replicate]
        obtain ⟨k, rfl⟩ : ∃ j, k = j + 1 := ⟨k - 1, by omega⟩
        have : low c' = true := by
          unfold low
          rw [decide_eq_true (by omega), decide_eq_true (by omega)]
          rfl
        simp [this, List.replicate_succ]
      · obtain ⟨k', c', rfl, q1, q2, q3, q4⟩ := hw w hm
        rw [(List.mem_replicate.mp hx).2]
        have : (S ((List.range many).map (· + 97))).cps.size = many := by simp [S]
        omega
      · have : (S ((List.range many).map (· + 97))).cps.size = many := by simp [S]
        omega
end
end K21
namespace K21
open PySem PySem.Spec PyProof.Rows L2 Kx SX LamX
section
variable {P : Program} {w : World} {K : PySem.W.Frag} {mg : Str → Option Value} {base : Heap} (T : Tx K mg)
def iv (d : List Nat) : List Int := d.map fun s : Nat => (s : Int)
def nv (d : List Nat) : List V := (iv d).map V.int
theorem nv_len (d : List Nat) : (nv d).length = d.length := by
  unfold nv iv
  rw [List.length_map, List.length_map]
theorem nv_app (d e : List Nat) : nv (d ++ e) = nv d ++ nv e := by
  unfold nv iv
  rw [List.map_append, List.map_append]
theorem nv_flat (d : List Nat) : (nv d).all flatV = true := by
  rw [List.all_eq_true]
  intro v hv
  obtain ⟨_, _, rfl⟩ := List.mem_map.mp hv
  rfl
theorem nv_mem {d : List Nat} {v : V} (h : v ∈ nv d) : ∃ z ∈ d, v = .int (z : Nat) := by
  obtain ⟨i, hi, rfl⟩ := List.mem_map.mp h
  obtain ⟨z, hz, rfl⟩ := List.mem_map.mp hi
  exact ⟨z, hz, rfl⟩
theorem iv_nil {d : List Nat} : iv d = [] ↔ d = [] := by
  unfold iv
  exact List.map_eq_nil_iff
def DeedAt (H : Hp) (p : Addr) (d : List Nat) (m : Nat) : Prop := H p = some (.lst (nv d)) ∧ d.length = m ∧ ∀ s ∈ d, s < m
/-- a list of numbers that grows -/
def Grow (a c D : Addr) (H : Hp) (m n : Nat) (ws : List Nat) (H' : Hp) : Prop := H' D = some (.lst (nv ws)) ∧ (∀ x ∈ ws, x < m) ∧ Mv a H H' ∧ Wh H' a c n
theorem Grow.new {a c D : Addr} {H : Hp} {m n : Nat} (nD : H D = none) (w : Wh H a c n) : Grow a c D H m n [] (upd H D (.lst [])) := ⟨upd_same, (fun _ h => by cases h), Mv.of (same_new nD), w.new nD⟩
theorem Grow.app {a c D : Addr} {H Hd H4 : Hp} {m n n0 n' z : Nat} {ws : List Nat} {v : V} (g : Grow a c D H m n ws Hd) (nD : H D = none) (w0 : Wh H a c n0) (mv : Mv a Hd H4) (w : Wh H4 a c n') (hv : v = .int z) (hz : z < m) (hl : ws.length < 1000) :
    ∃ acc, H4 D = some (.lst acc) ∧ acc.length < sizeLine ∧ Grow a c D H m n' (ws ++ [z]) (upd H4 D (.lst (acc ++ [v]))) := by
  obtain ⟨h1, h2, h3, h4⟩ := g
  have hDa := w0.ne nD
  refine ⟨_, mv _ _ hDa h1, by rw [nv_len]; exact Nat.lt_trans hl (by decide), ?_, fun x hx => ?_, fun b o' nb h => ?_, w.set hDa (w0.nc nD)⟩
  · rw [upd_same, nv_app, hv]
    rfl
  · rcases List.mem_append.mp hx with hx | hx
    · exact h2 x hx
    · rw [List.mem_singleton.mp hx]
      exact hz
  · rw [upd_ne (ne_of_none h nD)]
    exact (h3.trans mv) b o' nb h
def sp_deed (k b : Nat) : Sp := fun vs H Q _ => ∃ (a c : Addr) (m n : Nat), vs = [.ref a, .int m] ∧ 1 ≤ m ∧ m ≤ 40 ∧ Wh H a c n ∧ n < b ∧
  ∀ (p : Addr) (d : List Nat) (H' : Hp), DeedAt H' p d m → p ≠ a → Mv a H H' → Wh H' a c (n + k) → Q (.ref p) H'
/-- some, or one -/
theorem some_ok {σ : L2.St} {H : Hp} {Q : VK} {a c D : Addr} {m n : Nat} {ws : List Nat} (hD : H D = some (.lst (nv ws))) (hDa : D ≠ a) (hw : ∀ x ∈ ws, x < m) (hm : 1 ≤ m) (hm2 : m ≤ 40) (hl : ws.length ≤ 40) (wh : Wh H a c n) (hn : n < 1000000) (h0 : σ[0]? = some (some (.ref a))) (h1 : σ[1]? = some (some (.int m))) (h3 : σ[3]? = some (some (.ref D)))
    (q : ∀ (p : Addr) (ws : List Nat) (H' : Hp), H' p = some (.lst (nv ws)) → p ≠ a → (∀ x ∈ ws, x < m) → ws ≠ [] → ws.length ≤ 40 → Mv a H H' → Wh H' a c (n + 1) → Q (.ref p) H') :
    tIf (tTest (tOp (rNeD K) (tVar 3) (tLst tNil))) (tVar 3) (tLst (tCons (tCall (sp_law_crank K) [] E0 (tCons (tVar 0) (tCons (tVar 1) tNil))) tNil)) σ H Q := by
  refine ⟨_, h3, Nat.zero_le _, fun p np => ne_nil (xs := iv ws) (.inl (.inl (same_new np _ _ hD))) upd_same ⟨_, rfl, iteC (fun e => ?_) (fun e => ?_)⟩⟩
  · refine ⟨_, h3, q D ws _ (same_new np _ _ hD) hDa hw (fun z => ?_) hl (Mv.of (same_new np)) ((wh.new np).lt (by omega))⟩
    rw [z] at e
    cases e
  · refine ⟨_, h0, _, h1, a, c, m, n, rfl, by omega, by omega, wh.new np, hn, fun r H5 r0 r1 m5 w5 => ⟨sz1, fun p2 np2 => ?_⟩⟩
    obtain ⟨k, rfl⟩ : ∃ k : Nat, r = k := ⟨r.toNat, by omega⟩
    exact q p2 [k] _ upd_same (w5.ne np2) (fun x hx => by rw [List.mem_singleton.mp hx]; omega) (by simp) (by simp) (((Mv.of (same_new np)).trans m5).trans (Mv.of (same_new np2))) (w5.new np2)
def sp_law_once (K : PySem.W.Frag) : Sp := sp_deed 90 900000
theorem ok_law_once : FnOk P w K mg base CX0 3 T.f_law_once T.fd_law_once ["_law_engine_here", "_law_states"] (sp_law_once K) := by
  refine T.F_law_once.ok sc_law_once (fun vs H Q E h => ?_) (fun cdv A outer s H vs Q E hr h => ?_)
  · obtain ⟨a, c, m, n, rfl, _⟩ := h
    rfl
  · obtain ⟨a, c, m, n, rfl, h1, h2, wh, hn, q⟩ := h
    refine ⟨_, (pss_cons (ps_set (i := 3) sc_law_once.nd rfl (.inr rfl) (pe_lc (own := [("_law_state", 2)]) rfl sc_law_once.nd (pi_range1 (by rfl) T.m_range (pa_cons (pv 1) pa_nil)) (blkOk_by (own := [("_law_state", 2)]) (N := ["_law_engine_here", "_law_states", "_law_state", "_law_some"]) (sc := defScope s_law_once) (by decide +kernel)) (fun _ _ _ _ _ => (pg_name (i := 2) sc_law_once.nd rfl (.inl rfl))) (fun _ _ _ _ _ => pts_one (pt_cmpR op_eq (pe_call (ok_law_crank T) (hr.mono (by decide)) (by rfl) T.g_law_crank T.F_law_crank.kp T.b_law_crank .nil pass0 (pa_cons (pv 0) (pa_cons pe_int pa_nil))) pe_int (nomark _))) (fun _ _ _ _ _ => (pv 2))))
    (pss_cons (ps_set (i := 3) sc_law_once.nd rfl (.inr rfl) (pe_ifExp (pt_cmpR (op_neD hr.units) (pv 3) (pe_lst pa_nil) (nomark _)) (pv 3) (pe_lst (pa_cons (pe_call (ok_law_crank T) (hr.mono (by decide)) (by rfl) T.g_law_crank T.F_law_crank.kp T.b_law_crank .nil pass0 (pa_cons (pv 0) (pa_cons (pv 1) pa_nil))) pa_nil))))
    (pss_one (ps_ret (pe_lc (own := [("_law_state", 2)]) rfl sc_law_once.nd (pi_range1 (by rfl) T.m_range (pa_cons (pv 1) pa_nil)) (blkOk_by (own := [("_law_state", 2)]) (N := ["_law_engine_here", "_law_states", "_law_state", "_law_some"]) (sc := defScope s_law_once) (by decide +kernel)) (fun _ _ _ _ _ => (pg_name (i := 2) sc_law_once.nd rfl (.inl rfl))) (fun _ _ _ _ _ => pts_nil) (fun _ _ _ _ _ => (pe_ifExp (pt_cmpR (inK_op_in_seq (K := K) rfl) (pv 2) (pv 3) rfl) (pv 2) (pe_call (ok_law_one T) (hr.mono (by decide)) (by rfl) T.g_law_one T.F_law_one.kp T.b_law_one .nil pass0 (pa_cons (pv 0) (pa_cons (pv 3) pa_nil)))))))))), ?_⟩
    refine go_seq (go_asg ⟨_, rfl, m, rfl, by omega, by omega, fun D nD => lc_range (lo := 0) (n := (m : Int).toNat) (fun i H' => ∃ ws : List Nat, ws.length ≤ i ∧ Grow a c D H m (n + i) ws H') ⟨[], Nat.le_refl _, .new nD wh⟩ (fun i Hd hi h => ?_) (fun Hd h => ?_)⟩)
    · obtain ⟨ws, hl, g⟩ := h
      refine ⟨rfl, ?_⟩
      refine ⟨_, rfl, a, c, 2, _, rfl, by decide, by decide, g.2.2.2, by omega, fun r H5 r0 r1 m5 w5 => ⟨rfl, _, rfl, iteC (fun e => ?_) (fun e => ?_)⟩⟩
      · obtain ⟨acc, g1, g2, g3⟩ := g.app (v := .int (0 + (i : Int))) (z := i) nD wh m5 w5 (by rw [Int.zero_add]) (by omega) (by omega)
        exact ⟨_, rfl, acc, g1, g2, _, by rw [List.length_append]; simp; omega, g3⟩
      · obtain ⟨g1, g2, g3, g4⟩ := g
        exact ⟨ws, by omega, m5 _ _ (wh.ne nD) g1, g2, g3.trans m5, w5⟩
    obtain ⟨ws, hl, g1, g2, g3, g4⟩ := h
    dsimp only [gName]
    refine go_seq (go_asg (some_ok g1 (wh.ne nD) g2 h1 h2 (by omega) g4 (by omega) rfl rfl rfl fun p xs H2 x1 x2 x3 x4 x5 m2 w2 => ?_))
    dsimp only [gName]
    refine go_ret ⟨_, rfl, m, rfl, by omega, by omega, fun D2 nD2 => lc_range (lo := 0) (n := (m : Int).toNat) (fun i H' => ∃ ws : List Nat, ws.length = i ∧ H' p = some (.lst (nv xs)) ∧ Grow a c D2 H2 m (n + 42 + i) ws H') ⟨[], rfl, same_new nD2 _ _ x1, .new nD2 (w2.lt (by omega))⟩ (fun i Hd hi h => ?_) (fun Hd h => ?_)⟩
    · obtain ⟨ws, hl, hp, g⟩ := h
      have pD : D2 ≠ p := fun e => by
        rw [e, x1] at nD2
        cases nD2
      refine ⟨rfl, ?_⟩
      refine iteT (B := True) ?_
      refine ⟨_, rfl, _, rfl, p, nv xs, rfl, .inl (.inl (.inl hp)), rfl, nv_flat xs, _, rfl, iteC (fun e => ?_) (fun e => ?_)⟩
      · obtain ⟨acc, k1, k2, k3⟩ := g.app (v := .int (0 + (i : Int))) (z := i) (n' := n + 42 + (i + 1)) nD2 w2 (Mv.refl _ _) (g.2.2.2.lt (by omega)) (by rw [Int.zero_add]) (by omega) (by omega)
        exact ⟨_, rfl, acc, k1, k2, _, by rw [List.length_append, hl]; rfl, by rw [upd_ne pD.symm]; exact hp, k3⟩
      · refine ⟨_, rfl, _, rfl, a, p, c, nv xs, _, rfl, .inl (.inl hp), ?_, ?_, g.2.2.2, by omega, fun H' mv => .inl (.inl (mv _ _ x2 hp)), fun v H5 hv m5 w5 => ?_⟩
        · intro z
          have := congrArg List.length z
          rw [nv_len] at this
          cases xs with
          | nil => exact x4 rfl
          | cons _ _ => cases this
        · rw [nv_len]
          omega
        · obtain ⟨z, hz, rfl⟩ := nv_mem hv
          obtain ⟨acc, k1, k2, k3⟩ := g.app (v := .int (z : Nat)) (z := z) nD2 w2 m5 w5 rfl (x3 z hz) (by omega)
          exact ⟨acc, k1, k2, _, by rw [List.length_append, hl]; rfl, by rw [upd_ne pD.symm]; exact m5 _ _ x2 hp, k3⟩
    · obtain ⟨ws, hl, hp, k1, k2, k3, k4⟩ := h
      exact q D2 ws Hd ⟨k1, by omega, k2⟩ (w2.ne nD2) ((g3.trans m2).trans k3) (k4.lt (by omega))
def sp_law_deed (K : PySem.W.Frag) : Sp := sp_deed 100 800000
theorem ok_law_deed : FnOk P w K mg base CX0 4 T.f_law_deed T.fd_law_deed ["_law_engine_here", "_law_states"] (sp_law_deed K) := by
  refine T.F_law_deed.ok sc_law_deed (fun vs H Q E h => ?_) (fun cdv A outer s H vs Q E hr h => ?_)
  · obtain ⟨a, c, m, n, rfl, _⟩ := h
    rfl
  · obtain ⟨a, c, m, n, rfl, h1, h2, wh, hn, q⟩ := h
    refine ⟨_, (pss_cons (ps_set (i := 2) sc_law_deed.nd rfl (.inl rfl) (pe_call (ok_law_crank T) (hr.mono (by decide)) (by rfl) T.g_law_crank T.F_law_crank.kp T.b_law_crank .nil pass0 (pa_cons (pv 0) (pa_cons pe_int pa_nil))))
    (pss_cons (ps_if (pt_cmpR op_eq (pv 2) pe_int (nomark _))
      (pss_one (ps_ret (pe_lc (own := [("_law_state", 3)]) rfl sc_law_deed.nd (pi_range1 (by rfl) T.m_range (pa_cons (pv 1) pa_nil)) (blkOk_by (own := [("_law_state", 3)]) (N := ["_law_engine_here", "_law_states", "_law_way", "_law_state", "_law_top"]) (sc := defScope s_law_deed) (by decide +kernel)) (fun _ _ _ _ _ => (pg_name (i := 3) sc_law_deed.nd rfl (.inl rfl))) (fun _ _ _ _ _ => pts_nil) (fun _ _ _ _ _ => (pe_call (ok_law_crank T) (hr.mono (by decide)) (by rfl) T.g_law_crank T.F_law_crank.kp T.b_law_crank .nil pass0 (pa_cons (pv 0) (pa_cons (pv 1) pa_nil)))))))
      pss_nil)
    (pss_cons (ps_if (pt_cmpR op_eq (pv 2) pe_int (nomark _))
      (pss_cons (ps_set (i := 4) sc_law_deed.nd rfl (.inr rfl) (pe_call (ok_law_crank T) (hr.mono (by decide)) (by rfl) T.g_law_crank T.F_law_crank.kp T.b_law_crank .nil pass0 (pa_cons (pv 0) (pa_cons (pv 1) pa_nil))))
      (pss_one (ps_ret (pe_lc (own := [("_law_state", 3)]) rfl sc_law_deed.nd (pi_range1 (by rfl) T.m_range (pa_cons (pv 1) pa_nil)) (blkOk_by (own := [("_law_state", 3)]) (N := ["_law_engine_here", "_law_states", "_law_way", "_law_state", "_law_top"]) (sc := defScope s_law_deed) (by decide +kernel)) (fun _ _ _ _ _ => (pg_name (i := 3) sc_law_deed.nd rfl (.inl rfl))) (fun _ _ _ _ _ => pts_nil) (fun _ _ _ _ _ => (pe_callB (call_min2 rfl) (by rfl) T.m_min (by decide +kernel) (pa_cons (pe_op op_add (pv 3) pe_int) (pa_cons (pv 4) pa_nil))))))))
      pss_nil)
    (pss_cons (ps_if (pt_cmpR op_eq (pv 2) pe_int (nomark _))
      (pss_one (ps_ret (pe_lc (own := [("_law_state", 3)]) rfl sc_law_deed.nd (pi_range1 (by rfl) T.m_range (pa_cons (pv 1) pa_nil)) (blkOk_by (own := [("_law_state", 3)]) (N := ["_law_engine_here", "_law_states", "_law_way", "_law_state", "_law_top"]) (sc := defScope s_law_deed) (by decide +kernel)) (fun _ _ _ _ _ => (pg_name (i := 3) sc_law_deed.nd rfl (.inl rfl))) (fun _ _ _ _ _ => pts_nil) (fun _ _ _ _ _ => (pe_op op_modN (pe_callTy call_int1 (by rfl) T.m_int (by decide +kernel) (pa_cons (pe_op op_add (pv 3) pe_int) pa_nil)) (pv 1))))))
      pss_nil)
    (pss_one (ps_ret (pe_call (ok_law_once T) (hr.mono (by decide)) (by rfl) T.g_law_once T.F_law_once.kp T.b_law_once .nil pass0 (pa_cons (pv 0) (pa_cons (pv 1) pa_nil))))))))), ?_⟩
    refine go_seq (go_asg ⟨_, rfl, a, c, 5, _, rfl, by decide, by decide, wh, by omega, fun way H1 r0 r1 m1 w1 => ?_⟩)
    dsimp only [gName]
    refine go_seq (go_if (go_test (go_op (go_var rfl ⟨rfl, _, rfl, iteC (fun e => ?_) (fun e => ?_)⟩))))
    · refine go_ret ⟨_, rfl, m, rfl, by omega, by omega, fun D nD => lc_range (lo := 0) (n := (m : Int).toNat) (fun i H' => ∃ ws : List Nat, ws.length = i ∧ Grow a c D H1 m (n + 1 + i) ws H') ⟨[], rfl, .new nD w1⟩ (fun i Hd hi h => ?_) (fun Hd h => ?_)⟩
      · obtain ⟨ws, hl, g1⟩ := h
        refine ⟨rfl, ?_⟩
        refine iteT (B := True) ?_
        refine ⟨_, rfl, _, rfl, a, c, m, _, rfl, by omega, by omega, g1.2.2.2, by omega, fun r H5 s0 s1 m5 w5 => ?_⟩
        obtain ⟨z, rfl⟩ : ∃ z : Nat, r = z := ⟨r.toNat, by omega⟩
        obtain ⟨acc, k1, k2, k3⟩ := g1.app (v := .int (z : Nat)) (z := z) nD w1 m5 w5 rfl (by omega) (by omega)
        exact ⟨acc, k1, k2, _, by rw [List.length_append, hl]; rfl, k3⟩
      · obtain ⟨ws, hl, k1, k2, k3, k4⟩ := h
        exact q D ws Hd ⟨k1, by omega, k2⟩ (w1.ne nD) (m1.trans k3) (k4.lt (by omega))
    clear e
    dsimp only [tNext]
    refine go_seq (go_if (go_test (go_op (go_var rfl ⟨rfl, _, rfl, iteC (fun e => ?_) (fun e => ?_)⟩))))
    · refine go_seq (go_asg ⟨_, rfl, _, rfl, a, c, m, _, rfl, by omega, by omega, w1, by omega, fun top H2 s0 s1 m2 w2 => ?_⟩)
      obtain ⟨top, rfl⟩ : ∃ z : Nat, top = z := ⟨top.toNat, by omega⟩
      dsimp only [gName]
      refine go_ret ⟨_, rfl, m, rfl, by omega, by omega, fun D nD => lc_range (lo := 0) (n := (m : Int).toNat) (fun i H' => ∃ ws : List Nat, ws.length = i ∧ Grow a c D H2 m (n + 2) ws H') ⟨[], rfl, .new nD w2⟩ (fun i Hd hi h => ?_) (fun Hd h => ?_)⟩
      · obtain ⟨ws, hl, g1⟩ := h
        refine ⟨rfl, ?_⟩
        refine iteT (B := True) ?_
        obtain ⟨acc, k1, k2, k3⟩ := g1.app (v := .int (if (top : Int) < 0 + (i : Int) + 1 then (top : Int) else 0 + (i : Int) + 1)) (z := min (i + 1) top) (n' := n + 2) nD w2 (Mv.refl _ _) g1.2.2.2 (by
          congr 1
          split <;> omega) (by omega) (by omega)
        exact ⟨_, rfl, _, _, rfl, rfl, _, rfl, _, _, rfl, acc, k1, k2, _, by rw [List.length_append, hl]; rfl, k3⟩
      · obtain ⟨ws, hl, k1, k2, k3, k4⟩ := h
        exact q D ws Hd ⟨k1, by omega, k2⟩ (w2.ne nD) ((m1.trans m2).trans k3) (k4.lt (by omega))
    clear e
    dsimp only [tNext]
    refine go_seq (go_if (go_test (go_op (go_var rfl ⟨rfl, _, rfl, iteC (fun e => ?_) (fun e => ?_)⟩))))
    · refine go_ret ⟨_, rfl, m, rfl, by omega, by omega, fun D nD => lc_range (lo := 0) (n := (m : Int).toNat) (fun i H' => ∃ ws : List Nat, ws.length = i ∧ Grow a c D H1 m (n + 1) ws H') ⟨[], rfl, .new nD w1⟩ (fun i Hd hi h => ?_) (fun Hd h => ?_)⟩
      · obtain ⟨ws, hl, g1⟩ := h
        refine ⟨rfl, ?_⟩
        refine iteT (B := True) ?_
        obtain ⟨acc, k1, k2, k3⟩ := g1.app (v := .int ((0 + (i : Int) + 1).fmod m)) (z := (i + 1) % m) (n' := n + 1) nD w1 (Mv.refl _ _) g1.2.2.2 (by
          congr 1
          rw [Int.zero_add, Int.fmod_eq_emod_of_nonneg _ (by omega)]
          exact (Int.natCast_emod (i + 1) m).symm) (Nat.mod_lt _ (by omega)) (by omega)
        exact ⟨_, rfl, _, _, rfl, rfl, .inl ⟨_, rfl, _, rfl, _, _, rfl, rfl, (show (m : Int) ≠ 0 by omega), acc, k1, k2, _, by rw [List.length_append, hl]; rfl, k3⟩⟩
      · obtain ⟨ws, hl, k1, k2, k3, k4⟩ := h
        exact q D ws Hd ⟨k1, by omega, k2⟩ (w1.ne nD) (m1.trans k3) (k4.lt (by omega))
    clear e
    dsimp only [tNext]
    exact go_ret ⟨_, rfl, _, rfl, a, c, m, _, rfl, h1, h2, w1, by omega, fun p d H' hd hp mv w => q p d H' hd hp (m1.trans mv) (w.lt (by omega))⟩
end
end K21
namespace K21
open PySem PySem.Spec PyProof.Rows L2 Kx SX LamX
section
variable {P : Program} {w : World} {K : PySem.W.Frag} {mg : Str → Option Value} {base : Heap} (T : Tx K mg)
def stepD (d f : List Nat) : List Nat := f.map fun s => d.getD s 0
def loopD (d : List Nat) : Nat → Nat → List Nat → Option Nat
  | 0, _, _ => none
  | k + 1, t, f => if stepD d f = f then some t else loopD d k (t + 1) (stepD d f)
def oV : Option Nat → V
  | none => .non
  | some k => .int (k : Nat)
theorem iv_inj {d e : List Nat} : iv d = iv e ↔ d = e := by
  constructor
  · intro h
    have h2 := congrArg (List.map Int.toNat) h
    unfold iv at h2
    rw [List.map_map, List.map_map] at h2
    have e1 : (Int.toNat ∘ fun s : Nat => (s : Int)) = id := by
      funext x
      rfl
    rw [e1, List.map_id, List.map_id] at h2
    exact h2
  · rintro rfl
    rfl
theorem iv_dec (d e : List Nat) : decide (iv d = iv e) = decide (d = e) := by
  by_cases h : d = e
  · rw [decide_eq_true h, decide_eq_true (iv_inj.mpr h)]
  · rw [decide_eq_false h, decide_eq_false fun z => h (iv_inj.mp z)]
theorem nv_at {d : List Nat} {s : Nat} (h : s < d.length) : atI (nv d) (s : Int) = some (.int (d.getD s 0 : Nat)) := by
  rw [at_nat (by rw [nv_len]; exact h)]
  unfold nv iv
  simp [List.getD_eq_getElem?_getD, h]
theorem eq_ints {H : Hp} {a b : Addr} {xs ys : List Nat} {Q : VK} (h1 : SqL K H a (nv xs)) (h2 : SqL K H b (nv ys)) (q : Q (.bl (decide (xs = ys))) H) : rEqD K (.ref a) (.ref b) H Q :=
  ⟨_, _, dp_ints h1, dp_ints h2, (pl_ints (iv xs)).shaped (by decide), (pl_ints (iv ys)).shaped (by decide), by rw [eqv_ints, iv_dec]; exact q⟩
theorem dp_intsT {H : Hp} {a : Addr} {xs : List Nat} (h : SqT K H a (nv xs)) : Dp K H (.ref a) (.tuple ((iv xs).map PyData.int)) := .tup h (dpAll_map _ fun i _ => .int i)
theorem eqv_intsT (xs ys : List Int) : PyData.eqv (.tuple (xs.map PyData.int)) (.tuple (ys.map PyData.int)) = decide (xs = ys) := eqvAll_map eqv_int xs ys
theorem pl_intsT (xs : List Int) : Pl 1 (.tuple (xs.map PyData.int)) := Pl.tup fun d m => by
  obtain ⟨i, _, rfl⟩ := List.mem_map.mp m
  exact pl_int 0 i
theorem eq_intsT {H : Hp} {a b : Addr} {xs ys : List Nat} {Q : VK} (h1 : SqT K H a (nv xs)) (h2 : SqT K H b (nv ys)) (q : Q (.bl (decide (xs = ys))) H) : rEqD K (.ref a) (.ref b) H Q :=
  ⟨_, _, dp_intsT h1, dp_intsT h2, (pl_intsT (iv xs)).shaped (by decide), (pl_intsT (iv ys)).shaped (by decide), by rw [eqv_intsT, iv_dec]; exact q⟩
theorem step_len {d f : List Nat} : (stepD d f).length = f.length := List.length_map ..
theorem step_lt {d f : List Nat} {m : Nat} (hm : d.length = m) (hd : ∀ s ∈ d, s < m) (hf : ∀ s ∈ f, s < m) : ∀ s ∈ stepD d f, s < m := fun s h => by
  obtain ⟨x, hx, rfl⟩ := List.mem_map.mp h
  have := hf x hx
  apply hd
  rw [List.getD_eq_getElem?_getD, List.getElem?_eq_getElem (by omega)]
  exact List.getElem_mem ..
theorem nv_get {d : List Nat} {j : Nat} {x : V} (h : (nv d)[j]? = some x) : j < d.length ∧ x = V.int (d.getD j 0 : Nat) := by
  have hj := (List.getElem?_eq_some_iff.mp h).1
  rw [nv_len] at hj
  refine ⟨hj, ?_⟩
  have h2 := nv_at (d := d) hj
  rw [at_nat (by rw [nv_len]; exact hj)] at h2
  rw [List.getElem?_eq_getElem (by rw [nv_len]; exact hj)] at h
  exact (Option.some.inj (h2.symm.trans h)).symm
theorem step_get {d f : List Nat} {j : Nat} (hj : j < f.length) : (stepD d f).getD j 0 = d.getD (f.getD j 0) 0 := by
  unfold stepD
  simp [List.getD_eq_getElem?_getD, hj]
theorem getD_lt {f : List Nat} {j m : Nat} (hj : j < f.length) (h : ∀ s ∈ f, s < m) : f.getD j 0 < m := by
  rw [List.getD_eq_getElem?_getD, List.getElem?_eq_getElem hj]
  exact h _ (List.getElem_mem ..)
theorem step_range (d : List Nat) : stepD d (List.range d.length) = d := by
  apply List.ext_getElem
  · unfold stepD
    simp
  · intro i h1 h2
    unfold stepD
    simp [List.getD_eq_getElem?_getD, h2]
theorem rg_nv (n : Nat) : rgV 0 (n : Int) = nv (List.range n) := by
  unfold rgV nv iv
  have : ((n : Int) - 0).toNat = n := by omega
  rw [this, List.map_map]
  refine List.map_congr_left fun i _ => ?_
  show V.int (0 + (i : Int)) = V.int i
  rw [Int.zero_add]
theorem filt_some {α : Type} (l : List α) : (l.map some).filterMap id = l := by
  rw [List.filterMap_map]
  exact List.filterMap_some
end
end K21
namespace K21
open PySem PySem.Spec PyProof.Rows L2 Kx SX LamX
section
variable {P : Program} {w : World} {K : PySem.W.Frag} {mg : Str → Option Value} {base : Heap} (T : Tx K mg)
/-- what is told as a deed: its values, if it is a list -/
def ItemArg (K : PySem.W.Frag) (H : Hp) (v : V) (o : Option (List V)) : Prop := match o with
  | none => ∃ t, TyX K H v (.type t) ∧ PySem.W.kitAny K (.type t) [.type "list", .type "tuple"] = some false
  | some xs => ∃ a, v = .ref a ∧ SqQ K H a xs ∧ xs.length ≤ 60 ∧ ∀ x ∈ xs, HasInt K H x
theorem ItemArg.same {H H' : Hp} {v : V} {o : Option (List V)} (e : Same H H') (h : ItemArg K H v o) : ItemArg K H' v o := by
  cases o with
  | none =>
    obtain ⟨t, h1, h2⟩ := h
    exact ⟨t, tyx_same e h1, h2⟩
  | some xs =>
    obtain ⟨a, h1, h2, h3, h4⟩ := h
    exact ⟨a, h1, Same.q e h2, h3, fun x m => (h4 x m).same e⟩
def sizeB (o : Option (List V)) : Bool := o.elim false fun xs => decide (1 ≤ xs.length) && decide (xs.length ≤ 40)
def inB (m : Nat) (xs : List V) : Bool := xs.all fun v => withinV v (some 0) (some ((m : Int) - 1))
def fitB (m : Nat) (o : Option (List V)) : Bool := o.elim false fun xs => decide (xs.length = m) && inB m xs
def firstN (os : List (Option (List V))) : Nat := ((os.head?).getD none).elim 0 List.length
def deedsB (n : Nat) (os : List (Option (List V))) : Bool := decide (os.length = n) && (os.all sizeB && os.all (fitB (firstN os)))
def DArg (K : PySem.W.Frag) (H : Hp) (x : V) (n : Nat) (b : Bool) : Prop := (b = false ∧ ∃ t, TyX K H x (.type t) ∧ PySem.W.kitAny K (.type t) [.type "list", .type "tuple"] = some false) ∨
  ∃ (a : Addr) (vs : List V) (os : List (Option (List V))), x = .ref a ∧ SqQ K H a vs ∧ vs.length ≤ 100 ∧ vs.length = os.length ∧ (∀ (i : Nat) (v : V) (o : Option (List V)), vs[i]? = some v → os[i]? = some o → ItemArg K H v o) ∧ b = deedsB n os
def sp_are_deeds (K : PySem.W.Frag) : Sp := fun vs H Q _ => ∃ (x : V) (n : Nat) (b : Bool), vs = [x, .int n] ∧ DArg K H x n b ∧ 1 ≤ n ∧ ∀ H', Same H H' → Q (.bl b) H'
theorem ok_are_deeds : FnOk P w K mg base CX0 3 T.f_are_deeds T.fd_are_deeds ["value", "words"] (sp_are_deeds K) := by
  refine T.F_are_deeds.ok sc_are_deeds (fun vs H Q E h => ?_) (fun cdv A outer s H vs Q E hr h => ?_)
  · obtain ⟨x, n, b, rfl, _⟩ := h
    rfl
  · obtain ⟨x, n, b, rfl, hd, n1, q⟩ := h
    refine ⟨_, (pss_cons (ps_if (PW.pt (pw_or (pt_not (pt_val (pe_call (ok_is_list T) (hr.mono (by decide)) (by rfl) T.g_is_list T.F_is_list.kp T.b_is_list .nil pass0 (pa_cons (pv 0) pa_nil)))) (pw_or1 (pt_cmpR op_ne (pe_callB call_len_seq (by rfl) T.m_len PySem.boot_len (pa_cons (pv 0) pa_nil)) (pv 1) (nomark _)))))
      (pss_one (ps_ret pe_bl))
      pss_nil)
    (pss_cons (ps_if (pt_not (pt_val (pe_callB (cr_all rfl) (by rfl) T.m_all (by decide +kernel) (pa_cons (pe_lc (own := [("deed", 2)]) rfl sc_are_deeds.nd (pi_seq (pv 0)) (blkOk_by (own := [("deed", 2)]) (N := ["value", "words", "deed", "states", "state"]) (sc := defScope s_are_deeds) (by decide +kernel)) (fun _ _ _ _ _ => (pg_name (i := 2) sc_are_deeds.nd rfl (.inl rfl))) (fun _ _ _ _ _ => pts_nil) (fun _ _ _ _ _ => (pe_and (pe_call (ok_is_list T) (hr.mono (by decide)) (by rfl) T.g_is_list T.F_is_list.kp T.b_is_list .nil pass0 (pa_cons (pv 2) pa_nil)) (pe_one (pe_chain op_le op_le pe_int (pe_callB (inK_call_len_seq (K := K) rfl) (by rfl) T.m_len PySem.boot_len (pa_cons (pv 2) pa_nil)) (pe_glob (v := .int 40) (by rfl) T.c_MOST_STATES ⟨_, rfl⟩)))))) pa_nil))))
      (pss_one (ps_ret pe_bl))
      pss_nil)
    (pss_cons (ps_set (i := 3) sc_are_deeds.nd rfl (.inr rfl) (pe_callB call_len_seq (by rfl) T.m_len PySem.boot_len (pa_cons (pe_ix ix_seq (pv 0) pe_int (fun _ _ => rfl)) pa_nil)))
    (pss_cons (ps_for PassesOwn.never rfl (pi_seq (pv 0)) (pg_name (i := 2) sc_are_deeds.nd rfl (.inl rfl))
      (pss_one (ps_if (PW.pt (pw_or (pt_cmpR op_ne (pe_callB call_len_seq (by rfl) T.m_len PySem.boot_len (pa_cons (pv 2) pa_nil)) (pv 3) (nomark _)) (pw_or1 (pt_not (pt_val (pe_callB (cr_all rfl) (by rfl) T.m_all (by decide +kernel) (pa_cons (pe_lc (own := [("state", 4)]) rfl sc_are_deeds.nd (pi_seq (pv 2)) (blkOk_by (own := [("state", 4)]) (N := ["value", "words", "deed", "states", "state"]) (sc := defScope s_are_deeds) (by decide +kernel)) (fun _ _ _ _ _ => (pg_name (i := 4) sc_are_deeds.nd rfl (.inl rfl))) (fun _ _ _ _ _ => pts_nil) (fun _ _ _ _ _ => (pe_call (ok_is_within T) (hr.mono (by decide)) (by rfl) T.g_is_within T.F_is_within.kp T.b_is_within .nil pass0 (pa_cons (pv 4) (pa_cons pe_int (pa_cons (pe_op op_sub (pv 3) pe_int) pa_nil)))))) pa_nil)))))))
        (pss_one (ps_ret pe_bl))
        pss_nil)))
    (pss_one (ps_ret pe_bl)))))), ?_⟩
    rcases hd with ⟨rfl, t, ht, hk⟩ | ⟨p, vs, os, rfl, hq, hl, lo, hi, rfl⟩
    · exact go_seq (go_if (go_or2 (go_not (go_b ⟨_, rfl, x, t, false, rfl, ht, hk, fun H1 e1 => ⟨_, rfl, iteT (B := _) (iteT (B := _) (go_ret (q H1 e1)))⟩⟩))))
    obtain ⟨t, ht, hk⟩ := isl_q hq
    refine go_seq (go_if (go_or2 (go_not (go_b ⟨_, rfl, _, t, true, rfl, ht, hk, fun H1 e1 => ⟨_, rfl, iteF (A := _) ?_⟩⟩))))
    refine go_test (go_op (go_cb (go_cons (go_var rfl (go_nil ⟨p, _, rfl, Same.q e1 hq, go_var rfl ⟨rfl, _, rfl, ?_⟩⟩)))))
    unfold deedsB at q
    have en : (!decide (V.int (vs.length : Nat) = V.int (n : Nat))) = !decide (os.length = n) := by
      rw [lo]
      by_cases h : os.length = n
      · rw [decide_eq_true h, decide_eq_true (by rw [h])]
      · rw [decide_eq_false h, decide_eq_false fun z => h (by injection z with z; omega)]
    rw [en]
    cases hn : decide (os.length = n) with
    | false =>
      rw [hn, Bool.false_and] at q
      refine iteT (B := _) ?_
      exact go_ret (q H1 e1)
    | true =>
    rw [hn, Bool.true_and] at q
    have hn' := of_decide_eq_true hn
    refine iteF (A := _) ?_
    dsimp only [tNext]
    refine go_seq (go_if (go_not (go_b (go_cb (go_cons (lc_seqk (a := p) (xs := vs) (os.map fun o => some (V.bl (sizeB o))) (by rw [List.length_map, lo]) (by exact rfl) (Same.q e1 hq) (by omega) (fun i v z Hc Q' R' hv hz e2 q' r' => ?_) (fun D Hc e2 hD => ?_)))))))
    · obtain ⟨o, ho, rfl⟩ := map_at hz
      have it := (hi i v o hv ho).same (e1.trans e2)
      refine ⟨rfl, ?_⟩
      refine iteT (B := True) ?_
      refine iteT (B := _) ?_
      refine go_and ?_
      cases o with
      | none =>
        obtain ⟨t2, ht2, hk2⟩ := it
        exact ⟨_, rfl, _, t2, false, rfl, ht2, hk2, fun H3 e3 => ⟨_, rfl, iteF (A := _) (q' _ _ rfl e3)⟩⟩
      | some xs =>
        obtain ⟨y, rfl, gq, gl, gh⟩ := it
        obtain ⟨t2, ht2, hk2⟩ := isl_q gq
        refine ⟨_, rfl, _, t2, true, rfl, ht2, hk2, fun H3 e3 => ⟨_, rfl, iteT (B := _) ?_⟩⟩
        refine go_chain (go_c (go_cb (go_cons (go_var rfl (go_nil ⟨y, _, rfl, Same.q e3 gq, _, _, rfl, rfl, _, rfl, ?_⟩)))))
        have e5 : decide ((1 : Int) ≤ (xs.length : Int)) = decide (1 ≤ xs.length) := by
          by_cases h : 1 ≤ xs.length
          · rw [decide_eq_true h, decide_eq_true (by omega)]
          · rw [decide_eq_false h, decide_eq_false (by omega)]
        have e6 : decide ((xs.length : Int) ≤ 40) = decide (xs.length ≤ 40) := by
          by_cases h : xs.length ≤ 40
          · rw [decide_eq_true h, decide_eq_true (by omega)]
          · rw [decide_eq_false h, decide_eq_false (by omega)]
        show if decide ((1 : Int) ≤ (xs.length : Int)) = true then _ else _
        rw [e5]
        have q2 : Q' (.bl (decide (1 ≤ xs.length) && decide (xs.length ≤ 40))) H3 := q' _ _ rfl e3
        cases h5 : decide (1 ≤ xs.length) with
        | false =>
          rw [h5, Bool.false_and] at q2
          exact iteF (A := _) q2
        | true =>
          rw [h5, Bool.true_and] at q2
          refine iteT (B := _) ?_
          refine ⟨_, _, rfl, rfl, ?_⟩
          show Q' (.bl (decide ((xs.length : Int) ≤ 40))) H3
          rw [e6]
          exact q2
    have eD : ((os.map fun o => some (V.bl (sizeB o))).filterMap id) = (os.map sizeB).map V.bl := by
      rw [List.filterMap_map, List.map_map]
      induction os with
      | nil => rfl
      | cons o r ih => simp
    rw [eD] at hD
    refine go_nil ⟨D, os.map sizeB, rfl, .inl (.inl hD), ?_⟩
    have eA : ((os.map sizeB).all id) = os.all sizeB := by
      rw [List.all_map]
      rfl
    rw [eA]
    cases hs : os.all sizeB with
    | false =>
      rw [hs, Bool.false_and] at q
      exact ⟨_, rfl, iteT (B := _) (go_ret (q Hc (e1.trans e2)))⟩
    | true =>
    rw [hs, Bool.true_and] at q
    refine ⟨_, rfl, iteF (A := _) ?_⟩
    dsimp only [tNext]
    have e12 := e1.trans e2
    clear e1 e2 hD eD eA en ht hk
    have get : ∀ (i : Nat) (v : V), vs[i]? = some v → ∃ xs, os[i]? = some (some xs) ∧ ItemArg K H v (some xs) := fun i v hv => by
      have hil := (List.getElem?_eq_some_iff.mp hv).1
      obtain ⟨o, ho⟩ : ∃ o, os[i]? = some o := ⟨_, List.getElem?_eq_getElem (by omega)⟩
      cases o with
      | none =>
        have := List.all_eq_true.mp hs none (List.mem_of_getElem? ho)
        cases this
      | some xs => exact ⟨xs, ho, hi i v _ hv ho⟩
    obtain ⟨v0, hv0⟩ : ∃ v, vs[0]? = some v := ⟨_, List.getElem?_eq_getElem (by omega)⟩
    obtain ⟨xs0, ho0, a0, rfl, gq0, gl0, gh0⟩ := get 0 v0 hv0
    obtain ⟨m, hm⟩ : ∃ m, m = xs0.length := ⟨_, rfl⟩
    have hF : firstN os = m := by
      match os, ho0 with
      | o :: r, ho0 =>
        cases Option.some.inj ho0
        exact hm.symm
    rw [hF] at q
    have at0 : atI vs 0 = some (.ref a0) := by
      have h0 : 0 < vs.length := by omega
      show atI vs ((0 : Nat) : Int) = _
      rw [at_nat h0]
      have := List.getElem?_eq_getElem h0
      rw [hv0] at this
      exact this.symm
    have gp := Same.q e12 hq
    have fin0 : ∀ {Q : V → Hp → Prop}, Q (.ref a0) Hc → rIx K (.ref p) (.int 0) Hc Q := fun {Q} h => by
      rcases gp with gp | gp
      · exact .inl ⟨p, _, _, _, rfl, rfl, gp, at0, h⟩
      · exact .inr (.inl ⟨p, _, _, _, rfl, rfl, gp, at0, h⟩)
    refine go_seq (go_asg (go_cb (go_cons (go_op (go_var rfl (go_c (fin0 (go_nil ⟨a0, _, rfl, Same.q e12 gq0, ?_⟩))))))))
    rw [← hm]
    dsimp only [gName]
    refine go_seq (for_seq (a := p) (xs := vs) (by exact rfl) hq e12 (fun i σ H' => ∃ (o2 o4 : Option V), σ = [some (.ref p), some (.int (n : Nat)), o2, some (.int (m : Nat)), o4] ∧ (os.take i).all (fitB m) = true ∧ Same H H') ⟨_, _, rfl, rfl, e12⟩ (fun i σ' H' _ h => ?_) (fun i v σ' Hd hv h => ?_) (fun σ' Hd h => ?_))
    · obtain ⟨_, _, _, _, e⟩ := h
      exact e
    · obtain ⟨o2, o4, rfl, hall, e⟩ := h
      obtain ⟨xs, ho, y, rfl, gq, gl, gh⟩ := get i v hv
      have gqd := Same.q e gq
      have tk : (os.take (i + 1)).all (fitB m) = (decide (xs.length = m) && inB m xs) := by
        rw [List.take_add_one, ho, List.all_append, hall]
        show (true && (fitB m (some xs) && true)) = _
        rw [Bool.true_and, Bool.and_true]
        rfl
      have bad : (decide (xs.length = m) && inB m xs) = false → os.all (fitB m) = false := fun h => by
        cases hz : os.all (fitB m) with
        | false => rfl
        | true =>
          have := List.all_eq_true.mp hz _ (List.mem_of_getElem? ho)
          have h2 : (decide (xs.length = m) && inB m xs) = true := this
          rw [h] at h2
          cases h2
      dsimp only [gName]
      refine go_if (go_or2 (go_test (go_op (go_cb (go_cons (go_var rfl (go_nil ⟨y, _, rfl, gqd, go_var rfl ⟨rfl, _, rfl, ?_⟩⟩)))))))
      have e7 : (!decide (V.int (xs.length : Nat) = V.int (m : Nat))) = !decide (xs.length = m) := by
        by_cases h : xs.length = m
        · rw [decide_eq_true h, decide_eq_true (by rw [h])]
        · rw [decide_eq_false h, decide_eq_false fun z => h (by injection z with z; omega)]
      rw [e7]
      cases h7 : decide (xs.length = m) with
      | false =>
        rw [bad (by rw [h7, Bool.false_and])] at q
        refine iteT (B := _) ?_
        exact iteT (B := _) (go_ret (q Hd e))
      | true =>
      refine iteF (A := _) (go_not (go_b (go_cb (go_cons (lc_seqmap (a := y) (xs := xs) (fun v => .bl (withinV v (some 0) (some ((m : Int) - 1)))) (by exact rfl) gqd (by omega) (fun j v Hz Q' R' hv e2 q' => ?_) (fun D Hz e2 hD => ?_))))))
      · refine ⟨rfl, ?_⟩
        refine iteT (B := True) ?_
        exact ⟨_, rfl, _, rfl, _, _, rfl, rfl, v, some 0, some ((m : Int) - 1), rfl, ((gh v (List.mem_of_getElem? hv)).same e).same e2, q' Hz (Same.refl _)⟩
      refine go_nil ⟨D, xs.map fun v => withinV v (some 0) (some ((m : Int) - 1)), rfl, .inl (.inl (by rw [hD, List.map_map]; rfl)), ?_⟩
      have eI : ((xs.map fun v => withinV v (some 0) (some ((m : Int) - 1))).all id) = inB m xs := by
        rw [List.all_map]
        rfl
      rw [eI]
      cases h8 : inB m xs with
      | false =>
        rw [bad (by rw [h8, Bool.and_false])] at q
        exact ⟨_, rfl, iteT (B := _) (go_ret (q Hz (e.trans e2)))⟩
      | true =>
        refine ⟨_, rfl, iteF (A := _) ⟨_, _, rfl, ?_, e.trans e2⟩⟩
        rw [tk, h7, h8]
        rfl
    · obtain ⟨o2, o4, rfl, hall, e⟩ := h
      rw [lo, List.take_length] at hall
      rw [hall] at q
      exact q Hd e
end
end K21
namespace K21
open PySem PySem.Spec PyProof.Rows L2 Kx SX LamX
section
variable {P : Program} {w : World} {K : PySem.W.Frag} {mg : Str → Option Value} {base : Heap} (T : Tx K mg)
theorem DeedAt.same {H H' : Hp} {p : Addr} {d : List Nat} {m : Nat} (e : Same H H') (h : DeedAt H p d m) : DeedAt H' p d m := ⟨e _ _ h.1, h.2⟩
/-- deeds, a list of lists -/
def DeedsAt (H : Hp) (p : Addr) (ds : List (List Nat)) (m : Nat) : Prop := ∃ ps : List Addr, H p = some (.lst (ps.map V.ref)) ∧ ps.length = ds.length ∧ ∀ (i : Nat) (q : Addr) (d : List Nat), ps[i]? = some q → ds[i]? = some d → DeedAt H q d m
theorem DeedsAt.same {H H' : Hp} {p : Addr} {ds : List (List Nat)} {m : Nat} (e : Same H H') (h : DeedsAt H p ds m) : DeedsAt H' p ds m := by
  obtain ⟨ps, h1, h2, h3⟩ := h
  exact ⟨ps, e _ _ h1, h2, fun i q d a b => (h3 i q d a b).same e⟩
theorem ref_get {ps : List Addr} {i : Nat} {x : V} (h : (ps.map V.ref)[i]? = some x) : ∃ q, ps[i]? = some q ∧ x = .ref q := by
  rw [List.getElem?_map] at h
  cases hq : ps[i]? with
  | none =>
    rw [hq] at h
    cases h
  | some q =>
    rw [hq] at h
    exact ⟨q, rfl, (Option.some.inj h).symm⟩
theorem deed_of {ps : List Addr} {ds : List (List Nat)} {i : Nat} {q : Addr} (l : ps.length = ds.length) (h : ps[i]? = some q) : ∃ d, ds[i]? = some d := by
  have := (List.getElem?_eq_some_iff.mp h).1
  exact ⟨_, List.getElem?_eq_getElem (by omega)⟩
section
variable {a : Addr} {xs : List V} {g : TG} {tt : TT} {te : TE} {vs : List Nat} {σ : L2.St} {H : Hp} {k : Nat} {Q : VK}
/-- [e for x in NAME], NAME a list or a tuple: by the turn and the heap -/
theorem lc_seqit (hi : σ[k]? = some (some (.ref a))) (hq : SqQ K H a xs) (Pv : Addr → Nat → Hp → Prop) (h0 : ∀ D, H D = none → Pv D 0 (upd H D (.lst []))) (hG : ∀ D i H', Pv D i H' → Same H H')
    (hs : ∀ D i x H', H D = none → xs[i]? = some x → Pv D i H' → g x (wipe σ vs) H' fun σ2 H2 => wipe σ2 vs = wipe σ vs ∧ tt σ2 H2 fun b H3 => if b = true then te σ2 H3 fun y H4 => ∃ acc, H4 D = some (.lst acc) ∧ acc.length < sizeLine ∧ Pv D (i + 1) (upd H4 D (.lst (acc ++ [y]))) else Pv D (i + 1) H3)
    (hd : ∀ D H', H D = none → Pv D xs.length H' → Q (.ref D) H') : tLc (fun σ H R => iList K (tVar k) σ H R ∨ iTup K (tVar k) σ H R) g tt te vs σ H Q := by
  rcases hq with h | h
  · exact .inl ⟨_, hi, a, rfl, ⟨_, h⟩, fun D nD => lc_it (walk_list (xs := xs)) (Pv D) (h0 D nD) (fun i H' _ p => (hG D i H' p).seq h) (fun i x Hc Hx hi p y => by
      obtain ⟨rfl, hx⟩ := y
      exact hs D i x _ nD hx p) (fun H' p => hd D H' nD p)⟩
  · exact .inr ⟨_, hi, a, rfl, ⟨_, h⟩, fun D nD => lc_it (walk_tup (xs := xs)) (Pv D) (h0 D nD) (fun i H' _ p => Same.t (hG D i H' p) h) (fun i x Hc Hx hi p y => by
      obtain ⟨rfl, hx⟩ := y
      exact hs D i x _ nD hx p) (fun H' p => hd D H' nD p)⟩
end
theorem go_fld {ta : TE} {f : Str} {σ : L2.St} {H : Hp} {Q : VK} (h : ta σ H fun x H1 => ∃ a C dx fs v, x = .ref a ∧ H1 a = some (.ins C dx fs) ∧ Cls K C ∧ NoAttr K C f ∧ fs.lookup f = some v ∧ Q v H1) : tFld K ta f σ H Q := h
theorem go_sfld {ta tv : TE} {f : Str} {D : Ends} {σ : L2.St} {H : Hp} (h : tv σ H fun y H1 => ta σ H1 fun x H2 => ∃ a C dx fs, x = .ref a ∧ H2 a = some (.ins C dx fs) ∧ Cls K C ∧ NoAttr K C f ∧ fs.length < 1000 ∧ D.nx σ (upd H2 a (.ins C dx (putF f y fs)))) : sFld K ta tv f D σ H := h
theorem sqT_but {H H' : Hp} {p a : Addr} {o : HO} {xs : List V} (hp : H p = some o) (n1 : ∀ xs, o ≠ .tup xs) (n2 : ∀ ob u, o ≠ .frz ob u) (m : Mv p H H') (h : SqT K H a xs) : SqT K H' a xs := by
  rcases h with (h | ⟨ob, h⟩) | h
  · exact .inl (.inl (m _ _ (ne_of_two h hp (fun z => n1 _ z.symm)) h))
  · exact .inl (.inr ⟨ob, m _ _ (ne_of_two h hp (fun z => n2 _ _ z.symm)) h⟩)
  · exact .inr h
theorem tupN_but {H H' : Hp} {p a : Addr} {o : HO} (hp : H p = some o) (n2 : ∀ ob u, o ≠ .frz ob u) (m : Mv p H H') (h : TupN K H a) : TupN K H' a := by
  rcases h with ⟨ob, xs, h, d⟩ | h
  · exact .inl ⟨ob, xs, m _ _ (ne_of_two h hp (fun z => n2 _ _ z.symm)) h, d⟩
  · exact .inr h
theorem BookAt.but {C C' p bk dx : Addr} {fs : List (Str × V)} {H H' : Hp} {ws : List (List Nat)} (hne : bk ≠ p) (hp : H p = some (.ins C' dx fs)) (m : Mv p H H') (h : BookAt K C H bk ws) : BookAt K C H' bk ws := by
  obtain ⟨dx, t, h1, h2, h3⟩ := h
  exact ⟨dx, t, m _ _ hne h1, sqT_but hp (fun _ z => by cases z) (fun _ _ z => by cases z) m h2, tupN_but hp (fun _ _ z => by cases z) m h3⟩
theorem DeedsAt.but {C' p dp dx : Addr} {fs : List (Str × V)} {H H' : Hp} {ds : List (List Nat)} {k : Nat} (hp : H p = some (.ins C' dx fs)) (m : Mv p H H') (h : DeedsAt H dp ds k) : DeedsAt H' dp ds k := by
  obtain ⟨ps, h1, h2, h3⟩ := h
  refine ⟨ps, m _ _ (ne_of_two h1 hp (fun z => by cases z)) h1, h2, fun i q d a b => ?_⟩
  obtain ⟨g1, g2⟩ := h3 i q d a b
  exact ⟨m _ _ (ne_of_two g1 hp (fun z => by cases z)) g1, g2⟩
/-- deeds as a machine keeps them -/
def TupsAt (K : PySem.W.Frag) (H : Hp) (t : Addr) (ds : List (List Nat)) : Prop := ∃ ps : List Addr, SqT K H t (ps.map V.ref) ∧ ps.length = ds.length ∧ ∀ (i : Nat) (q : Addr) (d : List Nat), ps[i]? = some q → ds[i]? = some d → SqT K H q (nv d)
theorem TupsAt.same {H H' : Hp} {t : Addr} {ds : List (List Nat)} (e : Same H H') (h : TupsAt K H t ds) : TupsAt K H' t ds := by
  obtain ⟨ps, h1, h2, h3⟩ := h
  exact ⟨ps, Same.t e h1, h2, fun i q d a b => Same.t e (h3 i q d a b)⟩
theorem TupsAt.but {H H' : Hp} {p t : Addr} {o : HO} {ds : List (List Nat)} (hp : H p = some o) (n1 : ∀ xs, o ≠ .tup xs) (n2 : ∀ ob u, o ≠ .frz ob u) (m : Mv p H H') (h : TupsAt K H t ds) : TupsAt K H' t ds := by
  obtain ⟨ps, h1, h2, h3⟩ := h
  exact ⟨ps, sqT_but hp n1 n2 m h1, h2, fun i q d a b => sqT_but hp n1 n2 m (h3 i q d a b)⟩
def MachAt (K : PySem.W.Frag) (CB CM : Addr) (H : Hp) (x : Addr) (ws ds : List (List Nat)) (m : Nat) : Prop := ∃ dx bk t, H x = some (.ins CM dx [("book", .ref bk), ("deeds", .ref t), ("states", .int m)]) ∧ BookAt K CB H bk ws ∧ TupsAt K H t ds
/-- deeds as they may be told: a list or a tuple of lists or tuples -/
def DeedsQ (K : PySem.W.Frag) (H : Hp) (dp : Addr) (ds : List (List Nat)) (m : Nat) : Prop := ∃ ps : List Addr, SqQ K H dp (ps.map V.ref) ∧ ps.length = ds.length ∧ ∀ (i : Nat) (q : Addr) (d : List Nat), ps[i]? = some q → ds[i]? = some d → SqQ K H q (nv d) ∧ d.length = m ∧ ∀ s ∈ d, s < m
theorem DeedsQ.same {H H' : Hp} {dp : Addr} {ds : List (List Nat)} {m : Nat} (e : Same H H') (h : DeedsQ K H dp ds m) : DeedsQ K H' dp ds m := by
  obtain ⟨ps, h1, h2, h3⟩ := h
  exact ⟨ps, Same.q e h1, h2, fun i q d a b => ⟨Same.q e (h3 i q d a b).1, (h3 i q d a b).2⟩⟩
theorem sqQ_but {H H' : Hp} {p a : Addr} {C dx : Addr} {fs : List (Str × V)} {xs : List V} (hp : H p = some (.ins C dx fs)) (m : Mv p H H') (h : SqQ K H a xs) : SqQ K H' a xs := by
  rcases h with h | h
  · rcases h with h | h
    · rcases h with h | ⟨ob, h⟩
      · exact .inl (.inl (.inl (m _ _ (ne_of_two h hp (fun z => by cases z)) h)))
      · exact .inl (.inl (.inr ⟨ob, m _ _ (ne_of_two h hp (fun z => by cases z)) h⟩))
    · exact .inl (.inr h)
  · exact .inr (sqT_but hp (fun _ z => by cases z) (fun _ _ z => by cases z) m h)
theorem DeedsQ.but {H H' : Hp} {p dp C dx : Addr} {fs : List (Str × V)} {ds : List (List Nat)} {k : Nat} (hp : H p = some (.ins C dx fs)) (m : Mv p H H') (h : DeedsQ K H dp ds k) : DeedsQ K H' dp ds k := by
  obtain ⟨ps, h1, h2, h3⟩ := h
  exact ⟨ps, sqQ_but hp m h1, h2, fun i q d a b => ⟨sqQ_but hp m (h3 i q d a b).1, (h3 i q d a b).2⟩⟩
theorem deeds_arg {H : Hp} {dp : Addr} {ds : List (List Nat)} {m : Nat} (h : DeedsQ K H dp ds m) (l1 : 1 ≤ ds.length) (l2 : ds.length ≤ 40) (m1 : 1 ≤ m) (m2 : m ≤ 40) : DArg K H (.ref dp) ds.length true := by
  obtain ⟨ps, h1, h2, h3⟩ := h
  have hd : ∀ d ∈ ds, d.length = m ∧ ∀ s ∈ d, s < m := fun d hd => by
    obtain ⟨j, hj, rfl⟩ := List.mem_iff_getElem.mp hd
    exact (h3 j _ _ (List.getElem?_eq_getElem (by omega)) (List.getElem?_eq_getElem hj)).2
  refine .inr ⟨dp, ps.map V.ref, ds.map fun d => some (nv d), rfl, h1, by rw [List.length_map]; omega, by rw [List.length_map, List.length_map, h2], fun i v o hv ho => ?_, ?_⟩
  · obtain ⟨q, hq, rfl⟩ := ref_get hv
    obtain ⟨d, hd', rfl⟩ := map_at ho
    obtain ⟨g1, g2, g3⟩ := h3 i q d hq hd'
    refine ⟨q, rfl, g1, by rw [nv_len]; omega, fun x hx => ?_⟩
    obtain ⟨z, _, rfl⟩ := nv_mem hx
    exact hasInt_int _
  · have f1 : firstN (ds.map fun d => some (nv d)) = m := by
      match ds, l1 with
      | d :: r, _ =>
        show (nv d).length = m
        rw [nv_len]
        exact (hd d List.mem_cons_self).1
    unfold deedsB
    rw [List.length_map, decide_eq_true rfl, f1, Bool.true_and, Eq.comm, Bool.and_eq_true, List.all_map, List.all_map, List.all_eq_true, List.all_eq_true]
    refine ⟨fun d hm => ?_, fun d hm => ?_⟩
    · obtain ⟨a1, a2⟩ := hd d hm
      show (decide (1 ≤ (nv d).length) && decide ((nv d).length ≤ 40)) = true
      rw [nv_len, decide_eq_true (by omega), decide_eq_true (by omega)]
      rfl
    · obtain ⟨a1, a2⟩ := hd d hm
      show (decide ((nv d).length = m) && inB m (nv d)) = true
      rw [nv_len, decide_eq_true a1, Bool.true_and]
      unfold inB
      rw [List.all_eq_true]
      intro v hv
      obtain ⟨z, hz, rfl⟩ := nv_mem hv
      have := a2 z hz
      show (decide ((0 : Int) ≤ (z : Int)) && decide ((z : Int) ≤ (m : Int) - 1)) = true
      rw [decide_eq_true (by omega), decide_eq_true (by omega)]
      rfl
def NotC (K : PySem.W.Frag) (C : Addr) (H : Hp) (x : V) : Prop := ∃ t, TyX K H x t ∧ PySem.W.kitOne K t (.ref C) = some false
def sp_Machine_init (K : PySem.W.Frag) (CB CM EB EM : Addr) : Sp := fun vs H Q E => ∃ (p dx : Addr) (x y : V), vs = [.ref p, x, y] ∧ H p = some (.ins CM dx []) ∧ ((NotC K CB H x ∧ RaisedPart E EB H "book") ∨ ∃ (bk : Addr) (ws : List (List Nat)), x = .ref bk ∧ BookAt K CB H bk ws ∧ 1 ≤ ws.length ∧
  ((DArg K H y ws.length false ∧ RaisedPart E EM H "deeds") ∨ ∃ (dp : Addr) (ds : List (List Nat)) (m : Nat), y = .ref dp ∧ DeedsQ K H dp ds m ∧ ds.length = ws.length ∧ 1 ≤ ds.length ∧ ds.length ≤ 40 ∧ 1 ≤ m ∧ m ≤ 40 ∧
    ∀ H', (∀ b u, H b = some u → b ≠ p → H' b = some u) → MachAt K CB CM H' p ws ds m → Q .non H'))
theorem ok_Machine_init : FnOk P w K mg base (L2.CX P w) 7 T.f_Machine_init T.fd_Machine_init ["self", "book", "deeds"] (sp_Machine_init K T.C_Book T.C_Machine T.e_BadBook.C T.e_BadMachine.C) := by
  refine T.F_Machine_init.okX sc_Machine_init (fun vs H Q E h => ?_) (fun cdv A outer s H vs Q E hr h => ?_)
  · obtain ⟨p, dx, x, y, rfl, _⟩ := h
    rfl
  · obtain ⟨p, dx, x, y, rfl, hp, h⟩ := h
    refine ⟨_, (pss_cons (ps_if (pt_not (pt_val (pe_callB call_isi (by rfl) T.m_isinstance (by decide +kernel) (pa_cons (pv 1) (pa_cons (pe_glob (v := .ref T.C_Book) (by rfl) T.gC_Book rfl) pa_nil)))))
      (pss_one (ps_raise rfl (takes_of rfl rfl rfl rfl) (pmk_oex T.e_BadBook.oex T.e_BadBook.iC T.e_BadBook.tI (ok_init T.e_BadBook in_BadBook) (hr.mono (by decide)) T.e_BadBook.b .nil pass0 (by rfl) T.e_BadBook.gC (pa_cons pe_str pa_nil))))
      pss_nil)
    (pss_cons (ps_if (pt_not (pt_val (pe_call (ok_are_deeds T) (hr.mono (by decide)) (by rfl) T.g_are_deeds T.F_are_deeds.kp T.b_are_deeds .nil pass0 (pa_cons (pv 2) (pa_cons (pe_callB call_len_seq (by rfl) T.m_len PySem.boot_len (pa_cons (pe_fld (pv 1) rfl) pa_nil)) pa_nil)))))
      (pss_one (ps_raise rfl (takes_of rfl rfl rfl rfl) (pmk_oex T.e_BadMachine.oex T.e_BadMachine.iC T.e_BadMachine.tI (ok_init T.e_BadMachine in_BadMachine) (hr.mono (by decide)) T.e_BadMachine.b .nil pass0 (by rfl) T.e_BadMachine.gC (pa_cons pe_str pa_nil))))
      pss_nil)
    (pss_cons (ps_fld (pv 0) (pv 1) rfl)
    (pss_cons (ps_fld (pv 0) (pe_callTy call_tuple_frz (by rfl) T.m_tuple (by decide +kernel) (pa_cons (pe_lc (own := [("deed", 3)]) rfl sc_Machine_init.nd (pi_seq (pv 2)) (blkOk_by (own := [("deed", 3)]) (N := ["self", "book", "deeds", "deed"]) (sc := defScope s_Machine_init) (by decide +kernel)) (fun _ _ _ _ _ => (pg_name (i := 3) sc_Machine_init.nd rfl (.inl rfl))) (fun _ _ _ _ _ => pts_nil) (fun _ _ _ _ _ => (pe_callTy (inK_call_tuple_frz (K := K) rfl) (by rfl) T.m_tuple (by decide +kernel) (pa_cons (pv 3) pa_nil)))) pa_nil)) rfl)
    (pss_one (ps_fld (pv 0) (pe_callB call_len_seq (by rfl) T.m_len PySem.boot_len (pa_cons (pe_ix ix_tup (pe_fld (pv 0) rfl) pe_int (fun _ _ => rfl)) pa_nil)) rfl)))))), ?_⟩
    rcases h with ⟨⟨t, ht, hk⟩, hE⟩ | ⟨bk, ws, rfl, hB, w1, h⟩
    · refine go_seq (go_if (go_not (go_b ⟨_, rfl, x, .ref T.C_Book, _, _, false, rfl, .own _, ht, hk, _, rfl, iteT (B := _) ?_⟩)))
      exact mk_part T.e_BadBook.oex T.e_BadBook.np hE
    rcases h with ⟨hA, hE⟩ | ⟨dp, ds, m, rfl, hD, hl, l1, l2, m1, m2, q⟩
    · obtain ⟨dxb, t0, hb1, hb2, hb3⟩ := hB
      refine go_seq (go_if (go_not (go_b ⟨_, rfl, .ref bk, .ref T.C_Book, _, _, true, rfl, .own _, .base (.ins hb1 T.cl_Book T.oc_Book T.on_Book T.ot_Book T.ob_Book), kitOne_self, _, rfl, iteF (A := _) ?_⟩)))
      dsimp only [tNext]
      refine go_seq (go_if (go_not (go_b ⟨_, rfl, _, rfl, bk, T.C_Book, dxb, _, .ref t0, rfl, hb1, T.cl_Book, T.na_Book_words, rfl, t0, _, rfl, .inr hb2, y, ws.length, false, by rw [List.length_map]; rfl, hA, w1, fun H1 e1 => ⟨_, rfl, iteT (B := _) ?_⟩⟩)))
      exact mk_part T.e_BadMachine.oex T.e_BadMachine.np fun d H' e2 hd => hE d H' (e1.trans e2) hd
    have hbp : bk ≠ p := by
      obtain ⟨_, _, h1, _⟩ := hB
      exact ne_of_two h1 hp (fun z => by injection z with _ _ z; cases z)
    have hdl : ∀ (i : Nat) (d : List Nat), ds[i]? = some d → d.length = m := fun i d hd => by
      obtain ⟨ps, _, lp, hds⟩ := hD
      have hi := (List.getElem?_eq_some_iff.mp hd).1
      exact (hds i _ d (List.getElem?_eq_getElem (by omega)) hd).2.1
    obtain ⟨dxb, t0, hb1, hb2, hb3⟩ := id hB
    refine go_seq (go_if (go_not (go_b ⟨_, rfl, .ref bk, .ref T.C_Book, _, _, true, rfl, .own _, .base (.ins hb1 T.cl_Book T.oc_Book T.on_Book T.ot_Book T.ob_Book), kitOne_self, _, rfl, iteF (A := _) ?_⟩)))
    dsimp only [tNext]
    refine go_seq (go_if (go_not (go_b ⟨_, rfl, _, rfl, bk, T.C_Book, dxb, _, .ref t0, rfl, hb1, T.cl_Book, T.na_Book_words, rfl, t0, _, rfl, .inr hb2, .ref dp, ds.length, true, by rw [List.length_map, hl]; rfl, deeds_arg hD l1 l2 m1 m2, l1, fun H1 e1 => ⟨_, rfl, iteF (A := _) ?_⟩⟩)))
    dsimp only [tNext]
    refine go_seq (go_sfld ⟨_, rfl, _, rfl, p, T.C_Machine, dx, [], rfl, e1 _ _ hp, T.cl_Machine, T.na_Machine_book, by show 0 < 1000; decide, ?_⟩)
    have mv1 : Mv p H (upd H1 p (.ins T.C_Machine dx (putF "book" (.ref bk) []))) := (Mv.of e1).trans (Mv.upd _ _ _)
    have hp2 : upd H1 p (.ins T.C_Machine dx (putF "book" (.ref bk) [])) p = some (.ins T.C_Machine dx [("book", .ref bk)]) := upd_same
    have hB2 := hB.but hbp hp mv1
    have hD2 := hD.but hp mv1
    generalize upd H1 p (.ins T.C_Machine dx (putF "book" (.ref bk) [])) = H2 at mv1 hp2 hB2 hD2 ⊢
    clear e1 hb1 hb2 hb3 hB hD
    obtain ⟨ps, hdp, lp, hds⟩ := hD2
    dsimp only
    refine go_seq (go_sfld (go_cb (go_cons (lc_seqit (a := dp) (xs := ps.map V.ref) (by exact rfl) hdp (fun D i H' => ∃ qs : List Addr, H' D = some (.lst (qs.map V.ref)) ∧ qs.length = i ∧ (∀ (j : Nat) (q : Addr) (d : List Nat), qs[j]? = some q → ds[j]? = some d → SqT K H' q (nv d)) ∧ Same H2 H')
      (fun D nD => ⟨[], upd_same, rfl, (fun j q d h => by cases h), same_new nD⟩) (fun D i Hc h => h.choose_spec.2.2.2) (fun D i x Hc nD hx h => ?_) (fun D Hc nD h => ?_)))))
    · obtain ⟨qs, hQ, lq, hqs, e⟩ := h
      obtain ⟨y, hy, rfl⟩ := ref_get hx
      obtain ⟨d, hd⟩ := deed_of lp hy
      obtain ⟨g1, g2, g3⟩ := hds i y d hy hd
      have stp : ∀ (t : Addr) (H4 : Hp), Same Hc H4 → SqT K H4 t (nv d) → ∃ acc, H4 D = some (.lst acc) ∧ acc.length < sizeLine ∧ ∃ qs : List Addr, upd H4 D (.lst (acc ++ [V.ref t])) D = some (.lst (qs.map V.ref)) ∧ qs.length = i + 1 ∧ (∀ (j : Nat) (q : Addr) (d : List Nat), qs[j]? = some q → ds[j]? = some d → SqT K (upd H4 D (.lst (acc ++ [V.ref t]))) q (nv d)) ∧ Same H2 (upd H4 D (.lst (acc ++ [V.ref t]))) := fun t H4 st ht => by
        refine ⟨_, st _ _ hQ, ?_, qs ++ [t], ?_, ?_, fun j q d' hj hd' => ?_, same_set (e.trans st) nD⟩
        · rw [List.length_map, lq]
          have : i < ps.length := (List.getElem?_eq_some_iff.mp hy).1
          exact Nat.lt_of_lt_of_le (show i < 41 by omega) (by decide)
        · rw [upd_same, List.map_append]
          rfl
        · rw [List.length_append, lq]
          rfl
        · refine sqT_but (p := D) (st _ _ hQ) (fun _ z => by cases z) (fun _ _ z => by cases z) (Mv.upd _ _ _) ?_
          by_cases hji : j < qs.length
          · rw [List.getElem?_append_left hji] at hj
            exact Same.t st (hqs j q d' hj hd')
          · have : j = i := by
              have := (List.getElem?_eq_some_iff.mp hj).1
              rw [List.length_append] at this
              have h1 : ([t] : List Addr).length = 1 := rfl
              omega
            subst this
            rw [List.getElem?_append_right (by omega), lq, Nat.sub_self] at hj
            cases hj
            rw [hd] at hd'
            cases hd'
            exact ht
      refine ⟨rfl, ?_⟩
      refine iteT (B := True) ?_
      rcases Same.q e g1 with g1 | g1
      · exact ⟨_, rfl, y, _, rfl, .inl ⟨g1, fun t o nt hdn => stp t _ (same_new nt) (.inl (.inr ⟨o, upd_same⟩))⟩⟩
      · exact ⟨_, rfl, y, _, rfl, .inr ⟨g1, stp y Hc (Same.refl _) g1⟩⟩
    obtain ⟨qs, hQ, lq, hqs, e⟩ := h
    have lq' : qs.length = ds.length := by rw [lq, List.length_map, lp]
    refine go_nil ⟨D, _, rfl, .inl ⟨.inl (.inl hQ), fun t o nt hdn => ?_⟩⟩
    have st := same_new (o := HO.frz o (.tup (qs.map V.ref))) nt
    have hT : TupsAt K (upd Hc t (.frz o (.tup (qs.map V.ref)))) t ds := ⟨qs, .inl (.inr ⟨o, upd_same⟩), lq', fun i q d a b => Same.t st (hqs i q d a b)⟩
    have hp3 := (e.trans st) _ _ hp2
    have hB3 := hB2.same (e.trans st)
    have mv3 := mv1.trans (Mv.of (e.trans st))
    generalize upd Hc t (.frz o (.tup (qs.map V.ref))) = H3 at hT hp3 hB3 mv3 ⊢
    clear st nt hqs hQ e hds hdp hB2 hp2 mv1
    refine ⟨_, rfl, p, T.C_Machine, dx, _, rfl, hp3, T.cl_Machine, T.na_Machine_deeds, by show 1 < 1000; decide, ?_⟩
    have mv4 : Mv p H (upd H3 p (.ins T.C_Machine dx (putF "deeds" (.ref t) [("book", .ref bk)]))) := mv3.trans (Mv.upd _ _ _)
    have hp4 : upd H3 p (.ins T.C_Machine dx (putF "deeds" (.ref t) [("book", .ref bk)])) p = some (.ins T.C_Machine dx [("book", .ref bk), ("deeds", .ref t)]) := upd_same
    have hB4 := hB3.but hbp hp3 (Mv.upd p H3 (.ins T.C_Machine dx (putF "deeds" (.ref t) [("book", .ref bk)])))
    have hT4 := hT.but hp3 (fun _ z => by cases z) (fun _ _ z => by cases z) (Mv.upd p H3 (.ins T.C_Machine dx (putF "deeds" (.ref t) [("book", .ref bk)])))
    generalize upd H3 p (.ins T.C_Machine dx (putF "deeds" (.ref t) [("book", .ref bk)])) = H4 at mv4 hp4 hB4 hT4 ⊢
    clear hT hp3 hB3 mv3
    obtain ⟨qs2, g1, g2, g3⟩ := id hT4
    obtain ⟨y0, hy0⟩ : ∃ y, qs2[0]? = some y := ⟨_, List.getElem?_eq_getElem (by omega)⟩
    obtain ⟨d0, hd0⟩ := deed_of g2 hy0
    have at0 : atI (qs2.map V.ref) 0 = some (.ref y0) := by
      have h0 : 0 < (qs2.map V.ref).length := by rw [List.length_map]; omega
      show atI (qs2.map V.ref) ((0 : Nat) : Int) = _
      rw [at_nat h0]
      have := List.getElem?_eq_getElem h0
      rw [List.getElem?_map, hy0] at this
      exact this.symm
    have ld0 : d0.length = m := hdl 0 d0 hd0
    dsimp only
    refine go_sfld (go_cb (go_cons (go_op (go_fld ⟨_, rfl, p, T.C_Machine, dx, _, .ref t, rfl, hp4, T.cl_Machine, T.na_Machine_deeds, rfl, go_c ⟨t, _, _, _, rfl, rfl, g1, at0, go_nil ⟨y0, _, rfl, .inr (g3 0 y0 d0 hy0 hd0), _, rfl, p, T.C_Machine, dx, _, rfl, hp4, T.cl_Machine, T.na_Machine_states, by show 2 < 1000; decide, ?_⟩⟩⟩))))
    rw [nv_len, ld0]
    refine q _ (fun b u hb hne => (mv4.trans (Mv.upd _ _ _)) _ _ hne hb) ⟨dx, bk, t, upd_same, hB4.but hbp hp4 (Mv.upd _ _ _), hT4.but hp4 (fun _ z => by cases z) (fun _ _ z => by cases z) (Mv.upd _ _ _)⟩
end
end K21
namespace K21
open PySem PySem.Spec PyProof.Rows L2 Kx SX LamX
section
variable {P : Program} {w : World} {K : PySem.W.Frag} {mg : Str → Option Value} {base : Heap} (T : Tx K mg)
/-- what is told as a row of a book of n words, and whether it is one -/
def RowArg (K : PySem.W.Frag) (H : Hp) (x : V) (n : Nat) (b : Bool) : Prop := (b = false ∧ ∃ t, TyX K H x (.type t) ∧ PySem.W.kitAny K (.type t) [.type "list", .type "tuple"] = some false) ∨
  ∃ (a : Addr) (vs : List V), x = .ref a ∧ SqQ K H a vs ∧ vs.length ≤ 20000 ∧ (∀ v ∈ vs, HasInt K H v) ∧ b = (decide (vs.length ≤ 10000) && vs.all fun v => withinV v (some 0) (some ((n : Int) - 1)))
def sp_is_row (K : PySem.W.Frag) (CB : Addr) : Sp := fun vs H Q _ => ∃ (bk : Addr) (ws : List (List Nat)) (x : V) (b : Bool), vs = [.ref bk, x] ∧ BookAt K CB H bk ws ∧ RowArg K H x ws.length b ∧ ∀ H', Same H H' → Q (.bl b) H'
theorem ok_is_row : FnOk P w K mg base CX0 3 T.f_is_row T.fd_is_row ["book", "value"] (sp_is_row K T.C_Book) := by
  refine T.F_is_row.ok sc_is_row (fun vs H Q E h => ?_) (fun cdv A outer s H vs Q E hr h => ?_)
  · obtain ⟨bk, ws, x, b, rfl, _⟩ := h
    rfl
  · obtain ⟨bk, ws, x, b, rfl, hB, h, q⟩ := h
    refine ⟨_, (pss_cons (ps_if (PW.pt (pw_or (pt_not (pt_val (pe_call (ok_is_list T) (hr.mono (by decide)) (by rfl) T.g_is_list T.F_is_list.kp T.b_is_list .nil pass0 (pa_cons (pv 1) pa_nil)))) (pw_or1 (pt_cmpR op_gt (pe_callB call_len_seq (by rfl) T.m_len PySem.boot_len (pa_cons (pv 1) pa_nil)) (pe_glob (v := .int 10000) (by rfl) T.c_MOST_NUMBERS ⟨_, rfl⟩) (nomark _)))))
      (pss_one (ps_ret pe_bl))
      pss_nil)
    (pss_one (ps_ret (pe_callB (cr_all rfl) (by rfl) T.m_all (by decide +kernel) (pa_cons (pe_lc (own := [("number", 2)]) rfl sc_is_row.nd (pi_seq (pv 1)) (blkOk_by (own := [("number", 2)]) (N := ["book", "value", "number"]) (sc := defScope s_is_row) (by decide +kernel)) (fun _ _ _ _ _ => (pg_name (i := 2) sc_is_row.nd rfl (.inl rfl))) (fun _ _ _ _ _ => pts_nil) (fun _ _ _ _ _ => (pe_call (ok_is_within T) (hr.mono (by decide)) (by rfl) T.g_is_within T.F_is_within.kp T.b_is_within .nil pass0 (pa_cons (pv 2) (pa_cons pe_int (pa_cons (pe_op op_sub (pe_callB (inK_call_len_seq (K := K) rfl) (by rfl) T.m_len PySem.boot_len (pa_cons (inK_pe_fld (K := K) rfl (pv 0) rfl) pa_nil)) pe_int) pa_nil)))))) pa_nil))))), ?_⟩
    rcases h with ⟨rfl, n, ht, hk⟩ | ⟨a, xs, rfl, hq, hl, hw, rfl⟩
    · refine go_seq (go_if (go_or2 (go_not (go_b ⟨x, rfl, x, n, false, rfl, ht, hk, fun H1 e1 => ⟨_, rfl, iteT (B := _) (iteT (B := _) (go_ret (q H1 e1)))⟩⟩))))
    · obtain ⟨n, ht, hk⟩ := isl_q hq
      refine go_seq (go_if (go_or2 (go_not (go_b ⟨_, rfl, _, n, true, rfl, ht, hk, fun H1 e1 => ⟨_, rfl, iteF (A := _) ?_⟩⟩))))
      refine go_test (go_op (go_cb (go_cons (go_var rfl (go_nil ⟨a, _, rfl, Same.q e1 hq, ?_⟩)))))
      refine ⟨_, _, rfl, rfl, _, rfl, ?_⟩
      have e2 : decide ((10000 : Int) < (xs.length : Int)) = !decide (xs.length ≤ 10000) := by
        by_cases h : xs.length ≤ 10000
        · rw [decide_eq_true h, decide_eq_false (by omega)]
          rfl
        · rw [decide_eq_false h, decide_eq_true (by omega)]
          rfl
      show if decide ((10000 : Int) < (xs.length : Int)) = true then _ else _
      rw [e2]
      cases h : decide (xs.length ≤ 10000) with
      | false =>
        rw [h, Bool.false_and] at q
        refine iteT (B := _) ?_
        exact go_ret (q H1 e1)
      | true =>
        rw [h, Bool.true_and] at q
        refine iteF (A := _) ?_
        dsimp only [tNext]
        have lw : ((ws.map tx).length : Int) - 1 = (ws.length : Int) - 1 := by rw [List.length_map]
        refine go_ret (go_cb (go_cons (lc_seqmap (a := a) (xs := xs) (fun v => .bl (withinV v (some 0) (some ((ws.length : Int) - 1)))) (by exact rfl) (Same.q e1 hq) (by omega) (fun i v Hc Q' R' hv e2 q' => ?_) (fun D Hc e2 hD => ?_))))
        · obtain ⟨dx, t, hb, ht, _⟩ := (hB.same e1).same e2
          refine ⟨rfl, ?_⟩
          refine iteT (B := True) ?_
          refine ⟨_, rfl, _, rfl, bk, T.C_Book, dx, _, .ref t, rfl, hb, T.cl_Book, T.na_Book_words, rfl, t, _, rfl, .inr ht, _, _, rfl, rfl, v, some 0, some ((ws.length : Int) - 1), by show [v, V.int 0, V.int (((ws.map tx).length : Int) - 1)] = _; rw [lw]; rfl, ((hw v (List.mem_of_getElem? hv)).same e1).same e2, q' Hc (Same.refl _)⟩
        · refine go_nil ⟨D, xs.map fun v => withinV v (some 0) (some ((ws.length : Int) - 1)), rfl, .inl (.inl (by rw [hD, List.map_map]; rfl)), ?_⟩
          rw [List.all_map]
          exact q Hc (e1.trans e2)
/-- where the deeds of a row lead -/
def endN (ds : List (List Nat)) (r : List Nat) (st : Nat) : Nat := r.foldl (fun s k => (ds.getD k []).getD s 0) st
def sp_end_of_row (K : PySem.W.Frag) : Sp := fun vs H Q _ => ∃ (t a : Addr) (ds : List (List Nat)) (m st : Nat) (r : List Nat), vs = [.ref t, .ref a, .int st] ∧ TupsAt K H t ds ∧ SqQ K H a (nv r) ∧ (∀ d ∈ ds, d.length = m ∧ ∀ s ∈ d, s < m) ∧ (∀ k ∈ r, k < ds.length) ∧ st < m ∧
  ∀ H', Same H H' → Q (.int (endN ds r st : Nat)) H'
theorem ok_end_of_row : FnOk P w K mg base CX0 1 T.f_end_of_row T.fd_end_of_row ["deeds", "row", "start"] (sp_end_of_row K) := by
  refine T.F_end_of_row.ok sc_end_of_row (fun vs H Q E h => ?_) (fun cdv A outer s H vs Q E hr h => ?_)
  · obtain ⟨t, a, ds, m, st, r, rfl, _⟩ := h
    rfl
  · obtain ⟨t, a, ds, m, st, r, rfl, ⟨ps, g1, g2, g3⟩, hq, hd, hr2, hst, q⟩ := h
    refine ⟨_, (pss_cons (ps_set (i := 3) sc_end_of_row.nd rfl (.inl rfl) (pv 2))
    (pss_cons (ps_for PassesOwn.never rfl (pi_seq (pv 1)) (pg_name (i := 4) sc_end_of_row.nd rfl (.inl rfl))
      (pss_one (ps_set (i := 3) sc_end_of_row.nd rfl (.inl rfl) (pe_ix ix_tup (pe_ix ix_tup (pv 0) (pv 4) (fun _ _ => rfl)) (pv 3) (fun _ _ => rfl)))))
    (pss_one (ps_ret (pv 3))))), ?_⟩
    refine go_seq (go_asg ⟨_, rfl, ?_⟩)
    dsimp only [gName]
    refine go_seq (for_seq (a := a) (xs := nv r) (by exact rfl) hq (Same.refl _) (fun i σ H' => ∃ (o4 : Option V) (s : Nat), σ = [some (.ref t), some (.ref a), some (.int st), some (.int (s : Nat)), o4] ∧ s = endN ds (r.take i) st ∧ s < m ∧ Same H H') ⟨none, st, rfl, rfl, hst, Same.refl _⟩ (fun i σ' H' _ h => ?_) (fun i v σ' Hd hv h => ?_) (fun σ' Hd h => ?_))
    · obtain ⟨_, _, _, _, _, e⟩ := h
      exact e
    · obtain ⟨o4, s, rfl, hs, hsm, e⟩ := h
      obtain ⟨hi, rfl⟩ := nv_get hv
      have hk := getD_lt hi hr2
      obtain ⟨y, hy⟩ : ∃ y, ps[r.getD i 0]? = some y := ⟨_, List.getElem?_eq_getElem (by omega)⟩
      obtain ⟨d, hdk⟩ := deed_of g2 hy
      have gy := Same.t e (g3 _ y d hy hdk)
      obtain ⟨d1, d2⟩ := hd d (List.mem_of_getElem? hdk)
      have atk : atI (ps.map V.ref) ((r.getD i 0 : Nat) : Int) = some (.ref y) := by
        have h0 : r.getD i 0 < (ps.map V.ref).length := by rw [List.length_map]; omega
        rw [at_nat h0]
        have := List.getElem?_eq_getElem h0
        rw [List.getElem?_map, hy] at this
        exact this.symm
      dsimp only [gName]
      refine go_asg ⟨_, rfl, _, rfl, t, _, _, _, rfl, rfl, Same.t e g1, atk, _, rfl, y, _, _, _, rfl, rfl, gy, nv_at (by omega), ?_⟩
      have hdd : ds.getD (r.getD i 0) [] = d := by rw [List.getD_eq_getElem?_getD, hdk]; rfl
      refine ⟨_, d.getD s 0, rfl, ?_, getD_lt (by omega) d2, e⟩
      unfold endN at hs ⊢
      rw [List.take_add_one, List.getElem?_eq_getElem hi, List.foldl_append, ← hs]
      have : r[i] = r.getD i 0 := by rw [List.getD_eq_getElem?_getD, List.getElem?_eq_getElem hi]; rfl
      show _ = (ds.getD r[i] []).getD s 0
      rw [this, hdd]
    · obtain ⟨o4, s, rfl, hs, hsm, e⟩ := h
      rw [nv_len, List.take_length] at hs
      rw [← hs] at q
      exact go_ret (go_var rfl (q Hd e))
end
end K21
namespace K21
open PySem PySem.Spec PyProof.Rows L2 Kx SX LamX
section
variable {P : Program} {w : World} {K : PySem.W.Frag} {mg : Str → Option Value} {base : Heap} (T : Tx K mg)
/-- a machine whose deeds fit -/
structure Fits (ws ds : List (List Nat)) (m : Nat) : Prop where
  l : ws.length = ds.length
  l2 : ws.length ≤ 40
  nd : ws.Nodup
  d : ∀ d ∈ ds, d.length = m ∧ ∀ s ∈ d, s < m
theorem within_lt {m st : Nat} (h : st < m) : withinV (.int (st : Nat)) (some 0) (some ((m : Int) - 1)) = true := by
  show (decide ((0 : Int) ≤ (st : Int)) && decide ((st : Int) ≤ (m : Int) - 1)) = true
  rw [decide_eq_true (by omega), decide_eq_true (by omega)]
  rfl
def sp_Machine_done (K : PySem.W.Frag) (CB CM ER EN : Addr) : Sp := fun vs H Q E => ∃ (p : Addr) (ws ds : List (List Nat)) (m : Nat) (x y : V) (b : Bool), vs = [.ref p, x, y] ∧ MachAt K CB CM H p ws ds m ∧ Fits ws ds m ∧ RowArg K H x ws.length b ∧ HasInt K H y ∧
  ((b = false ∧ RaisedPart E ER H "row") ∨ (b = true ∧ withinV y (some 0) (some ((m : Int) - 1)) = false ∧ RaisedPart E EN H "start") ∨
    ∃ (a : Addr) (r : List Nat) (st : Nat), b = true ∧ x = .ref a ∧ SqQ K H a (nv r) ∧ (∀ k ∈ r, k < ds.length) ∧ y = .int (st : Nat) ∧ st < m ∧ ∀ H', Same H H' → Q (.int (endN ds r st : Nat)) H')
theorem ok_Machine_done : FnOk P w K mg base (L2.CX P w) 7 T.f_Machine_done T.fd_Machine_done ["self", "row", "start"] (sp_Machine_done K T.C_Book T.C_Machine T.e_BadRow.C T.e_BadNumber.C) := by
  refine T.F_Machine_done.okX sc_Machine_done (fun vs H Q E h => ?_) (fun cdv A outer s H vs Q E hr h => ?_)
  · obtain ⟨p, ws, ds, m, x, y, b, rfl, _⟩ := h
    rfl
  · obtain ⟨p, ws, ds, m, x, y, b, rfl, hM, hF, hR, hI, h⟩ := h
    refine ⟨_, (pss_cons (ps_if (pt_not (pt_val (pe_call (ok_is_row T) (hr.mono (by decide)) (by rfl) T.g_is_row T.F_is_row.kp T.b_is_row .nil pass0 (pa_cons (pe_fld (pv 0) rfl) (pa_cons (pv 1) pa_nil)))))
      (pss_one (ps_raise rfl (takes_of rfl rfl rfl rfl) (pmk_oex T.e_BadRow.oex T.e_BadRow.iC T.e_BadRow.tI (ok_init T.e_BadRow in_BadRow) (hr.mono (by decide)) T.e_BadRow.b .nil pass0 (by rfl) T.e_BadRow.gC (pa_cons pe_str pa_nil))))
      pss_nil)
    (pss_cons (ps_if (pt_not (pt_val (pe_call (ok_is_within T) (hr.mono (by decide)) (by rfl) T.g_is_within T.F_is_within.kp T.b_is_within .nil pass0 (pa_cons (pv 2) (pa_cons pe_int (pa_cons (pe_op op_sub (pe_fld (pv 0) rfl) pe_int) pa_nil))))))
      (pss_one (ps_raise rfl (takes_of rfl rfl rfl rfl) (pmk_oex T.e_BadNumber.oex T.e_BadNumber.iC T.e_BadNumber.tI (ok_init T.e_BadNumber in_BadNumber) (hr.mono (by decide)) T.e_BadNumber.b .nil pass0 (by rfl) T.e_BadNumber.gC (pa_cons pe_str pa_nil))))
      pss_nil)
    (pss_one (ps_ret (pe_call (ok_end_of_row T) (hr.mono (by decide)) (by rfl) T.g_end_of_row T.F_end_of_row.kp T.b_end_of_row .nil pass0 (pa_cons (pe_fld (pv 0) rfl) (pa_cons (pv 1) (pa_cons (pv 2) pa_nil)))))))), ?_⟩
    obtain ⟨dx, bk, t, hp, hB, hT⟩ := hM
    refine go_seq (go_if (go_not (go_b ⟨_, rfl, p, T.C_Machine, dx, _, .ref bk, rfl, hp, T.cl_Machine, T.na_Machine_book, rfl, _, rfl, bk, ws, x, b, rfl, hB, hR, fun H1 e1 => ⟨_, rfl, ?_⟩⟩)))
    rcases h with ⟨rfl, hE⟩ | h
    · refine iteT (B := _) ?_
      exact mk_part T.e_BadRow.oex T.e_BadRow.np fun d H' e2 hd => hE d H' (e1.trans e2) hd
    · have hb : b = true := by
        rcases h with ⟨hb, _⟩ | ⟨_, _, _, hb, _⟩
        · exact hb
        · exact hb
      subst hb
      refine iteF (A := _) ?_
      dsimp only [tNext]
      refine go_seq (go_if (go_not (go_b ⟨_, rfl, _, rfl, p, T.C_Machine, dx, _, .int m, rfl, e1 _ _ hp, T.cl_Machine, T.na_Machine_states, rfl, _, _, rfl, rfl, y, some 0, some ((m : Int) - 1), rfl, hI.same e1, _, rfl, ?_⟩)))
      rcases h with ⟨_, hw, hE⟩ | ⟨a, r, st, _, rfl, hq, hr2, rfl, hst, q⟩
      · rw [hw]
        refine iteT (B := _) ?_
        exact mk_part T.e_BadNumber.oex T.e_BadNumber.np fun d H' e2 hd => hE d H' (e1.trans e2) hd
      · rw [within_lt hst]
        refine iteF (A := _) ?_
        dsimp only [tNext]
        refine go_ret ?_
        exact ⟨_, rfl, p, T.C_Machine, dx, _, .ref t, rfl, e1 _ _ hp, T.cl_Machine, T.na_Machine_deeds, rfl, _, rfl, _, rfl, t, a, ds, m, st, r, rfl, hT.same e1, Same.q e1 hq, hF.d, hr2, hst, fun H' e => q H' (e1.trans e)⟩
theorem numOf_lt : ∀ (i : Nat) (ws : List (List Nat)) (x : List Nat) (k : Nat), numOf i ws x = some k → k < i + ws.length
  | _, [], _, _, h => by cases h
  | i, w :: r, x, k, h => by
    rw [show numOf i (w :: r) x = if w = x then some i else numOf (i + 1) r x from rfl] at h
    rw [List.length_cons]
    split at h
    · cases h
      omega
    · have := numOf_lt (i + 1) r x k h
      omega
theorem readN_lt {ws : List (List Nat)} {l : List Nat} : ∀ k ∈ readN ws l, k < ws.length := fun k hk => by
  obtain ⟨it, _, h⟩ := List.mem_filterMap.mp hk
  have := numOf_lt 0 ws it k h
  omega
def sp_Machine_done_text (K : PySem.W.Frag) (CB CM ET EN : Addr) : Sp := fun vs H Q E => ∃ (p : Addr) (ws ds : List (List Nat)) (m : Nat) (x y : V) (o : Option (List Nat)), vs = [.ref p, x, y] ∧ MachAt K CB CM H p ws ds m ∧ Fits ws ds m ∧ StrIs K H x o ∧ HasInt K H y ∧
  ((o.elim false textB = false ∧ RaisedPart E ET H "text") ∨ (o.elim false textB = true ∧ withinV y (some 0) (some ((m : Int) - 1)) = false ∧ RaisedPart E EN H "start") ∨
    ∃ (l : List Nat) (st : Nat), o = some l ∧ textB l = true ∧ y = .int (st : Nat) ∧ st < m ∧ ∀ H', Same H H' → Q (.int (endN ds (readN ws l) st : Nat)) H')
theorem ok_Machine_done_text : FnOk P w K mg base (L2.CX P w) 10 T.f_Machine_done_text T.fd_Machine_done_text ["self", "text", "start"] (sp_Machine_done_text K T.C_Book T.C_Machine T.e_BadText.C T.e_BadNumber.C) := by
  refine T.F_Machine_done_text.okX sc_Machine_done_text (fun vs H Q E h => ?_) (fun cdv A outer s H vs Q E hr h => ?_)
  · obtain ⟨p, ws, ds, m, x, y, o, rfl, _⟩ := h
    rfl
  · obtain ⟨p, ws, ds, m, x, y, o, rfl, hM, hF, hS, hI, h⟩ := h
    refine ⟨_, (pss_cons (ps_if (pt_not (pt_val (pe_call (ok_is_text T) (hr.mono (by decide)) (by rfl) T.g_is_text T.F_is_text.kp T.b_is_text .nil pass0 (pa_cons (pv 1) pa_nil))))
      (pss_one (ps_raise rfl (takes_of rfl rfl rfl rfl) (pmk_oex T.e_BadText.oex T.e_BadText.iC T.e_BadText.tI (ok_init T.e_BadText in_BadText) (hr.mono (by decide)) T.e_BadText.b .nil pass0 (by rfl) T.e_BadText.gC (pa_cons pe_str pa_nil))))
      pss_nil)
    (pss_cons (ps_if (pt_not (pt_val (pe_call (ok_is_within T) (hr.mono (by decide)) (by rfl) T.g_is_within T.F_is_within.kp T.b_is_within .nil pass0 (pa_cons (pv 2) (pa_cons pe_int (pa_cons (pe_op op_sub (pe_fld (pv 0) rfl) pe_int) pa_nil))))))
      (pss_one (ps_raise rfl (takes_of rfl rfl rfl rfl) (pmk_oex T.e_BadNumber.oex T.e_BadNumber.iC T.e_BadNumber.tI (ok_init T.e_BadNumber in_BadNumber) (hr.mono (by decide)) T.e_BadNumber.b .nil pass0 (by rfl) T.e_BadNumber.gC (pa_cons pe_str pa_nil))))
      pss_nil)
    (pss_one (ps_ret (pe_call (ok_end_of_row T) (hr.mono (by decide)) (by rfl) T.g_end_of_row T.F_end_of_row.kp T.b_end_of_row .nil pass0 (pa_cons (pe_fld (pv 0) rfl) (pa_cons (pe_call (ok_read T) (hr.mono (by decide)) (by rfl) T.g_read T.F_read.kp T.b_read .nil (passes_call (takes_of rfl rfl rfl rfl) (fun _ _ _ _ h => h)) (pa_cons (pe_fld (pv 0) rfl) (pa_cons (pv 1) pa_nil))) (pa_cons (pv 2) pa_nil)))))))), ?_⟩
    obtain ⟨dx, bk, t, hp, hB, hT⟩ := hM
    refine go_seq (go_if (go_not (go_b ⟨_, rfl, x, o, rfl, hS, _, rfl, ?_⟩)))
    rcases h with ⟨ho, hE⟩ | h
    · rw [ho]
      refine iteT (B := _) ?_
      exact mk_part T.e_BadText.oex T.e_BadText.np hE
    · have ho : o.elim false textB = true := by
        rcases h with ⟨ho, _⟩ | ⟨l, _, rfl, hb, _⟩
        · exact ho
        · exact hb
      rw [ho]
      refine iteF (A := _) ?_
      dsimp only [tNext]
      refine go_seq (go_if (go_not (go_b ⟨_, rfl, _, rfl, p, T.C_Machine, dx, _, .int m, rfl, hp, T.cl_Machine, T.na_Machine_states, rfl, _, _, rfl, rfl, y, some 0, some ((m : Int) - 1), rfl, hI, _, rfl, ?_⟩)))
      rcases h with ⟨_, hw, hE⟩ | ⟨l, st, rfl, hb, rfl, hst, q⟩
      · rw [hw]
        refine iteT (B := _) ?_
        exact mk_part T.e_BadNumber.oex T.e_BadNumber.np hE
      · rw [within_lt hst]
        refine iteF (A := _) ?_
        dsimp only [tNext]
        refine go_ret ?_
        refine ⟨_, rfl, p, T.C_Machine, dx, _, .ref t, rfl, hp, T.cl_Machine, T.na_Machine_deeds, rfl, _, rfl, p, T.C_Machine, dx, _, .ref bk, rfl, hp, T.cl_Machine, T.na_Machine_book, rfl, _, rfl, bk, ws, _, some l, rfl, hB, hF.l2, hF.nd, hS, (fun z => by rw [ho] at z; cases z), fun l' e hb' a H1 ha htn e1 => ?_⟩
        cases e
        have ha' : SqT K H1 a (nv (readN ws l)) := by
          have : nv (readN ws l) = (readN ws l).map fun s : Nat => V.int s := by
            unfold nv iv
            rw [List.map_map]
            rfl
          rw [this]
          exact ha
        exact ⟨_, rfl, t, a, ds, m, st, readN ws l, rfl, hT.same e1, .inr ha', hF.d, (fun k hk => by rw [← hF.l]; exact readN_lt k hk), hst, fun H' e => q H' (e1.trans e)⟩
end
end K21
namespace K21
open PySem PySem.Spec PyProof.Rows L2 Kx SX LamX
section
variable {P : Program} {w : World} {K : PySem.W.Frag} {mg : Str → Option Value} {base : Heap} (T : Tx K mg)
def sp_Book_eq (K : PySem.W.Frag) (C : Addr) : Sp := fun vs H Q _ => ∃ (a : Addr) (y : V) (ws : List (List Nat)) (r : Bool), vs = [.ref a, y] ∧ BookAt K C H a ws ∧ (∀ w ∈ ws, cdC w) ∧
  ((∃ b ws', y = .ref b ∧ BookAt K C H b ws' ∧ (∀ w ∈ ws', cdC w) ∧ r = decide (ws = ws')) ∨ ((∃ b xs, y = .ref b ∧ SqQ K H b xs) ∧ r = false)) ∧ Q (.bl r) H
theorem ok_Book_eq : FnOk P w K mg base CX0 1 T.f_Book_eq T.fd_Book_eq ["self", "other"] (sp_Book_eq K T.C_Book) := by
  refine T.F_Book_eq.ok sc_Book_eq (fun vs H Q E h => ?_) (fun cdv A outer s H vs Q E hr h => ?_)
  · obtain ⟨a, y, ws, r, rfl, _⟩ := h
    rfl
  · obtain ⟨a, y, ws, r, rfl, ⟨dx, t, ha, ht, _⟩, hc, hy, q⟩ := h
    refine ⟨_, (pss_one (ps_ret (pe_and (pe_callB call_isi (by rfl) T.m_isinstance (by decide +kernel) (pa_cons (pv 1) (pa_cons (pe_glob (v := .ref T.C_Book) (by rfl) T.gC_Book rfl) pa_nil))) (pe_one (pe_cmpR (op_eqD hr.units) (pe_fld (pv 0) rfl) (pe_fld (pv 1) rfl) (nomark _)))))), ?_⟩
    rcases hy with ⟨b, ws', rfl, ⟨dy, t', hb, ht', _⟩, hc', rfl⟩ | ⟨⟨b, xs, rfl, hq⟩, rfl⟩
    · refine ⟨_, rfl, .ref b, _, _, _, true, rfl, .own _, .base (.ins hb T.cl_Book T.oc_Book T.on_Book T.ot_Book T.ob_Book), kitOne_self, _, rfl, iteT (B := _) ?_⟩
      refine ⟨_, rfl, a, T.C_Book, dx, _, .ref t, rfl, ha, T.cl_Book, T.na_Book_words, rfl, _, rfl, b, T.C_Book, dy, _, .ref t', rfl, hb, T.cl_Book, T.na_Book_words, rfl, ?_⟩
      refine ⟨_, _, .tup ht (dpAll_map _ fun w _ => .str (S w)), .tup ht' (dpAll_map _ fun w _ => .str (S w)), (Pl.tup fun d m => ?_).shaped (k := 1) (by decide), (Pl.tup fun d m => ?_).shaped (k := 1) (by decide), ?_⟩
      · obtain ⟨w, hw, rfl⟩ := List.mem_map.mp m
        exact pl_text (hc w hw)
      · obtain ⟨w, hw, rfl⟩ := List.mem_map.mp m
        exact pl_text (hc' w hw)
      · rw [eqv_texts]
        exact q
    · rcases hq with hq | hq
      · exact ⟨_, rfl, .ref b, _, _, _, false, rfl, .own _, tyL hq, kitOne_no T.kc_Book T.kt_Book sub_list, _, rfl, iteF (A := _) q⟩
      · exact ⟨_, rfl, .ref b, _, _, _, false, rfl, .own _, tyT hq, kitOne_no T.kc_Book T.kt_Book sub_tuple, _, rfl, iteF (A := _) q⟩
def deedD (d : List Nat) : PyData := .tuple ((iv d).map PyData.int)
theorem dpAll_refs {H : Hp} : ∀ (ps : List Addr) (ds : List (List Nat)), ps.length = ds.length → (∀ (i : Nat) (q : Addr) (d : List Nat), ps[i]? = some q → ds[i]? = some d → SqT K H q (nv d)) → DpAll K H (ps.map V.ref) (ds.map deedD)
  | [], [], _, _ => .nil
  | [], _ :: _, h, _ => by cases h
  | _ :: _, [], h, _ => by cases h
  | q :: ps, d :: ds, h, g => .cons (dp_intsT (g 0 q d rfl rfl)) (dpAll_refs ps ds (by simpa using h) fun i q' d' a b => g (i + 1) q' d' a b)
theorem pl_deeds (ds : List (List Nat)) : Pl 2 (.tuple (ds.map deedD)) := Pl.tup fun d m => by
  obtain ⟨x, _, rfl⟩ := List.mem_map.mp m
  exact pl_intsT (iv x)
theorem eqv_deed (x y : List Nat) : PyData.eqv (deedD x) (deedD y) = decide (x = y) := by
  unfold deedD
  rw [eqv_intsT, iv_dec]
theorem eqv_deeds (xs ys : List (List Nat)) : PyData.eqv (.tuple (xs.map deedD)) (.tuple (ys.map deedD)) = decide (xs = ys) := eqvAll_map eqv_deed xs ys
def sp_Machine_eq (K : PySem.W.Frag) (CB CM : Addr) : Sp := fun vs H Q _ => ∃ (a : Addr) (y : V) (ws ds : List (List Nat)) (m : Nat) (r : Bool), vs = [.ref a, y] ∧ MachAt K CB CM H a ws ds m ∧ (∀ w ∈ ws, cdC w) ∧
  ((∃ b ws' ds' m', y = .ref b ∧ MachAt K CB CM H b ws' ds' m' ∧ (∀ w ∈ ws', cdC w) ∧ r = (decide (ws = ws') && decide (ds = ds'))) ∨ ((∃ b xs, y = .ref b ∧ SqQ K H b xs) ∧ r = false)) ∧ Q (.bl r) H
theorem ok_Machine_eq : FnOk P w K mg base CX0 4 T.f_Machine_eq T.fd_Machine_eq ["self", "other"] (sp_Machine_eq K T.C_Book T.C_Machine) := by
  refine T.F_Machine_eq.ok sc_Machine_eq (fun vs H Q E h => ?_) (fun cdv A outer s H vs Q E hr h => ?_)
  · obtain ⟨a, y, ws, ds, m, r, rfl, _⟩ := h
    rfl
  · obtain ⟨a, y, ws, ds, m, r, rfl, ⟨dx, bk, t, ha, hB, ⟨ps, g1, g2, g3⟩⟩, hc, hy, q⟩ := h
    refine ⟨_, (pss_one (ps_ret (pe_and (pe_callB call_isi (by rfl) T.m_isinstance (by decide +kernel) (pa_cons (pv 1) (pa_cons (pe_glob (v := .ref T.C_Machine) (by rfl) T.gC_Machine rfl) pa_nil))) (pe_and (pe_cmpR (op_eqI (ok_Book_eq T) T.b_Book_eq (hr.mono (by decide)) T.me_Book_eq.at_ T.me_Book_eq.fn) (pe_fld (pv 0) rfl) (pe_fld (pv 1) rfl) (nomark _)) (pe_one (pe_cmpR (op_eqD hr.units) (pe_fld (pv 0) rfl) (pe_fld (pv 1) rfl) (nomark _))))))), ?_⟩
    rcases hy with ⟨b, ws', ds', m', rfl, ⟨dy, bk', t', hb, hB', ⟨ps', k1, k2, k3⟩⟩, hc', rfl⟩ | ⟨⟨b, xs, rfl, hq⟩, rfl⟩
    · refine ⟨_, rfl, .ref b, _, _, _, true, rfl, .own _, .base (.ins hb T.cl_Machine T.oc_Machine T.on_Machine T.ot_Machine T.ob_Machine), kitOne_self, _, rfl, iteT (B := _) ?_⟩
      obtain ⟨dxb, t0, hb1, _⟩ := id hB
      obtain ⟨dyb, t1, hb2, _⟩ := id hB'
      refine ⟨_, rfl, a, T.C_Machine, dx, _, .ref bk, rfl, ha, T.cl_Machine, T.na_Machine_book, rfl, _, rfl, b, T.C_Machine, dy, _, .ref bk', rfl, hb, T.cl_Machine, T.na_Machine_book, rfl, bk, dxb, _, rfl, hb1, ⟨bk', rfl, .inl ⟨dyb, _, hb2⟩⟩, bk, .ref bk', ws, decide (ws = ws'), rfl, hB, hc, .inl ⟨bk', ws', rfl, hB', hc', rfl⟩, _, rfl, _, rfl, ?_⟩
      cases hws : decide (ws = ws') with
      | false =>
        rw [hws, Bool.false_and] at q
        exact iteF (A := _) q
      | true =>
        rw [hws, Bool.true_and] at q
        refine iteT (B := _) ?_
        refine ⟨_, rfl, a, T.C_Machine, dx, _, .ref t, rfl, ha, T.cl_Machine, T.na_Machine_deeds, rfl, _, rfl, b, T.C_Machine, dy, _, .ref t', rfl, hb, T.cl_Machine, T.na_Machine_deeds, rfl, ?_⟩
        refine ⟨_, _, .tup g1 (dpAll_refs ps ds g2 g3), .tup k1 (dpAll_refs ps' ds' k2 k3), (pl_deeds ds).shaped (by decide), (pl_deeds ds').shaped (by decide), ?_⟩
        rw [eqv_deeds]
        exact q
    · rcases hq with hq | hq
      · exact ⟨_, rfl, .ref b, _, _, _, false, rfl, .own _, tyL hq, kitOne_no T.kc_Machine T.kt_Machine sub_list, _, rfl, iteF (A := _) q⟩
      · exact ⟨_, rfl, .ref b, _, _, _, false, rfl, .own _, tyT hq, kitOne_no T.kc_Machine T.kt_Machine sub_tuple, _, rfl, iteF (A := _) q⟩
end
end K21
namespace K21
open PySem PySem.Spec PyProof.Rows L2 Kx SX LamX
/-- which error has which word -/
def Told {K : PySem.W.Frag} {mg : Str → Option Value} (T : Tx K mg) (cls : Value) (wd : Str) : Prop := (cls = .ref T.e_BadMachine.C ∧ wd = "machine") ∨ (cls = .ref T.e_BadNumber.C ∧ wd = "number") ∨ (cls = .ref T.e_BadBook.C ∧ wd = "book") ∨ (cls = .ref T.e_BadText.C ∧ wd = "text") ∨ (cls = .ref T.e_BadRow.C ∧ wd = "row")
def TTh {K : PySem.W.Frag} {mg : Str → Option Value} (T : Tx K mg) : (XK → Hp → VK → Prop) → Hp → VK → Prop := fun tl H Q => ∀ N : VK,
  tl (fun cls d H' => ∃ (dd : Addr) (p : V) (wd : Str), Told T cls wd ∧ d = some dd ∧ H' dd = some (.xd [("part", p)]) ∧ ∀ t H'', Same H' H'' → H'' t = some (.tup [.str wd, p]) → Q (.ref t) H'') H N
/-- how isinstance answers for the classes -/
structure KitL {K : PySem.W.Frag} {mg : Str → Option Value} (T : Tx K mg) (D : Addr) (bT bN bB bM bR : Bool) : Prop where
  f0 : PySem.W.kitOne K (.ref D) (.ref T.k_TooMany) = some false
  f1 : PySem.W.kitOne K (.ref D) (.ref T.e_BadText.C) = some bT
  f2 : PySem.W.kitOne K (.ref D) (.ref T.k_BadEdits) = some false
  f3 : PySem.W.kitOne K (.ref D) (.ref T.e_BadNumber.C) = some bN
  f4 : PySem.W.kitOne K (.ref D) (.ref T.e_BadBook.C) = some bB
  f5 : PySem.W.kitOne K (.ref D) (.ref T.e_BadMachine.C) = some bM
  f6 : PySem.W.kitOne K (.ref D) (.ref T.e_BadRow.C) = some bR
  f7 : PySem.W.kitOne K (.ref D) (.ref T.k_Misfit) = some false
theorem kitL_BadMachine {K : PySem.W.Frag} {mg : Str → Option Value} (T : Tx K mg) : KitL T T.e_BadMachine.C false false false true false := by
  have q_BadMachine : T.e_BadMachine.C = T.k_BadMachine := same_ref T.e_BadMachine.gC T.gk_BadMachine
  have q_BadNumber : T.e_BadNumber.C = T.k_BadNumber := same_ref T.e_BadNumber.gC T.gk_BadNumber
  have q_BadBook : T.e_BadBook.C = T.k_BadBook := same_ref T.e_BadBook.gC T.gk_BadBook
  have q_BadText : T.e_BadText.C = T.k_BadText := same_ref T.e_BadText.gC T.gk_BadText
  have q_BadRow : T.e_BadRow.C = T.k_BadRow := same_ref T.e_BadRow.gC T.gk_BadRow
  refine ⟨?_, ?_, ?_, ?_, ?_, kitOne_self, ?_, ?_⟩
  · rw [q_BadMachine]; exact kitOne_other T.kc_TooMany T.kt_TooMany T.su_BadMachine_TooMany T.su_BadMachine_BadMachine
  · rw [q_BadMachine, q_BadText]; exact kitOne_other T.kc_BadText T.kt_BadText T.su_BadMachine_BadText T.su_BadMachine_BadMachine
  · rw [q_BadMachine]; exact kitOne_other T.kc_BadEdits T.kt_BadEdits T.su_BadMachine_BadEdits T.su_BadMachine_BadMachine
  · rw [q_BadMachine, q_BadNumber]; exact kitOne_other T.kc_BadNumber T.kt_BadNumber T.su_BadMachine_BadNumber T.su_BadMachine_BadMachine
  · rw [q_BadMachine, q_BadBook]; exact kitOne_other T.kc_BadBook T.kt_BadBook T.su_BadMachine_BadBook T.su_BadMachine_BadMachine
  · rw [q_BadMachine, q_BadRow]; exact kitOne_other T.kc_BadRow T.kt_BadRow T.su_BadMachine_BadRow T.su_BadMachine_BadMachine
  · rw [q_BadMachine]; exact kitOne_other T.kc_Misfit T.kt_Misfit T.su_BadMachine_Misfit T.su_BadMachine_BadMachine
theorem kitL_BadNumber {K : PySem.W.Frag} {mg : Str → Option Value} (T : Tx K mg) : KitL T T.e_BadNumber.C false true false false false := by
  have q_BadMachine : T.e_BadMachine.C = T.k_BadMachine := same_ref T.e_BadMachine.gC T.gk_BadMachine
  have q_BadNumber : T.e_BadNumber.C = T.k_BadNumber := same_ref T.e_BadNumber.gC T.gk_BadNumber
  have q_BadBook : T.e_BadBook.C = T.k_BadBook := same_ref T.e_BadBook.gC T.gk_BadBook
  have q_BadText : T.e_BadText.C = T.k_BadText := same_ref T.e_BadText.gC T.gk_BadText
  have q_BadRow : T.e_BadRow.C = T.k_BadRow := same_ref T.e_BadRow.gC T.gk_BadRow
  refine ⟨?_, ?_, ?_, kitOne_self, ?_, ?_, ?_, ?_⟩
  · rw [q_BadNumber]; exact kitOne_other T.kc_TooMany T.kt_TooMany T.su_BadNumber_TooMany T.su_BadNumber_BadNumber
  · rw [q_BadNumber, q_BadText]; exact kitOne_other T.kc_BadText T.kt_BadText T.su_BadNumber_BadText T.su_BadNumber_BadNumber
  · rw [q_BadNumber]; exact kitOne_other T.kc_BadEdits T.kt_BadEdits T.su_BadNumber_BadEdits T.su_BadNumber_BadNumber
  · rw [q_BadNumber, q_BadBook]; exact kitOne_other T.kc_BadBook T.kt_BadBook T.su_BadNumber_BadBook T.su_BadNumber_BadNumber
  · rw [q_BadNumber, q_BadMachine]; exact kitOne_other T.kc_BadMachine T.kt_BadMachine T.su_BadNumber_BadMachine T.su_BadNumber_BadNumber
  · rw [q_BadNumber, q_BadRow]; exact kitOne_other T.kc_BadRow T.kt_BadRow T.su_BadNumber_BadRow T.su_BadNumber_BadNumber
  · rw [q_BadNumber]; exact kitOne_other T.kc_Misfit T.kt_Misfit T.su_BadNumber_Misfit T.su_BadNumber_BadNumber
theorem kitL_BadBook {K : PySem.W.Frag} {mg : Str → Option Value} (T : Tx K mg) : KitL T T.e_BadBook.C false false true false false := by
  have q_BadMachine : T.e_BadMachine.C = T.k_BadMachine := same_ref T.e_BadMachine.gC T.gk_BadMachine
  have q_BadNumber : T.e_BadNumber.C = T.k_BadNumber := same_ref T.e_BadNumber.gC T.gk_BadNumber
  have q_BadBook : T.e_BadBook.C = T.k_BadBook := same_ref T.e_BadBook.gC T.gk_BadBook
  have q_BadText : T.e_BadText.C = T.k_BadText := same_ref T.e_BadText.gC T.gk_BadText
  have q_BadRow : T.e_BadRow.C = T.k_BadRow := same_ref T.e_BadRow.gC T.gk_BadRow
  refine ⟨?_, ?_, ?_, ?_, kitOne_self, ?_, ?_, ?_⟩
  · rw [q_BadBook]; exact kitOne_other T.kc_TooMany T.kt_TooMany T.su_BadBook_TooMany T.su_BadBook_BadBook
  · rw [q_BadBook, q_BadText]; exact kitOne_other T.kc_BadText T.kt_BadText T.su_BadBook_BadText T.su_BadBook_BadBook
  · rw [q_BadBook]; exact kitOne_other T.kc_BadEdits T.kt_BadEdits T.su_BadBook_BadEdits T.su_BadBook_BadBook
  · rw [q_BadBook, q_BadNumber]; exact kitOne_other T.kc_BadNumber T.kt_BadNumber T.su_BadBook_BadNumber T.su_BadBook_BadBook
  · rw [q_BadBook, q_BadMachine]; exact kitOne_other T.kc_BadMachine T.kt_BadMachine T.su_BadBook_BadMachine T.su_BadBook_BadBook
  · rw [q_BadBook, q_BadRow]; exact kitOne_other T.kc_BadRow T.kt_BadRow T.su_BadBook_BadRow T.su_BadBook_BadBook
  · rw [q_BadBook]; exact kitOne_other T.kc_Misfit T.kt_Misfit T.su_BadBook_Misfit T.su_BadBook_BadBook
theorem kitL_BadText {K : PySem.W.Frag} {mg : Str → Option Value} (T : Tx K mg) : KitL T T.e_BadText.C true false false false false := by
  have q_BadMachine : T.e_BadMachine.C = T.k_BadMachine := same_ref T.e_BadMachine.gC T.gk_BadMachine
  have q_BadNumber : T.e_BadNumber.C = T.k_BadNumber := same_ref T.e_BadNumber.gC T.gk_BadNumber
  have q_BadBook : T.e_BadBook.C = T.k_BadBook := same_ref T.e_BadBook.gC T.gk_BadBook
  have q_BadText : T.e_BadText.C = T.k_BadText := same_ref T.e_BadText.gC T.gk_BadText
  have q_BadRow : T.e_BadRow.C = T.k_BadRow := same_ref T.e_BadRow.gC T.gk_BadRow
  refine ⟨?_, kitOne_self, ?_, ?_, ?_, ?_, ?_, ?_⟩
  · rw [q_BadText]; exact kitOne_other T.kc_TooMany T.kt_TooMany T.su_BadText_TooMany T.su_BadText_BadText
  · rw [q_BadText]; exact kitOne_other T.kc_BadEdits T.kt_BadEdits T.su_BadText_BadEdits T.su_BadText_BadText
  · rw [q_BadText, q_BadNumber]; exact kitOne_other T.kc_BadNumber T.kt_BadNumber T.su_BadText_BadNumber T.su_BadText_BadText
  · rw [q_BadText, q_BadBook]; exact kitOne_other T.kc_BadBook T.kt_BadBook T.su_BadText_BadBook T.su_BadText_BadText
  · rw [q_BadText, q_BadMachine]; exact kitOne_other T.kc_BadMachine T.kt_BadMachine T.su_BadText_BadMachine T.su_BadText_BadText
  · rw [q_BadText, q_BadRow]; exact kitOne_other T.kc_BadRow T.kt_BadRow T.su_BadText_BadRow T.su_BadText_BadText
  · rw [q_BadText]; exact kitOne_other T.kc_Misfit T.kt_Misfit T.su_BadText_Misfit T.su_BadText_BadText
theorem kitL_BadRow {K : PySem.W.Frag} {mg : Str → Option Value} (T : Tx K mg) : KitL T T.e_BadRow.C false false false false true := by
  have q_BadMachine : T.e_BadMachine.C = T.k_BadMachine := same_ref T.e_BadMachine.gC T.gk_BadMachine
  have q_BadNumber : T.e_BadNumber.C = T.k_BadNumber := same_ref T.e_BadNumber.gC T.gk_BadNumber
  have q_BadBook : T.e_BadBook.C = T.k_BadBook := same_ref T.e_BadBook.gC T.gk_BadBook
  have q_BadText : T.e_BadText.C = T.k_BadText := same_ref T.e_BadText.gC T.gk_BadText
  have q_BadRow : T.e_BadRow.C = T.k_BadRow := same_ref T.e_BadRow.gC T.gk_BadRow
  refine ⟨?_, ?_, ?_, ?_, ?_, ?_, kitOne_self, ?_⟩
  · rw [q_BadRow]; exact kitOne_other T.kc_TooMany T.kt_TooMany T.su_BadRow_TooMany T.su_BadRow_BadRow
  · rw [q_BadRow, q_BadText]; exact kitOne_other T.kc_BadText T.kt_BadText T.su_BadRow_BadText T.su_BadRow_BadRow
  · rw [q_BadRow]; exact kitOne_other T.kc_BadEdits T.kt_BadEdits T.su_BadRow_BadEdits T.su_BadRow_BadRow
  · rw [q_BadRow, q_BadNumber]; exact kitOne_other T.kc_BadNumber T.kt_BadNumber T.su_BadRow_BadNumber T.su_BadRow_BadRow
  · rw [q_BadRow, q_BadBook]; exact kitOne_other T.kc_BadBook T.kt_BadBook T.su_BadRow_BadBook T.su_BadRow_BadRow
  · rw [q_BadRow, q_BadMachine]; exact kitOne_other T.kc_BadMachine T.kt_BadMachine T.su_BadRow_BadMachine T.su_BadRow_BadRow
  · rw [q_BadRow]; exact kitOne_other T.kc_Misfit T.kt_Misfit T.su_BadRow_Misfit T.su_BadRow_BadRow
theorem heard_gives {X : Cx} (T : Tx X.K X.mg) {q : Str} {g : Addr} {cdg : Value} : GivesTo X ["_law_ask", "_law_caught", "error", "_law_kinds"] "_law_heard" (defScope s_law_heard) g cdg (defBody s_law_heard) "_law_ask" q (TTh T) := by
  intro f c' s H Q tl act hc h
  have hr := (0 : Nat)
  refine ⟨_, pss_cons (ps_set (i := 1) sc_law_heard.nd rfl (.inl rfl) pe_non) (pss_cons (ps_keep (X := (cxOf C8.CX0 X.prog X.w X.K X.mg X.base ["_law_ask", "_law_caught", "error", "_law_kinds"] "_law_heard" (defScope s_law_heard) g cdg X.A X.stack s H C8.E0).nox) (c := .ref T.e_BadMachine.L) (i := 2) (j := 1) (n := "error") (y := "_law_caught")
      (tb := fun W D σ H => ∃ Ech : XK, (∀ cls d σ' H', Ech cls d H' → W cls d σ' H') ∧ σ[0]? = some (some (.ref f)) ∧ H c' = some (CodeO c' q) ∧ tl Ech H fun _ H' => D.nx σ H')
      rfl rfl rfl sc_law_heard.nd rfl rfl rfl rfl rfl ⟨rfl, by decide, .inl T.e_BadMachine.gL⟩ (by decide) (by decide) (fun W pn xe tk _ => ?_))
      (pss_cons (ps_if (pt_val (pe_callB call_isiX (by rfl) T.m_isinstance (by decide +kernel) (pa_cons (pv 1) (pa_cons (pe_glob (v := .ref T.k_TooMany) (by rfl) T.gk_TooMany rfl) pa_nil))))
      (pss_one (ps_ret (pe_tup (pa_cons (pe_xp (pv 1)) (pa_cons (pe_xp (pv 1)) pa_nil)))))
      pss_nil)
    (pss_cons (ps_set (i := 3) sc_law_heard.nd rfl (.inl rfl) (pe_lst (pa_cons (pe_callB call_isiX (by rfl) T.m_isinstance (by decide +kernel) (pa_cons (pv 1) (pa_cons (pe_glob (v := .ref T.e_BadText.C) (by rfl) T.e_BadText.gC rfl) pa_nil))) (pa_cons (pe_callB call_isiX (by rfl) T.m_isinstance (by decide +kernel) (pa_cons (pv 1) (pa_cons (pe_glob (v := .ref T.k_BadEdits) (by rfl) T.gk_BadEdits rfl) pa_nil))) (pa_cons (pe_callB call_isiX (by rfl) T.m_isinstance (by decide +kernel) (pa_cons (pv 1) (pa_cons (pe_glob (v := .ref T.e_BadNumber.C) (by rfl) T.e_BadNumber.gC rfl) pa_nil))) (pa_cons (pe_callB call_isiX (by rfl) T.m_isinstance (by decide +kernel) (pa_cons (pv 1) (pa_cons (pe_glob (v := .ref T.e_BadBook.C) (by rfl) T.e_BadBook.gC rfl) pa_nil))) pa_nil))))))
    (pss_cons (ps_set (i := 3) sc_law_heard.nd rfl (.inl rfl) (pe_op op_cat (pv 3) (pe_lst (pa_cons (pe_callB call_isiX (by rfl) T.m_isinstance (by decide +kernel) (pa_cons (pv 1) (pa_cons (pe_glob (v := .ref T.e_BadMachine.C) (by rfl) T.e_BadMachine.gC rfl) pa_nil))) (pa_cons (pe_callB call_isiX (by rfl) T.m_isinstance (by decide +kernel) (pa_cons (pv 1) (pa_cons (pe_glob (v := .ref T.e_BadRow.C) (by rfl) T.e_BadRow.gC rfl) pa_nil))) (pa_cons (pe_callB call_isiX (by rfl) T.m_isinstance (by decide +kernel) (pa_cons (pv 1) (pa_cons (pe_glob (v := .ref T.k_Misfit) (by rfl) T.gk_Misfit rfl) pa_nil))) pa_nil))))))
    (pss_cons (ps_if (pt_cmpR op_in_seq pe_bl (pv 3) rfl)
      (pss_one (ps_ret (pe_tup (pa_cons (pe_ix ix_list (pe_lst (pa_cons pe_str (pa_cons pe_str (pa_cons pe_str (pa_cons pe_str (pa_cons pe_str (pa_cons pe_str (pa_cons pe_str pa_nil)))))))) (pe_bm PySem.F.plainAttrs_list PySem.F.slot_list_index PySem.F.type_list_index mt_index (pv 3) (pa_cons pe_bl pa_nil)) (fun _ _ => rfl)) (pa_cons (pe_xp (pv 1)) pa_nil)))))
      pss_nil)
    (pss_one (ps_ret (pe_ifExp (pt_cmpR op_isN (pv 1) pe_non (nomark _)) pe_non (pe_tup (pa_cons pe_str (pa_cons pe_non pa_nil))))))))))), ?_⟩
  · refine ⟨fun pins s' σ H' D I h' => ?_⟩
    obtain ⟨Ech, hW, h1, h2, h3⟩ := h'
    exact (pss_one (ps_expr (act W pn xe Ech _ _ tk hW))).run pins s' σ H' D I ⟨h1, h2, h3⟩
  · refine go_seq (go_asg (go_c ?_))
    dsimp only [gName]
    refine go_seq ⟨_, fun cls d σ' H' h' => ?_, rfl, hc, h _⟩
    obtain ⟨dd, p, wd, hcls, rfl, hd, hq⟩ := h'
    obtain ⟨D, bT, bN, bB, bM, bR, rfl, kt, ex, xf, np, em, ew⟩ : ∃ (D : Addr) (bT bN bB bM bR : Bool), cls = .ref D ∧ KitL T D bT bN bB bM bR ∧ ExcC X.K D ∧ XfC X.K D ∧ PySem.W.findIn X.K (.ref D) "part" = some none ∧ PySem.W.exmOne X.K (.ref D) (.ref T.e_BadMachine.L) = some true ∧
        ((bT = false ∧ bN = false ∧ bB = false ∧ bM = true ∧ bR = false ∧ wd = "machine") ∨ (bT = false ∧ bN = true ∧ bB = false ∧ bM = false ∧ bR = false ∧ wd = "number") ∨ (bT = false ∧ bN = false ∧ bB = true ∧ bM = false ∧ bR = false ∧ wd = "book") ∨ (bT = true ∧ bN = false ∧ bB = false ∧ bM = false ∧ bR = false ∧ wd = "text") ∨ (bT = false ∧ bN = false ∧ bB = false ∧ bM = false ∧ bR = true ∧ wd = "row")) := by
      rcases hcls with ⟨rfl, rfl⟩ | ⟨rfl, rfl⟩ | ⟨rfl, rfl⟩ | ⟨rfl, rfl⟩ | ⟨rfl, rfl⟩
      · exact ⟨_, false, false, false, true, false, rfl, kitL_BadMachine T, T.e_BadMachine.exc, T.e_BadMachine.xf, T.e_BadMachine.np, T.e_BadMachine.em, .inl ⟨rfl, rfl, rfl, rfl, rfl, rfl⟩⟩
      · exact ⟨_, false, true, false, false, false, rfl, kitL_BadNumber T, T.e_BadNumber.exc, T.e_BadNumber.xf, T.e_BadNumber.np, (show T.e_BadNumber.L = T.e_BadMachine.L from same_ref T.e_BadNumber.gL T.e_BadMachine.gL) ▸ T.e_BadNumber.em, .inr (.inl ⟨rfl, rfl, rfl, rfl, rfl, rfl⟩)⟩
      · exact ⟨_, false, false, true, false, false, rfl, kitL_BadBook T, T.e_BadBook.exc, T.e_BadBook.xf, T.e_BadBook.np, (show T.e_BadBook.L = T.e_BadMachine.L from same_ref T.e_BadBook.gL T.e_BadMachine.gL) ▸ T.e_BadBook.em, .inr (.inr (.inl ⟨rfl, rfl, rfl, rfl, rfl, rfl⟩))⟩
      · exact ⟨_, true, false, false, false, false, rfl, kitL_BadText T, T.e_BadText.exc, T.e_BadText.xf, T.e_BadText.np, (show T.e_BadText.L = T.e_BadMachine.L from same_ref T.e_BadText.gL T.e_BadMachine.gL) ▸ T.e_BadText.em, .inr (.inr (.inr (.inl ⟨rfl, rfl, rfl, rfl, rfl, rfl⟩)))⟩
      · exact ⟨_, false, false, false, false, true, rfl, kitL_BadRow T, T.e_BadRow.exc, T.e_BadRow.xf, T.e_BadRow.np, (show T.e_BadRow.L = T.e_BadMachine.L from same_ref T.e_BadRow.gL T.e_BadMachine.gL) ▸ T.e_BadRow.em, .inr (.inr (.inr (.inr (⟨rfl, rfl, rfl, rfl, rfl, rfl⟩))))⟩
    refine ⟨em, fun a na hl => ?_⟩
    have hd1 := same_new (o := exT a (.ref D) (some dd)) na _ _ hd
    have s0 := same_new (o := exT a (.ref D) (some dd)) na
    have ha1 := upd_same (H := H') (a := a) (o := exT a (.ref D) (some dd))
    generalize upd H' a (exT a (.ref D) (some dd)) = H1 at hd1 s0 ha1 ⊢
    match σ', hl with
    | [x0, x1, x2, x3], _ =>
      dsimp only
      refine go_seq (go_if (go_b ?_))
      refine ⟨_, rfl, .inr ⟨a, D, dd, _, .ref T.k_TooMany, .ref T.k_TooMany, false, rfl, ha1, hd1, ex, fun u r => r, kt.f0, _, rfl, iteF (A := _) ?_⟩⟩
      dsimp only [tNext]
      refine go_seq (go_asg ?_)
      refine ⟨_, rfl, .inr ⟨a, D, dd, _, .ref T.e_BadText.C, .ref T.e_BadText.C, bT, rfl, ha1, hd1, ex, fun u r => r, kt.f1, ?_⟩⟩
      refine ⟨_, rfl, .inr ⟨a, D, dd, _, .ref T.k_BadEdits, .ref T.k_BadEdits, false, rfl, ha1, hd1, ex, fun u r => r, kt.f2, ?_⟩⟩
      refine ⟨_, rfl, .inr ⟨a, D, dd, _, .ref T.e_BadNumber.C, .ref T.e_BadNumber.C, bN, rfl, ha1, hd1, ex, fun u r => r, kt.f3, ?_⟩⟩
      refine ⟨_, rfl, .inr ⟨a, D, dd, _, .ref T.e_BadBook.C, .ref T.e_BadBook.C, bB, rfl, ha1, hd1, ex, fun u r => r, kt.f4, sz4, fun p1 n1 => ?_⟩⟩
      have s1 := same_new (o := HO.lst [.bl bT, .bl false, .bl bN, .bl bB]) n1
      have h1 := upd_same (H := H1) (a := p1) (o := HO.lst [.bl bT, .bl false, .bl bN, .bl bB])
      have ha2 := s1 _ _ ha1
      have hd2 := s1 _ _ hd1
      generalize upd H1 p1 (HO.lst [.bl bT, .bl false, .bl bN, .bl bB]) = H2 at s1 h1 ha2 hd2 ⊢
      dsimp only [gName]
      refine go_seq (go_asg ⟨_, rfl, ?_⟩)
      refine ⟨_, rfl, .inr ⟨a, D, dd, _, .ref T.e_BadMachine.C, .ref T.e_BadMachine.C, bM, rfl, ha2, hd2, ex, fun u r => r, kt.f5, ?_⟩⟩
      refine ⟨_, rfl, .inr ⟨a, D, dd, _, .ref T.e_BadRow.C, .ref T.e_BadRow.C, bR, rfl, ha2, hd2, ex, fun u r => r, kt.f6, ?_⟩⟩
      refine ⟨_, rfl, .inr ⟨a, D, dd, _, .ref T.k_Misfit, .ref T.k_Misfit, false, rfl, ha2, hd2, ex, fun u r => r, kt.f7, sz3, fun p2 n2 => ?_⟩⟩
      refine ⟨p1, p2, _, _, rfl, rfl, same_new n2 _ _ h1, upd_same, (show 4 + 3 ≤ sizeLine by decide), fun p3 n3 => ?_⟩
      have s2 := (same_new (o := HO.lst [.bl bM, .bl bR, .bl false]) n2).trans (same_new (o := HO.lst ([.bl bT, .bl false, .bl bN, .bl bB] ++ [.bl bM, .bl bR, .bl false])) n3)
      have h3 := upd_same (H := upd H2 p2 (HO.lst [.bl bM, .bl bR, .bl false])) (a := p3) (o := HO.lst ([.bl bT, .bl false, .bl bN, .bl bB] ++ [.bl bM, .bl bR, .bl false]))
      have ha3 := s2 _ _ ha2
      have hd3 := s2 _ _ hd2
      generalize upd (upd H2 p2 (HO.lst [.bl bM, .bl bR, .bl false])) p3 (HO.lst ([.bl bT, .bl false, .bl bN, .bl bB] ++ [.bl bM, .bl bR, .bl false])) = H3 at s2 h3 ha3 hd3 ⊢
      dsimp only [gName]
      have sA := s0.trans (s1.trans s2)
      rcases ew with ⟨rfl, rfl, rfl, rfl, rfl, rfl⟩ | ⟨rfl, rfl, rfl, rfl, rfl, rfl⟩ | ⟨rfl, rfl, rfl, rfl, rfl, rfl⟩ | ⟨rfl, rfl, rfl, rfl, rfl, rfl⟩ | ⟨rfl, rfl, rfl, rfl, rfl, rfl⟩
      · refine go_seq (go_if (go_test (go_op (go_c (go_var rfl ⟨p3, _, rfl, .inl (.inl (.inl h3)), rfl, rfl, _, rfl, ?_⟩)))))
        refine iteT (B := _) ?_
        refine go_ret ?_
        refine ⟨(show 7 ≤ sizeLine by decide), fun p4 n4 => ?_⟩
        have s4 := same_new (o := HO.lst [.str "text", .str "edits", .str "number", .str "book", .str "machine", .str "row", .str "misfit"]) n4
        refine ⟨_, rfl, .inl ⟨rfl, _, .inl (.inl (s4 _ _ h3))⟩, p3, _, .bl true, 4, .bl true, rfl, rfl, .inl (.inl (s4 _ _ h3)), rfl, rfl, rfl, rfl, fun m z' hm hz => ?_, p4, _, (4 : Nat), .str "machine", rfl, rfl, .inl (.inl upd_same), rfl, ?_⟩
        · match m, hm with
          | 0, _ => cases hz; rfl
          | 1, _ => cases hz; rfl
          | 2, _ => cases hz; rfl
          | 3, _ => cases hz; rfl
        refine ⟨_, rfl, a, D, dd, _, p, rfl, s4 _ _ ha3, s4 _ _ hd3, xf, np, rfl, sz2, fun t nt => ?_⟩
        exact hq t _ ((sA.trans s4).trans (same_new nt)) upd_same
      · refine go_seq (go_if (go_test (go_op (go_c (go_var rfl ⟨p3, _, rfl, .inl (.inl (.inl h3)), rfl, rfl, _, rfl, ?_⟩)))))
        refine iteT (B := _) ?_
        refine go_ret ?_
        refine ⟨(show 7 ≤ sizeLine by decide), fun p4 n4 => ?_⟩
        have s4 := same_new (o := HO.lst [.str "text", .str "edits", .str "number", .str "book", .str "machine", .str "row", .str "misfit"]) n4
        refine ⟨_, rfl, .inl ⟨rfl, _, .inl (.inl (s4 _ _ h3))⟩, p3, _, .bl true, 2, .bl true, rfl, rfl, .inl (.inl (s4 _ _ h3)), rfl, rfl, rfl, rfl, fun m z' hm hz => ?_, p4, _, (2 : Nat), .str "number", rfl, rfl, .inl (.inl upd_same), rfl, ?_⟩
        · match m, hm with
          | 0, _ => cases hz; rfl
          | 1, _ => cases hz; rfl
        refine ⟨_, rfl, a, D, dd, _, p, rfl, s4 _ _ ha3, s4 _ _ hd3, xf, np, rfl, sz2, fun t nt => ?_⟩
        exact hq t _ ((sA.trans s4).trans (same_new nt)) upd_same
      · refine go_seq (go_if (go_test (go_op (go_c (go_var rfl ⟨p3, _, rfl, .inl (.inl (.inl h3)), rfl, rfl, _, rfl, ?_⟩)))))
        refine iteT (B := _) ?_
        refine go_ret ?_
        refine ⟨(show 7 ≤ sizeLine by decide), fun p4 n4 => ?_⟩
        have s4 := same_new (o := HO.lst [.str "text", .str "edits", .str "number", .str "book", .str "machine", .str "row", .str "misfit"]) n4
        refine ⟨_, rfl, .inl ⟨rfl, _, .inl (.inl (s4 _ _ h3))⟩, p3, _, .bl true, 3, .bl true, rfl, rfl, .inl (.inl (s4 _ _ h3)), rfl, rfl, rfl, rfl, fun m z' hm hz => ?_, p4, _, (3 : Nat), .str "book", rfl, rfl, .inl (.inl upd_same), rfl, ?_⟩
        · match m, hm with
          | 0, _ => cases hz; rfl
          | 1, _ => cases hz; rfl
          | 2, _ => cases hz; rfl
        refine ⟨_, rfl, a, D, dd, _, p, rfl, s4 _ _ ha3, s4 _ _ hd3, xf, np, rfl, sz2, fun t nt => ?_⟩
        exact hq t _ ((sA.trans s4).trans (same_new nt)) upd_same
      · refine go_seq (go_if (go_test (go_op (go_c (go_var rfl ⟨p3, _, rfl, .inl (.inl (.inl h3)), rfl, rfl, _, rfl, ?_⟩)))))
        refine iteT (B := _) ?_
        refine go_ret ?_
        refine ⟨(show 7 ≤ sizeLine by decide), fun p4 n4 => ?_⟩
        have s4 := same_new (o := HO.lst [.str "text", .str "edits", .str "number", .str "book", .str "machine", .str "row", .str "misfit"]) n4
        refine ⟨_, rfl, .inl ⟨rfl, _, .inl (.inl (s4 _ _ h3))⟩, p3, _, .bl true, 0, .bl true, rfl, rfl, .inl (.inl (s4 _ _ h3)), rfl, rfl, rfl, rfl, fun m z' hm hz => ?_, p4, _, (0 : Nat), .str "text", rfl, rfl, .inl (.inl upd_same), rfl, ?_⟩
        · exact absurd hm (Nat.not_lt_zero m)
        refine ⟨_, rfl, a, D, dd, _, p, rfl, s4 _ _ ha3, s4 _ _ hd3, xf, np, rfl, sz2, fun t nt => ?_⟩
        exact hq t _ ((sA.trans s4).trans (same_new nt)) upd_same
      · refine go_seq (go_if (go_test (go_op (go_c (go_var rfl ⟨p3, _, rfl, .inl (.inl (.inl h3)), rfl, rfl, _, rfl, ?_⟩)))))
        refine iteT (B := _) ?_
        refine go_ret ?_
        refine ⟨(show 7 ≤ sizeLine by decide), fun p4 n4 => ?_⟩
        have s4 := same_new (o := HO.lst [.str "text", .str "edits", .str "number", .str "book", .str "machine", .str "row", .str "misfit"]) n4
        refine ⟨_, rfl, .inl ⟨rfl, _, .inl (.inl (s4 _ _ h3))⟩, p3, _, .bl true, 5, .bl true, rfl, rfl, .inl (.inl (s4 _ _ h3)), rfl, rfl, rfl, rfl, fun m z' hm hz => ?_, p4, _, (5 : Nat), .str "row", rfl, rfl, .inl (.inl upd_same), rfl, ?_⟩
        · match m, hm with
          | 0, _ => cases hz; rfl
          | 1, _ => cases hz; rfl
          | 2, _ => cases hz; rfl
          | 3, _ => cases hz; rfl
          | 4, _ => cases hz; rfl
        refine ⟨_, rfl, a, D, dd, _, p, rfl, s4 _ _ ha3, s4 _ _ hd3, xf, np, rfl, sz2, fun t nt => ?_⟩
        exact hq t _ ((sA.trans s4).trans (same_new nt)) upd_same
end K21
namespace K21
open PySem PySem.Spec PyProof.Rows L2 Kx SX LamX
section
variable {P : Program} {w : World} {K : PySem.W.Frag} {mg : Str → Option Value} {base : Heap} (T : Tx K mg)
theorem numOf_at : ∀ (i : Nat) (ws : List (List Nat)) (x : List Nat) (k : Nat), numOf i ws x = some k → ∃ j, k = i + j ∧ ws[j]? = some x ∧ ∀ m, m < j → ws[m]? ≠ some x
  | _, [], _, _, h => by cases h
  | i, w :: r, x, k, h => by
    rw [show numOf i (w :: r) x = if w = x then some i else numOf (i + 1) r x from rfl] at h
    split at h
    · rename_i e
      cases h
      exact ⟨0, rfl, by rw [e]; rfl, fun m hm => absurd hm (Nat.not_lt_zero m)⟩
    · rename_i e
      obtain ⟨j, h1, h2, h3⟩ := numOf_at (i + 1) r x k h
      refine ⟨j + 1, by omega, h2, fun m hm => ?_⟩
      cases m with
      | zero => exact fun z => e (Option.some.inj z)
      | succ m => exact h3 m (by omega)
theorem numOf_no : ∀ (i : Nat) (ws : List (List Nat)) (x : List Nat), numOf i ws x = none → x ∉ ws
  | _, [], _, _ => by simp
  | i, w :: r, x, h => by
    rw [show numOf i (w :: r) x = if w = x then some i else numOf (i + 1) r x from rfl] at h
    split at h
    · cases h
    · rename_i e
      intro m
      rcases List.mem_cons.mp m with m | m
      · exact e m.symm
      · exact numOf_no (i + 1) r x h m
def sp_law_end (K : PySem.W.Frag) : Sp := fun vs H Q _ => ∃ (wp dp : Addr) (ws ds : List (List Nat)) (m st : Nat) (l : List Nat), vs = [.ref wp, .ref dp, .str (S l), .int (st : Nat)] ∧ H wp = some (.lst (ws.map tx)) ∧ DeedsAt H dp ds m ∧ ws.length = ds.length ∧ (∀ d ∈ ds, d.length = m ∧ ∀ s ∈ d, s < m) ∧ st < m ∧ l.length ≤ 200000 ∧
  ∀ H', Same H H' → Q (.int (endN ds (readN ws l) st : Nat)) H'
theorem ok_law_end : FnOk P w K mg base CX0 1 T.f_law_end T.fd_law_end ["_law_words", "_law_deeds", "_law_text", "_law_start"] (sp_law_end K) := by
  refine T.F_law_end.ok sc_law_end (fun vs H Q E h => ?_) (fun cdv A outer s H vs Q E hr h => ?_)
  · obtain ⟨wp, dp, ws, ds, m, st, l, rfl, _⟩ := h
    rfl
  · obtain ⟨wp, dp, ws, ds, m, st, l, rfl, hw, ⟨ps, g1, g2, g3⟩, hl, hd, hst, hll, q⟩ := h
    refine ⟨_, (pss_cons (ps_for PassesOwn.never rfl (pi_list (pe_split (pv 2) pe_str)) (pg_name (i := 4) sc_law_end.nd rfl (.inl rfl))
      (pss_one (ps_if (pt_cmpR op_in_seq (pv 4) (pv 0) rfl)
        (pss_one (ps_set (i := 3) sc_law_end.nd rfl (.inl rfl) (pe_ix ix_list (pe_ix ix_list (pv 1) (pe_bm PySem.F.plainAttrs_list PySem.F.slot_list_index PySem.F.type_list_index mt_index (pv 0) (pa_cons (pv 4) pa_nil)) (fun _ _ => rfl)) (pv 3) (fun _ _ => rfl))))
        pss_nil)))
    (pss_one (ps_ret (pv 3)))), ?_⟩
    have fl : (ws.map tx).all flatV = true := by
      rw [List.all_map, List.all_eq_true]
      exact fun w _ => rfl
    refine go_seq ⟨_, rfl, ⟨_, rfl⟩, S l, " ", rfl, rfl, rfl, by rw [S_len]; exact Nat.le_trans (Nat.add_le_add_right hll 2) (by decide : 200000 + 2 ≤ sizeLine), fun p np => ?_⟩
    rw [split_items]
    have eV : ((itemsA [] l).map S).map V.str = (itemsA [] l).map fun it => V.str (S it) := by
      rw [List.map_map]
      rfl
    rw [eV]
    have e1 := same_new (o := HO.lst ((itemsA [] l).map fun it => V.str (S it))) np
    have hp1 := upd_same (H := H) (a := p) (o := HO.lst ((itemsA [] l).map fun it => V.str (S it)))
    generalize upd H p (HO.lst ((itemsA [] l).map fun it => V.str (S it))) = H1 at e1 hp1 ⊢
    refine ⟨p, rfl, ⟨_, .inl (.inl hp1)⟩, for_list (xs := (itemsA [] l).map fun it => V.str (S it)) (fun i σ H' => ∃ (o4 : Option V) (s : Nat), σ = [some (.ref wp), some (.ref dp), some (.str (S l)), some (.int (s : Nat)), o4] ∧ s = endN ds (((itemsA [] l).take i).filterMap (numOf 0 ws)) st ∧ s < m ∧ Same H1 H')
      ⟨none, st, rfl, rfl, hst, Same.refl _⟩ (fun i σ' H' _ h => ?_) (fun i v σ' Hd hv h => ?_) (fun σ' Hd h => ?_)⟩
    · obtain ⟨_, _, _, _, _, e⟩ := h
      exact .inl (.inl (e _ _ hp1))
    · obtain ⟨o4, s, rfl, hs, hsm, e⟩ := h
      obtain ⟨it, hit, rfl⟩ := map_at hv
      have eA := e1.trans e
      have tk : ((itemsA [] l).take (i + 1)).filterMap (numOf 0 ws) = ((itemsA [] l).take i).filterMap (numOf 0 ws) ++ (numOf 0 ws it).toList := by
        rw [List.take_add_one, hit, List.filterMap_append]
        congr 1
      dsimp only [gName]
      refine go_if (go_test (go_op (go_var rfl (go_var rfl ⟨wp, _, rfl, .inl (.inl (.inl (eA _ _ hw))), rfl, fl, _, rfl, ?_⟩))))
      cases hk : numOf 0 ws it with
      | none =>
        have : inV (V.str (S it)) (ws.map tx) = false := by
          cases hz : inV (V.str (S it)) (ws.map tx) with
          | false => rfl
          | true =>
            obtain ⟨w, hwm, e⟩ := (inV_texts ws).mp hz
            injection e with e
            exact absurd (S_inj e ▸ hwm) (numOf_no 0 ws it hk)
        show if inV (V.str (S it)) (ws.map tx) = true then _ else _
        rw [this]
        refine iteF (A := _) ?_
        refine ⟨_, s, rfl, ?_, hsm, e⟩
        rw [tk, hk, hs]
        simp
      | some k =>
        obtain ⟨j, hj, hj1, hj2⟩ := numOf_at 0 ws it k hk
        have hkj : k = j := by omega
        subst hkj
        have : inV (V.str (S it)) (ws.map tx) = true := (inV_texts ws).mpr ⟨it, List.mem_of_getElem? hj1, rfl⟩
        show if inV (V.str (S it)) (ws.map tx) = true then _ else _
        rw [this]
        refine iteT (B := _) ?_
        have hkl : k < ws.length := (List.getElem?_eq_some_iff.mp hj1).1
        obtain ⟨y, hy⟩ : ∃ y, ps[k]? = some y := ⟨_, List.getElem?_eq_getElem (by omega)⟩
        obtain ⟨d, hdk⟩ := deed_of g2 hy
        have gy := (g3 _ y d hy hdk).1
        obtain ⟨d1, d2⟩ := hd d (List.mem_of_getElem? hdk)
        have atk : atI (ps.map V.ref) (k : Int) = some (.ref y) := by
          have h0 : k < (ps.map V.ref).length := by rw [List.length_map]; omega
          rw [at_nat h0]
          have := List.getElem?_eq_getElem h0
          rw [List.getElem?_map, hy] at this
          exact this.symm
        refine go_asg ⟨_, rfl, _, rfl, .inl ⟨rfl, _, .inl (.inl (eA _ _ hw))⟩, _, rfl, wp, ws.map tx, V.str (S it), k, tx it, rfl, rfl, .inl (.inl (eA _ _ hw)), rfl, fl, by rw [List.getElem?_map, hj1]; rfl, (by show (S it == S it) = true; simp), fun m' z' hm hz => ?_, dp, _, _, _, rfl, rfl, .inl (.inl (eA _ _ g1)), atk, _, rfl, y, _, _, _, rfl, rfl, .inl (.inl (eA _ _ gy)), nv_at (by omega), ?_⟩
        · obtain ⟨w', hw', rfl⟩ := map_at hz
          show (S w' == S it) = false
          exact beq_eq_false_iff_ne.mpr fun e => hj2 m' hm (by rw [hw', S_inj e])
        · have hdd : ds.getD k [] = d := by rw [List.getD_eq_getElem?_getD, hdk]; rfl
          refine ⟨_, d.getD s 0, rfl, ?_, getD_lt (by omega) d2, e⟩
          rw [tk, hk]
          unfold endN at hs ⊢
          rw [List.foldl_append, ← hs]
          show _ = (ds.getD k []).getD s 0
          rw [hdd]
    · obtain ⟨o4, s, rfl, hs, hsm, e⟩ := h
      rw [List.length_map, List.take_length] at hs
      have q' := q Hd (e1.trans e)
      rw [show endN ds (readN ws l) st = s from hs.symm] at q'
      exact go_ret (go_var rfl q')
end
end K21
namespace K21
open PySem PySem.Spec PyProof.Rows L2 Kx SX LamX
section
variable {P : Program} {w : World} {K : PySem.W.Frag} {mg : Str → Option Value} {base : Heap} (T : Tx K mg)
theorem MachAt.same {CB CM x : Addr} {H H' : Hp} {ws ds : List (List Nat)} {m : Nat} (e : Same H H') (h : MachAt K CB CM H x ws ds m) : MachAt K CB CM H' x ws ds m := by
  obtain ⟨dx, bk, t, h1, h2, h3⟩ := h
  exact ⟨dx, bk, t, e _ _ h1, h2.same e, h3.same e⟩
theorem BookAt.mvL {C a bk : Addr} {xs : List V} {H H' : Hp} {ws : List (List Nat)} (ha : H a = some (.lst xs)) (m : Mv a H H') (h : BookAt K C H bk ws) : BookAt K C H' bk ws := by
  obtain ⟨dx, t, h1, h2, h3⟩ := h
  exact ⟨dx, t, m _ _ (ne_of_two h1 ha (fun z => by cases z)) h1, sqT_but ha (fun _ z => by cases z) (fun _ _ z => by cases z) m h2, tupN_but ha (fun _ _ z => by cases z) m h3⟩
theorem MachAt.mvL {CB CM x a : Addr} {xs : List V} {H H' : Hp} {ws ds : List (List Nat)} {k : Nat} (ha : H a = some (.lst xs)) (m : Mv a H H') (h : MachAt K CB CM H x ws ds k) : MachAt K CB CM H' x ws ds k := by
  obtain ⟨dx, bk, t, h1, h2, h3⟩ := h
  exact ⟨dx, bk, t, m _ _ (ne_of_two h1 ha (fun z => by cases z)) h1, h2.mvL ha m, h3.but ha (fun _ z => by cases z) (fun _ _ z => by cases z) m⟩
theorem MachAt.ext {CB CM x : Addr} {H H' : Hp} {ws ds : List (List Nat)} {m : Nat} (e : ExtN H H') (h : MachAt K CB CM H x ws ds m) : MachAt K CB CM H' x ws ds m := by
  obtain ⟨dx, bk, t, h1, h2, ⟨ps, g1, g2, g3⟩⟩ := h
  exact ⟨dx, bk, t, ext_at e h1, h2.ext e, ⟨ps, sqT_ext e g1, g2, fun i q d a b => sqT_ext e (g3 i q d a b)⟩⟩
theorem wh_ne_words {H : Hp} {a c p : Addr} {n : Nat} {ws : List (List Nat)} (w : Wh H a c n) (h : H p = some (.lst (ws.map tx))) : p ≠ a := fun e => by
  obtain ⟨cs, t, l', h1, _⟩ := w
  rw [e, h1] at h
  injection h with h
  injection h with h
  match ws with
  | [] => cases h
  | x :: r =>
    injection h with h
    cases h
theorem wh_ne_refs {H : Hp} {a c p : Addr} {n : Nat} {ps : List Addr} (w : Wh H a c n) (h : H p = some (.lst (ps.map V.ref))) : p ≠ a := fun e => by
  obtain ⟨cs, t, l', h1, _⟩ := w
  rw [e, h1] at h
  injection h with h
  injection h with h
  match ps with
  | [] => cases h
  | [_] => cases h
  | _ :: y :: r =>
    injection h with _ h
    injection h with h
    cases h
theorem wh_ne_nums {H : Hp} {a c p : Addr} {n : Nat} {d : List Nat} (w : Wh H a c n) (h : H p = some (.lst (nv d))) : p ≠ a := fun e => by
  obtain ⟨cs, t, l', h1, _⟩ := w
  rw [e, h1] at h
  injection h with h
  injection h with h
  match d with
  | [] => cases h
  | x :: r =>
    injection h with h
    cases h
theorem DeedsAt.mvA {H H' : Hp} {a c p : Addr} {n m : Nat} {ds : List (List Nat)} (w : Wh H a c n) (mv : Mv a H H') (h : DeedsAt H p ds m) : DeedsAt H' p ds m := by
  obtain ⟨ps, h1, h2, h3⟩ := h
  refine ⟨ps, mv _ _ (wh_ne_refs w h1) h1, h2, fun i q d x y => ?_⟩
  obtain ⟨g1, g2⟩ := h3 i q d x y
  exact ⟨mv _ _ (wh_ne_nums w g1) g1, g2⟩
theorem wh_lst {H : Hp} {a c : Addr} {n : Nat} (w : Wh H a c n) : ∃ xs, H a = some (.lst xs) := by
  obtain ⟨cs, t, l', h1, _⟩ := w
  exact ⟨_, h1⟩
/-- what the law's ends stand on -/
structure Ground (K : PySem.W.Frag) (CB CM : Addr) (H : Hp) (a c p wp dp : Addr) (ws ds : List (List Nat)) (m n : Nat) : Prop where
  mc : MachAt K CB CM H p ws ds m
  w : H wp = some (.lst (ws.map tx))
  d : DeedsAt H dp ds m
  h : Wh H a c n
theorem Ground.same {CB CM a c p wp dp : Addr} {H H' : Hp} {ws ds : List (List Nat)} {m n : Nat} (e : Same H H') (g : Ground K CB CM H a c p wp dp ws ds m n) : Ground K CB CM H' a c p wp dp ws ds m n := ⟨g.mc.same e, e _ _ g.w, g.d.same e, g.h.same e⟩
theorem Ground.mv {CB CM a c p wp dp : Addr} {H H' : Hp} {ws ds : List (List Nat)} {m n k : Nat} (mv : Mv a H H') (w : Wh H' a c k) (g : Ground K CB CM H a c p wp dp ws ds m n) : Ground K CB CM H' a c p wp dp ws ds m k := by
  obtain ⟨xs, hx⟩ := wh_lst g.h
  exact ⟨g.mc.mvL hx mv, mv _ _ (wh_ne_words g.h g.w) g.w, g.d.mvA g.h mv, w⟩
theorem kb_Machine_done_0_start_row : KBinds K T.fd_Machine_done ["self", "row", "start"] ["start", "row"] selfSwapG selfSwapG := kb_selfSwap T.F_Machine_done fun _ _ _ _ _ _ _ _ _ => rfl
theorem kb_Machine_done_text_0_start_text : KBinds K T.fd_Machine_done_text ["self", "text", "start"] ["start", "text"] selfSwapG selfSwapG := kb_selfSwap T.F_Machine_done_text fun _ _ _ _ _ _ _ _ _ => rfl
theorem row_arg {H : Hp} {a : Addr} {r : List Nat} {n : Nat} (h : SqQ K H a (nv r)) (l : r.length ≤ 100) (hr : ∀ k ∈ r, k < n) : RowArg K H (.ref a) n true := by
  refine .inr ⟨a, nv r, rfl, h, by rw [nv_len]; omega, fun v hv => ?_, ?_⟩
  · obtain ⟨z, _, rfl⟩ := nv_mem hv
    exact hasInt_int _
  · rw [nv_len, decide_eq_true (by omega), Bool.true_and, Eq.comm, List.all_eq_true]
    intro v hv
    obtain ⟨z, hz, rfl⟩ := nv_mem hv
    exact within_lt (hr z hz)
theorem endN_lt {ds : List (List Nat)} {m : Nat} (hd : ∀ d ∈ ds, d.length = m ∧ ∀ s ∈ d, s < m) : ∀ (r : List Nat) (st : Nat), (∀ k ∈ r, k < ds.length) → st < m → endN ds r st < m
  | [], _, _, h => h
  | k :: r, st, hr, h => by
    have hk := hr k List.mem_cons_self
    obtain ⟨d1, d2⟩ := hd ds[k] (List.getElem_mem hk)
    refine endN_lt hd r _ (fun x hx => hr x (List.mem_cons_of_mem _ hx)) ?_
    show (ds.getD k []).getD st 0 < m
    have e : ds.getD k [] = ds[k] := by
      rw [List.getD_eq_getElem?_getD, List.getElem?_eq_getElem hk]
      rfl
    rw [e]
    exact getD_lt (by omega) d2
theorem dp_two {H : Hp} {p : Addr} {x : Nat} (h : H p = some (.lst [.int (x : Nat), .int (x : Nat)])) : Dp K H (.ref p) (.list [.int (x : Nat), .int (x : Nat)]) := .lst (.inl (.inl h)) (.cons (.int _) (.cons (.int _) .nil))
theorem sh_two {x : Nat} (h : x < 1000) : Sh 1 40 (.list [.int (x : Nat), .int (x : Nat)]) := ((shA_ints (k := 0) [(x : Int), (x : Int)] (fun i m => by
  simp only [List.mem_cons, List.not_mem_nil, or_false] at m
  rcases m with rfl | rfl <;> omega)).lst).up (Nat.le_refl _) (show 2 ≤ 40 by decide)
theorem nil_or_snoc {α : Type} : ∀ l : List α, l = [] ∨ ∃ ini x, l = ini ++ [x]
  | [] => .inl rfl
  | x :: r => by
    rcases nil_or_snoc r with rfl | ⟨ini, y, rfl⟩
    · exact .inr ⟨[], x, rfl⟩
    · exact .inr ⟨x :: ini, y, rfl⟩
theorem last_at {ws : List (List Nat)} (h : 1 ≤ ws.length) : ∃ wl, ws[ws.length - 1]? = some wl ∧ atI (ws.map tx) (-1) = some (tx wl) := by
  rcases nil_or_snoc ws with rfl | ⟨ini, wl, rfl⟩
  · cases h
  · refine ⟨wl, by simp, ?_⟩
    rw [List.map_append]
    exact atI_last _ _
theorem word_sg {w : List Nat} (h : wordB w = true) : w.all sg = true ∧ w.length ≤ 12 := by
  unfold wordB lowB at h
  simp only [Bool.and_eq_true, decide_eq_true_eq, List.all_eq_true] at h
  refine ⟨?_, h.1⟩
  rw [List.all_eq_true]
  intro c hc
  unfold sg
  rw [h.2.2 c hc, Bool.or_true]
def sp_law_ends_right (K : PySem.W.Frag) (CB CM : Addr) : Sp := fun vs H Q _ => ∃ (a c p wp dp : Addr) (ws ds : List (List Nat)) (m n : Nat), vs = [.ref a, .ref p, .ref wp, .ref dp] ∧ Ground K CB CM H a c p wp dp ws ds m n ∧ Fits ws ds m ∧ 1 ≤ ws.length ∧ (∀ w ∈ ws, wordB w = true) ∧ 1 ≤ m ∧ m ≤ 40 ∧ n < 900000 ∧ ∀ H', Mv a H H' → Wh H' a c (n + 300) → Q (.bl true) H'
theorem ok_law_ends_right : FnG P w K mg base CX0 11 T.f_law_ends_right T.fd_law_ends_right ["_law_engine_here", "_law_machine", "_law_words", "_law_deeds"] (sp_law_ends_right K T.C_Book T.C_Machine) := by
  refine okG T.F_law_ends_right sc_law_ends_right (fun vs H Q E h => ?_) (fun cdv A outer s H vs Q E hg hr h => ?_)
  · obtain ⟨a, c, p, wp, dp, ws, ds, m, n, rfl, _⟩ := h
    rfl
  · obtain ⟨a, c, p, wp, dp, ws, ds, m, n, rfl, G, hF, l1, hw, m1, m2, hn, q⟩ := h
    refine ⟨_, (pss_cons (ps_set (i := 4) sc_law_ends_right.nd rfl (.inl rfl) (pe_callB call_len_seq (by rfl) T.m_len PySem.boot_len (pa_cons (pe_ix ix_list (pv 3) pe_int (fun _ _ => rfl)) pa_nil)))
    (pss_cons (ps_for PassesOwn.never rfl (pi_range1 (by rfl) T.m_range (pa_cons pe_int pa_nil)) (pg_name (i := 5) sc_law_ends_right.nd rfl (.inl rfl))
      (pss_cons (ps_par (i := 7) (j := 8) rfl sc_law_ends_right.nd rfl rfl (by decide) rfl rfl (pa_cons (pe_lc (own := [("_law_lap", 6)]) rfl sc_law_ends_right.nd (pi_range1 (by rfl) T.m_range (pa_cons (pe_call (ok_law_crank T) (hr.mono (by decide)) (by rfl) T.g_law_crank T.F_law_crank.kp T.b_law_crank .nil pass0 (pa_cons (pv 0) (pa_cons (pe_call (ok_law_one T) (hr.mono (by decide)) (by rfl) T.g_law_one T.F_law_one.kp T.b_law_one .nil pass0 (pa_cons (pv 0) (pa_cons (pe_lst (pa_cons pe_int (pa_cons pe_int pa_nil))) pa_nil))) pa_nil))) pa_nil)) (blkOk_by (own := [("_law_lap", 6)]) (N := ["_law_engine_here", "_law_machine", "_law_words", "_law_deeds", "_law_states", "_law_turn", "_law_lap", "_law_row", "_law_start", "_law_due", "_law_number", "_law_items", "_law_text"]) (sc := defScope s_law_ends_right) (by decide +kernel)) (fun _ _ _ _ _ => (pg_name (i := 6) sc_law_ends_right.nd rfl (.inl rfl))) (fun _ _ _ _ _ => pts_nil) (fun _ _ _ _ _ => (pe_call (ok_law_crank T) (hr.mono (by decide)) (by rfl) T.g_law_crank T.F_law_crank.kp T.b_law_crank .nil pass0 (pa_cons (pv 0) (pa_cons (pe_callB (inK_call_len_seq (K := K) rfl) (by rfl) T.m_len PySem.boot_len (pa_cons (pv 2) pa_nil)) pa_nil))))) (pa_cons (pe_call (ok_law_crank T) (hr.mono (by decide)) (by rfl) T.g_law_crank T.F_law_crank.kp T.b_law_crank .nil pass0 (pa_cons (pv 0) (pa_cons (pv 4) pa_nil))) pa_nil)) (by rfl))
      (pss_cons (ps_set (i := 9) sc_law_ends_right.nd rfl (.inl rfl) (pv 8))
      (pss_cons (ps_for PassesOwn.never rfl (pi_list (pv 7)) (pg_name (i := 10) sc_law_ends_right.nd rfl (.inl rfl))
        (pss_one (ps_set (i := 9) sc_law_ends_right.nd rfl (.inl rfl) (pe_ix ix_list (pe_ix ix_list (pv 3) (pv 10) (fun _ _ => rfl)) (pv 9) (fun _ _ => rfl)))))
      (pss_cons (ps_if (pt_cmpR op_ne (pe_callB (call_reprD hg hr.units) (by rfl) T.m_repr (by decide +kernel) (pa_cons (pe_lst (pa_cons (pe_meth (pv 1) T.cl_Machine T.me_Machine_done (ok_Machine_done T) (hr.mono (by decide)) T.b_Machine_done .nil passF (pa_cons (pv 7) (pa_cons (pv 8) pa_nil))) (pa_cons (pe_methK0 (pv 1) T.cl_Machine T.me_Machine_done (ok_Machine_done T) (hr.mono (by decide)) (kb_Machine_done_0_start_row T) passF (pk_cons (pv 8) (pk_cons (pe_callTy call_tuple_frz (by rfl) T.m_tuple (by decide +kernel) (pa_cons (pv 7) pa_nil)) pk_nil))) pa_nil))) pa_nil)) (pe_callB (call_reprD hg hr.units) (by rfl) T.m_repr (by decide +kernel) (pa_cons (pe_lst (pa_cons (pv 9) (pa_cons (pv 9) pa_nil))) pa_nil)) (nomark _))
        (pss_one (ps_ret pe_bl))
        pss_nil)
      (pss_cons (ps_setLc (i := 11) (own := [("_law_lap", 6)]) rfl sc_law_ends_right.nd rfl rfl (sw_true rfl rfl rfl (by decide +kernel)) (pi_range1 (by rfl) T.m_range (pa_cons (pe_call (ok_law_crank T) (hr.mono (by decide)) (by rfl) T.g_law_crank T.F_law_crank.kp T.b_law_crank .nil pass0 (pa_cons (pv 0) (pa_cons pe_int pa_nil))) pa_nil)) (blkOk_by (own := [("_law_lap", 6)]) (N := ["_law_engine_here", "_law_machine", "_law_words", "_law_deeds", "_law_states", "_law_turn", "_law_lap", "_law_row", "_law_start", "_law_due", "_law_number", "_law_items", "_law_text"]) (sc := defScope s_law_ends_right) (by decide +kernel)) (fun _ _ _ _ _ => (pg_name (i := 6) sc_law_ends_right.nd rfl (.inl rfl))) (fun _ _ _ _ _ => pts_nil) (fun _ _ _ _ _ => (pe_call (ok_law_one T) (hr.mono (by decide)) (by rfl) T.g_law_one T.F_law_one.kp T.b_law_one .nil pass0 (pa_cons (pv 0) (pa_cons (pe_op op_cat (pv 2) (pe_lst (pa_cons (pe_ix (inK_ix_list (K := K) rfl) (pv 2) pe_int (fun _ _ => rfl)) (pa_cons pe_str (pa_cons pe_str (pa_cons (pe_op op_add_str (pe_ix (inK_ix_list (K := K) rfl) (pv 2) pe_int (fun _ _ => rfl)) pe_str) (pa_cons (pe_slice C8.sl_txt (pe_ix (inK_ix_list (K := K) rfl) (pv 2) (pe_un un_neg pe_int) (fun _ _ => rfl)) (po_some pe_int) po_none) pa_nil))))))) pa_nil)))))
      (pss_cons (ps_set (i := 12) sc_law_ends_right.nd rfl (.inl rfl) (pe_join pe_str (pv 11)))
      (pss_cons (ps_set (i := 9) sc_law_ends_right.nd rfl (.inl rfl) (pe_call (ok_law_end T) (hr.mono (by decide)) (by rfl) T.g_law_end T.F_law_end.kp T.b_law_end .nil pass0 (pa_cons (pv 2) (pa_cons (pv 3) (pa_cons (pv 12) (pa_cons (pv 8) pa_nil))))))
      (pss_one (ps_if (pt_cmpR op_ne (pe_callB (call_reprD hg hr.units) (by rfl) T.m_repr (by decide +kernel) (pa_cons (pe_lst (pa_cons (pe_meth (pv 1) T.cl_Machine T.me_Machine_done_text (ok_Machine_done_text T) (hr.mono (by decide)) T.b_Machine_done_text .nil passF (pa_cons (pv 12) (pa_cons (pv 8) pa_nil))) (pa_cons (pe_methK0 (pv 1) T.cl_Machine T.me_Machine_done_text (ok_Machine_done_text T) (hr.mono (by decide)) (kb_Machine_done_text_0_start_text T) passF (pk_cons (pv 8) (pk_cons (pv 12) pk_nil))) pa_nil))) pa_nil)) (pe_callB (call_reprD hg hr.units) (by rfl) T.m_repr (by decide +kernel) (pa_cons (pe_lst (pa_cons (pv 9) (pa_cons (pv 9) pa_nil))) pa_nil)) (nomark _))
        (pss_one (ps_ret pe_bl))
        pss_nil))))))))))
    (pss_one (ps_ret (pe_and (pe_cmpR op_eq (pe_meth (pv 1) T.cl_Machine T.me_Machine_done (ok_Machine_done T) (hr.mono (by decide)) T.b_Machine_done .nil passF (pa_cons (pe_lst pa_nil) (pa_cons (pv 8) pa_nil))) (pv 8) (nomark _)) (pe_one (pe_cmpR op_eq (pe_meth (pv 1) T.cl_Machine T.me_Machine_done_text (ok_Machine_done_text T) (hr.mono (by decide)) T.b_Machine_done_text .nil passF (pa_cons pe_str (pa_cons (pv 8) pa_nil))) (pv 8) (nomark _)))))))), ?_⟩
    obtain ⟨ps, g1, g2, g3⟩ := G.d
    have lw : (ws.map tx).length = ws.length := List.length_map ..
    have hl := hF.l
    obtain ⟨y0, hy0⟩ : ∃ y, ps[0]? = some y := ⟨_, List.getElem?_eq_getElem (by omega)⟩
    obtain ⟨d0, hd0⟩ := deed_of g2 hy0
    have at0 : atI (ps.map V.ref) 0 = some (.ref y0) := by
      have h0 : 0 < (ps.map V.ref).length := by rw [List.length_map]; omega
      show atI (ps.map V.ref) ((0 : Nat) : Int) = _
      rw [at_nat h0]
      have := List.getElem?_eq_getElem h0
      rw [List.getElem?_map, hy0] at this
      exact this.symm
    obtain ⟨k1, k2, k3⟩ := g3 0 y0 d0 hy0 hd0
    refine go_seq (go_asg (go_cb (go_cons (go_op (go_var rfl (go_c ⟨dp, _, _, _, rfl, rfl, .inl (.inl g1), at0, go_nil ⟨y0, _, rfl, .inl (.inl (.inl k1)), ?_⟩⟩))))))
    rw [nv_len, k2]
    clear k1 k2 k3 at0 hd0 hy0 g1 g2 g3
    dsimp only [gName]
    refine go_seq ⟨3, rfl, by decide, by decide, for_range (lo := 0) (n := 3) (fun i σ H' => ∃ (o5 o6 o7 o9 o10 o11 o12 : Option V) (st : Nat) (o8 : Option V), σ = [some (.ref a), some (.ref p), some (.ref wp), some (.ref dp), some (.int (m : Nat)), o5, o6, o7, o8, o9, o10, o11, o12] ∧ (i = 0 ∨ (o8 = some (.int (st : Nat)) ∧ st < m)) ∧ Ground K T.C_Book T.C_Machine H' a c p wp dp ws ds m (n + 90 * i) ∧ Mv a H H')
      ⟨none, none, none, none, none, none, none, 0, none, rfl, .inl rfl, G, Mv.refl _ _⟩ (fun i σ' Hc hi h => ?_) (fun σ' Hc h => ?_)⟩
    · obtain ⟨o5, o6, o7, o9, o10, o11, o12, st0, o8, rfl, _, Gc, mvc⟩ := h
      have wc := Gc.h
      dsimp only [gName]
      refine go_seq ⟨_, rfl, _, rfl, sz2, fun p1 n1 => ?_⟩
      have hpw := wc.ne n1
      refine ⟨a, p1, c, _, _, rfl, .inl (.inl upd_same), by simp, (show 2 ≤ 1000000 by decide), wc.new n1, by omega, fun H' m => .inl (.inl (m _ _ hpw upd_same)), fun v H1 hv mv1 w1 => ?_⟩
      obtain ⟨k, rfl, ka, kb⟩ : ∃ z : Int, v = .int z ∧ 1 ≤ z ∧ z ≤ 31 := by
        simp only [List.mem_cons, List.not_mem_nil, or_false] at hv
        rcases hv with rfl | rfl <;> exact ⟨_, rfl, by decide, by decide⟩
      refine ⟨a, c, k, _, rfl, by omega, by omega, w1, by omega, fun t H2 t0 t1 mv2 w2 => ?_⟩
      obtain ⟨t, rfl⟩ : ∃ z : Nat, t = z := ⟨t.toNat, by omega⟩
      have G2 := Gc.mv (((Mv.of (same_new n1)).trans mv1).trans mv2) w2
      have mvA := mvc.trans (((Mv.of (same_new n1)).trans mv1).trans mv2)
      clear hv mv1 mv2 w1 w2 n1 hpw wc Gc mvc
      refine ⟨_, rfl, by omega, by omega, fun D nD => lc_range (lo := 0) (n := (t : Int).toNat) (fun j H' => ∃ r : List Nat, r.length = j ∧ H' wp = some (.lst (ws.map tx)) ∧ Grow a c D H2 ws.length (n + 90 * i + 2 + j) r H') ⟨[], rfl, same_new nD _ _ G2.w, .new nD (G2.h.lt (by omega))⟩ (fun j Hd hj h => ?_) (fun Hd h => ?_)⟩
      · obtain ⟨r, lr, hwp, g⟩ := h
        have wpD : wp ≠ D := ne_of_none G2.w nD
        refine ⟨rfl, ?_⟩
        refine iteT (B := True) ?_
        refine ⟨_, rfl, _, rfl, wp, _, rfl, .inl (.inl (.inl hwp)), a, c, ws.length, _, by rw [lw]; rfl, by omega, by have := hF.l2; omega, g.2.2.2, by omega, fun z H5 z0 z1 m5 w5 => ?_⟩
        obtain ⟨z, rfl⟩ : ∃ y : Nat, z = y := ⟨z.toNat, by omega⟩
        obtain ⟨acc, b1, b2, b3⟩ := g.app (v := .int (z : Nat)) (z := z) nD G2.h m5 w5 rfl (by omega) (by omega)
        exact ⟨acc, b1, b2, _, by rw [List.length_append, lr]; rfl, by rw [upd_ne wpD]; exact m5 _ _ (wh_ne_words G2.h G2.w) hwp, b3⟩
      obtain ⟨r, lr, _, hD, hr2, mvD, wD⟩ := h
      have lr : r.length ≤ 30 := by omega
      have G3 := G2.mv mvD wD
      have hDa := G2.h.ne nD
      refine ⟨_, rfl, _, rfl, a, c, m, _, rfl, by omega, by omega, wD, by omega, fun st H4 s0 s1 mv4 w4 => ?_⟩
      obtain ⟨st, rfl⟩ : ∃ y : Nat, st = y := ⟨st.toNat, by omega⟩
      have hst : st < m := by omega
      have G4 := G3.mv mv4 w4
      have hD4 := mv4 _ _ hDa hD
      have mvB := mvA.trans (mvD.trans mv4)
      clear G2 G3 mvA mvD mv4 wD w4 hD nD s0 s1
      refine ⟨_, _, rfl, ?_⟩
      dsimp only
      refine go_seq (go_asg ⟨_, rfl, ?_⟩)
      dsimp only [gName]
      refine go_seq ⟨_, rfl, D, rfl, ⟨_, .inl (.inl hD4)⟩, for_list (xs := nv r) (fun j σ H' => ∃ (o10 : Option V) (x : Nat), σ = [some (.ref a), some (.ref p), some (.ref wp), some (.ref dp), some (.int (m : Nat)), some (.int (0 + (i : Int))), o6, some (.ref D), some (.int (st : Nat)), some (.int (x : Nat)), o10, o11, o12] ∧ x = endN ds (r.take j) st ∧ x < m ∧ Same H4 H')
        ⟨_, st, rfl, rfl, hst, Same.refl _⟩ (fun j σ' H' _ h => ?_) (fun j v σ' Hd hv h => ?_) (fun σ' Hd h => ?_)⟩
      · obtain ⟨_, _, _, _, _, e⟩ := h
        exact .inl (.inl (e _ _ hD4))
      · obtain ⟨o10', x, rfl, hx, hxm, e⟩ := h
        obtain ⟨hi', rfl⟩ := nv_get hv
        have hk := getD_lt hi' hr2
        obtain ⟨ps, g1, g2, g3⟩ := G4.d.same e
        obtain ⟨y, hy⟩ : ∃ y, ps[r.getD j 0]? = some y := ⟨_, List.getElem?_eq_getElem (by omega)⟩
        obtain ⟨d, hdk⟩ := deed_of g2 hy
        have gy := (g3 _ y d hy hdk).1
        obtain ⟨d1, d2⟩ := hF.d d (List.mem_of_getElem? hdk)
        have atk : atI (ps.map V.ref) ((r.getD j 0 : Nat) : Int) = some (.ref y) := by
          have h0 : r.getD j 0 < (ps.map V.ref).length := by rw [List.length_map]; omega
          rw [at_nat h0]
          have := List.getElem?_eq_getElem h0
          rw [List.getElem?_map, hy] at this
          exact this.symm
        dsimp only [gName]
        refine go_asg ⟨_, rfl, _, rfl, dp, _, _, _, rfl, rfl, .inl (.inl g1), atk, _, rfl, y, _, _, _, rfl, rfl, .inl (.inl gy), nv_at (by omega), ?_⟩
        have hdd : ds.getD (r.getD j 0) [] = d := by rw [List.getD_eq_getElem?_getD, hdk]; rfl
        refine ⟨_, d.getD x 0, rfl, ?_, getD_lt (by omega) d2, e⟩
        unfold endN at hx ⊢
        rw [List.take_add_one, List.getElem?_eq_getElem hi', List.foldl_append, ← hx]
        have : r[j] = r.getD j 0 := by rw [List.getD_eq_getElem?_getD, List.getElem?_eq_getElem hi']; rfl
        show _ = (ds.getD r[j] []).getD x 0
        rw [this, hdd]
      obtain ⟨o10', x, rfl, hx, hxm, e5⟩ := h
      rw [nv_len, List.take_length] at hx
      subst hx
      have G5 := G4.same e5
      have hD5 := e5 _ _ hD4
      have mvC := mvB.trans (Mv.of e5)
      have hrd : ∀ k ∈ r, k < ds.length := fun k hk => by rw [← hl]; exact hr2 k hk
      clear G4 hD4 e5 mvB
      dsimp only
      obtain ⟨dx, bk, t', hpm, _, _⟩ := id G5.mc
      have ra : ∀ {HH : Hp} {q : Addr}, SqQ K HH q (nv r) → RowArg K HH (.ref q) ws.length true := fun h => row_arg h (by omega) hr2
      refine go_seq (nerepr_if (.list [.int (endN ds r st : Nat), .int (endN ds r st : Nat)]) (sh_two (by omega)) (by decide) (by decide) (fun Q q => ?_) (fun H0 e0 Q q => ?_) (fun H6 e6 => ?_))
      · refine go_lst (go_cons ?_)
        refine ⟨_, rfl, p, dx, _, rfl, hpm, rfl, _, rfl, _, rfl, p, ws, ds, m, .ref D, .int (st : Nat), true, rfl, G5.mc, hF, ra (.inl (.inl (.inl hD5))), hasInt_int _, .inr (.inr ⟨D, r, st, rfl, rfl, .inl (.inl (.inl hD5)), hrd, rfl, hst, fun H7 e7 => ?_⟩)⟩
        refine go_cons ?_
        refine ⟨_, rfl, p, dx, _, rfl, e7 _ _ hpm, rfl, _, rfl, _, rfl, D, _, rfl, .inl ⟨.inl (.inl (e7 _ _ hD5)), fun t o nt hdn => ?_⟩⟩
        have e8 := same_new (o := HO.frz o (.tup (nv r))) nt
        have ht : SqQ K (upd H7 t (HO.frz o (.tup (nv r)))) t (nv r) := .inr (.inl (.inr ⟨o, upd_same⟩))
        refine ⟨p, ws, ds, m, .ref t, .int (st : Nat), true, rfl, (G5.same (e7.trans e8)).mc, hF, ra ht, hasInt_int _, .inr (.inr ⟨t, r, st, rfl, rfl, ht, hrd, rfl, hst, fun H9 e9 => ?_⟩)⟩
        exact go_nil ⟨sz2, fun u nu => q u _ (((e7.trans e8).trans e9).trans (same_new nu)) (dp_two upd_same)⟩
      · refine go_lst (go_cons (go_var rfl (go_cons (go_var rfl (go_nil ⟨sz2, fun u nu => q u _ (same_new nu) (dp_two upd_same)⟩)))))
      dsimp only [tNext]
      have G6 := G5.same e6
      have mv6 := mvC.trans (Mv.of e6)
      clear G5 hD5 mvC e6 hpm ra
      refine go_seq (go_asg ⟨_, rfl, a, c, 12, _, rfl, by decide, by decide, G6.h, by omega, fun t2 H7 u0 u1 mv7 w7 => ?_⟩)
      obtain ⟨t2, rfl⟩ : ∃ z : Nat, t2 = z := ⟨t2.toNat, by omega⟩
      have G7 := G6.mv mv7 w7
      have mvE := mv6.trans mv7
      clear G6 mv6 mv7 w7
      obtain ⟨wl, hwl, atl⟩ := last_at l1
      obtain ⟨w0, hw0⟩ : ∃ x, ws[0]? = some x := ⟨_, List.getElem?_eq_getElem (by omega)⟩
      have at0 : atI (ws.map tx) 0 = some (tx w0) := by
        have h0 : 0 < (ws.map tx).length := by rw [lw]; omega
        show atI (ws.map tx) ((0 : Nat) : Int) = _
        rw [at_nat h0]
        have := List.getElem?_eq_getElem h0
        rw [List.getElem?_map, hw0] at this
        exact this.symm
      have okw : ∀ w ∈ ws, w.all sg = true ∧ w.length ≤ 12 := fun w m => word_sg (hw w m)
      refine ⟨_, rfl, by omega, by omega, fun D2 nD2 => lc_range (lo := 0) (n := (t2 : Int).toNat) (fun j H' => ∃ its : List (List Nat), its.length = j ∧ H' D2 = some (.lst (its.map tx)) ∧ (∀ it ∈ its, it.all sg = true ∧ it.length ≤ 13) ∧ Mv a H7 H' ∧ Wh H' a c (n + 90 * i + 35 + j)) ⟨[], rfl, upd_same, (fun _ m => by cases m), Mv.of (same_new nD2), (G7.h.new nD2).lt (by omega)⟩ (fun j Hd hj h => ?_) (fun Hd h => ?_)⟩
      · obtain ⟨its, li, hD2, hall, mvj, wj⟩ := h
        have hwp := mvj _ _ (wh_ne_words G7.h G7.w) G7.w
        refine ⟨rfl, ?_⟩
        refine iteT (B := True) ?_
        refine ⟨_, rfl, ?_⟩
        refine go_op (go_var rfl (go_lst ?_))
        refine ⟨_, rfl, wp, _, 0, _, rfl, rfl, .inl (.inl hwp), at0, _, rfl, wp, _, 0, _, rfl, rfl, .inl (.inl hwp), at0, _, _, rfl, rfl, ?_, ?_⟩
        · rw [S_len]
          have := (okw w0 (List.mem_of_getElem? hw0)).2
          exact Nat.le_trans (show w0.length + 1 ≤ 13 by omega) (by decide)
        refine ⟨_, rfl, 1, rfl, wp, _, -1, _, rfl, rfl, .inl (.inl hwp), atl, _, rfl, S wl, rfl, ?_, ?_⟩
        · rw [S_len]
          exact Nat.le_trans (okw wl (List.mem_of_getElem? hwl)).2 (by decide)
        refine ⟨(show 5 ≤ sizeLine by decide), fun q1 n1 => ?_⟩
        refine ⟨wp, q1, _, _, rfl, rfl, same_new n1 _ _ hwp, upd_same, ?_, fun q2 n2 => ?_⟩
        · rw [lw]
          exact Nat.le_trans (show ws.length + 5 ≤ 45 by have := hF.l2; omega) (by decide)
        refine ⟨a, q2, c, _, _, rfl, .inl (.inl upd_same), by simp, ?_, (wj.new n1).new n2, by omega, fun H' mm => .inl (.inl (mm _ _ ((wj.new n1).ne n2) upd_same)), fun v H8 hv m8 w8 => ?_⟩
        · rw [List.length_append, lw]
          have := hF.l2
          show ws.length + 5 ≤ 1000000
          omega
        obtain ⟨it, rfl, hit⟩ : ∃ it : List Nat, v = tx it ∧ it.all sg = true ∧ it.length ≤ 13 := by
          have ok0 := okw w0 (List.mem_of_getElem? hw0)
          have ok1 := okw wl (List.mem_of_getElem? hwl)
          rcases List.mem_append.mp hv with hv | hv
          · obtain ⟨w, hwm, rfl⟩ := List.mem_map.mp hv
            exact ⟨w, rfl, (okw w hwm).1, by have := (okw w hwm).2; omega⟩
          · simp only [List.mem_cons, List.not_mem_nil, or_false] at hv
            rcases hv with rfl | rfl | rfl | rfl | rfl
            · exact ⟨w0, rfl, ok0.1, by have := ok0.2; omega⟩
            · exact ⟨[], rfl, rfl, by decide⟩
            · exact ⟨[122], rfl, by decide, by decide⟩
            · refine ⟨w0 ++ [122], ?_, ?_, ?_⟩
              · show V.str (S w0 ++ S [122]) = V.str (S (w0 ++ [122]))
                rw [S_cat]
              · rw [List.all_append, ok0.1]
                decide
              · rw [List.length_append]
                have := ok0.2
                show w0.length + 1 ≤ 13
                omega
            · obtain ⟨mm, e, l1, c1⟩ := slice_part (l := wl) (lo := some 1) (hi := none)
              refine ⟨mm, by show V.str _ = V.str _; rw [e], ?_, by have := ok1.2; omega⟩
              rw [List.all_eq_true]
              exact fun x hx => List.all_eq_true.mp ok1.1 x (c1 x hx)
        have hD2a := G7.h.ne nD2
        have mvN : Mv a Hd H8 := ((Mv.of (same_new n1)).trans (Mv.of (same_new n2))).trans m8
        refine ⟨_, mvN _ _ hD2a hD2, ?_, its ++ [it], ?_, ?_, ?_, ?_, ?_⟩
        · rw [List.length_map, li]
          exact Nat.lt_of_lt_of_le (show j < 12 by omega) (by decide)
        · rw [List.length_append, li]
          rfl
        · rw [upd_same, List.map_append]
          rfl
        · intro x hx
          rcases List.mem_append.mp hx with hx | hx
          · exact hall x hx
          · rw [List.mem_singleton.mp hx]
            exact hit
        · intro b o' nb h
          rw [upd_ne (ne_of_none h nD2)]
          exact (mvj.trans mvN) b o' nb h
        · exact (w8.lt (by omega)).set hD2a (G7.h.nc nD2)
      obtain ⟨its, li, hD2, hall, mvj, wj⟩ := h
      have G8 := G7.mv mvj wj
      have mvF := mvE.trans mvj
      have li2 : its.length ≤ 11 := by omega
      clear G7 mvE mvj wj
      dsimp only [gName]
      have eI : its.map tx = (its.map S).map V.str := by
        rw [List.map_map]
        rfl
      rw [eI] at hD2
      refine go_seq (go_asg ⟨⟨_, rfl⟩, _, rfl, " ", D2, its.map S, rfl, rfl, .inl (.inl (.inl hD2)), ?_, ?_⟩)
      · have h1 := sum_S_le its (fun it m => (hall it m).2)
        rw [List.length_map]
        show _ + its.length * 1 ≤ 16777216
        omega
      have ej : Txt.join (Str.ofString " ") (its.map S) = S (TL.joinL [32] its) := join_S [32] its
      rw [ej]
      have lt2 : (TL.joinL [32] its).length ≤ 154 := by
        have := joinL_len its (fun it m => (hall it m).2)
        omega
      have tb : textB (TL.joinL [32] its) = true := by
        unfold textB
        rw [decide_eq_true (by omega), joinL_all (p := sg) (by decide) its (fun it m => (hall it m).1)]
        rfl
      clear hD2 eI ej
      generalize TL.joinL [32] its = l at lt2 tb ⊢
      dsimp only [gName]
      refine go_seq (go_asg ⟨_, rfl, _, rfl, _, rfl, _, rfl, wp, dp, ws, ds, m, st, l, rfl, G8.w, G8.d, hl, hF.d, hst, by omega, fun H9 e9 => ?_⟩)
      have G9 := G8.same e9
      have mvG := mvF.trans (Mv.of e9)
      clear G8 mvF e9
      dsimp only [gName]
      have dl : endN ds (readN ws l) st < m := endN_lt hF.d _ _ (fun k hk => by rw [← hl]; exact readN_lt k hk) hst
      obtain ⟨dx2, bk2, t'2, hpm2, _, _⟩ := id G9.mc
      refine nerepr_if (.list [.int (endN ds (readN ws l) st : Nat), .int (endN ds (readN ws l) st : Nat)]) (sh_two (by omega)) (by decide) (by decide) (fun Q q => ?_) (fun H0 e0 Q q => ?_) (fun H10 e10 => ?_)
      · refine go_lst (go_cons ?_)
        refine ⟨_, rfl, p, dx2, _, rfl, hpm2, rfl, _, rfl, _, rfl, p, ws, ds, m, .str (S l), .int (st : Nat), some l, rfl, G9.mc, hF, ⟨rfl, by omega⟩, hasInt_int _, .inr (.inr ⟨l, st, rfl, tb, rfl, hst, fun H11 e11 => ?_⟩)⟩
        refine go_cons ?_
        refine ⟨_, rfl, p, dx2, _, rfl, e11 _ _ hpm2, rfl, _, rfl, _, rfl, p, ws, ds, m, .str (S l), .int (st : Nat), some l, rfl, (G9.same e11).mc, hF, ⟨rfl, by omega⟩, hasInt_int _, .inr (.inr ⟨l, st, rfl, tb, rfl, hst, fun H12 e12 => ?_⟩)⟩
        exact go_nil ⟨sz2, fun u nu => q u _ ((e11.trans e12).trans (same_new nu)) (dp_two upd_same)⟩
      · refine go_lst (go_cons (go_var rfl (go_cons (go_var rfl (go_nil ⟨sz2, fun u nu => q u _ (same_new nu) (dp_two upd_same)⟩)))))
      dsimp only [tNext]
      have G10 := G9.same e10
      obtain ⟨ax, bx, mvx, wx⟩ : True ∧ True ∧ Mv a H H10 ∧ True := ⟨trivial, trivial, mvG.trans (Mv.of e10), trivial⟩
      exact ⟨_, _, _, _, _, _, _, st, _, rfl, .inr ⟨rfl, hst⟩, ⟨G10.mc, G10.w, G10.d, G10.h.lt (by omega)⟩, mvx⟩
    · obtain ⟨o5, o6, o7, o9, o10, o11, o12, st, o8, rfl, h8, Gc, mvc⟩ := h
      obtain ⟨rfl, hst⟩ : o8 = some (V.int st) ∧ st < m := by
        rcases h8 with h8 | h8
        · cases h8
        · exact h8
      dsimp only
      obtain ⟨dx, bk, t', hpm, _, _⟩ := id Gc.mc
      refine go_ret (go_and (go_op ?_))
      refine ⟨_, rfl, p, dx, _, rfl, hpm, rfl, Nat.zero_le _, fun u nu => ?_⟩
      have e1 := same_new (o := HO.lst []) nu
      have hu : SqQ K (upd Hc u (.lst [])) u (nv []) := .inl (.inl (.inl upd_same))
      refine ⟨_, rfl, p, ws, ds, m, .ref u, .int (st : Nat), true, rfl, (Gc.same e1).mc, hF, row_arg hu (by decide) (fun _ h => by cases h), hasInt_int _, .inr (.inr ⟨u, [], st, rfl, rfl, hu, (fun _ h => by cases h), rfl, hst, fun H2 e2 => ?_⟩)⟩
      have e3 := e1.trans e2
      have en : endN ds [] st = st := rfl
      rw [en]
      refine go_var rfl ⟨rfl, _, rfl, ?_⟩
      rw [decide_eq_true rfl]
      refine iteT (B := _) ?_
      refine go_op ?_
      refine ⟨_, rfl, p, dx, _, rfl, e3 _ _ hpm, rfl, _, rfl, p, ws, ds, m, .str (S []), .int (st : Nat), some [], rfl, (Gc.same e3).mc, hF, ⟨rfl, by decide⟩, hasInt_int _, .inr (.inr ⟨[], st, rfl, rfl, rfl, hst, fun H4 e4 => ?_⟩)⟩
      have e5 := e3.trans e4
      have no : readN ws [] = [] := by
        have : numOf 0 ws [] = none := by
          cases hz : numOf 0 ws [] with
          | none => rfl
          | some k =>
            obtain ⟨j, _, h1, _⟩ := numOf_at 0 ws [] k hz
            have := hw [] (List.mem_of_getElem? h1)
            cases this
        show [([] : List Nat)].filterMap (numOf 0 ws) = []
        rw [List.filterMap_cons, this]
        rfl
      rw [no, en]
      refine go_var rfl ⟨rfl, ?_⟩
      rw [decide_eq_true rfl]
      exact q H4 (mvc.trans (Mv.of e5)) ((Gc.h.same e5).lt (by omega))
end
end K21
namespace K21
open PySem PySem.Spec PyProof.Rows L2 Kx SX LamX
section
variable {P : Program} {w : World} {K : PySem.W.Frag} {mg : Str → Option Value} {base : Heap} (T : Tx K mg)
theorem deedsB_inv {n : Nat} {os : List (Option (List V))} (h : deedsB n os = true) : os.length = n ∧ ∀ o ∈ os, ∃ xs, o = some xs ∧ 1 ≤ xs.length ∧ xs.length ≤ 40 ∧ xs.length = firstN os ∧ inB (firstN os) xs = true := by
  unfold deedsB at h
  simp only [Bool.and_eq_true, decide_eq_true_eq, List.all_eq_true] at h
  obtain ⟨h1, h2, h3⟩ := h
  refine ⟨h1, fun o ho => ?_⟩
  have a := h2 o ho
  have b := h3 o ho
  cases o with
  | none => cases a
  | some xs =>
    have a' : (decide (1 ≤ xs.length) && decide (xs.length ≤ 40)) = true := a
    have b' : (decide (xs.length = firstN os) && inB (firstN os) xs) = true := b
    simp only [Bool.and_eq_true, decide_eq_true_eq] at a' b'
    exact ⟨xs, rfl, a'.1, a'.2, b'.1, b'.2⟩
theorem deedsB_no {n : Nat} {os : List (Option (List V))} (h : deedsB n os = true → False) : deedsB n os = false := by
  cases e : deedsB n os with
  | false => rfl
  | true => exact (h e).elim
theorem DArg.same {H H' : Hp} {x : V} {n : Nat} {b : Bool} (e : Same H H') (h : DArg K H x n b) : DArg K H' x n b := by
  rcases h with ⟨h1, t, h2, h3⟩ | ⟨p, vs, os, h1, h2, h3, h4, h5, h6⟩
  · exact .inl ⟨h1, t, tyx_same e h2, h3⟩
  · exact .inr ⟨p, vs, os, h1, Same.q e h2, h3, h4, fun i v o a b => (h5 i v o a b).same e, h6⟩
theorem core_step {a : Addr} {H H' : Hp} (m : Mv a H H') : Same (core a H) (core a H') := core_same (core_mv m) fun b o h => (of_core h).1
/-- values and what they are told as -/
def Its (K : PySem.W.Frag) (H : Hp) (xs : List V) (os : List (Option (List V))) : Prop := xs.length = os.length ∧ ∀ (i : Nat) (v : V) (o : Option (List V)), xs[i]? = some v → os[i]? = some o → ItemArg K H v o
theorem Its.same {H H' : Hp} {xs : List V} {os : List (Option (List V))} (e : Same H H') (h : Its K H xs os) : Its K H' xs os := ⟨h.1, fun i v o a b => (h.2 i v o a b).same e⟩
theorem Its.app {H : Hp} {xs ys : List V} {os us : List (Option (List V))} (h : Its K H xs os) (g : Its K H ys us) : Its K H (xs ++ ys) (os ++ us) := by
  refine ⟨by rw [List.length_append, List.length_append, h.1, g.1], fun i v o a b => ?_⟩
  by_cases hi : i < xs.length
  · rw [List.getElem?_append_left hi] at a
    rw [List.getElem?_append_left (by rw [← h.1]; exact hi)] at b
    exact h.2 i v o a b
  · rw [List.getElem?_append_right (by omega)] at a
    rw [List.getElem?_append_right (by rw [← h.1]; omega), ← h.1] at b
    exact g.2 _ v o a b
theorem Its.take {H : Hp} {xs : List V} {os : List (Option (List V))} (k : Nat) (h : Its K H xs os) : Its K H (xs.take k) (os.take k) := by
  refine ⟨by rw [List.length_take, List.length_take, h.1], fun i v o a b => ?_⟩
  rw [List.getElem?_take] at a b
  split at a
  · rename_i hi
    rw [if_pos hi] at b
    exact h.2 i v o a b
  · cases a
theorem Its.drop {H : Hp} {xs : List V} {os : List (Option (List V))} (k : Nat) (h : Its K H xs os) : Its K H (xs.drop k) (os.drop k) := by
  refine ⟨by rw [List.length_drop, List.length_drop, h.1], fun i v o a b => ?_⟩
  rw [List.getElem?_drop] at a b
  exact h.2 _ v o a b
theorem Its.one {H : Hp} {v : V} {o : Option (List V)} (h : ItemArg K H v o) : Its K H [v] [o] := by
  refine ⟨rfl, fun i v' o' a b => ?_⟩
  match i with
  | 0 => cases a; cases b; exact h
  | i + 1 => cases a
theorem Its.rep {H : Hp} {v : V} {o : Option (List V)} (h : ItemArg K H v o) : ∀ k : Nat, Its K H (List.replicate k v) (List.replicate k o)
  | 0 => ⟨rfl, fun i v o a b => by cases a⟩
  | k + 1 => (Its.one h).app (Its.rep h k)
theorem rep_one {α : Type} (v : α) (k : Nat) : (List.replicate k [v]).flatten = List.replicate k v := by
  induction k with
  | zero => rfl
  | succ k ih =>
    show [v] ++ (List.replicate k [v]).flatten = _
    rw [ih]
    rfl
theorem darg_no {H : Hp} {p : Addr} {xs : List V} {os : List (Option (List V))} {n : Nat} (h : SqQ K H p xs) (l : xs.length ≤ 100) (g : Its K H xs os) (d : deedsB n os = true → False) : DArg K H (.ref p) n false :=
  .inr ⟨p, xs, os, rfl, h, l, g.1, g.2, (deedsB_no d).symm⟩
/-- what is told of drawn values -/
def Bad (K : PySem.W.Frag) (a : Addr) (H : Hp) (n : Nat) (vs : List V) : Prop := ∀ v ∈ vs, DArg K (core a H) v n false
theorem Bad.mv {a : Addr} {H H' : Hp} {n : Nat} {vs : List V} (m : Mv a H H') (h : Bad K a H n vs) : Bad K a H' n vs := fun v hv => (h v hv).same (core_step m)
theorem Bad.nil {a : Addr} {H : Hp} {n : Nat} : Bad K a H n [] := fun v hv => by cases hv
theorem Bad.add {a : Addr} {H : Hp} {n : Nat} {v : V} {vs : List V} (d : DArg K (core a H) v n false) (h : Bad K a H n vs) : Bad K a H n (v :: vs) := fun x hx => by
  rcases List.mem_cons.mp hx with rfl | hx
  · exact d
  · exact h x hx
theorem Bad.app {a : Addr} {H : Hp} {n : Nat} {vs us : List V} (g : Bad K a H n vs) (h : Bad K a H n us) : Bad K a H n (vs ++ us) := fun x hx => by
  rcases List.mem_append.mp hx with hx | hx
  · exact g x hx
  · exact h x hx
theorem lst_core {a p : Addr} {H : Hp} {xs : List V} (h : H p = some (.lst xs)) (n : p ≠ a) : SqQ K (core a H) p xs := .inl (.inl (.inl (core_at h n (fun ps z => by cases z))))
def osOf (ds : List (List Nat)) : List (Option (List V)) := ds.map fun d => some (nv d)
theorem its_deeds {a c dp : Addr} {H : Hp} {ds : List (List Nat)} {m n : Nat} {ps : List Addr} (w : Wh H a c n) (l : ps.length = ds.length) (m2 : m ≤ 40) (h : ∀ (i : Nat) (q : Addr) (d : List Nat), ps[i]? = some q → ds[i]? = some d → DeedAt H q d m) : Its K (core a H) (ps.map V.ref) (osOf ds) := by
  refine ⟨by unfold osOf; rw [List.length_map, List.length_map, l], fun i v o x y => ?_⟩
  obtain ⟨q, hq, rfl⟩ := ref_get x
  obtain ⟨d, hd, rfl⟩ := map_at y
  obtain ⟨g1, g2, g3⟩ := h i q d hq hd
  refine ⟨q, rfl, lst_core g1 (wh_ne_nums w g1), by rw [nv_len]; omega, fun x hx => ?_⟩
  obtain ⟨z, _, rfl⟩ := nv_mem hx
  exact hasInt_int _
/-- where odd deeds are made -/
structure Od (K : PySem.W.Frag) (a c dp : Addr) (ps : List Addr) (ds : List (List Nat)) (m n : Nat) (H : Hp) (vs : List V) : Prop where
  g : H dp = some (.lst (ps.map V.ref))
  i : Its K (core a H) (ps.map V.ref) (osOf ds)
  d : ∀ (i : Nat) (q : Addr) (d : List Nat), ps[i]? = some q → ds[i]? = some d → DeedAt H q d m
  w : Wh H a c n
  b : Bad K a H ds.length vs
theorem Od.same {a c dp : Addr} {ps : List Addr} {ds : List (List Nat)} {m n : Nat} {H H' : Hp} {vs : List V} (e : Same H H') (h : Od K a c dp ps ds m n H vs) : Od K a c dp ps ds m n H' vs :=
  ⟨e _ _ h.g, h.i.same (core_step (Mv.of e)), fun i q d x y => (h.d i q d x y).same e, h.w.same e, h.b.mv (Mv.of e)⟩
theorem Od.add {a c dp : Addr} {ps : List Addr} {ds : List (List Nat)} {m n : Nat} {H : Hp} {v : V} {vs : List V} (d : DArg K (core a H) v ds.length false) (h : Od K a c dp ps ds m n H vs) : Od K a c dp ps ds m n H (v :: vs) := ⟨h.g, h.i, h.d, h.w, h.b.add d⟩
theorem osOf_len (ds : List (List Nat)) : (osOf ds).length = ds.length := by
  unfold osOf
  rw [List.length_map]
theorem same_twice {H : Hp} {p : Addr} {o u : HO} (n : H p = none) : Same H (upd (upd H p o) p u) := fun b x h => by
  rw [upd_ne (ne_of_none h n), upd_ne (ne_of_none h n)]
  exact h
theorem Od.put {a c dp p : Addr} {ps : List Addr} {ds : List (List Nat)} {m n : Nat} {H : Hp} {o : HO} {vs : List V} (h : Od K a c dp ps ds m n H vs) (e : H p = none) : Od K a c dp ps ds m n (upd H p o) vs := h.same (same_new e)
def putOs (ds : List (List Nat)) (ai : Nat) (R : List V) : List (Option (List V)) := ((osOf ds).take ai ++ [some R]) ++ (osOf ds).drop (ai + 1)
/-- deeds[:at] + [e] + deeds[at + 1:] -/
theorem put_at {te : TE} {σ : L2.St} {H : Hp} {Q : VK} {a c dp : Addr} {ps : List Addr} {ds : List (List Nat)} {m n ai : Nat} {vs : List V} {Pr : List V → Prop} (h1 : σ[1]? = some (some (.ref dp))) (h3 : σ[3]? = some (some (.int (ai : Nat)))) (O : Od K a c dp ps ds m n H vs) (lps : (ps.map V.ref).length ≤ 40)
    (ht : ∀ H1, Same H H1 → ∀ Q' : VK, (∀ r R H2, Same H1 H2 → ItemArg K (core a H2) (.ref r) (some R) → Pr R → Q' (.ref r) H2) → te σ H1 Q')
    (q : ∀ x xs R H3, Same H H3 → H3 x = some (.lst xs) → x ≠ a → Its K (core a H3) xs (putOs ds ai R) → xs.length ≤ 90 → Pr R → Q (.ref x) H3) :
    tOp rCat (tOp rCat (tSl (rSlL K) (tVar 1) tNoPart (tPart (tVar 3))) (tLst (tCons te tNil))) (tSl (rSlL K) (tVar 1) (tPart (tOp (rI0 fun i j => V.int (i + j)) (tVar 3) (tC (V.int 1)))) tNoPart) σ H Q := by
  refine go_op (go_op ?_)
  refine ⟨_, h1, _, h3, ai, rfl, dp, _, rfl, .inl (.inl O.g), fun p1 n1 => ?_⟩
  rw [cut_to]
  have O1 := O.put (o := HO.lst ((ps.map V.ref).take ai)) n1
  have e1 := same_new (o := HO.lst ((ps.map V.ref).take ai)) n1
  have hp1 : upd H p1 (HO.lst ((ps.map V.ref).take ai)) p1 = some (.lst ((ps.map V.ref).take ai)) := upd_same
  generalize upd H p1 (HO.lst ((ps.map V.ref).take ai)) = H1 at O1 e1 hp1 ⊢
  refine go_lst (go_cons (ht H1 e1 _ fun r R H2 e2 hr hp => ?_))
  refine go_nil ⟨sz1, fun p2 n2 => ?_⟩
  have O2 := (O1.same e2).put (o := HO.lst [V.ref r]) n2
  have e3 := same_new (o := HO.lst [V.ref r]) n2
  have hr3 := hr.same (core_step (Mv.of e3))
  have hp2 : upd H2 p2 (HO.lst [V.ref r]) p2 = some (.lst [V.ref r]) := upd_same
  have hp13 := (e2.trans e3) _ _ hp1
  generalize upd H2 p2 (HO.lst [V.ref r]) = H3 at O2 e3 hr3 hp2 hp13 ⊢
  have lt : ((ps.map V.ref).take ai).length ≤ 40 := by
    rw [List.length_take]
    omega
  refine ⟨p1, p2, _, _, rfl, rfl, hp13, hp2, Nat.le_trans (show ((ps.map V.ref).take ai).length + 1 ≤ 41 by omega) (by decide), fun p3 n3 => ?_⟩
  have O3 := O2.put (o := HO.lst ((ps.map V.ref).take ai ++ [V.ref r])) n3
  have e4 := same_new (o := HO.lst ((ps.map V.ref).take ai ++ [V.ref r])) n3
  have hr4 := hr3.same (core_step (Mv.of e4))
  have hp3 : upd H3 p3 (HO.lst ((ps.map V.ref).take ai ++ [V.ref r])) p3 = some (.lst ((ps.map V.ref).take ai ++ [V.ref r])) := upd_same
  generalize upd H3 p3 (HO.lst ((ps.map V.ref).take ai ++ [V.ref r])) = H4 at O3 e4 hr4 hp3 ⊢
  refine ⟨_, h1, _, h3, ai, 1, rfl, rfl, ai + 1, rfl, dp, _, rfl, .inl (.inl O3.g), fun p4 n4 => ?_⟩
  have cf : cutV (ps.map V.ref) (some ((ai : Int) + 1)) none = (ps.map V.ref).drop (ai + 1) := cut_from _ (ai + 1)
  rw [cf]
  have O4 := O3.put (o := HO.lst ((ps.map V.ref).drop (ai + 1))) n4
  have e5 := same_new (o := HO.lst ((ps.map V.ref).drop (ai + 1))) n4
  have hr5 := hr4.same (core_step (Mv.of e5))
  have hp4 : upd H4 p4 (HO.lst ((ps.map V.ref).drop (ai + 1))) p4 = some (.lst ((ps.map V.ref).drop (ai + 1))) := upd_same
  have hp35 := e5 _ _ hp3
  generalize upd H4 p4 (HO.lst ((ps.map V.ref).drop (ai + 1))) = H5 at O4 e5 hr5 hp4 hp35 ⊢
  have ld : ((ps.map V.ref).drop (ai + 1)).length ≤ 40 := by
    rw [List.length_drop]
    omega
  refine ⟨p3, p4, _, _, rfl, rfl, hp35, hp4, ?_, fun p5 n5 => ?_⟩
  · rw [List.length_append]
    exact Nat.le_trans (show ((ps.map V.ref).take ai).length + 1 + ((ps.map V.ref).drop (ai + 1)).length ≤ 81 by omega) (by decide)
  have O5 := O4.put (o := HO.lst ((ps.map V.ref).take ai ++ [V.ref r] ++ (ps.map V.ref).drop (ai + 1))) n5
  have e6 := same_new (o := HO.lst ((ps.map V.ref).take ai ++ [V.ref r] ++ (ps.map V.ref).drop (ai + 1))) n5
  have hr6 := hr5.same (core_step (Mv.of e6))
  refine q p5 _ R _ (e1.trans (e2.trans (e3.trans (e4.trans (e5.trans e6))))) upd_same (O4.w.ne n5) (((O5.i.take ai).app (.one hr6)).app (O5.i.drop (ai + 1))) ?_ hp
  rw [List.length_append, List.length_append]
  show ((ps.map V.ref).take ai).length + 1 + ((ps.map V.ref).drop (ai + 1)).length ≤ 90
  omega
theorem put_in {ds : List (List Nat)} {ai : Nat} {R : List V} : some R ∈ putOs ds ai R := by
  unfold putOs
  simp
theorem put_two {ds : List (List Nat)} {ai m : Nat} {R : List V} {n : Nat} (hl : R.length ≠ m) (l2 : 2 ≤ ds.length) (hd : ∀ d ∈ ds, d.length = m) (h : deedsB n (putOs ds ai R) = true) : False := by
  obtain ⟨_, h2⟩ := deedsB_inv h
  obtain ⟨xs, e1, _, _, f1, _⟩ := h2 _ put_in
  cases e1
  obtain ⟨d, hm, hi⟩ : ∃ d ∈ ds, some (nv d) ∈ putOs ds ai R := by
    match ds, l2 with
    | x :: y :: r, _ =>
      by_cases ha : ai = 0
      · subst ha
        exact ⟨y, by simp, by unfold putOs osOf; simp⟩
      · obtain ⟨k, rfl⟩ : ∃ k, ai = k + 1 := ⟨ai - 1, by omega⟩
        exact ⟨x, by simp, by unfold putOs osOf; simp⟩
  obtain ⟨ys, e2, _, _, f2, _⟩ := h2 _ hi
  cases e2
  rw [nv_len, hd d hm] at f2
  omega
def sp_law_odd (K : PySem.W.Frag) : Sp := fun vs H Q _ => ∃ (a c dp : Addr) (ds : List (List Nat)) (m n : Nat), vs = [.ref a, .ref dp, .int (m : Nat)] ∧ DeedsAt H dp ds m ∧ 1 ≤ ds.length ∧ ds.length ≤ 40 ∧ 1 ≤ m ∧ m ≤ 40 ∧ Wh H a c n ∧ n < 900000 ∧
  ∀ (v : V) (H' : Hp), DArg K (core a H') v ds.length false → Mv a H H' → Wh H' a c (n + 10) → Q v H'
theorem ok_law_odd : FnOk P w K mg base CX0 3 T.f_law_odd T.fd_law_odd ["_law_engine_here", "_law_deeds", "_law_states"] (sp_law_odd K) := by
  refine T.F_law_odd.ok sc_law_odd (fun vs H Q E h => ?_) (fun cdv A outer s H vs Q E hr h => ?_)
  · obtain ⟨a, c, dp, ds, m, n, rfl, _⟩ := h
    rfl
  · obtain ⟨a, c, dp, ds, m, n, rfl, hD, l1, l2, m1, m2, wh, hn, q⟩ := h
    refine ⟨_, (pss_cons (ps_par (i := 3) (j := 4) rfl sc_law_odd.nd rfl rfl (by decide) rfl rfl (pa_cons (pe_call (ok_law_crank T) (hr.mono (by decide)) (by rfl) T.g_law_crank T.F_law_crank.kp T.b_law_crank .nil pass0 (pa_cons (pv 0) (pa_cons (pe_callB call_len_seq (by rfl) T.m_len PySem.boot_len (pa_cons (pv 1) pa_nil)) pa_nil))) (pa_cons (pe_call (ok_law_crank T) (hr.mono (by decide)) (by rfl) T.g_law_crank T.F_law_crank.kp T.b_law_crank .nil pass0 (pa_cons (pv 0) (pa_cons (pv 2) pa_nil))) pa_nil)) (by rfl))
    (pss_cons (ps_set (i := 5) sc_law_odd.nd rfl (.inl rfl) (pe_call (ok_law_one T) (hr.mono (by decide)) (by rfl) T.g_law_one T.F_law_one.kp T.b_law_one .nil pass0 (pa_cons (pv 0) (pa_cons (pe_lst (pa_cons (pv 2) (pa_cons (pe_un un_neg pe_int) (pa_cons pe_bl (pa_cons pe_non (pa_cons pe_str (pa_cons (pe_lst (pa_cons pe_int pa_nil)) (pa_cons (pe_op op_pow pe_int pe_int) pa_nil)))))))) pa_nil))))
    (pss_cons (ps_set (i := 6) sc_law_odd.nd rfl (.inl rfl) (pe_lst (pa_cons pe_non (pa_cons pe_int (pa_cons pe_str (pa_cons (pe_lst pa_nil) (pa_cons (pe_op op_cat (pv 1) (pe_slice sl_list (pv 1) po_none (po_some pe_int))) (pa_cons (pe_slice sl_list (pv 1) (po_some pe_int) po_none) (pa_cons (pe_op op_rep (pe_lst (pa_cons pe_non pa_nil)) (pe_callB call_len_seq (by rfl) T.m_len PySem.boot_len (pa_cons (pv 1) pa_nil))) (pa_cons (pe_op op_rep (pe_lst (pa_cons (pe_lst pa_nil) pa_nil)) (pe_callB call_len_seq (by rfl) T.m_len PySem.boot_len (pa_cons (pv 1) pa_nil))) (pa_cons (pe_disp (pps_cons pe_int (pe_ix ix_list (pv 1) pe_int (fun _ _ => rfl)) pps_nil) (by rfl) (by rfl) (fun z => by cases z) (by decide)) (pa_cons (pe_op op_rep (pe_lst (pa_cons (pe_listRg rfl (by rfl) T.m_list (prg_1 (by rfl) T.m_range pe_int)) pa_nil)) (pe_callB call_len_seq (by rfl) T.m_len PySem.boot_len (pa_cons (pv 1) pa_nil))) pa_nil))))))))))))
    (pss_cons (ps_set (i := 6) sc_law_odd.nd rfl (.inl rfl) (pe_op op_cat (pv 6) (pe_op op_rep (pe_lst (pa_cons (pe_op op_cat (pe_op op_cat (pe_slice sl_list (pv 1) po_none (po_some (pv 3))) (pe_lst (pa_cons (pe_op op_cat (pe_op op_cat (pe_slice sl_list (pe_ix ix_list (pv 1) (pv 3) (fun _ _ => rfl)) po_none (po_some (pv 4))) (pe_lst (pa_cons (pv 5) pa_nil))) (pe_slice sl_list (pe_ix ix_list (pv 1) (pv 3) (fun _ _ => rfl)) (po_some (pe_op op_add (pv 4) pe_int)) po_none)) pa_nil))) (pe_slice sl_list (pv 1) (po_some (pe_op op_add (pv 3) pe_int)) po_none)) pa_nil)) pe_int)))
    (pss_cons (ps_if (pt_cmpR op_gt (pe_callB call_len_seq (by rfl) T.m_len PySem.boot_len (pa_cons (pv 1) pa_nil)) pe_int (nomark _))
      (pss_one (ps_set (i := 6) sc_law_odd.nd rfl (.inl rfl) (pe_op op_cat (pv 6) (pe_lst (pa_cons (pe_op op_cat (pe_op op_cat (pe_slice sl_list (pv 1) po_none (po_some (pv 3))) (pe_lst (pa_cons (pe_op op_cat (pe_ix ix_list (pv 1) (pv 3) (fun _ _ => rfl)) (pe_lst (pa_cons pe_int pa_nil))) pa_nil))) (pe_slice sl_list (pv 1) (po_some (pe_op op_add (pv 3) pe_int)) po_none)) (pa_cons (pe_op op_cat (pe_op op_cat (pe_slice sl_list (pv 1) po_none (po_some (pv 3))) (pe_lst (pa_cons (pe_slice sl_list (pe_ix ix_list (pv 1) (pv 3) (fun _ _ => rfl)) (po_some pe_int) po_none) pa_nil))) (pe_slice sl_list (pv 1) (po_some (pe_op op_add (pv 3) pe_int)) po_none)) pa_nil))))))
      pss_nil)
    (pss_one (ps_ret (pe_call (ok_law_one T) (hr.mono (by decide)) (by rfl) T.g_law_one T.F_law_one.kp T.b_law_one .nil pass0 (pa_cons (pv 0) (pa_cons (pv 6) pa_nil)))))))))), ?_⟩
    obtain ⟨ps, g1, g2, g3⟩ := hD
    have lp : (ps.map V.ref).length = ds.length := by rw [List.length_map, g2]
    have I0 := its_deeds (K := K) (dp := dp) wh g2 m2 g3
    have dpa : dp ≠ a := wh_ne_refs wh g1
    refine go_seq ⟨_, rfl, _, rfl, dp, _, rfl, .inl (.inl (.inl g1)), ?_⟩
    refine ⟨a, c, ds.length, _, by rw [lp]; rfl, by omega, by omega, wh, by omega, fun ai H1 a0 a1 mv1 w1 => ?_⟩
    obtain ⟨ai, rfl⟩ : ∃ z : Nat, ai = z := ⟨ai.toNat, by omega⟩
    refine ⟨_, rfl, _, rfl, a, c, m, _, rfl, by omega, by omega, w1, by omega, fun si H2 s0 s1 mv2 w2 => ?_⟩
    obtain ⟨si, rfl⟩ : ∃ z : Nat, si = z := ⟨si.toNat, by omega⟩
    refine ⟨_, _, rfl, ?_⟩
    dsimp only
    refine go_seq (go_asg ⟨_, rfl, _, rfl, 1, rfl, sz1, fun p1 n1 => ⟨_, _, rfl, rfl, ?_, (show 7 ≤ sizeLine by decide), fun p2 n2 => ?_⟩⟩)
    · exact ⟨by decide, by decide, by decide⟩
    have wq1 := w2.new (o := HO.lst [V.int 0]) n1
    have hp1 : upd H2 p1 (HO.lst [V.int 0]) p1 = some (.lst [V.int 0]) := upd_same
    refine ⟨a, p2, c, _, _, rfl, .inl (.inl upd_same), by simp, (show 7 ≤ 1000000 by decide), wq1.new n2, by omega, fun H' mm => .inl (.inl (mm _ _ (wq1.ne n2) upd_same)), fun low H3 hlow mv3 w3 => ?_⟩
    have mvA : Mv a H H3 := (((mv1.trans mv2).trans (Mv.of (same_new n1))).trans (Mv.of (same_new n2))).trans mv3
    have hp3 := mv3 _ _ ((w2.ne n1)) (same_new n2 _ _ hp1)
    have lowOk : HasInt K (core a H3) low ∧ withinV low (some 0) (some ((m : Int) - 1)) = false := by
      simp only [List.mem_cons, List.not_mem_nil, or_false] at hlow
      rcases hlow with rfl | rfl | rfl | rfl | rfl | rfl | rfl
      · refine ⟨hasInt_int _, ?_⟩
        show (decide ((0 : Int) ≤ (m : Int)) && decide ((m : Int) ≤ (m : Int) - 1)) = false
        rw [decide_eq_false (p := ((m : Int) ≤ (m : Int) - 1)) (by omega), Bool.and_false]
      · exact ⟨hasInt_int _, rfl⟩
      · exact ⟨hasInt_bl _, rfl⟩
      · exact ⟨hasInt_non, rfl⟩
      · exact ⟨hasInt_str _, rfl⟩
      · exact ⟨hasInt_lst (.inl (.inl (core_at hp3 (w2.ne n1) (fun ps z => by cases z)))), rfl⟩
      · refine ⟨hasInt_int _, ?_⟩
        show (decide ((0 : Int) ≤ (10 : Int) ^ (20 : Int).toNat) && decide ((10 : Int) ^ (20 : Int).toNat ≤ (m : Int) - 1)) = false
        rw [decide_eq_false (p := ((10 : Int) ^ (20 : Int).toNat ≤ (m : Int) - 1)) (by
          have : (100 : Int) ≤ (10 : Int) ^ (20 : Int).toNat := by decide
          omega), Bool.and_false]
    have g13 := mvA _ _ dpa g1
    have I3 := I0.same (core_step mvA)
    have gd3 : ∀ (i : Nat) (q : Addr) (d : List Nat), ps[i]? = some q → ds[i]? = some d → DeedAt H3 q d m := fun i q d x y => ⟨mvA _ _ (wh_ne_nums wh (g3 i q d x y).1) (g3 i q d x y).1, (g3 i q d x y).2⟩
    clear hlow hp3 hp1 wq1 n1 n2 mv1 mv2 mv3 w1 w2 s0 a0 g1 g3 I0
    dsimp only [gName]
    have O : Od K a c dp ps ds m (n + 3) H3 [.non, .int 5, .str "deeds"] := ⟨g13, I3, gd3, w3.lt (by omega), by
      refine .add (.inl ⟨rfl, _, .base .non, no_list (by decide +kernel) (by decide +kernel)⟩) (.add (.inl ⟨rfl, _, .base (.int 5), no_list (by decide +kernel) (by decide +kernel)⟩) (.add (.inl ⟨rfl, _, .base (.str _), no_list (by decide +kernel) (by decide +kernel)⟩) .nil))⟩
    clear g13 I3 gd3 w3
    have lps : (ps.map V.ref).length ≤ 40 := by omega
    refine go_seq (go_asg (go_lst (go_cons (go_c (go_cons (go_c (go_cons (go_c (go_cons (go_lst (go_nil ⟨Nat.zero_le _, fun p1 n1 => ?_⟩)))))))))))
    have e1 := same_new (o := HO.lst []) n1
    have O1 := (O.same e1).add (v := .ref p1) (darg_no (xs := []) (os := []) (lst_core upd_same (O.w.ne n1)) (by decide) ⟨rfl, fun i v o x _ => by cases x⟩ (fun h => by have := (deedsB_inv h).1; simp at this; omega))
    generalize upd H3 p1 (HO.lst []) = H4 at e1 O1 ⊢
    clear O
    -- deeds + deeds[:1]
    refine go_cons (go_op (go_var rfl ?_))
    refine ⟨_, rfl, 1, rfl, dp, _, rfl, .inl (.inl O1.g), fun p2 n2 => ?_⟩
    have c1 : cutV (ps.map V.ref) none (some 1) = (ps.map V.ref).take 1 := cut_to _ 1
    rw [c1]
    have e2 := same_new (o := HO.lst ((ps.map V.ref).take 1)) n2
    have O2 := O1.same e2
    have hp2 : upd H4 p2 (HO.lst ((ps.map V.ref).take 1)) p2 = some (.lst ((ps.map V.ref).take 1)) := upd_same
    generalize upd H4 p2 (HO.lst ((ps.map V.ref).take 1)) = H5 at e2 O2 hp2 ⊢
    refine ⟨dp, p2, _, _, rfl, rfl, O2.g, hp2, ?_, fun p3 n3 => ?_⟩
    · rw [List.length_take]
      exact Nat.le_trans (show (ps.map V.ref).length + min 1 (ps.map V.ref).length ≤ 41 by omega) (by decide)
    have e3 := same_new (o := HO.lst (ps.map V.ref ++ (ps.map V.ref).take 1)) n3
    have O3 := (O2.same e3).add (v := .ref p3) (darg_no (lst_core upd_same (O2.w.ne n3)) (by rw [List.length_append, List.length_take]; omega) ((O2.same e3).i.app ((O2.same e3).i.take 1)) (fun h => by
      have := (deedsB_inv h).1
      rw [List.length_append, List.length_take, osOf_len] at this
      omega))
    generalize upd H5 p3 (HO.lst (ps.map V.ref ++ (ps.map V.ref).take 1)) = H6 at e3 O3 ⊢
    have eA := e1.trans (e2.trans e3)
    clear O1 O2 hp2 c1 e1 e2 e3 n1 n2 n3
    -- deeds[1:]
    refine go_cons ?_
    refine ⟨_, rfl, 1, rfl, dp, _, rfl, .inl (.inl O3.g), fun p4 n4 => ?_⟩
    have c1 : cutV (ps.map V.ref) (some 1) none = (ps.map V.ref).drop 1 := cut_from _ 1
    rw [c1]
    have e4 := same_new (o := HO.lst ((ps.map V.ref).drop 1)) n4
    have O4 := (O3.same e4).add (v := .ref p4) (darg_no (lst_core upd_same (O3.w.ne n4)) (by rw [List.length_drop]; omega) ((O3.same e4).i.drop 1) (fun h => by
      have := (deedsB_inv h).1
      rw [List.length_drop, osOf_len] at this
      omega))
    generalize upd H6 p4 (HO.lst ((ps.map V.ref).drop 1)) = H7 at e4 O4 ⊢
    have eB := eA.trans e4
    clear O3 c1 e4 eA n4
    -- [None] * len(deeds)
    refine go_cons (go_op (go_lst (go_cons (go_c (go_nil ⟨sz1, fun p5 n5 => ?_⟩)))))
    have e5 := same_new (o := HO.lst [V.non]) n5
    have O5 := O4.same e5
    have hp5 : upd H7 p5 (HO.lst [V.non]) p5 = some (.lst [V.non]) := upd_same
    generalize upd H7 p5 (HO.lst [V.non]) = H8 at e5 O5 hp5 ⊢
    refine go_cb (go_cons (go_var rfl (go_nil ⟨dp, _, rfl, .inl (.inl (.inl O5.g)), ?_⟩)))
    rw [lp]
    refine ⟨p5, ds.length, _, rfl, rfl, hp5, by omega, by omega, ?_, fun p6 n6 => ?_⟩
    · rw [Int.toNat_natCast]
      exact Nat.le_trans (show 1 * ds.length ≤ 40 by omega) (by decide)
    rw [Int.toNat_natCast, rep_one]
    have e6 := same_new (o := HO.lst (List.replicate ds.length V.non)) n6
    have O6 := (O5.same e6).add (v := .ref p6) (darg_no (lst_core upd_same (O5.w.ne n6)) (by rw [List.length_replicate]; omega) (.rep (o := none) ⟨_, .base .non, no_list (by decide +kernel) (by decide +kernel)⟩ ds.length) (fun h => by
      obtain ⟨_, h2⟩ := deedsB_inv h
      obtain ⟨_, h3, _⟩ := h2 none (by rw [List.mem_replicate]; exact ⟨by omega, rfl⟩)
      cases h3))
    generalize upd H8 p6 (HO.lst (List.replicate ds.length V.non)) = H9 at e6 O6 ⊢
    have eC := eB.trans (e5.trans e6)
    clear O4 O5 hp5 e5 e6 eB n5 n6
    -- [[]] * len(deeds)
    refine go_cons (go_op (go_lst (go_cons (go_lst (go_nil ⟨Nat.zero_le _, fun p7 n7 => ?_⟩)))))
    have e7 := same_new (o := HO.lst []) n7
    have O7 := O6.same e7
    have hp7 : upd H9 p7 (HO.lst []) p7 = some (.lst []) := upd_same
    have d7 := O6.w.ne n7
    generalize upd H9 p7 (HO.lst []) = H10 at e7 O7 hp7 ⊢
    refine go_nil ⟨sz1, fun p8 n8 => ?_⟩
    have e8 := same_new (o := HO.lst [V.ref p7]) n8
    have O8 := O7.same e8
    have hp8 : upd H10 p8 (HO.lst [V.ref p7]) p8 = some (.lst [V.ref p7]) := upd_same
    have hp78 := e8 _ _ hp7
    generalize upd H10 p8 (HO.lst [V.ref p7]) = H11 at e8 O8 hp8 hp78 ⊢
    refine go_cb (go_cons (go_var rfl (go_nil ⟨dp, _, rfl, .inl (.inl (.inl O8.g)), ?_⟩)))
    rw [lp]
    refine ⟨p8, ds.length, _, rfl, rfl, hp8, by omega, by omega, ?_, fun p9 n9 => ?_⟩
    · rw [Int.toNat_natCast]
      exact Nat.le_trans (show 1 * ds.length ≤ 40 by omega) (by decide)
    rw [Int.toNat_natCast, rep_one]
    have e9 := same_new (o := HO.lst (List.replicate ds.length (V.ref p7))) n9
    have O9 := (O8.same e9).add (v := .ref p9) (darg_no (lst_core upd_same (O8.w.ne n9)) (by rw [List.length_replicate]; omega) (.rep (o := some []) ⟨p7, rfl, lst_core (e9 _ _ hp78) d7, by decide, fun _ h => by cases h⟩ ds.length) (fun h => by
      obtain ⟨_, h2⟩ := deedsB_inv h
      obtain ⟨xs, h3, h4, _⟩ := h2 (some []) (by rw [List.mem_replicate]; exact ⟨by omega, rfl⟩)
      cases h3
      cases h4))
    generalize upd H11 p9 (HO.lst (List.replicate ds.length (V.ref p7))) = H12 at e9 O9 ⊢
    have eD := eC.trans (e7.trans (e8.trans e9))
    clear O6 O7 O8 hp7 hp8 hp78 e7 e8 e9 eC n7 n8 n9
    -- {0: deeds[0]}
    obtain ⟨y0, hy0⟩ : ∃ y, ps[0]? = some y := ⟨_, List.getElem?_eq_getElem (by omega)⟩
    have at0 : atI (ps.map V.ref) 0 = some (.ref y0) := by
      have h0 : 0 < (ps.map V.ref).length := by omega
      show atI (ps.map V.ref) ((0 : Nat) : Int) = _
      rw [at_nat h0]
      have := List.getElem?_eq_getElem h0
      rw [List.getElem?_map, hy0] at this
      exact this.symm
    refine go_cons (fun p10 n10 => ?_)
    have O10 := O9.same (same_new (o := HO.dK []) n10)
    refine ⟨_, rfl, dp, _, 0, _, rfl, rfl, .inl (.inl O10.g), at0, upd_same, [(.inl 0, .ref y0)], rfl, (show 1 ≤ 15 by decide), ?_⟩
    have e10 := same_twice (o := HO.dK []) (u := HO.dK (mergeK [] [((.inl 0 : Key), V.ref y0)])) n10
    have O11 := (O9.same e10).add (v := .ref p10) (.inl ⟨rfl, "dict", .base (.dK (core_at upd_same (O9.w.ne n10) (fun ps z => by cases z))), no_list (by decide +kernel) (by decide +kernel)⟩)
    generalize upd (upd H12 p10 (HO.dK [])) p10 (HO.dK (mergeK [] [((.inl 0 : Key), V.ref y0)])) = H13 at e10 O11 ⊢
    have eE := eD.trans e10
    clear O9 O10 e10 eD n10
    -- [list(range(41))] * len(deeds)
    refine go_cons (go_op (go_lst (go_cons ⟨41, rfl, ?_, fun p11 n11 => ?_⟩)))
    · exact ⟨by decide, by decide, by decide, by decide, by decide⟩
    have e11 := same_new (o := HO.lst (rgV 0 41)) n11
    have O12 := O11.same e11
    have d11 := O11.w.ne n11
    have hp11 : upd H13 p11 (HO.lst (rgV 0 41)) p11 = some (.lst (rgV 0 41)) := upd_same
    generalize upd H13 p11 (HO.lst (rgV 0 41)) = H14 at e11 O12 hp11 ⊢
    refine go_nil ⟨sz1, fun p12 n12 => ?_⟩
    have e12 := same_new (o := HO.lst [V.ref p11]) n12
    have O13 := O12.same e12
    have hp12 : upd H14 p12 (HO.lst [V.ref p11]) p12 = some (.lst [V.ref p11]) := upd_same
    have hp1112 := e12 _ _ hp11
    generalize upd H14 p12 (HO.lst [V.ref p11]) = H15 at e12 O13 hp12 hp1112 ⊢
    refine go_cb (go_cons (go_var rfl (go_nil ⟨dp, _, rfl, .inl (.inl (.inl O13.g)), ?_⟩)))
    rw [lp]
    refine ⟨p12, ds.length, _, rfl, rfl, hp12, by omega, by omega, ?_, fun p13 n13 => ?_⟩
    · rw [Int.toNat_natCast]
      exact Nat.le_trans (show 1 * ds.length ≤ 40 by omega) (by decide)
    rw [Int.toNat_natCast, rep_one]
    have e13 := same_new (o := HO.lst (List.replicate ds.length (V.ref p11))) n13
    have O14 := (O13.same e13).add (v := .ref p13) (darg_no (lst_core upd_same (O13.w.ne n13)) (by rw [List.length_replicate]; omega) (.rep (o := some (rgV 0 41)) ⟨p11, rfl, lst_core (e13 _ _ hp1112) d11, by decide +kernel, fun x h => by
      obtain ⟨z, _, rfl⟩ := List.mem_map.mp h
      exact hasInt_int _⟩ ds.length) (fun h => by
      obtain ⟨_, h2⟩ := deedsB_inv h
      obtain ⟨xs, h3, _, h4, _⟩ := h2 (some (rgV 0 41)) (by rw [List.mem_replicate]; exact ⟨by omega, rfl⟩)
      cases h3
      have : (rgV 0 41).length = 41 := by decide +kernel
      omega))
    generalize upd H15 p13 (HO.lst (List.replicate ds.length (V.ref p11))) = H16 at e13 O14 ⊢
    have eF := eE.trans (e11.trans (e12.trans e13))
    clear O11 O12 O13 hp11 hp12 hp1112 e11 e12 e13 eE n11 n12 n13
    refine go_nil ⟨(show 10 ≤ sizeLine by decide), fun f1 nf1 => ?_⟩
    have x1 := same_new (o := HO.lst [V.non, V.int 5, V.str "deeds", V.ref p1, V.ref p3, V.ref p4, V.ref p6, V.ref p9, V.ref p10, V.ref p13]) nf1
    have O15 := O14.same x1
    have B15 : Bad K a (upd H16 f1 (HO.lst [V.non, V.int 5, V.str "deeds", V.ref p1, V.ref p3, V.ref p4, V.ref p6, V.ref p9, V.ref p10, V.ref p13])) ds.length [V.non, V.int 5, V.str "deeds", V.ref p1, V.ref p3, V.ref p4, V.ref p6, V.ref p9, V.ref p10, V.ref p13] := fun v hv => by
      simp only [List.mem_cons, List.not_mem_nil, or_false] at hv
      rcases hv with rfl | rfl | rfl | rfl | rfl | rfl | rfl | rfl | rfl | rfl <;> exact O15.b _ (by simp)
    have hf1 : upd H16 f1 (HO.lst [V.non, V.int 5, V.str "deeds", V.ref p1, V.ref p3, V.ref p4, V.ref p6, V.ref p9, V.ref p10, V.ref p13]) f1 = some (.lst [V.non, V.int 5, V.str "deeds", V.ref p1, V.ref p3, V.ref p4, V.ref p6, V.ref p9, V.ref p10, V.ref p13]) := upd_same
    have lx1 : [V.non, V.int 5, V.str "deeds", V.ref p1, V.ref p3, V.ref p4, V.ref p6, V.ref p9, V.ref p10, V.ref p13].length = 10 := rfl
    dsimp only [gName]
    generalize upd H16 f1 (HO.lst [V.non, V.int 5, V.str "deeds", V.ref p1, V.ref p3, V.ref p4, V.ref p6, V.ref p9, V.ref p10, V.ref p13]) = H17 at x1 O15 B15 hf1 ⊢
    generalize [V.non, V.int 5, V.str "deeds", V.ref p1, V.ref p3, V.ref p4, V.ref p6, V.ref p9, V.ref p10, V.ref p13] = xs1 at B15 hf1 lx1
    have O16 : Od K a c dp ps ds m (n + 3) H17 xs1 := ⟨O15.g, O15.i, O15.d, O15.w, B15⟩
    have mvB := mvA.trans (Mv.of (eF.trans x1))
    have low17 : HasInt K (core a H17) low ∧ withinV low (some 0) (some ((m : Int) - 1)) = false := ⟨lowOk.1.same (core_step (Mv.of (eF.trans x1))), lowOk.2⟩
    clear O14 O15 B15 x1 eF nf1 mvA lowOk
    obtain ⟨yk, hyk⟩ : ∃ y, ps[ai]? = some y := ⟨_, List.getElem?_eq_getElem (by omega)⟩
    obtain ⟨dk, hdk⟩ := deed_of g2 hyk
    have atk : atI (ps.map V.ref) (ai : Int) = some (.ref yk) := by
      have h0 : ai < (ps.map V.ref).length := by omega
      rw [at_nat h0]
      have := List.getElem?_eq_getElem h0
      rw [List.getElem?_map, hyk] at this
      exact this.symm
    refine go_seq (go_asg (go_op (go_var rfl (go_op (go_lst (go_cons (put_at (Pr := fun R => R.length = m ∧ low ∈ R) rfl rfl O16 lps (fun H18 e18 Q' q' => ?_) (fun x xs R H18 e18 hx dx I lx hR => ?_))))))))
    · have O18 := O16.same e18
      obtain ⟨gk, lk, sk⟩ := O18.d ai yk dk hyk hdk
      have dyk := wh_ne_nums O18.w gk
      refine go_op (go_op ?_)
      refine ⟨_, rfl, _, rfl, dp, _, _, _, rfl, rfl, .inl (.inl O18.g), atk, _, rfl, si, rfl, yk, _, rfl, .inl (.inl gk), fun b1 m1' => ?_⟩
      rw [cut_to]
      have x1 := same_new (o := HO.lst ((nv dk).take si)) m1'
      have hb1 : upd H18 b1 (HO.lst ((nv dk).take si)) b1 = some (.lst ((nv dk).take si)) := upd_same
      have O19 := O18.same x1
      generalize upd H18 b1 (HO.lst ((nv dk).take si)) = H19 at x1 hb1 O19 ⊢
      refine go_lst (go_cons (go_var rfl (go_nil ⟨sz1, fun b2 m2' => ?_⟩)))
      have x2 := same_new (o := HO.lst [low]) m2'
      have hb2 : upd H19 b2 (HO.lst [low]) b2 = some (.lst [low]) := upd_same
      have hb12 := x2 _ _ hb1
      have O20 := O19.same x2
      generalize upd H19 b2 (HO.lst [low]) = H20 at x2 hb2 hb12 O20 ⊢
      have lnv : (nv dk).length = m := by rw [nv_len, lk]
      have lt : ((nv dk).take si).length = si := by
        rw [List.length_take]
        omega
      refine ⟨b1, b2, _, _, rfl, rfl, hb12, hb2, Nat.le_trans (show ((nv dk).take si).length + 1 ≤ 41 by omega) (by decide), fun b3 m3' => ?_⟩
      have x3 := same_new (o := HO.lst ((nv dk).take si ++ [low])) m3'
      have hb3 : upd H20 b3 (HO.lst ((nv dk).take si ++ [low])) b3 = some (.lst ((nv dk).take si ++ [low])) := upd_same
      have O21 := O20.same x3
      generalize upd H20 b3 (HO.lst ((nv dk).take si ++ [low])) = H21 at x3 hb3 O21 ⊢
      have gk21 := (x1.trans (x2.trans x3)) _ _ gk
      refine ⟨_, rfl, _, rfl, dp, _, _, _, rfl, rfl, .inl (.inl O21.g), atk, _, rfl, si, 1, rfl, rfl, si + 1, rfl, yk, _, rfl, .inl (.inl gk21), fun b4 m4' => ?_⟩
      have cf : cutV (nv dk) (some ((si : Int) + 1)) none = (nv dk).drop (si + 1) := cut_from _ (si + 1)
      rw [cf]
      have x4 := same_new (o := HO.lst ((nv dk).drop (si + 1))) m4'
      have hb4 : upd H21 b4 (HO.lst ((nv dk).drop (si + 1))) b4 = some (.lst ((nv dk).drop (si + 1))) := upd_same
      have hb34 := x4 _ _ hb3
      have O22 := O21.same x4
      generalize upd H21 b4 (HO.lst ((nv dk).drop (si + 1))) = H22 at x4 hb4 hb34 O22 ⊢
      have ld : ((nv dk).drop (si + 1)).length = m - (si + 1) := by
        rw [List.length_drop, lnv]
      have lR : ((nv dk).take si ++ [low] ++ (nv dk).drop (si + 1)).length = m := by
        rw [List.length_append, List.length_append, lt, ld]
        show si + 1 + (m - (si + 1)) = m
        omega
      refine ⟨b3, b4, _, _, rfl, rfl, hb34, hb4, ?_, fun b5 m5' => ?_⟩
      · rw [← List.length_append, lR]
        exact Nat.le_trans m2 (by decide)
      have x5 := same_new (o := HO.lst ((nv dk).take si ++ [low] ++ (nv dk).drop (si + 1))) m5'
      have eZ := x1.trans (x2.trans (x3.trans (x4.trans x5)))
      refine q' b5 _ _ eZ ⟨b5, rfl, lst_core upd_same (O22.w.ne m5'), by rw [lR]; omega, fun x hx => ?_⟩ ⟨lR, by simp⟩
      have nvI : ∀ y ∈ nv dk, HasInt K (core a (upd H22 b5 (HO.lst ((nv dk).take si ++ [low] ++ (nv dk).drop (si + 1))))) y := fun y hy => by
        obtain ⟨z, _, rfl⟩ := nv_mem hy
        exact hasInt_int _
      rcases List.mem_append.mp hx with hx | hx
      · rcases List.mem_append.mp hx with hx | hx
        · exact nvI x (List.mem_of_mem_take hx)
        · rw [List.mem_singleton.mp hx]
          exact low17.1.same (core_step (Mv.of (e18.trans eZ)))
      · exact nvI x (List.mem_of_mem_drop hx)
    have D18 : DArg K (core a H18) (.ref x) ds.length false := darg_no (lst_core hx dx) (by omega) I (fun h => by
      obtain ⟨_, h2⟩ := deedsB_inv h
      obtain ⟨ys, e1, _, _, f1', f2'⟩ := h2 _ put_in
      cases e1
      rw [← f1', hR.1] at f2'
      unfold inB at f2'
      have := List.all_eq_true.mp f2' low hR.2
      rw [low17.2] at this
      cases this)
    have O18 := O16.same e18
    have hf18 := e18 _ _ hf1
    refine go_nil ⟨sz1, fun u1 nu1 => ?_⟩
    have x1 := same_new (o := HO.lst [V.ref x]) nu1
    have hu1 : upd H18 u1 (HO.lst [V.ref x]) u1 = some (.lst [V.ref x]) := upd_same
    have O19 := O18.same x1
    have D19 := D18.same (core_step (Mv.of x1))
    have hf19 := x1 _ _ hf18
    generalize upd H18 u1 (HO.lst [V.ref x]) = H19 at x1 hu1 O19 D19 hf19 ⊢
    refine ⟨u1, 4, _, rfl, rfl, hu1, by decide, by decide, (show 1 * 4 ≤ sizeLine by decide), fun u2 nu2 => ?_⟩
    have r4 : (List.replicate (4 : Int).toNat [V.ref x]).flatten = [V.ref x, V.ref x, V.ref x, V.ref x] := rfl
    rw [r4]
    have x2 := same_new (o := HO.lst [V.ref x, V.ref x, V.ref x, V.ref x]) nu2
    have hu2 : upd H19 u2 (HO.lst [V.ref x, V.ref x, V.ref x, V.ref x]) u2 = some (.lst [V.ref x, V.ref x, V.ref x, V.ref x]) := upd_same
    have O20 := O19.same x2
    have D20 := D19.same (core_step (Mv.of x2))
    have hf20 := x2 _ _ hf19
    generalize upd H19 u2 (HO.lst [V.ref x, V.ref x, V.ref x, V.ref x]) = H20 at x2 hu2 O20 D20 hf20 ⊢
    refine ⟨f1, u2, _, _, rfl, rfl, hf20, hu2, Nat.le_trans (show xs1.length + 4 ≤ 14 by omega) (by decide), fun f2 nf2 => ?_⟩
    have x3 := same_new (o := HO.lst (xs1 ++ [V.ref x, V.ref x, V.ref x, V.ref x])) nf2
    have hf2 : upd H20 f2 (HO.lst (xs1 ++ [V.ref x, V.ref x, V.ref x, V.ref x])) f2 = some (.lst (xs1 ++ [V.ref x, V.ref x, V.ref x, V.ref x])) := upd_same
    have O21' := O20.same x3
    have D21 := D20.same (core_step (Mv.of x3))
    have df2 := O20.w.ne nf2
    have lx2 : (xs1 ++ [V.ref x, V.ref x, V.ref x, V.ref x]).length = 14 := by rw [List.length_append, lx1]; rfl
    have O21 : Od K a c dp ps ds m (n + 3) _ (xs1 ++ [V.ref x, V.ref x, V.ref x, V.ref x]) := ⟨O21'.g, O21'.i, O21'.d, O21'.w, O21'.b.app (.add D21 (.add D21 (.add D21 (.add D21 .nil))))⟩
    have mvC := mvB.trans (Mv.of (e18.trans (x1.trans (x2.trans x3))))
    clear O18 O19 O20 O21' D18 D19 D20 D21 hf18 hf19 hf20 hu1 hu2 r4 x1 x2 x3 e18 O16 hf1 I hx dx hR lx lx1 mvB nu1 nu2 nf2 low17
    dsimp only [gName]
    generalize upd H20 f2 (HO.lst (xs1 ++ [V.ref x, V.ref x, V.ref x, V.ref x])) = H21 at O21 hf2 mvC ⊢
    generalize xs1 ++ [V.ref x, V.ref x, V.ref x, V.ref x] = xs2 at O21 hf2 lx2 ⊢
    have done : ∀ (σ : L2.St) (f : Addr) (xs : List V) (Hz : Hp), σ[0]? = some (some (.ref a)) → σ[6]? = some (some (.ref f)) → Hz f = some (.lst xs) → f ≠ a → Od K a c dp ps ds m (n + 3) Hz xs → xs ≠ [] → xs.length ≤ 20 → Mv a H Hz →
        tCall (sp_law_one K) [] E0 (tCons (tVar 0) (tCons (tVar 6) tNil)) σ Hz Q := fun σ f xs Hz h0 h6 hf hfa O hne hlx mv =>
      ⟨_, h0, _, h6, a, f, c, xs, _, rfl, .inl (.inl hf), hne, by omega, O.w, by omega, fun H' mm => .inl (.inl (mm _ _ hfa hf)), fun v H' hv mm ww => q v H' ((O.b v hv).same (core_step mm)) (mv.trans mm) (ww.lt (by omega))⟩
    refine go_seq (go_if (go_test (go_op (go_cb (go_cons (go_var rfl (go_nil ⟨dp, _, rfl, .inl (.inl (.inl O21.g)), ?_⟩)))))))
    rw [lp]
    refine go_c ⟨_, _, rfl, rfl, _, rfl, iteC (fun hh => ?_) (fun hh => ?_)⟩
    · have two : 2 ≤ ds.length := by
        have := of_decide_eq_true hh
        omega
      have dall : ∀ d ∈ ds, d.length = m := fun d hd => by
        obtain ⟨j, hj, rfl⟩ := List.mem_iff_getElem.mp hd
        exact (O21.d j _ _ (List.getElem?_eq_getElem (by omega)) (List.getElem?_eq_getElem hj)).2.1
      refine go_asg (go_op (go_var rfl (go_lst (go_cons (put_at (Pr := fun R => R.length = m + 1) rfl rfl O21 lps (fun H18 e18 Q' q' => ?_) (fun x xs R H22 e22 hx dx I lx hR => ?_))))))
      · have O18 := O21.same e18
        obtain ⟨gk, lk, sk⟩ := O18.d ai yk dk hyk hdk
        refine go_op ?_
        refine ⟨_, rfl, _, rfl, dp, _, _, _, rfl, rfl, .inl (.inl O18.g), atk, ?_⟩
        refine go_lst (go_cons (go_c (go_nil ⟨sz1, fun b2 m2' => ?_⟩)))
        have x2 := same_new (o := HO.lst [V.int 0]) m2'
        have lnv : (nv dk).length = m := by rw [nv_len, lk]
        refine ⟨yk, b2, _, _, rfl, rfl, x2 _ _ gk, upd_same, Nat.le_trans (show (nv dk).length + 1 ≤ 41 by omega) (by decide), fun b3 m3' => ?_⟩
        have x3 := same_new (o := HO.lst (nv dk ++ [V.int 0])) m3'
        refine q' b3 _ _ (x2.trans x3) ⟨b3, rfl, lst_core upd_same ((O18.same x2).w.ne m3'), by rw [List.length_append, lnv]; show m + 1 ≤ 60; omega, fun x hx => ?_⟩ (by rw [List.length_append, lnv]; rfl)
        rcases List.mem_append.mp hx with hx | hx
        · obtain ⟨z, _, rfl⟩ := nv_mem hx
          exact hasInt_int _
        · rw [List.mem_singleton.mp hx]
          exact hasInt_int _
      have O22 := O21.same e22
      have D22 : DArg K (core a H22) (.ref x) ds.length false := darg_no (lst_core hx dx) (by omega) I (put_two (m := m) (by omega) two dall)
      have hf22 := e22 _ _ hf2
      clear I lx hx
      refine go_cons (put_at (Pr := fun R => R.length = m - 1) rfl rfl O22 lps (fun H18 e18 Q' q' => ?_) (fun y ys R' H23 e23 hy dy I ly hR' => ?_))
      · have O18 := O22.same e18
        obtain ⟨gk, lk, sk⟩ := O18.d ai yk dk hyk hdk
        have lnv : (nv dk).length = m := by rw [nv_len, lk]
        refine ⟨_, rfl, _, rfl, dp, _, _, _, rfl, rfl, .inl (.inl O18.g), atk, 1, rfl, yk, _, rfl, .inl (.inl gk), fun b1 m1' => ?_⟩
        have cf : cutV (nv dk) (some 1) none = (nv dk).drop 1 := cut_from _ 1
        rw [cf]
        refine q' b1 _ _ (same_new m1') ⟨b1, rfl, lst_core upd_same (O18.w.ne m1'), by rw [List.length_drop, lnv]; omega, fun x hx => ?_⟩ (by rw [List.length_drop, lnv])
        obtain ⟨z, _, rfl⟩ := nv_mem (List.mem_of_mem_drop hx)
        exact hasInt_int _
      have O23 := O22.same e23
      have D23 : DArg K (core a H23) (.ref y) ds.length false := darg_no (lst_core hy dy) (by omega) I (put_two (m := m) (by omega) two dall)
      have D23' := D22.same (core_step (Mv.of e23))
      have hf23 := e23 _ _ hf22
      refine go_nil ⟨sz2, fun u1 nu1 => ?_⟩
      have x1 := same_new (o := HO.lst [V.ref x, V.ref y]) nu1
      refine ⟨f2, u1, _, _, rfl, rfl, x1 _ _ hf23, upd_same, Nat.le_trans (show xs2.length + 2 ≤ 16 by omega) (by decide), fun f3 nf3 => ?_⟩
      have x2 := same_new (o := HO.lst (xs2 ++ [V.ref x, V.ref y])) nf3
      have O25 := (O23.same x1).same x2
      have E2 := core_step (a := a) (Mv.of (x1.trans x2))
      dsimp only [gName]
      refine go_ret (done _ f3 _ _ rfl rfl upd_same ((O23.same x1).w.ne nf3) ⟨O25.g, O25.i, O25.d, O25.w, O25.b.app (.add (D23'.same E2) (.add (D23.same E2) .nil))⟩ (by simp) (by rw [List.length_append, lx2]; show 14 + 2 ≤ 20; decide) (mvC.trans (Mv.of (e22.trans (e23.trans (x1.trans x2))))))
    · dsimp only [tNext]
      refine go_ret (done _ f2 _ _ rfl rfl hf2 df2 O21 (fun z => by rw [z] at lx2; cases lx2) (by omega) mvC)
end
end K21
namespace K21
open PySem PySem.Spec PyProof.Rows L2 Kx SX LamX
section
variable {P : Program} {w : World} {K : PySem.W.Frag} {mg : Str → Option Value} {base : Heap} (T : Tx K mg)
theorem kb_Machine_init_0_deeds_book : KBn K T.fd_Machine_init ["self", "book", "deeds"] 1 ["deeds", "book"] selfSwapG selfSwapG := kbn_selfSwap T.F_Machine_init fun _ _ _ _ _ _ _ _ _ => rfl
theorem tabs_put {Tb : List (Addr × Str)} {p : Addr} {xs : List V} {H H' : Hp} (t : Tabs Tb H) (g : H p = some (.lst xs)) (m : Mv p H H') : Tabs Tb H' := fun q hq => by
  obtain ⟨ps, h1, h2, h3⟩ := t q hq
  refine ⟨ps, m _ _ (ne_of_two h1 g (fun z => by cases z)) h1, h2, fun pos cv hc => ?_⟩
  obtain ⟨c', e1, e2⟩ := h3 pos cv hc
  exact ⟨c', e1, m _ _ (ne_of_two e2 g (fun z => by cases z)) e2⟩
theorem sqQ_mv {p a : Addr} {H H' : Hp} {xs : List V} (ne : a ≠ p) (m : Mv p H H') (h : SqQ K H a xs) : SqQ K H' a xs := by
  rcases h with ((h | ⟨o, h⟩) | h) | ((h | ⟨o, h⟩) | h)
  · exact .inl (.inl (.inl (m _ _ ne h)))
  · exact .inl (.inl (.inr ⟨o, m _ _ ne h⟩))
  · exact .inl (.inr h)
  · exact .inr (.inl (.inl (m _ _ ne h)))
  · exact .inr (.inl (.inr ⟨o, m _ _ ne h⟩))
  · exact .inr (.inr h)
theorem sqT_mv {p a : Addr} {H H' : Hp} {xs : List V} (ne : a ≠ p) (m : Mv p H H') (h : SqT K H a xs) : SqT K H' a xs := by
  rcases h with (h | ⟨o, h⟩) | h
  · exact .inl (.inl (m _ _ ne h))
  · exact .inl (.inr ⟨o, m _ _ ne h⟩)
  · exact .inr h
theorem mv_put {p : Addr} {H : Hp} {o : HO} : Mv p H (upd H p o) := fun b u n h => by
  rw [upd_ne n]
  exact h
theorem mach_newQ {E : XK} {CB CM x dx bk dp EB EM : Addr} {H : Hp} {ws ds : List (List Nat)} {m : Nat} {P : VK} (nx : H x = none) (ndx : H dx = none) (hB : BookAt K CB H bk ws) (hD : DeedsQ K H dp ds m) (hl : ds.length = ws.length) (l1 : 1 ≤ ds.length) (l2 : ds.length ≤ 40) (m1 : 1 ≤ m) (m2 : m ≤ 40)
    (q : ∀ H', Same H H' → MachAt K CB CM H' x ws ds m → P .non H') : sp_Machine_init K CB CM EB EM [.ref x, .ref bk, .ref dp] (upd (upd H dx (.own x)) x (.ins CM dx [])) P E := by
  have s1 : Same H (upd (upd H dx (.own x)) x (.ins CM dx [])) := fun b u h => by
    rw [upd_ne (ne_of_none h nx), upd_ne (ne_of_none h ndx)]
    exact h
  exact ⟨x, dx, .ref bk, .ref dp, rfl, upd_same, .inr ⟨bk, ws, rfl, hB.same s1, by omega, .inr ⟨dp, ds, m, rfl, hD.same s1, hl, l1, l2, m1, m2, fun H' keep hM => q H' (fun b u h => keep b u (s1 _ _ h) (ne_of_none h nx)) hM⟩⟩⟩
def lamTab (Pt : Addr) : List (Addr × Str) := [(Pt, "law.<locals>.<lambda>")]
/-- copies of deeds so far, at D -/
def Cop (K : PySem.W.Frag) (tp : Bool) (wx D : Addr) (H : Hp) (ds : List (List Nat)) (j : Nat) (H' : Hp) : Prop := ∃ qs : List Addr, H' D = some (.lst (qs.map V.ref)) ∧ qs.length = j ∧ (∀ (i : Nat) (q : Addr) (d : List Nat), qs[i]? = some q → ds[i]? = some d → SqQ K H' q (nv d) ∧ (tp = true → SqT K H' q (nv d)) ∧ q ≠ D ∧ q ≠ wx) ∧ Same H H'
theorem Cop.new {tp : Bool} {wx D : Addr} {H : Hp} {ds : List (List Nat)} (nD : H D = none) : Cop K tp wx D H ds 0 (upd H D (.lst [])) := ⟨[], upd_same, rfl, fun i q d h => (by cases h), same_new nD⟩
theorem Cop.app {tp : Bool} {wx D q : Addr} {H Hd H7 : Hp} {ds : List (List Nat)} {d : List Nat} {j : Nat} (h : Cop K tp wx D H ds j Hd) (nD : H D = none) (e : Same Hd H7) (hq : SqQ K H7 q (nv d)) (ht : tp = true → SqT K H7 q (nv d)) (ne : q ≠ D) (nx : q ≠ wx) (hd : ds[j]? = some d) (hj : j < 1000) :
    ∃ acc, H7 D = some (.lst acc) ∧ acc.length < sizeLine ∧ Cop K tp wx D H ds (j + 1) (upd H7 D (.lst (acc ++ [V.ref q]))) := by
  obtain ⟨qs, g1, g2, g3, g4⟩ := h
  refine ⟨_, e _ _ g1, by rw [List.length_map, g2]; exact Nat.lt_trans hj (by decide), qs ++ [q], ?_, by rw [List.length_append, g2]; rfl, fun i q' d' hi hd' => ?_, same_set (g4.trans e) nD⟩
  · rw [upd_same, List.map_append]
    rfl
  · by_cases hij : i < j
    · rw [List.getElem?_append_left (by omega)] at hi
      obtain ⟨k1, k0, k2, k3⟩ := g3 i q' d' hi hd'
      exact ⟨sqQ_mv k2 mv_put (Same.q e k1), fun z => sqT_mv k2 mv_put (Same.t e (k0 z)), k2, k3⟩
    · have hij : i = j := by
        have := (List.getElem?_eq_some_iff.mp hi).1
        rw [List.length_append, g2] at this
        have h1 : ([q] : List Addr).length = 1 := rfl
        omega
      subst hij
      rw [List.getElem?_append_right (by omega), g2, Nat.sub_self] at hi
      cases hi
      rw [hd] at hd'
      cases hd'
      exact ⟨sqQ_mv ne mv_put hq, fun z => sqT_mv ne mv_put (ht z), ne, nx⟩
theorem DeedsQ.of {H : Hp} {D : Addr} {ds : List (List Nat)} {m : Nat} {qs : List Addr} (hD : SqQ K H D (qs.map V.ref)) (l : qs.length = ds.length) (hda : ∀ d ∈ ds, d.length = m ∧ ∀ s ∈ d, s < m) (h : ∀ (i : Nat) (q : Addr) (d : List Nat), qs[i]? = some q → ds[i]? = some d → SqQ K H q (nv d)) : DeedsQ K H D ds m :=
  ⟨qs, hD, l, fun i q d a b => ⟨h i q d a b, hda d (List.mem_of_getElem? b)⟩⟩
theorem deed_ne {H : Hp} {q D : Addr} {d : List Nat} {m : Nat} {ps : List Addr} (h : DeedAt H q d m) (m1 : 1 ≤ m) (hD : H D = some (.lst (ps.map V.ref))) : q ≠ D := fun e => by
  obtain ⟨h1, h2, _⟩ := h
  rw [e, hD] at h1
  injection h1 with h1
  injection h1 with h1
  match d, h2 with
  | [], h2 => exact absurd h2.symm (by simp; omega)
  | x :: r, _ =>
    match ps with
    | [] => cases h1
    | y :: t =>
      injection h1 with h1
      cases h1
/-- deeds so far, at D -/
def Deeds (a c D : Addr) (H : Hp) (m n j : Nat) (H' : Hp) : Prop := ∃ (ps : List Addr) (ds : List (List Nat)), H' D = some (.lst (ps.map V.ref)) ∧ ps.length = j ∧ ds.length = j ∧ (∀ (i : Nat) (q : Addr) (d : List Nat), ps[i]? = some q → ds[i]? = some d → DeedAt H' q d m ∧ q ≠ a) ∧ Mv a H H' ∧ Wh H' a c n
theorem Deeds.app {a c D q : Addr} {H Hd H7 : Hp} {m n n' n0 j : Nat} {d : List Nat} (h : Deeds a c D H m n j Hd) (nD : H D = none) (w0 : Wh H a c n0) (mv : Mv a Hd H7) (w : Wh H7 a c n') (m1 : 1 ≤ m) (hd : DeedAt H7 q d m) (hq : q ≠ a) (hj : j < 1000) :
    ∃ acc, H7 D = some (.lst acc) ∧ acc.length < sizeLine ∧ Deeds a c D H m n' (j + 1) (upd H7 D (.lst (acc ++ [V.ref q]))) := by
  obtain ⟨ps, ds, g1, g2, g3, g4, g5, g6⟩ := h
  have hDa := w0.ne nD
  have hD7 := mv _ _ hDa g1
  refine ⟨_, hD7, by rw [List.length_map, g2]; exact Nat.lt_trans hj (by decide), ps ++ [q], ds ++ [d], ?_, by rw [List.length_append, g2]; rfl, by rw [List.length_append, g3]; rfl, fun i q' d' hi hd' => ?_, fun b o' nb h => ?_, w.set hDa (w0.nc nD)⟩
  · rw [upd_same, List.map_append]
    rfl
  · by_cases hij : i < j
    · rw [List.getElem?_append_left (by omega)] at hi hd'
      obtain ⟨k1, k2⟩ := g4 i q' d' hi hd'
      have hne := deed_ne k1 m1 g1
      have k3 : DeedAt H7 q' d' m := ⟨mv _ _ k2 k1.1, k1.2⟩
      refine ⟨⟨?_, k3.2⟩, k2⟩
      rw [upd_ne hne]
      exact k3.1
    · have hij : i = j := by
        have := (List.getElem?_eq_some_iff.mp hi).1
        rw [List.length_append, g2] at this
        have h1 : ([q] : List Addr).length = 1 := rfl
        omega
      subst hij
      rw [List.getElem?_append_right (by omega), g2, Nat.sub_self] at hi
      rw [List.getElem?_append_right (by omega), g3, Nat.sub_self] at hd'
      cases hi
      cases hd'
      refine ⟨⟨?_, hd.2⟩, hq⟩
      rw [upd_ne (deed_ne hd m1 hD7)]
      exact hd.1
  · rw [upd_ne (ne_of_none h nD)]
    exact (g5.trans mv) b o' nb h
/-- if isinstance(xs, list): xs.pop() -/
theorem pop_ok {D : Ends} {σ : L2.St} {H : Hp} {pa : Addr} (h9 : σ[9]? = some (some (.ref pa))) (hk : (∃ xs, H pa = some (.lst xs) ∧ 1 ≤ xs.length) ∨ ∃ o xs, H pa = some (.frz o (.tup xs))) (k : ∀ Hz, (Hz = H ∨ ∃ xs ys, H pa = some (.lst xs) ∧ Hz = upd H pa (.lst ys)) → D.nx σ Hz) :
    tIfS (tB (tCB (rIsi K) (tCons (tVar 9) (tCons (tC (V.ty "list")) tNil)))) (tDrop (tBM0 K "list" rPop (tVar 9))) tNext D σ H := by
  rcases hk with ⟨xs, hx, hl⟩ | ⟨o, xs, hx⟩
  · refine go_if (go_b ⟨_, h9, .ref pa, _, _, _, true, rfl, .ty _, tyL (.inl (.inl hx)), kit_ty (by decide +kernel), _, rfl, iteT (B := _) ?_⟩)
    refine ⟨_, h9, .inl ⟨rfl, _, .inl (.inl hx)⟩, pa, xs, xs[xs.length - 1]'(by omega), rfl, rfl, hx, List.getElem?_eq_getElem _, k _ (.inr ⟨xs, _, hx, rfl⟩)⟩
  · exact go_if (go_b ⟨_, h9, .ref pa, _, _, _, false, rfl, .ty _, tyT (.inl (.inr ⟨o, hx⟩)), kit_ty (by decide +kernel), _, rfl, iteF (A := _) (k _ (.inl rfl))⟩)
/-- deeds as shown data -/
def dsD (ds : List (List Nat)) : List PyData := ds.map fun d => PyData.tuple ((iv d).map PyData.int)
theorem dp_nvL {H : Hp} (d : List Nat) : DpAll K H (nv d) ((iv d).map PyData.int) := dpAll_map (iv d) fun i _ => .int i
theorem dpAll_get {H : Hp} : ∀ {xs : List V} {ds : List PyData}, xs.length = ds.length → (∀ (i : Nat) (x : V) (d : PyData), xs[i]? = some x → ds[i]? = some d → Dp K H x d) → DpAll K H xs ds
  | [], [], _, _ => .nil
  | x :: xs, d :: ds, l, h => .cons (h 0 x d rfl rfl) (dpAll_get (by simpa using l) fun i y e a b => h (i + 1) y e a b)
  | [], _ :: _, l, _ => by cases l
  | _ :: _, [], l, _ => by cases l
theorem dp_tups {H : Hp} {t : Addr} {ds : List (List Nat)} (h : TupsAt K H t ds) : Dp K H (.ref t) (.tuple (dsD ds)) := by
  obtain ⟨ps, h1, h2, h3⟩ := h
  refine .tup h1 (dpAll_get (by unfold dsD; rw [List.length_map, List.length_map, h2]) fun i x d a b => ?_)
  obtain ⟨q, hq, rfl⟩ := ref_get a
  obtain ⟨e, he, rfl⟩ := map_at b
  exact .tup (h3 i q e hq he) (dp_nvL e)
theorem sh_tup {d : List Nat} (h : d.length ≤ 40) (hs : ∀ s ∈ d, s < 1000) : Sh 1 40 (.tuple ((iv d).map PyData.int)) := by
  have := (shA_ints (k := 0) (iv d) (fun i m => by
    obtain ⟨z, hz, rfl⟩ := List.mem_map.mp m
    have := hs z hz
    omega)).tup
  refine this.up (Nat.le_refl _) ?_
  unfold iv
  rw [List.length_map]
  exact h
theorem shA_tups : ∀ (ds : List (List Nat)), (∀ d ∈ ds, d.length ≤ 40 ∧ ∀ s ∈ d, s < 1000) → ShA 1 (41 * ds.length) (dsD ds)
  | [], _ => .nil
  | d :: r, h => by
    have h1 := ShA.cons (sh_tup (h d List.mem_cons_self).1 (h d List.mem_cons_self).2) (shA_tups r fun x m => h x (List.mem_cons_of_mem _ m))
    have e : 40 + 1 + 41 * r.length = 41 * (d :: r).length := by rw [List.length_cons]; omega
    rw [e] at h1
    exact h1
theorem sh_deeds {ds : List (List Nat)} {m : Nat} (h : ∀ d ∈ ds, d.length = m ∧ ∀ s ∈ d, s < m) (l : ds.length ≤ 40) (hm : m ≤ 40) : Sh 3 2000 (.list [.tuple (dsD ds), .int (m : Nat)]) := by
  have h1 := (shA_tups ds fun d hd => ⟨by have := (h d hd).1; omega, fun s hs => by have := (h d hd).2 s hs; omega⟩).tup
  refine (ShA.lst (.cons h1 (.cons ((sh_int (i := (m : Nat)) (by omega)).up (Nat.zero_le 2) (Nat.le_refl _)) .nil))).up (Nat.le_refl _) ?_
  omega
theorem word_cdC {w : List Nat} (h : wordB w = true) : cdC w := by
  have := (word_sg h).1
  unfold cdC
  rw [List.all_eq_true] at this ⊢
  intro c hc
  have h1 := this c hc
  unfold sg low at h1
  simp only [Bool.or_eq_true, Bool.and_eq_true, decide_eq_true_eq] at h1 ⊢
  omega
theorem book_ne_ok {C b1 b2 : Addr} {H : Hp} {ws : List (List Nat)} {Q : VK} (h1 : BookAt K C H b1 ws) (h2 : BookAt K C H b2 ws) (hc : ∀ w ∈ ws, cdC w) (q : Q (.bl false) H) : rNeI K C (sp_Book_eq K C) (.ref b1) (.ref b2) H Q := by
  obtain ⟨dx, t, g1, _⟩ := id h1
  obtain ⟨dy, u, g2, _⟩ := id h2
  refine ⟨b1, dx, _, rfl, g1, ⟨b2, rfl, .inl ⟨dy, _, g2⟩⟩, b1, .ref b2, ws, true, rfl, h1, hc, .inl ⟨b2, ws, rfl, h2, hc, (decide_eq_true rfl).symm⟩, _, rfl, q⟩
theorem mach_ne_ok {CB CM b1 b2 : Addr} {H : Hp} {ws ds : List (List Nat)} {m m' : Nat} {Q : VK} (h1 : MachAt K CB CM H b1 ws ds m) (h2 : MachAt K CB CM H b2 ws ds m') (hc : ∀ w ∈ ws, cdC w) (q : Q (.bl false) H) : rNeI K CM (sp_Machine_eq K CB CM) (.ref b1) (.ref b2) H Q := by
  obtain ⟨dx, t, u, g1, _⟩ := id h1
  obtain ⟨dy, t', u', g2, _⟩ := id h2
  refine ⟨b1, dx, _, rfl, g1, ⟨b2, rfl, .inl ⟨dy, _, g2⟩⟩, b1, .ref b2, ws, ds, m, true, rfl, h1, hc, .inl ⟨b2, ws, ds, m', rfl, h2, hc, by rw [decide_eq_true rfl, decide_eq_true rfl]; rfl⟩, _, rfl, q⟩
theorem mach_eq_no {CB CM b1 b2 : Addr} {H : Hp} {ws ds ws' ds' : List (List Nat)} {m m' : Nat} {Q : VK} (h1 : MachAt K CB CM H b1 ws ds m) (h2 : MachAt K CB CM H b2 ws' ds' m') (hc : ∀ w ∈ ws, cdC w) (hc' : ∀ w ∈ ws', cdC w) (ne : ws ≠ ws' ∨ ds ≠ ds') (q : Q (.bl false) H) : rEqI K CM (sp_Machine_eq K CB CM) (.ref b1) (.ref b2) H Q := by
  obtain ⟨dx, t, u, g1, _⟩ := id h1
  obtain ⟨dy, t', u', g2, _⟩ := id h2
  refine ⟨b1, dx, _, rfl, g1, ⟨b2, rfl, .inl ⟨dy, _, g2⟩⟩, b1, .ref b2, ws, ds, m, false, rfl, h1, hc, .inl ⟨b2, ws', ds', m', rfl, h2, hc', ?_⟩, _, rfl, q⟩
  rcases ne with ne | ne
  · rw [decide_eq_false ne]
    rfl
  · rw [decide_eq_false ne, Bool.and_false]
theorem mach_eq_seq {CB CM b1 b2 : Addr} {H : Hp} {ws ds : List (List Nat)} {m : Nat} {xs : List V} {Q : VK} (h1 : MachAt K CB CM H b1 ws ds m) (h2 : SqQ K H b2 xs) (hc : ∀ w ∈ ws, cdC w) (q : Q (.bl false) H) : rEqI K CM (sp_Machine_eq K CB CM) (.ref b1) (.ref b2) H Q := by
  obtain ⟨dx, t, u, g1, _⟩ := id h1
  exact ⟨b1, dx, _, rfl, g1, ⟨b2, rfl, .inr ⟨xs, h2⟩⟩, b1, .ref b2, ws, ds, m, false, rfl, h1, hc, .inr ⟨⟨b2, xs, rfl, h2⟩, rfl⟩, _, rfl, q⟩
theorem nv_rep (k : Nat) : List.replicate k (V.int 0) = nv (List.replicate k 0) := by
  unfold nv iv
  rw [List.map_replicate, List.map_replicate]
  rfl
/-- [[0] * k] -/
theorem other_ok {σ : L2.St} {H : Hp} {Q : VK} {p D : Addr} {ws ds : List (List Nat)} {m : Nat} (h6 : σ[6]? = some (some (.ref D))) (h4 : σ[4]? = some (some (.int (m : Nat)))) (h3 : σ[3]? = some (some (.ref p))) (hp : H p = some (.lst (ws.map tx))) (hD : DeedsAt H D ds m) (l1 : 1 ≤ ds.length) (l2 : ds.length ≤ 40) (lw : ds.length = ws.length) (m1 : 1 ≤ m) (m2 : m ≤ 40)
    (q : ∀ (o : Addr) (ds2 : List (List Nat)) (k : Nat) (H' : Hp), Same H H' → DeedsQ K H' o ds2 k → ds2.length = ds.length → 1 ≤ k → (m < 40 → k ≤ 40) → ds ≠ ds2 → Q (.ref o) H') :
    tIf (tTest (tOp (rNeD K) (tOp (rIxL K) (tVar 6) (tC (V.int 0))) (tOp rRep (tLst (tCons (tC (V.int 0)) tNil)) (tVar 4))))
      (tOp rCat (tLst (tCons (tOp rRep (tLst (tCons (tC (V.int 0)) tNil)) (tVar 4)) tNil)) (tSl (rSlL K) (tVar 6) (tPart (tC (V.int 1))) tNoPart))
      (tOp rRep (tLst (tCons (tOp rRep (tLst (tCons (tC (V.int 0)) tNil)) (tOp (rI0 fun i j => V.int (i + j)) (tVar 4) (tC (V.int 1)))) tNil)) (tCB (fun xs H_1 Q => ∃ p ys, xs = [V.ref p] ∧ (SqL K H_1 p ys ∨ SqT K H_1 p ys) ∧ Q (V.int (ys.length : Nat)) H_1) (tCons (tVar 3) tNil))) σ H Q := by
  obtain ⟨ps, g1, g2, g3⟩ := hD
  obtain ⟨y0, hy0⟩ : ∃ y, ps[0]? = some y := ⟨_, List.getElem?_eq_getElem (by omega)⟩
  obtain ⟨d0, hd0⟩ := deed_of g2 hy0
  obtain ⟨k1, k2, k3⟩ := g3 0 y0 d0 hy0 hd0
  have at0 : atI (ps.map V.ref) 0 = some (.ref y0) := by
    have h0 : 0 < (ps.map V.ref).length := by rw [List.length_map]; omega
    show atI (ps.map V.ref) ((0 : Nat) : Int) = _
    rw [at_nat h0]
    have := List.getElem?_eq_getElem h0
    rw [List.getElem?_map, hy0] at this
    exact this.symm
  have zok : ∀ k : Nat, ∀ s ∈ List.replicate k 0, s < 1 := fun k s hs => by
    rw [(List.mem_replicate.mp hs).2]
    exact Nat.one_pos
  refine ⟨_, h6, D, _, 0, _, rfl, rfl, .inl (.inl g1), at0, sz1, fun p1 n1 => ⟨_, h4, p1, m, _, rfl, rfl, upd_same, by omega, by omega, ?_, fun p2 n2 => ?_⟩⟩
  · rw [Int.toNat_natCast]
    exact Nat.le_trans (show 1 * m ≤ 40 by omega) (by decide)
  rw [Int.toNat_natCast, rep_one, nv_rep]
  have e1 := (same_new (o := HO.lst [V.int 0]) n1).trans (same_new (o := HO.lst (nv (List.replicate m 0))) n2)
  refine ne_ints (xs := iv d0) (ys := iv (List.replicate m 0)) (.inl (.inl (e1 _ _ k1))) (.inl (.inl upd_same)) ⟨_, rfl, iteC (fun hh => ?_) (fun hh => ?_)⟩
  · have hne : d0 ≠ List.replicate m 0 := fun z => by
      rw [z, decide_eq_true rfl] at hh
      cases hh
    clear hh
    generalize upd (upd H p1 (HO.lst [V.int 0])) p2 (HO.lst (nv (List.replicate m 0))) = H1 at e1 ⊢
    refine ⟨sz1, fun p3 n3 => ⟨_, h4, p3, m, _, rfl, rfl, upd_same, by omega, by omega, ?_, fun p4 n4 => ?_⟩⟩
    · rw [Int.toNat_natCast]
      exact Nat.le_trans (show 1 * m ≤ 40 by omega) (by decide)
    rw [Int.toNat_natCast, rep_one, nv_rep]
    have e2 := e1.trans ((same_new (o := HO.lst [V.int 0]) n3).trans (same_new (o := HO.lst (nv (List.replicate m 0))) n4))
    have h4' : upd (upd H1 p3 (HO.lst [V.int 0])) p4 (HO.lst (nv (List.replicate m 0))) p4 = some (.lst (nv (List.replicate m 0))) := upd_same
    generalize upd (upd H1 p3 (HO.lst [V.int 0])) p4 (HO.lst (nv (List.replicate m 0))) = H2 at e2 h4' ⊢
    refine ⟨sz1, fun p5 n5 => ⟨_, h6, 1, rfl, D, _, rfl, .inl (.inl ((same_new n5) _ _ (e2 _ _ g1))), fun p6 n6 => ?_⟩⟩
    have cf : cutV (ps.map V.ref) (some 1) none = (ps.map V.ref).drop 1 := cut_from _ 1
    rw [cf]
    have e3 := same_new (o := HO.lst [V.ref p4]) n5
    have e4 := same_new (o := HO.lst ((ps.map V.ref).drop 1)) n6
    refine ⟨p5, p6, _, _, rfl, rfl, e4 _ _ upd_same, upd_same, ?_, fun p7 n7 => ?_⟩
    · rw [List.length_drop, List.length_map]
      exact Nat.le_trans (show 1 + (ps.length - 1) ≤ 41 by omega) (by decide)
    have e5 := same_new (o := HO.lst ([V.ref p4] ++ (ps.map V.ref).drop 1)) n7
    have eA := e3.trans (e4.trans e5)
    refine q p7 (List.replicate m 0 :: ds.drop 1) m _ (e2.trans eA) ⟨p4 :: ps.drop 1, .inl (.inl (.inl ?_)), ?_, fun i q d a b => ?_⟩ ?_ m1 (fun h => by omega) ?_
    · rw [upd_same, List.map_cons, List.map_drop]
      rfl
    · rw [List.length_cons, List.length_cons, List.length_drop, List.length_drop, g2]
    · cases i with
      | zero =>
        cases a
        cases b
        exact ⟨.inl (.inl (.inl (eA _ _ h4'))), List.length_replicate .., fun s hs => by have := zok m s hs; omega⟩
      | succ i =>
        rw [List.getElem?_cons_succ, List.getElem?_drop] at a b
        obtain ⟨x1, x2, x3⟩ := g3 _ q d a b
        exact ⟨.inl (.inl (.inl ((e2.trans eA) _ _ x1))), x2, x3⟩
    · rw [List.length_cons, List.length_drop]
      omega
    · intro z
      have := congrArg (fun l => l[0]?) z
      simp only [hd0, List.getElem?_cons_zero] at this
      exact hne (Option.some.inj this)
  · generalize upd (upd H p1 (HO.lst [V.int 0])) p2 (HO.lst (nv (List.replicate m 0))) = H1 at e1 ⊢
    refine ⟨sz1, fun p3 n3 => ⟨_, h4, m, 1, rfl, rfl, p3, ((m + 1 : Nat) : Int), _, rfl, rfl, upd_same, by omega, by omega, ?_, fun p4 n4 => ?_⟩⟩
    · rw [Int.toNat_natCast]
      exact Nat.le_trans (show 1 * (m + 1) ≤ 41 by omega) (by decide)
    rw [Int.toNat_natCast, rep_one, nv_rep]
    have e2 := e1.trans ((same_new (o := HO.lst [V.int 0]) n3).trans (same_new (o := HO.lst (nv (List.replicate (m + 1) 0))) n4))
    have h4' : upd (upd H1 p3 (HO.lst [V.int 0])) p4 (HO.lst (nv (List.replicate (m + 1) 0))) p4 = some (.lst (nv (List.replicate (m + 1) 0))) := upd_same
    generalize upd (upd H1 p3 (HO.lst [V.int 0])) p4 (HO.lst (nv (List.replicate (m + 1) 0))) = H2 at e2 h4' ⊢
    have lwt : (ws.map tx).length = ds.length := by rw [List.length_map, lw]
    refine ⟨sz1, fun p5 n5 => ⟨_, h3, p, _, rfl, .inl (.inl (.inl ((same_new n5) _ _ (e2 _ _ hp)))), ?_⟩⟩
    rw [lwt]
    refine ⟨p5, ds.length, _, rfl, rfl, upd_same, by omega, by omega, ?_, fun p6 n6 => ?_⟩
    · rw [Int.toNat_natCast]
      exact Nat.le_trans (show 1 * ds.length ≤ 40 by omega) (by decide)
    rw [Int.toNat_natCast, rep_one]
    have eA := (same_new (o := HO.lst [V.ref p4]) n5).trans (same_new (o := HO.lst (List.replicate ds.length (V.ref p4))) n6)
    refine q p6 (List.replicate ds.length (List.replicate (m + 1) 0)) (m + 1) _ (e2.trans eA) ⟨List.replicate ds.length p4, .inl (.inl (.inl ?_)), ?_, fun i q d a b => ?_⟩ (List.length_replicate ..) (by omega) (fun h => by omega) ?_
    · rw [upd_same, List.map_replicate]
    · rw [List.length_replicate, List.length_replicate]
    · rw [List.getElem?_replicate] at a b
      split at a
      · rename_i hi
        rw [if_pos hi] at b
        cases a
        cases b
        exact ⟨.inl (.inl (.inl (eA _ _ h4'))), List.length_replicate .., fun s hs => by have := zok (m + 1) s hs; omega⟩
      · cases a
    · intro z
      have := congrArg (fun l => l[0]?) z
      simp only [hd0, List.getElem?_replicate] at this
      rw [if_pos (by omega)] at this
      have h1 := Option.some.inj this
      rw [h1, List.length_replicate] at k2
      omega
theorem and_no {σ : L2.St} {H : Hp} {R : Bool → Hp → Prop} {t2 : TT} {m : Nat} (h4 : σ[4]? = some (some (.int (m : Nat)))) (k : m < 40 → ∀ R' : Bool → Hp → Prop, (∀ H', Same H H' → R' false H') → t2 σ H R') (q : ∀ H', Same H H' → R false H') : tAnd (tTest (tOp (rI0 fun i j => V.bl (decide (i < j))) (tVar 4) (tC (V.int 40)))) t2 σ H R := by
  refine ⟨_, h4, m, 40, rfl, rfl, _, rfl, iteC (fun hh => ?_) (fun hh => q H (Same.refl H))⟩
  have : m < 40 := by
    have := of_decide_eq_true hh
    omega
  exact k this _ q
theorem cut_last (xs : List V) : cutV xs none (some (-1)) = xs.take (xs.length - 1) := by
  unfold cutV
  have : HT.sIx xs.length xs.length (some (-1)) = xs.length - 1 := by
    show (if (-1 : Int) < 0 then ((-1 : Int) + (xs.length : Int)).toNat else min (-1 : Int).toNat xs.length) = _
    rw [if_pos (by decide)]
    omega
  rw [HT.sIx_none, this, List.drop_zero, Nat.sub_zero]
theorem sub_str {C : Addr} : PySem.W.subIn K (.type "str") (.ref C) = some false := by
  have e : fastBuiltinMro "str" = some [.type "str", .type "object"] := by decide +kernel
  show (fastBuiltinMro "str").map (·.contains (.ref C)) = some false
  rw [e]
  first
    | rfl
    | simp
/-- no instance of a class -/
def NotN (K : PySem.W.Frag) (C : Addr) (H : Hp) (x : V) : Prop := ∃ n : String, TyX K H x (.type n) ∧ PySem.W.kitOne K (.type n) (.ref C) = some false
theorem NotN.same {C : Addr} {H H' : Hp} {x : V} (e : Same H H') (h : NotN K C H x) : NotN K C H' x := by
  obtain ⟨n, h1, h2⟩ := h
  exact ⟨n, tyx_same e h1, h2⟩
theorem NotN.ext {C : Addr} {H H' : Hp} {x : V} (e : ExtN H H') (h : NotN K C H x) : NotN K C H' x := by
  obtain ⟨n, h1, h2⟩ := h
  exact ⟨n, tyx_ext e h1, h2⟩
theorem NotN.c {C : Addr} {H : Hp} {x : V} (h : NotN K C H x) : NotC K C H x := by
  obtain ⟨n, h1, h2⟩ := h
  exact ⟨_, h1, h2⟩
theorem hasInt_ext {H H' : Hp} {x : V} (e : ExtN H H') (h : HasInt K H x) : HasInt K H' x := by
  obtain ⟨n, a, b, t, r⟩ := h
  exact ⟨n, a, b, tyx_ext e t, r⟩
theorem sqQ_ext {H H' : Hp} {a : Addr} {xs : List V} (e : ExtN H H') (h : SqQ K H a xs) : SqQ K H' a xs := h.imp (sqL_ext e) (sqT_ext e)
theorem DArg.ext {H H' : Hp} {x : V} {n : Nat} {b : Bool} (e : ExtN H H') (h : DArg K H x n b) : DArg K H' x n b := by
  rcases h with ⟨h1, t, h2, h3⟩ | ⟨p, vs, os, h1, h2, h3, h4, h5, h6⟩
  · exact .inl ⟨h1, t, tyx_ext e h2, h3⟩
  · refine .inr ⟨p, vs, os, h1, sqQ_ext e h2, h3, h4, fun i v o a b => ?_, h6⟩
    have := h5 i v o a b
    cases o with
    | none =>
      obtain ⟨t, g1, g2⟩ := this
      exact ⟨t, tyx_ext e g1, g2⟩
    | some xs =>
      obtain ⟨q, g1, g2, g3, g4⟩ := this
      exact ⟨q, g1, sqQ_ext e g2, g3, fun x m => hasInt_ext e (g4 x m)⟩
theorem RowArg.same {H H' : Hp} {x : V} {n : Nat} {b : Bool} (e : Same H H') (h : RowArg K H x n b) : RowArg K H' x n b := by
  rcases h with ⟨h1, t, h2, h3⟩ | ⟨p, vs, h1, h2, h3, h4, h5⟩
  · exact .inl ⟨h1, t, tyx_same e h2, h3⟩
  · exact .inr ⟨p, vs, h1, Same.q e h2, h3, fun v m => (h4 v m).same e, h5⟩
theorem RowArg.ext {H H' : Hp} {x : V} {n : Nat} {b : Bool} (e : ExtN H H') (h : RowArg K H x n b) : RowArg K H' x n b := by
  rcases h with ⟨h1, t, h2, h3⟩ | ⟨p, vs, h1, h2, h3, h4, h5⟩
  · exact .inl ⟨h1, t, tyx_ext e h2, h3⟩
  · exact .inr ⟨p, vs, h1, sqQ_ext e h2, h3, fun v m => hasInt_ext e (h4 v m), h5⟩
theorem str_none {H : Hp} {v : V} {n : String} (t : TyX K H v (.type n)) (k : kitB n "str" = some false) : StrIs K H v none := ⟨n, t, k⟩
/-- one value that is no row -/
theorem row_one {H : Hp} {p : Addr} {v : V} {n : Nat} (h : SqQ K H p [v]) (hv : HasInt K H v) (w : withinV v (some 0) (some ((n : Int) - 1)) = false) : RowArg K H (.ref p) n false := by
  refine .inr ⟨p, [v], rfl, h, (show 1 ≤ 20000 by decide), fun x m => by rw [List.mem_singleton.mp m]; exact hv, ?_⟩
  rw [List.all_cons, w, Bool.false_and, Bool.and_false]
/-- where the law's values are drawn -/
structure Nw (K : PySem.W.Frag) (CB CM Pt w1 wc p bk x : Addr) (ws ds : List (List Nat)) (m n : Nat) (no od : V) (H : Hp) (bads : List V) : Prop where
  p : H p = some (.lst (ws.map tx))
  b : BookAt K CB H bk ws
  mm : MachAt K CB CM H x ws ds m
  wh : Wh H w1 wc n
  t : Tabs (lamTab Pt) H
  no : NotN K CB (core w1 H) no
  od : DArg K (core w1 H) od ws.length false
  ba : ∀ v ∈ bads, RowArg K (core w1 H) v ws.length false
theorem Nw.mv {CB CM Pt w1 wc p bk x : Addr} {ws ds : List (List Nat)} {m n n' : Nat} {no od : V} {H H' : Hp} {bads : List V} (mv : Mv w1 H H') (w : Wh H' w1 wc n') (h : Nw K CB CM Pt w1 wc p bk x ws ds m n no od H bads) : Nw K CB CM Pt w1 wc p bk x ws ds m n' no od H' bads := by
  obtain ⟨xs, hx⟩ := wh_lst h.wh
  have e := core_step mv
  exact ⟨mv _ _ (wh_ne_words h.wh h.p) h.p, h.b.mvL hx mv, h.mm.mvL hx mv, w, Tabs.mv h.t h.wh mv, h.no.same e, h.od.same e, fun v hv => (h.ba v hv).same e⟩
theorem Nw.same {CB CM Pt w1 wc p bk x : Addr} {ws ds : List (List Nat)} {m n : Nat} {no od : V} {H H' : Hp} {bads : List V} (e : Same H H') (h : Nw K CB CM Pt w1 wc p bk x ws ds m n no od H bads) : Nw K CB CM Pt w1 wc p bk x ws ds m n no od H' bads := h.mv (Mv.of e) (h.wh.same e)
theorem Nw.add {CB CM Pt w1 wc p bk x : Addr} {ws ds : List (List Nat)} {m n : Nat} {no od v : V} {H : Hp} {bads : List V} (b : RowArg K (core w1 H) v ws.length false) (h : Nw K CB CM Pt w1 wc p bk x ws ds m n no od H bads) : Nw K CB CM Pt w1 wc p bk x ws ds m n no od H (v :: bads) := ⟨h.p, h.b, h.mm, h.wh, h.t, h.no, h.od, fun y hy => by
  rcases List.mem_cons.mp hy with rfl | hy
  · exact b
  · exact h.ba y hy⟩
theorem mach_nobook {E : XK} {CB CM EB EM y dy : Addr} {H : Hp} {no od : V} {P : VK} (ny : H y = none) (ndy : H dy = none) (h : NotN K CB H no) (r : ∀ d H', Same H H' → H' d = some (.xd [("part", .str "book")]) → E (.ref EB) (some d) H') :
    sp_Machine_init K CB CM EB EM [.ref y, no, od] (upd (upd H dy (.own y)) y (.ins CM dy [])) P E := by
  have s1 : Same H (upd (upd H dy (.own y)) y (.ins CM dy [])) := fun b u h => by
    rw [upd_ne (ne_of_none h ny), upd_ne (ne_of_none h ndy)]
    exact h
  exact ⟨y, dy, no, od, rfl, upd_same, .inl ⟨(h.same s1).c, fun d H' e hd => r d H' (s1.trans e) hd⟩⟩
theorem mach_nodeeds {E : XK} {CB CM EB EM y dy bk : Addr} {H : Hp} {ws : List (List Nat)} {od : V} {P : VK} (ny : H y = none) (ndy : H dy = none) (hB : BookAt K CB H bk ws) (l1 : 1 ≤ ws.length) (h : DArg K H od ws.length false) (r : ∀ d H', Same H H' → H' d = some (.xd [("part", .str "deeds")]) → E (.ref EM) (some d) H') :
    sp_Machine_init K CB CM EB EM [.ref y, .ref bk, od] (upd (upd H dy (.own y)) y (.ins CM dy [])) P E := by
  have s1 : Same H (upd (upd H dy (.own y)) y (.ins CM dy [])) := fun b u h => by
    rw [upd_ne (ne_of_none h ny), upd_ne (ne_of_none h ndy)]
    exact h
  exact ⟨y, dy, .ref bk, od, rfl, upd_same, .inr ⟨bk, ws, rfl, hB.same s1, l1, .inl ⟨h.same s1, fun d H' e hd => r d H' (s1.trans e) hd⟩⟩⟩
theorem row_wide {H : Hp} {p : Addr} {n : Nat} (h : SqQ K H p (List.replicate 10001 (V.int 0))) : RowArg K H (.ref p) n false := by
  refine .inr ⟨p, _, rfl, h, by rw [List.length_replicate]; omega, fun x m => by rw [(List.mem_replicate.mp m).2]; exact hasInt_int _, ?_⟩
  rw [List.length_replicate]
  rfl
end
end K21
namespace K21
open PySem PySem.Spec PyProof.Rows L2 Kx SX LamX
section
variable {P : Program} {w : World} {K : PySem.W.Frag} {mg : Str → Option Value} {base : Heap} (T : Tx K mg)
def sp_law (K : PySem.W.Frag) (Pt : Addr) : Sp := fun vs H Q _ => ∃ (a : Addr) (ns : List Int), vs = [.ref a] ∧ SqL K H a (ns.map V.int) ∧ H Pt = some (.tbl #[]) ∧ ∀ H', Q (.bl true) H'
theorem ok_law {c Pt : Addr} (FC : FunC K "law" "law" s_law T.f_law T.fd_law c) (TB : TabB base mg c Pt) : FnG P w K mg base CX0 16 T.f_law T.fd_law ["_law_script"] (sp_law K Pt) := by
  obtain ⟨oc, od, kV, doc, pm, an, cdv, ct, osl, efd, lk, hcd⟩ := T.F_law_heard.ex
  rw [efd] at lk
  have hbd : Binds K _ ["_law_ask"] [] := efd ▸ T.b_law_heard
  refine okC FC sc_law (fun vs H Q E h => ?_) (fun A outer s H vs Q E hg hr h => ?_)
  · obtain ⟨a, ns, rfl, _⟩ := h
    rfl
  · obtain ⟨a, ns, rfl, hs, hP, q⟩ := h
    refine ⟨_, (pss_cons (ps_set (i := 1) sc_law.nd rfl (.inr rfl) (pe_call (ok_law_engine T) (hr.mono (by decide)) (by rfl) T.g_law_engine T.F_law_engine.kp T.b_law_engine .nil pass0 (pa_cons (pv 0) pa_nil)))
    (pss_cons (ps_for PassesOwn.never rfl (pi_range1 (by rfl) T.m_range (pa_cons pe_int pa_nil)) (pg_name (i := 2) sc_law.nd rfl (.inl rfl))
      (pss_cons (ps_asg (pe_tup (pa_cons (pe_call (ok_law_book T) (hr.mono (by decide)) (by rfl) T.g_law_book T.F_law_book.kp T.b_law_book .nil pass0 (pa_cons (pv 1) (pa_cons (pe_op op_add pe_int (pe_call (ok_law_crank T) (hr.mono (by decide)) (by rfl) T.g_law_crank T.F_law_crank.kp T.b_law_crank .nil pass0 (pa_cons (pv 1) (pa_cons pe_int pa_nil)))) pa_nil))) (pa_cons (pe_op op_add pe_int (pe_call (ok_law_crank T) (hr.mono (by decide)) (by rfl) T.g_law_crank T.F_law_crank.kp T.b_law_crank .nil pass0 (pa_cons (pv 1) (pa_cons (pe_call (ok_law_one T) (hr.mono (by decide)) (by rfl) T.g_law_one T.F_law_one.kp T.b_law_one .nil pass0 (pa_cons (pv 1) (pa_cons (pe_lst (pa_cons pe_int (pa_cons pe_int (pa_cons pe_int pa_nil)))) pa_nil))) pa_nil)))) pa_nil))) (pg_tup rfl (pgs_cons (pg_name (i := 3) sc_law.nd rfl (.inl rfl)) (pgs_cons (pg_name (i := 4) sc_law.nd rfl (.inr rfl)) pgs_nil))))
      (pss_cons (ps_asg (pe_tup (pa_cons (pe_lc (own := [("_law_word", 5)]) rfl sc_law.nd (pi_list (pv 3)) (blkOk_by (own := [("_law_word", 5)]) (N := ["_law_script", "_law_engine_here", "_law_turn", "_law_words", "_law_states", "_law_word", "_law_deeds", "_law_book_here", "_law_deed_here", "_law_passed", "_law_machine", "_law_due", "_law_other", "_law_none", "_law_odd_here", "_law_bad", "_law_low", "_law_wrong", "_law_heard_here"]) (sc := defScope s_law) (by decide +kernel)) (fun _ _ _ _ _ => (pg_name (i := 5) sc_law.nd rfl (.inl rfl))) (fun _ _ _ _ _ => pts_nil) (fun _ _ _ _ _ => (pe_call (ok_law_deed T) (hr.mono (by decide)) (by rfl) T.g_law_deed T.F_law_deed.kp T.b_law_deed .nil pass0 (pa_cons (pv 1) (pa_cons (pv 4) pa_nil))))) (pa_cons (pe_make T.mk_Book (ok_Book_init T) (hr.mono (by decide)) (by rfl) T.gC_Book T.b_Book_init .nil passF (pa_cons (pv 3) pa_nil)) pa_nil))) (pg_tup rfl (pgs_cons (pg_name (i := 6) sc_law.nd rfl (.inl rfl)) (pgs_cons (pg_name (i := 7) sc_law.nd rfl (.inr rfl)) pgs_nil))))
      (pss_cons (ps_set (i := 9) sc_law.nd rfl (.inl rfl) (pe_call (ok_law_one T) (hr.mono (by decide)) (by rfl) T.g_law_one T.F_law_one.kp T.b_law_one .nil pass0 (pa_cons (pv 1) (pa_cons (pe_lst (pa_cons (pe_lc (own := [("_law_deed_here", 8)]) rfl sc_law.nd (pi_list (pv 6)) (blkOk_by (own := [("_law_deed_here", 8)]) (N := ["_law_script", "_law_engine_here", "_law_turn", "_law_words", "_law_states", "_law_word", "_law_deeds", "_law_book_here", "_law_deed_here", "_law_passed", "_law_machine", "_law_due", "_law_other", "_law_none", "_law_odd_here", "_law_bad", "_law_low", "_law_wrong", "_law_heard_here"]) (sc := defScope s_law) (by decide +kernel)) (fun _ _ _ _ _ => (pg_name (i := 8) sc_law.nd rfl (.inl rfl))) (fun _ _ _ _ _ => pts_nil) (fun _ _ _ _ _ => (pe_callTy (inK_call_list_of (K := K) rfl) (by rfl) T.m_list (by decide +kernel) (pa_cons (pv 8) pa_nil)))) (pa_cons (pe_callTy call_tuple_frz (by rfl) T.m_tuple (by decide +kernel) (pa_cons (pe_lc (own := [("_law_deed_here", 8)]) rfl sc_law.nd (pi_list (pv 6)) (blkOk_by (own := [("_law_deed_here", 8)]) (N := ["_law_script", "_law_engine_here", "_law_turn", "_law_words", "_law_states", "_law_word", "_law_deeds", "_law_book_here", "_law_deed_here", "_law_passed", "_law_machine", "_law_due", "_law_other", "_law_none", "_law_odd_here", "_law_bad", "_law_low", "_law_wrong", "_law_heard_here"]) (sc := defScope s_law) (by decide +kernel)) (fun _ _ _ _ _ => (pg_name (i := 8) sc_law.nd rfl (.inl rfl))) (fun _ _ _ _ _ => pts_nil) (fun _ _ _ _ _ => (pe_callTy (inK_call_tuple_frz (K := K) rfl) (by rfl) T.m_tuple (by decide +kernel) (pa_cons (pv 8) pa_nil)))) pa_nil)) pa_nil))) pa_nil))))
      (pss_cons (ps_set (i := 10) sc_law.nd rfl (.inr rfl) (pe_makeK0 T.mk_Machine (ok_Machine_init T) (hr.mono (by decide)) (by rfl) T.gC_Machine (kb_Machine_init_0_deeds_book T) passF (pk_cons (pv 9) (pk_cons (pv 7) pk_nil))))
      (pss_cons (ps_if (pt_val (pe_callB call_isi (by rfl) T.m_isinstance (by decide +kernel) (pa_cons (pv 9) (pa_cons (pe_bltn (v := .ty "list") (by rfl) T.m_list (by decide +kernel) rfl) pa_nil))))
        (pss_one (ps_expr (pe_bm0 PySem.F.plainAttrs_list PySem.F.slot_list_pop PySem.F.type_list_pop mt_pop (pv 9))))
        pss_nil)
      (pss_cons (ps_set (i := 11) sc_law.nd rfl (.inl rfl) (pe_callTy call_tuple_frz (by rfl) T.m_tuple (by decide +kernel) (pa_cons (pe_lc (own := [("_law_deed_here", 8)]) rfl sc_law.nd (pi_list (pv 6)) (blkOk_by (own := [("_law_deed_here", 8)]) (N := ["_law_script", "_law_engine_here", "_law_turn", "_law_words", "_law_states", "_law_word", "_law_deeds", "_law_book_here", "_law_deed_here", "_law_passed", "_law_machine", "_law_due", "_law_other", "_law_none", "_law_odd_here", "_law_bad", "_law_low", "_law_wrong", "_law_heard_here"]) (sc := defScope s_law) (by decide +kernel)) (fun _ _ _ _ _ => (pg_name (i := 8) sc_law.nd rfl (.inl rfl))) (fun _ _ _ _ _ => pts_nil) (fun _ _ _ _ _ => (pe_callTy (inK_call_tuple_frz (K := K) rfl) (by rfl) T.m_tuple (by decide +kernel) (pa_cons (pv 8) pa_nil)))) pa_nil)))
      (pss_cons (ps_if (PW.pt (pw_or (pt_cmpR op_ne (pe_callB (call_reprD hg hr.units) (by rfl) T.m_repr (by decide +kernel) (pa_cons (pe_lst (pa_cons (pe_fld (pv 10) rfl) (pa_cons (pe_fld (pv 10) rfl) pa_nil))) pa_nil)) (pe_callB (call_reprD hg hr.units) (by rfl) T.m_repr (by decide +kernel) (pa_cons (pe_lst (pa_cons (pv 11) (pa_cons (pv 4) pa_nil))) pa_nil)) (nomark _)) (pw_or (pt_cmpR (op_neI (ok_Book_eq T) T.b_Book_eq (hr.mono (by decide)) T.me_Book_eq.at_ T.me_Book_eq.fn T.ob_Book T.ne_Book) (pe_fld (pv 10) rfl) (pv 7) (nomark _)) (pw_or1 (pt_cmpR (op_neI (ok_Machine_eq T) T.b_Machine_eq (hr.mono (by decide)) T.me_Machine_eq.at_ T.me_Machine_eq.fn T.ob_Machine T.ne_Machine) (pv 10) (pe_make T.mk_Machine (ok_Machine_init T) (hr.mono (by decide)) (by rfl) T.gC_Machine T.b_Machine_init .nil passF (pa_cons (pv 7) (pa_cons (pv 11) pa_nil))) (nomark _))))))
        (pss_one (ps_ret pe_bl))
        pss_nil)
      (pss_cons (ps_set (i := 12) sc_law.nd rfl (.inl rfl) (pe_ifExp (pt_cmpR (op_neD hr.units) (pe_ix ix_list (pv 6) pe_int (fun _ _ => rfl)) (pe_op op_rep (pe_lst (pa_cons pe_int pa_nil)) (pv 4)) (nomark _)) (pe_op op_cat (pe_lst (pa_cons (pe_op op_rep (pe_lst (pa_cons pe_int pa_nil)) (pv 4)) pa_nil)) (pe_slice sl_list (pv 6) (po_some pe_int) po_none)) (pe_op op_rep (pe_lst (pa_cons (pe_op op_rep (pe_lst (pa_cons pe_int pa_nil)) (pe_op op_add (pv 4) pe_int)) pa_nil)) (pe_callB call_len_seq (by rfl) T.m_len PySem.boot_len (pa_cons (pv 3) pa_nil)))))
      (pss_cons (ps_if (PW.pt (pw_or (PW.pt (pw_and (pt_cmpR op_lt (pv 4) pe_int (nomark _)) (pw_and1 (pt_cmpR (op_eqI (ok_Machine_eq T) T.b_Machine_eq (hr.mono (by decide)) T.me_Machine_eq.at_ T.me_Machine_eq.fn) (pv 10) (pe_make T.mk_Machine (ok_Machine_init T) (hr.mono (by decide)) (by rfl) T.gC_Machine T.b_Machine_init .nil passF (pa_cons (pv 7) (pa_cons (pv 12) pa_nil))) (nomark _))))) (pw_or (pt_cmpR (op_eqI (ok_Machine_eq T) T.b_Machine_eq (hr.mono (by decide)) T.me_Machine_eq.at_ T.me_Machine_eq.fn) (pv 10) (pe_make T.mk_Machine (ok_Machine_init T) (hr.mono (by decide)) (by rfl) T.gC_Machine T.b_Machine_init .nil passF (pa_cons (pe_make T.mk_Book (ok_Book_init T) (hr.mono (by decide)) (by rfl) T.gC_Book T.b_Book_init .nil passF (pa_cons (pe_op op_cat (pe_slice sl_list (pv 3) po_none (po_some (pe_un un_neg pe_int))) (pe_lst (pa_cons pe_str pa_nil))) pa_nil)) (pa_cons (pv 11) pa_nil))) (nomark _)) (pw_or1 (pt_cmpR (op_eqI (ok_Machine_eq T) T.b_Machine_eq (hr.mono (by decide)) T.me_Machine_eq.at_ T.me_Machine_eq.fn) (pv 10) (pv 11) (nomark _))))))
        (pss_one (ps_ret pe_bl))
        pss_nil)
      (pss_cons (ps_if (pt_not (pt_val (pe_callG (ok_law_ends_right T) hg (hr.mono (by decide)) (by rfl) T.g_law_ends_right T.F_law_ends_right.kp T.b_law_ends_right (pa_cons (pv 1) (pa_cons (pv 10) (pa_cons (pv 3) (pa_cons (pv 6) pa_nil)))))))
        (pss_one (ps_ret pe_bl))
        pss_nil)
      (pss_cons (ps_asg (pe_tup (pa_cons (pe_call (ok_law_one T) (hr.mono (by decide)) (by rfl) T.g_law_one T.F_law_one.kp T.b_law_one .nil pass0 (pa_cons (pv 1) (pa_cons (pe_lst (pa_cons pe_non (pa_cons pe_int (pa_cons (pv 3) (pa_cons pe_str (pa_cons (pv 11) pa_nil)))))) pa_nil))) (pa_cons (pe_call (ok_law_odd T) (hr.mono (by decide)) (by rfl) T.g_law_odd T.F_law_odd.kp T.b_law_odd .nil pass0 (pa_cons (pv 1) (pa_cons (pv 6) (pa_cons (pv 4) pa_nil)))) pa_nil))) (pg_tup rfl (pgs_cons (pg_name (i := 13) sc_law.nd rfl (.inr rfl)) (pgs_cons (pg_name (i := 14) sc_law.nd rfl (.inr rfl)) pgs_nil))))
      (pss_cons (ps_set (i := 15) sc_law.nd rfl (.inr rfl) (pe_call (ok_law_one T) (hr.mono (by decide)) (by rfl) T.g_law_one T.F_law_one.kp T.b_law_one .nil pass0 (pa_cons (pv 1) (pa_cons (pe_lst (pa_cons pe_non (pa_cons pe_int (pa_cons (pe_lst (pa_cons (pe_callB call_len_seq (by rfl) T.m_len PySem.boot_len (pa_cons (pv 3) pa_nil)) pa_nil)) (pa_cons (pe_lst (pa_cons (pe_un un_neg pe_int) pa_nil)) (pa_cons (pe_lst (pa_cons pe_bl pa_nil)) (pa_cons pe_str (pa_cons (pe_lst (pa_cons pe_non pa_nil)) (pa_cons (pe_lst (pa_cons (pe_lst (pa_cons pe_int pa_nil)) pa_nil)) (pa_cons (pe_op op_rep (pe_lst (pa_cons pe_int pa_nil)) pe_int) pa_nil)))))))))) pa_nil))))
      (pss_cons (ps_asg (pe_tup (pa_cons (pe_call (ok_law_one T) (hr.mono (by decide)) (by rfl) T.g_law_one T.F_law_one.kp T.b_law_one .nil pass0 (pa_cons (pv 1) (pa_cons (pe_lst (pa_cons (pv 4) (pa_cons (pe_un un_neg pe_int) (pa_cons pe_non (pa_cons pe_bl (pa_cons pe_str (pa_cons (pe_lst (pa_cons pe_int pa_nil)) pa_nil))))))) pa_nil))) (pa_cons (pe_call (ok_law_one T) (hr.mono (by decide)) (by rfl) T.g_law_one T.F_law_one.kp T.b_law_one .nil pass0 (pa_cons (pv 1) (pa_cons (pe_lst (pa_cons pe_non (pa_cons pe_int (pa_cons pe_str (pa_cons (pe_lst (pa_cons pe_str pa_nil)) pa_nil))))) pa_nil))) pa_nil))) (pg_tup rfl (pgs_cons (pg_name (i := 16) sc_law.nd rfl (.inr rfl)) (pgs_cons (pg_name (i := 17) sc_law.nd rfl (.inr rfl)) pgs_nil))))
      (pss_cons (ps_set (i := 18) sc_law.nd rfl (.inl rfl) (pe_lst (pa_cons (pe_lamcall (T := (lamTab Pt)) (c := c) (P := Pt) (k := 8) (by rfl) T.g_law_heard T.F_law_heard.kp lk hcd hbd sc_law_heard rfl (.inl rfl) (heard_gives T) TB rfl (List.mem_singleton.mpr rfl) (fun p hp _ => by rw [List.mem_singleton.mp hp]; rfl) (hr.mono (by decide)) (lamS_by (sc := defScope s_law) (by decide +kernel)) rfl (fun _ _ _ _ _ => rfl) (fun A outer s H E f c' hr2 => (pe_make T.mk_Machine (ok_Machine_init T) (hr2.mono (by decide)) (by rfl) T.gC_Machine T.b_Machine_init .nil (passes_call (takes_of rfl rfl rfl rfl) (fun _ _ _ _ h => h)) (pa_cons (pv 13) (pa_cons (pv 14) pa_nil))))) (pa_cons (pe_lamcallD (T := (lamTab Pt)) (z := "_law_a1") (c := c) (P := Pt) (k := 8) (by rfl) T.g_law_heard T.F_law_heard.kp lk hcd hbd sc_law_heard rfl (.inl rfl) (heard_gives T) TB rfl (List.mem_singleton.mpr rfl) (fun p hp _ => by rw [List.mem_singleton.mp hp]; rfl) (hr.mono (by decide)) (lamP_by (sc := defScope s_law) (by decide +kernel)) rfl rfl rfl (fun _ _ _ _ _ _ _ _ => ⟨_, rfl, rfl⟩) (fun A outer s H E f c' hr2 => (pe_make T.mk_Machine (ok_Machine_init T) (hr2.mono (by decide)) (by rfl) T.gC_Machine T.b_Machine_init .nil (passes_call (takes_of rfl rfl rfl rfl) (fun _ _ _ _ h => h)) (pa_cons (pv 7) (pa_cons (pv 14) pa_nil))))) (pa_cons (pe_lamcallD (T := (lamTab Pt)) (z := "_law_a2") (c := c) (P := Pt) (k := 7) (by rfl) T.g_law_heard T.F_law_heard.kp lk hcd hbd sc_law_heard rfl (.inl rfl) (heard_gives T) TB rfl (List.mem_singleton.mpr rfl) (fun p hp _ => by rw [List.mem_singleton.mp hp]; rfl) (hr.mono (by decide)) (lamP_by (sc := defScope s_law) (by decide +kernel)) rfl rfl rfl (fun _ _ _ _ _ _ _ _ => ⟨_, rfl, rfl⟩) (fun A outer s H E f c' hr2 => (pe_meth (pv 10) T.cl_Machine T.me_Machine_done (ok_Machine_done T) (hr2.mono (by decide)) T.b_Machine_done .nil (passes_call (takes_of rfl rfl rfl rfl) (fun _ _ _ _ h => h)) (pa_cons (pv 15) (pa_cons (pv 16) pa_nil))))) pa_nil)))))
      (pss_cons (ps_set (i := 18) sc_law.nd rfl (.inl rfl) (pe_op op_cat (pv 18) (pe_lst (pa_cons (pe_lamcall (T := (lamTab Pt)) (c := c) (P := Pt) (k := 7) (by rfl) T.g_law_heard T.F_law_heard.kp lk hcd hbd sc_law_heard rfl (.inl rfl) (heard_gives T) TB rfl (List.mem_singleton.mpr rfl) (fun p hp _ => by rw [List.mem_singleton.mp hp]; rfl) (hr.mono (by decide)) (lamS_by (sc := defScope s_law) (by decide +kernel)) rfl (fun _ _ _ _ _ => rfl) (fun A outer s H E f c' hr2 => (pe_meth (pv 10) T.cl_Machine T.me_Machine_done (ok_Machine_done T) (hr2.mono (by decide)) T.b_Machine_done .nil (passes_call (takes_of rfl rfl rfl rfl) (fun _ _ _ _ h => h)) (pa_cons (pe_lst (pa_cons pe_int pa_nil)) (pa_cons (pv 16) pa_nil))))) (pa_cons (pe_lamcallD (T := (lamTab Pt)) (z := "_law_a1") (c := c) (P := Pt) (k := 10) (by rfl) T.g_law_heard T.F_law_heard.kp lk hcd hbd sc_law_heard rfl (.inl rfl) (heard_gives T) TB rfl (List.mem_singleton.mpr rfl) (fun p hp _ => by rw [List.mem_singleton.mp hp]; rfl) (hr.mono (by decide)) (lamP_by (sc := defScope s_law) (by decide +kernel)) rfl rfl rfl (fun _ _ _ _ _ _ _ _ => ⟨_, rfl, rfl⟩) (fun A outer s H E f c' hr2 => (pe_meth (pv 10) T.cl_Machine T.me_Machine_done_text (ok_Machine_done_text T) (hr2.mono (by decide)) T.b_Machine_done_text .nil (passes_call (takes_of rfl rfl rfl rfl) (fun _ _ _ _ h => h)) (pa_cons (pv 17) (pa_cons (pv 16) pa_nil))))) (pa_cons (pe_lamcallD (T := (lamTab Pt)) (z := "_law_a2") (c := c) (P := Pt) (k := 10) (by rfl) T.g_law_heard T.F_law_heard.kp lk hcd hbd sc_law_heard rfl (.inl rfl) (heard_gives T) TB rfl (List.mem_singleton.mpr rfl) (fun p hp _ => by rw [List.mem_singleton.mp hp]; rfl) (hr.mono (by decide)) (lamP_by (sc := defScope s_law) (by decide +kernel)) rfl rfl rfl (fun _ _ _ _ _ _ _ _ => ⟨_, rfl, rfl⟩) (fun A outer s H E f c' hr2 => (pe_meth (pv 10) T.cl_Machine T.me_Machine_done_text (ok_Machine_done_text T) (hr2.mono (by decide)) T.b_Machine_done_text .nil (passes_call (takes_of rfl rfl rfl rfl) (fun _ _ _ _ h => h)) (pa_cons pe_str (pa_cons (pv 16) pa_nil))))) pa_nil))))))
      (pss_one (ps_if (pt_cmpR (op_neD hr.units) (pv 18) (pe_lst (pa_cons (pe_tup (pa_cons pe_str (pa_cons pe_str pa_nil))) (pa_cons (pe_tup (pa_cons pe_str (pa_cons pe_str pa_nil))) (pa_cons (pe_tup (pa_cons pe_str (pa_cons pe_str pa_nil))) (pa_cons (pe_tup (pa_cons pe_str (pa_cons pe_str pa_nil))) (pa_cons (pe_tup (pa_cons pe_str (pa_cons pe_str pa_nil))) (pa_cons (pe_tup (pa_cons pe_str (pa_cons pe_str pa_nil))) pa_nil))))))) (nomark _))
        (pss_one (ps_ret pe_bl))
        pss_nil))))))))))))))))))
    (pss_one (ps_ret pe_bl)))), ?_⟩
    refine go_seq (go_asg ⟨_, rfl, a, ns, rfl, hs, fun w1 wc H1 nw e1 w0 => ?_⟩)
    have T1 : Tabs (lamTab Pt) H1 := fun p hp => by
      rw [List.mem_singleton.mp hp]
      exact TabS.nil (e1 _ _ hP)
    dsimp only [gName]
    refine go_seq ⟨3, rfl, by decide, by decide, for_range (lo := 0) (n := 3) (fun i σ H' => ∃ (o2 o3 o4 o5 o6 o7 o8 o9 o10 o11 o12 o13 o14 o15 o16 o17 o18 : Option V), σ = [some (.ref a), some (.ref w1), o2, o3, o4, o5, o6, o7, o8, o9, o10, o11, o12, o13, o14, o15, o16, o17, o18] ∧ Wh H' w1 wc (5000 * i) ∧ Tabs (lamTab Pt) H')
      ⟨none, none, none, none, none, none, none, none, none, none, none, none, none, none, none, none, none, rfl, w0, T1⟩ (fun i σ' Hc hi h => ?_) (fun σ' Hc h => ?_)⟩
    · obtain ⟨o2, o3, o4, o5, o6, o7, o8, o9, o10, o11, o12, o13, o14, o15, o16, o17, o18, rfl, wi, Ti⟩ := h
      have mk : ∀ {xs : List V} {H0 : Hp} {p : Addr} {n : Nat} {Q : VK}, H0 p = none → Wh H0 w1 wc n → n < 1000000 → xs ≠ [] → xs.length ≤ 1000000 → (∀ v H', v ∈ xs → Mv w1 H0 H' → Wh H' w1 wc (n + 1) → Q v H') → sp_law_one K [.ref w1, .ref p] (upd H0 p (.lst xs)) Q E0 := fun {xs H0 p n Q} np w hn h0 hl q => by
        have hpw := w.ne np
        refine ⟨w1, p, wc, xs, n, rfl, .inl (.inl upd_same), h0, hl, w.new np, hn, fun H' m => .inl (.inl (m _ _ hpw upd_same)), fun v H' hv m w' => q v H' hv ((Mv.of (same_new np)).trans m) w'⟩
      dsimp only [gName]
      refine go_seq (go_asg ⟨_, rfl, _, rfl, w1, wc, 5, _, rfl, by decide, by decide, wi, by omega, fun k H1 k0 k1 m1 w1' => ?_⟩)
      obtain ⟨k, rfl⟩ : ∃ z : Nat, k = z := ⟨k.toNat, by omega⟩
      refine ⟨_, _, rfl, rfl, w1, wc, 1 + k, _, rfl, by omega, by omega, w1', by omega, fun p ws H2 hW hl hlow hpw m2 w2' => ?_⟩
      refine ⟨_, rfl, _, rfl, sz3, fun p1 n1 => mk n1 w2' (by omega) (by simp) (show 3 ≤ 1000000 by decide) fun v H3 hv m3 w3' => ?_⟩
      obtain ⟨sm, rfl, s0, s1⟩ : ∃ z : Int, v = .int z ∧ 1 ≤ z ∧ z ≤ 40 := by
        simp only [List.mem_cons, List.not_mem_nil, or_false] at hv
        rcases hv with rfl | rfl | rfl <;> exact ⟨_, rfl, by decide, by decide⟩
      refine ⟨w1, wc, sm, _, rfl, by omega, by omega, w3', by omega, fun st H4 t0 t1 m4 w4' => ?_⟩
      obtain ⟨st, rfl⟩ : ∃ z : Nat, st = z := ⟨st.toNat, by omega⟩
      refine ⟨_, _, rfl, rfl, sz2, fun p2 n2 => ?_⟩
      have s5 := same_new (o := HO.tup [V.ref p, V.int (1 + (st : Int))]) n2
      have hp5 := s5 _ _ ((m3.trans m4) _ _ hpw hW.1)
      have w5' := w4'.same s5
      have T5 := Tabs.mv Ti wi (((((m1.trans m2).trans m3).trans m4)).trans (Mv.of s5))
      refine ⟨p2, _, rfl, .inl (.inl upd_same), rfl, _, _, rfl, _, _, rfl, rfl, ?_⟩
      generalize upd H4 p2 (HO.tup [V.ref p, V.int (1 + (st : Int))]) = H5 at s5 hp5 w5' T5 ⊢
      obtain ⟨_, l1, l2, hw, nd⟩ := hW
      have l5 : ws.length ≤ 5 := by omega
      have lw : (ws.map tx).length = ws.length := List.length_map ..
      have m1' : 1 ≤ 1 + st := by omega
      have m2' : 1 + st ≤ 40 := by omega
      have est : V.int (1 + (st : Int)) = V.int ((1 + st : Nat) : Int) := rfl
      dsimp only [gName]
      rw [est]
      generalize 1 + st = m at m1' m2' ⊢
      clear est s5 n2 m4 m3 m2 m1 w4' w3' w2' w1' hv n1 Ti wi t0 t1 s0 s1 k1 k0
      refine go_seq (go_asg ⟨_, rfl, p, rfl, ⟨_, .inl (.inl hp5)⟩, fun D nD => lc_it (walk_list (xs := ws.map tx)) (fun j H' => H' p = some (.lst (ws.map tx)) ∧ Deeds w1 wc D H5 m (5000 * i + 20 + 110 * j) j H') ⟨same_new nD _ _ hp5, [], [], upd_same, rfl, rfl, (fun i q d h => by cases h), Mv.of (same_new nD), (w5'.new nD).lt (by omega)⟩ (fun j Hc hj h => .inl (.inl h.1)) (fun j x Hc Hx hj h y => ?_) (fun Hc h => ?_)⟩)
      · obtain ⟨rfl, hx⟩ := y
        obtain ⟨hpc, h⟩ := h
        have wj := h.choose_spec.choose_spec.2.2.2.2.2
        have hj' : j < 40 := by omega
        have hDp : D ≠ p := fun e => by
          rw [e, hp5] at nD
          cases nD
        refine ⟨rfl, ?_⟩
        refine iteT (B := True) ?_
        refine ⟨_, rfl, _, rfl, w1, wc, m, _, rfl, m1', m2', wj, by omega, fun q d H7 hd hq m7 w7 => ?_⟩
        obtain ⟨acc, a1, a2, a3⟩ := h.app (n' := 5000 * i + 20 + 110 * (j + 1)) nD w5' m7 (w7.lt (by omega)) m1' hd hq (by omega)
        exact ⟨acc, a1, a2, by rw [upd_ne hDp.symm]; exact m7 _ _ hpw hpc, a3⟩
      obtain ⟨hp6, ps, ds, g1, g2, g3, g4, mv6, w6⟩ := h
      have hD6 : DeedsAt Hc D ds m := ⟨ps, g1, by omega, fun i q d a b => (g4 i q d a b).1⟩
      have ldw : ds.length = ws.length := by omega
      have T6 := Tabs.mv T5 w5' mv6
      have hDw := w5'.ne nD
      have hda : ∀ d ∈ ds, d.length = m ∧ ∀ s ∈ d, s < m := fun d hd => by
        obtain ⟨j, hj, rfl⟩ := List.mem_iff_getElem.mp hd
        exact (g4 j _ _ (List.getElem?_eq_getElem (by omega)) (List.getElem?_eq_getElem hj)).1.2
      clear g1 g2 g3 g4 mv6 T5 w5' nD hp5
      dsimp only [gName]
      refine go_cons (go_cons (go_var rfl (go_nil fun bk dx0 nbk ndx _ => book_new nbk ndx (words_arg (.inl (.inl (.inl hp6))) l1 l2 (by decide) hw nd) ⟨p, rfl, .inl (.inl (.inl hp6))⟩ fun H7 e7 hB7 => ⟨rfl, ?_⟩)))
      refine go_nil ⟨sz2, fun p3 n3 => ?_⟩
      have e8 := same_new (o := HO.tup [V.ref D, V.ref bk]) n3
      have e68 := e7.trans e8
      have hp8 := e68 _ _ hp6
      have hD8 := hD6.same e68
      have T8 := Tabs.same T6 e68
      have w8 := w6.same e68
      have hB8 := hB7.same e8
      refine ⟨p3, _, rfl, .inl (.inl upd_same), rfl, _, _, rfl, _, _, rfl, rfl, ?_⟩
      generalize upd H7 p3 (HO.tup [V.ref D, V.ref bk]) = H8 at e8 e68 hp8 hD8 T8 w8 hB8 ⊢
      clear e7 e8 e68 hB7 nbk ndx n3 hp6 hD6 T6 w6
      obtain ⟨ps, g1, g2, g3⟩ := id hD8
      have gps : ∀ (j : Nat) (x : V), (ps.map V.ref)[j]? = some x → ∃ (y : Addr) (d : List Nat), x = .ref y ∧ ds[j]? = some d ∧ H8 y = some (.lst (nv d)) := fun j x hx => by
        obtain ⟨y, hy, rfl⟩ := ref_get hx
        obtain ⟨d, hd⟩ := deed_of g2 hy
        exact ⟨y, d, rfl, hd, (g3 j y d hy hd).1⟩
      have lps : (ps.map V.ref).length = ds.length := by rw [List.length_map, g2]
      refine go_seq (go_asg ⟨_, rfl, ?_⟩)
      refine ⟨_, rfl, D, rfl, ⟨_, .inl (.inl g1)⟩, fun D1 nD1 => lc_it (walk_list (xs := ps.map V.ref)) (fun j H' => Cop K false w1 D1 H8 ds j H') (.new nD1) (fun j Hc _ h => .inl (.inl (h.choose_spec.2.2.2 _ _ g1))) (fun j x Hc Hx hj h y => ?_) (fun Hc h => ?_)⟩
      · obtain ⟨rfl, hx⟩ := y
        obtain ⟨y, d, rfl, hd, gy⟩ := gps j x hx
        have e := h.choose_spec.2.2.2
        refine ⟨rfl, ?_⟩
        refine iteT (B := True) ?_
        refine ⟨_, rfl, y, _, rfl, .inl (.inl (.inl (e _ _ gy))), fun l nl => ?_⟩
        exact h.app nD1 (same_new nl) (.inl (.inl (.inl upd_same))) (fun z => by cases z) (ne_of_none h.choose_spec.1 nl).symm ((w8.same e).ne nl) hd (by omega)
      rw [lps] at h
      obtain ⟨qs, c1, c2, c3, c4⟩ := h
      have w9 := w8.same c4
      have g19 := c4 _ _ g1
      refine ⟨_, rfl, D, rfl, ⟨_, .inl (.inl g19)⟩, fun D2 nD2 => lc_it (walk_list (xs := ps.map V.ref)) (fun j H' => Cop K true w1 D2 Hc ds j H') (.new nD2) (fun j Hc _ h => .inl (.inl (h.choose_spec.2.2.2 _ _ g19))) (fun j x Hc' Hx hj h y => ?_) (fun Hd h => ?_)⟩
      · obtain ⟨rfl, hx⟩ := y
        obtain ⟨y, d, rfl, hd, gy⟩ := gps j x hx
        have e := h.choose_spec.2.2.2
        refine ⟨rfl, ?_⟩
        refine iteT (B := True) ?_
        refine ⟨_, rfl, y, _, rfl, .inl ⟨.inl (.inl (e _ _ (c4 _ _ gy))), fun l o nl hdn => ?_⟩⟩
        exact h.app nD2 (same_new nl) (.inr (.inl (.inr ⟨o, upd_same⟩))) (fun _ => .inl (.inr ⟨o, upd_same⟩)) (ne_of_none h.choose_spec.1 nl).symm ((w9.same e).ne nl) hd (by omega)
      rw [lps] at h
      obtain ⟨rs, d1, d2, d3, d4⟩ := h
      have w10 := w9.same d4
      refine ⟨D2, _, rfl, .inl ⟨.inl (.inl d1), fun t0 o0 nt0 hdn => ?_⟩⟩
      have e5 := same_new (o := HO.frz o0 (.tup (rs.map V.ref))) nt0
      have ht0 : upd Hd t0 (HO.frz o0 (.tup (rs.map V.ref))) t0 = some (.frz o0 (.tup (rs.map V.ref))) := upd_same
      refine ⟨sz2, fun p4 n4 => ?_⟩
      have e6 := same_new (o := HO.lst [V.ref D1, V.ref t0]) n4
      have eAll := e5.trans e6
      have w11 := w10.same e5
      have dD1 := w8.ne nD1
      have dt0 := w10.ne nt0
      refine mk n4 w11 (by omega) (by simp) (show 2 ≤ 1000000 by decide) fun v H9 hv m9 w9' => ?_
      have mvZ : Mv w1 Hd H9 := (Mv.of e5).trans m9
      obtain ⟨pa, rfl, hpq, hpw2, hpc2, hfr, hkind⟩ : ∃ pa : Addr, v = .ref pa ∧ DeedsQ K H9 pa ds m ∧ pa ≠ w1 ∧ pa ≠ wc ∧ (∀ b o, H8 b = some o → b ≠ pa) ∧ ((∃ xs, H9 pa = some (.lst xs) ∧ xs.length = ds.length) ∨ ∃ o xs, H9 pa = some (.frz o (.tup xs))) := by
        simp only [List.mem_cons, List.not_mem_nil, or_false] at hv
        rcases hv with rfl | rfl
        · have x1 := mvZ _ _ dD1 (d4 _ _ c1)
          refine ⟨D1, rfl, .of (.inl (.inl (.inl x1))) c2 hda (fun i q d a b => sqQ_mv (c3 i q d a b).2.2.2 mvZ (Same.q d4 (c3 i q d a b).1)), dD1, w8.nc nD1, fun b o h => ne_of_none h nD1, .inl ⟨_, x1, by rw [List.length_map, c2]⟩⟩
        · have x1 := m9 _ _ dt0 ht0
          refine ⟨t0, rfl, .of (.inr (.inl (.inr ⟨_, x1⟩))) d2 hda (fun i q d a b => sqQ_mv (d3 i q d a b).2.2.2 mvZ (d3 i q d a b).1), dt0, w10.nc nt0, fun b o h => ne_of_none (d4 _ _ (c4 _ _ h)) nt0, .inr ⟨_, _, x1⟩⟩
      have mvY : Mv w1 H8 H9 := (Mv.of (c4.trans d4)).trans mvZ
      have hp9 := mvY _ _ hpw hp8
      have hD9 : DeedsAt H9 D ds m := ⟨ps, mvY _ _ hDw g1, g2, fun i q d a b => ⟨mvY _ _ (wh_ne_nums w8 (g3 i q d a b).1) (g3 i q d a b).1, (g3 i q d a b).2⟩⟩
      have hfp : p ≠ pa := hfr _ _ hp8
      have hDm : ∀ H', Mv pa H9 H' → DeedsAt H' D ds m := fun H' mv => ⟨ps, mv _ _ (hfr _ _ g1) (mvY _ _ hDw g1), g2, fun i q d a b => ⟨mv _ _ (hfr _ _ (g3 i q d a b).1) (mvY _ _ (wh_ne_nums w8 (g3 i q d a b).1) (g3 i q d a b).1), (g3 i q d a b).2⟩⟩
      obtain ⟨xsw, hxw⟩ := wh_lst w8
      have hB9 := hB8.mvL hxw mvY
      have T9 := Tabs.mv T8 w8 mvY
      clear c1 c2 c3 c4 d1 d2 d3 d4 e5 e6 eAll ht0 n4 nt0 nD2 nD1 w9 w10 w11 g19 g1 g2 g3 gps hfr mvZ mvY m9 hv hxw hp8 hD8 T8 w8 hB8 dD1 dt0
      dsimp only [gName]
      refine go_seq (go_asg ⟨_, rfl, _, rfl, rfl, rfl, fun x dx nx ndx _ => mach_newQ nx ndx hB9 hpq ldw (by omega) (by omega) m1' m2' fun H10 e10 hM => ⟨rfl, ?_⟩⟩)
      have hk10 : (∃ xs, H10 pa = some (.lst xs) ∧ 1 ≤ xs.length) ∨ ∃ o xs, H10 pa = some (.frz o (.tup xs)) := by
        rcases hkind with ⟨xs, h1, h2⟩ | ⟨o, xs, h1⟩
        · exact .inl ⟨xs, e10 _ _ h1, by omega⟩
        · exact .inr ⟨o, xs, e10 _ _ h1⟩
      dsimp only [gName]
      refine go_seq (pop_ok rfl hk10 fun Hz hz => ?_)
      have FZ : Hz p = some (.lst (ws.map tx)) ∧ DeedsAt Hz D ds m ∧ BookAt K T.C_Book Hz bk ws ∧ MachAt K T.C_Book T.C_Machine Hz x ws ds m ∧ (∃ n, n ≤ 5000 * i + 1000 ∧ Wh Hz w1 wc n) ∧ Tabs (lamTab Pt) Hz := by
        have w10 := w9'.same e10
        rcases hz with rfl | ⟨xs, ys, hx, rfl⟩
        · exact ⟨e10 _ _ hp9, hD9.same e10, hB9.same e10, hM, ⟨_, by omega, w10⟩, Tabs.same T9 e10⟩
        · have mz : Mv pa H10 (upd H10 pa (.lst ys)) := mv_put
          exact ⟨mz _ _ hfp (e10 _ _ hp9), hDm _ (Mv.trans (Mv.of e10) mz), (hB9.same e10).mvL hx mz, hM.mvL hx mz, ⟨_, by omega, w10.set hpw2 hpc2⟩, tabs_put (Tabs.same T9 e10) hx mz⟩
      obtain ⟨hp11, hD11, hB11, hM11, ⟨nz, lz, w11⟩, T11⟩ := FZ
      clear hz hk10 hkind hpq hpw2 hpc2 nx ndx e10 hM hDm hfp hp9 hD9 hB9 w9' T9
      obtain ⟨ps, g1, g2, g3⟩ := id hD11
      have gps : ∀ (j : Nat) (x : V), (ps.map V.ref)[j]? = some x → ∃ (y : Addr) (d : List Nat), x = .ref y ∧ ds[j]? = some d ∧ Hz y = some (.lst (nv d)) := fun j x hx => by
        obtain ⟨y, hy, rfl⟩ := ref_get hx
        obtain ⟨d, hd⟩ := deed_of g2 hy
        exact ⟨y, d, rfl, hd, (g3 j y d hy hd).1⟩
      have lps : (ps.map V.ref).length = ds.length := by rw [List.length_map, g2]
      dsimp only
      refine go_seq (go_asg (go_cb (go_cons ?_)))
      refine ⟨_, rfl, D, rfl, ⟨_, .inl (.inl g1)⟩, fun D2 nD2 => lc_it (walk_list (xs := ps.map V.ref)) (fun j H' => Cop K true w1 D2 Hz ds j H') (.new nD2) (fun j Hc _ h => .inl (.inl (h.choose_spec.2.2.2 _ _ g1))) (fun j x Hc' Hx hj h y => ?_) (fun Hd h => ?_)⟩
      · obtain ⟨rfl, hx⟩ := y
        obtain ⟨y, d, rfl, hd, gy⟩ := gps j x hx
        have e := h.choose_spec.2.2.2
        refine ⟨rfl, ?_⟩
        refine iteT (B := True) ?_
        refine ⟨_, rfl, y, _, rfl, .inl ⟨.inl (.inl (e _ _ gy)), fun l o nl hdn => ?_⟩⟩
        exact h.app nD2 (same_new nl) (.inr (.inl (.inr ⟨o, upd_same⟩))) (fun _ => .inl (.inr ⟨o, upd_same⟩)) (ne_of_none h.choose_spec.1 nl).symm ((w11.same e).ne nl) hd (by omega)
      rw [lps] at h
      obtain ⟨rs, d1, d2, d3, d4⟩ := h
      refine go_nil ⟨D2, _, rfl, .inl ⟨.inl (.inl d1), fun t1 o1 nt1 hdn => ?_⟩⟩
      have e5 := d4.trans (same_new (o := HO.frz o1 (.tup (rs.map V.ref))) nt1)
      have ht1 : upd Hd t1 (HO.frz o1 (.tup (rs.map V.ref))) t1 = some (.frz o1 (.tup (rs.map V.ref))) := upd_same
      have hQ1 : DeedsQ K (upd Hd t1 (HO.frz o1 (.tup (rs.map V.ref)))) t1 ds m := .of (.inr (.inl (.inr ⟨_, ht1⟩))) d2 hda (fun i q d a b => Same.q (same_new nt1) (d3 i q d a b).1)
      have hT1 : TupsAt K (upd Hd t1 (HO.frz o1 (.tup (rs.map V.ref)))) t1 ds := ⟨rs, .inl (.inr ⟨_, ht1⟩), d2, fun i q d a b => Same.t (same_new nt1) ((d3 i q d a b).2.1 rfl)⟩
      · have hp12 := e5 _ _ hp11
        have hD12 := hD11.same e5
        have hB12 := hB11.same e5
        have hM12 := hM11.same e5
        have w12 := w11.same e5
        have T12 := Tabs.same T11 e5
        generalize upd Hd t1 (HO.frz o1 (.tup (rs.map V.ref))) = H12 at e5 ht1 hQ1 hT1 hp12 hD12 hB12 hM12 w12 T12 ⊢
        clear hp11 hD11 hB11 hM11 w11 T11 d1 d2 d3 d4 nt1 nD2 gps g1 g3 e5
        dsimp only [gName]
        obtain ⟨dx1, bk1, tt1, hx12, hb12, htt⟩ := id hM12
        refine go_seq (go_if (go_or2 (nerepr_t (.list [.tuple (dsD ds), .int (m : Nat)]) (sh_deeds hda (by omega) m2') (by decide) (by decide) (fun Q q => ?_) (fun H0 e0 Q q => ?_) (fun H13 e13 => iteF (A := _) ?_))))
        · refine go_lst (go_cons ⟨_, rfl, x, T.C_Machine, dx1, _, .ref tt1, rfl, hx12, T.cl_Machine, T.na_Machine_deeds, rfl, ?_⟩)
          refine go_cons ⟨_, rfl, x, T.C_Machine, dx1, _, .int (m : Nat), rfl, hx12, T.cl_Machine, T.na_Machine_states, rfl, ?_⟩
          exact go_nil ⟨sz2, fun u nu => q u _ (same_new nu) (.lst (.inl (.inl upd_same)) (.cons (dp_tups (htt.same (same_new nu))) (.cons (.int _) .nil)))⟩
        · refine go_lst (go_cons (go_var rfl (go_cons (go_var rfl (go_nil ⟨sz2, fun u nu => ?_⟩)))))
          exact q u _ (same_new nu) (.lst (.inl (.inl upd_same)) (.cons (dp_tups (hT1.same (e0.trans (same_new nu)))) (.cons (.int _) .nil)))
        have hc : ∀ w ∈ ws, cdC w := fun w hm => word_cdC (hw w hm)
        refine go_or2 (go_test (go_op ⟨_, rfl, x, T.C_Machine, dx1, _, .ref bk1, rfl, e13 _ _ hx12, T.cl_Machine, T.na_Machine_book, rfl, go_var rfl (book_ne_ok (hb12.same e13) (hB12.same e13) hc ⟨_, rfl, iteF (A := _) ?_⟩)⟩))
        refine go_test (go_op (go_var rfl ?_))
        refine ⟨_, rfl, _, rfl, fun y dy ny ndy _ => mach_newQ ny ndy (hB12.same e13) (hQ1.same e13) ldw (by omega) (by omega) m1' m2' fun H14 e14 hM14 => ⟨rfl, mach_ne_ok ((hM12.same e13).same e14) hM14 hc ⟨_, rfl, iteF (A := _) ?_⟩⟩⟩
        dsimp only [tNext]
        have eA := e13.trans e14
        have hp15 := eA _ _ hp12
        have hD15 := hD12.same eA
        have hB15 := hB12.same eA
        have hM15 := hM12.same eA
        have w15 := w12.same eA
        have T15 := Tabs.same T12 eA
        have hQ15 := hQ1.same eA
        have ht15 := eA _ _ ht1
        clear hp12 hD12 hB12 hM12 w12 T12 hQ1 ht1 e13 e14 eA hM14 ny ndy hx12 hb12 htt hT1
        refine go_seq (go_asg (other_ok rfl rfl rfl hp15 hD15 (by omega) (by omega) ldw m1' m2' fun o ds2 k2 H16 e16 hO lo1 k21 k22 hne => ?_))
        dsimp only [gName]
        have eB := e16
        have hB16 := hB15.same e16
        have hM16 := hM15.same e16
        have hQ16 := hQ15.same e16
        refine go_seq (go_if (go_or2 (and_no rfl (fun hm40 R' r' => ?_) (fun H17 e17 => iteF (A := _) ?_))))
        · refine go_test (go_op (go_var rfl ⟨_, rfl, _, rfl, fun y dy ny ndy _ => mach_newQ ny ndy hB16 hO (by omega) (by omega) (by omega) k21 (k22 hm40) fun H' e hM' => ⟨rfl, mach_eq_no (hM16.same e) hM' hc hc (.inr hne) ⟨_, rfl, r' _ e⟩⟩⟩))
        have zz : ([122, 122] : List Nat) ∉ ws := fun hm => by
          have := hlow _ hm 122 (by simp)
          omega
        have hp17 := (e16.trans e17) _ _ hp15
        refine go_or2 (go_test (go_op (go_var rfl ?_)))
        refine ⟨_, rfl, 1, rfl, -1, rfl, p, _, rfl, .inl (.inl hp17), fun q1 n1 => ⟨sz1, fun q2 n2 => ⟨q1, q2, _, _, rfl, rfl, same_new n2 _ _ upd_same, upd_same, ?_, fun q3 n3 => ?_⟩⟩⟩
        · rw [cut_last, List.length_take, lw]
          exact Nat.le_trans (show min (ws.length - 1) ws.length + 1 ≤ 41 by omega) (by decide)
        have ex : cutV (ws.map tx) none (some (-1)) ++ [V.str "zz"] = (ws.take (ws.length - 1) ++ [[122, 122]]).map tx := by
          rw [cut_last, lw, List.map_append, List.map_take]
          rfl
        rw [ex]
        have e3 := ((same_new (o := HO.lst (cutV (ws.map tx) none (some (-1)))) n1).trans (same_new (o := HO.lst [V.str "zz"]) n2)).trans (same_new (o := HO.lst ((ws.take (ws.length - 1) ++ [[122, 122]]).map tx)) n3)
        have hq3 : upd (upd (upd H17 q1 (HO.lst (cutV (ws.map tx) none (some (-1))))) q2 (HO.lst [V.str "zz"])) q3 (HO.lst ((ws.take (ws.length - 1) ++ [[122, 122]]).map tx)) q3 = some (.lst ((ws.take (ws.length - 1) ++ [[122, 122]]).map tx)) := upd_same
        generalize upd (upd (upd H17 q1 (HO.lst (cutV (ws.map tx) none (some (-1))))) q2 (HO.lst [V.str "zz"])) q3 (HO.lst ((ws.take (ws.length - 1) ++ [[122, 122]]).map tx)) = H18 at e3 hq3 ⊢
        have l2' : (ws.take (ws.length - 1) ++ [[122, 122]]).length = ws.length := by
          rw [List.length_append, List.length_take]
          show min (ws.length - 1) ws.length + 1 = _
          omega
        have hw2 : ∀ w ∈ ws.take (ws.length - 1) ++ [[122, 122]], wordB w = true := fun w hm => by
          rcases List.mem_append.mp hm with hm | hm
          · exact hw w (List.mem_of_mem_take hm)
          · rw [List.mem_singleton.mp hm]
            decide
        have nd2 : (ws.take (ws.length - 1) ++ [[122, 122]]).Nodup := by
          refine List.nodup_append.mpr ⟨nd.sublist (List.take_sublist _ _), by simp, fun x hx y hy e => ?_⟩
          rw [List.mem_singleton.mp hy] at e
          rw [e] at hx
          exact zz (List.mem_of_mem_take hx)
        have ws_ne : ws ≠ ws.take (ws.length - 1) ++ [[122, 122]] := fun z => zz (by
          rw [z]
          simp)
        have hc2 : ∀ w ∈ ws.take (ws.length - 1) ++ [[122, 122]], cdC w := fun w hm => word_cdC (hw2 w hm)
        clear ex n1 n2 n3
        generalize ws.take (ws.length - 1) ++ [[122, 122]] = ws2 at hq3 l2' hw2 nd2 ws_ne hc2 ⊢
        have eC := e16.trans (e17.trans e3)
        have hM18 := hM15.same eC
        have hQ18 := hQ15.same eC
        refine fun bk2 dk nbk ndk _ => book_new nbk ndk (words_arg (.inl (.inl (.inl hq3))) (by omega) (by omega) (by decide) hw2 nd2) ⟨q3, rfl, .inl (.inl (.inl hq3))⟩ fun H19 e19 hB19 => ⟨rfl, ?_⟩
        refine ⟨_, rfl, fun y dy ny ndy _ => mach_newQ ny ndy hB19 (hQ18.same e19) (by omega) (by omega) (by omega) m1' m2' fun H20 e20 hM' => ⟨rfl, mach_eq_no ((hM18.same e19).same e20) hM' hc hc2 (.inl ws_ne) ⟨_, rfl, iteF (A := _) ?_⟩⟩⟩
        have eD := eC.trans (e19.trans e20)
        refine go_test (go_op (go_var rfl (go_var rfl (mach_eq_seq (xs := rs.map V.ref) (hM15.same eD) (.inr (.inl (.inr ⟨_, eD _ _ ht15⟩))) hc ⟨_, rfl, iteF (A := _) ?_⟩))))
        dsimp only [tNext]
        have hp21 := eD _ _ hp15
        have hD21 := hD15.same eD
        have hB21 := hB15.same eD
        have hM21 := hM15.same eD
        have w21 := w15.same eD
        have T21 := Tabs.same T15 eD
        have ht21 := eD _ _ ht15
        clear eD eC e19 e20 e3 hq3 hM' hB19 hM18 hQ18 e16 e17 hp17 hB16 hM16 hQ16 hp15 hD15 hB15 hM15 w15 T15 hQ15 ht15 hO ny ndy nbk ndk
        refine go_seq (go_if (go_not (go_b ⟨_, rfl, _, rfl, _, rfl, _, rfl, w1, wc, x, p, D, ws, ds, m, nz, rfl, ⟨hM21, hp21, hD21, w21⟩, ⟨ldw.symm, l2, nd, hda⟩, l1, hw, m1', m2', by omega, fun H22 mv22 w22 => ⟨_, rfl, iteF (A := _) ?_⟩⟩)))
        dsimp only [tNext]
        obtain ⟨xsw, hxw⟩ := wh_lst w21
        have hp22 := mv22 _ _ (wh_ne_words w21 hp21) hp21
        have hD22 := hD21.mvA w21 mv22
        have hB22 := hB21.mvL hxw mv22
        have hM22 := hM21.mvL hxw mv22
        have T22 := Tabs.mv T21 w21 mv22
        have dt1 : t1 ≠ w1 := ne_of_two ht21 hxw (fun z => by cases z)
        have ht22 := mv22 _ _ dt1 ht21
        clear hp21 hD21 hB21 hM21 T21 w21 mv22 hxw ht21
        refine go_seq (go_asg (go_cons ⟨_, rfl, _, rfl, _, rfl, sz5, fun u1 nu1 => mk nu1 w22 (by omega) (by simp) (show 5 ≤ 1000000 by decide) fun no H23 hno m23 w23 => ?_⟩))
        have hN23 : NotN K T.C_Book (core w1 H23) no := by
          simp only [List.mem_cons, List.not_mem_nil, or_false] at hno
          rcases hno with rfl | rfl | rfl | rfl | rfl
          · exact ⟨_, .base .non, kitOne_no T.kc_Book T.kt_Book sub_non⟩
          · exact ⟨_, .base (.int 5), kitOne_no T.kc_Book T.kt_Book sub_int⟩
          · exact ⟨_, tyL (.inl (.inl (core_at (m23 _ _ (wh_ne_words w22 hp22) hp22) (wh_ne_words w22 hp22) (fun ps z => by cases z)))), kitOne_no T.kc_Book T.kt_Book sub_list⟩
          · exact ⟨_, .base (.str _), kitOne_no T.kc_Book T.kt_Book sub_str⟩
          · exact ⟨_, tyT (.inl (.inr ⟨_, core_at (m23 _ _ dt1 ht22) dt1 (fun ps z => by cases z)⟩)), kitOne_no T.kc_Book T.kt_Book sub_tuple⟩
        have hp23 := m23 _ _ (wh_ne_words w22 hp22) hp22
        have hD23 := hD22.mvA w22 m23
        obtain ⟨xsw2, hxw⟩ := wh_lst w22
        have hB23 := hB22.mvL hxw m23
        have hM23 := hM22.mvL hxw m23
        have T23 := Tabs.mv T22 w22 m23
        clear hno nu1 hp22 hD22 hB22 hM22 T22 w22 m23 hxw ht22 dt1
        refine go_cons ⟨_, rfl, _, rfl, _, rfl, w1, wc, D, ds, m, _, rfl, hD23, by omega, by omega, m1', m2', w23, by omega, fun od H24 hod m24 w24 => ?_⟩
        rw [ldw] at hod
        obtain ⟨xsw3, hxw⟩ := wh_lst w23
        have N24 : Nw K T.C_Book T.C_Machine Pt w1 wc p bk x ws ds m _ no od H24 [.non, .int 5, .str "0"] := ⟨m24 _ _ (wh_ne_words w23 hp23) hp23, hB23.mvL hxw m24, hM23.mvL hxw m24, w24, Tabs.mv T23 w23 m24, hN23.same (core_step m24), hod, fun v hv => by
          simp only [List.mem_cons, List.not_mem_nil, or_false] at hv
          rcases hv with rfl | rfl | rfl
          · exact .inl ⟨rfl, _, .base .non, no_list (by decide +kernel) (by decide +kernel)⟩
          · exact .inl ⟨rfl, _, .base (.int 5), no_list (by decide +kernel) (by decide +kernel)⟩
          · exact .inl ⟨rfl, _, .base (.str _), no_list (by decide +kernel) (by decide +kernel)⟩⟩
        clear hp23 hD23 hB23 hM23 T23 w23 m24 hxw hN23 hod w24
        refine go_nil ⟨sz2, fun u4 nu4 => ?_⟩
        have N25 := N24.same (same_new (o := HO.tup [no, od]) nu4)
        refine ⟨u4, _, rfl, .inl (.inl upd_same), rfl, _, _, rfl, _, _, rfl, rfl, ?_⟩
        generalize upd H24 u4 (HO.tup [no, od]) = H25 at N25 ⊢
        clear N24 nu4
        dsimp only
        refine go_seq (go_asg ⟨_, rfl, ?_⟩)
        refine go_lst (go_cons (go_c (go_cons (go_c (go_cons (go_lst (go_cons ?_)))))))
        refine ⟨_, rfl, p, _, rfl, .inl (.inl (.inl N25.p)), sz1, fun p1 n1 => ?_⟩
        rw [lw]
        have N26 := (N25.same (same_new (o := HO.lst [V.int (ws.length : Nat)]) n1)).add (v := .ref p1) (row_one (lst_core upd_same (N25.wh.ne n1)) (hasInt_int _) (by
          show (decide ((0 : Int) ≤ (ws.length : Int)) && decide ((ws.length : Int) ≤ (ws.length : Int) - 1)) = false
          rw [decide_eq_false (p := ((ws.length : Int) ≤ (ws.length : Int) - 1)) (by omega), Bool.and_false]))
        generalize upd H25 p1 (HO.lst [V.int (ws.length : Nat)]) = H26 at N26 ⊢
        clear N25 n1
        refine go_cons (go_lst (go_cons ⟨1, rfl, go_nil ⟨sz1, fun p2 n2 => ?_⟩⟩))
        have N27 := (N26.same (same_new (o := HO.lst [V.int (-1)]) n2)).add (v := .ref p2) (row_one (lst_core upd_same (N26.wh.ne n2)) (hasInt_int _) rfl)
        generalize upd H26 p2 (HO.lst [V.int (-1)]) = H27 at N27 ⊢
        clear N26 n2
        refine go_cons (go_lst (go_cons (go_c (go_nil ⟨sz1, fun p3 n3 => ?_⟩))))
        have N28 := (N27.same (same_new (o := HO.lst [V.bl true]) n3)).add (v := .ref p3) (row_one (lst_core upd_same (N27.wh.ne n3)) (hasInt_bl _) rfl)
        generalize upd H27 p3 (HO.lst [V.bl true]) = H28 at N28 ⊢
        clear N27 n3
        refine go_cons (go_c (go_cons (go_lst (go_cons (go_c (go_nil ⟨sz1, fun p4 n4 => ?_⟩))))))
        have N29 := (N28.same (same_new (o := HO.lst [V.non]) n4)).add (v := .ref p4) (row_one (lst_core upd_same (N28.wh.ne n4)) hasInt_non rfl)
        generalize upd H28 p4 (HO.lst [V.non]) = H29 at N29 ⊢
        clear N28 n4
        refine go_cons (go_lst (go_cons (go_lst (go_cons (go_c (go_nil ⟨sz1, fun p5 n5 => ?_⟩))))))
        have N30 := N29.same (same_new (o := HO.lst [V.int 0]) n5)
        have hp5 : upd H29 p5 (HO.lst [V.int 0]) p5 = some (.lst [V.int 0]) := upd_same
        have dp5 := N29.wh.ne n5
        generalize upd H29 p5 (HO.lst [V.int 0]) = H30 at N30 hp5 ⊢
        clear N29 n5
        refine go_nil ⟨sz1, fun p6 n6 => ?_⟩
        have x6 := same_new (o := HO.lst [V.ref p5]) n6
        have N31 := (N30.same x6).add (v := .ref p6) (row_one (lst_core upd_same (N30.wh.ne n6)) (hasInt_lst (.inl (.inl (core_at (x6 _ _ hp5) dp5 (fun ps z => by cases z))))) rfl)
        generalize upd H30 p6 (HO.lst [V.ref p5]) = H31 at N31 x6 ⊢
        clear N30 n6 x6 hp5 dp5
        refine go_cons (go_op (go_lst (go_cons (go_c (go_nil ⟨sz1, fun p7 n7 => ?_⟩)))))
        have N32 := N31.same (same_new (o := HO.lst [V.int 0]) n7)
        have hp7 : upd H31 p7 (HO.lst [V.int 0]) p7 = some (.lst [V.int 0]) := upd_same
        generalize upd H31 p7 (HO.lst [V.int 0]) = H32 at N32 hp7 ⊢
        clear N31 n7
        refine go_c ⟨p7, 10001, _, rfl, rfl, hp7, by decide, by decide, (show 1 * 10001 ≤ sizeLine by decide), fun p8 n8 => ?_⟩
        rw [show (10001 : Int).toNat = 10001 from rfl, rep_one]
        have N33 := (N32.same (same_new (o := HO.lst (List.replicate 10001 (V.int 0))) n8)).add (v := .ref p8) (row_wide (lst_core upd_same (N32.wh.ne n8)))
        generalize upd H32 p8 (HO.lst (List.replicate 10001 (V.int 0))) = H33 at N33 ⊢
        clear N32 n8 hp7
        refine go_nil ⟨(show 9 ≤ sizeLine by decide), fun u5 nu5 => mk nu5 N33.wh (by omega) (by simp) (show 9 ≤ 1000000 by decide) fun bad H34 hbad m34 w34 => ?_⟩
        have N34 := N33.mv m34 w34
        have R34 : RowArg K (core w1 H34) bad ws.length false := N34.ba bad (by
          simp only [List.mem_cons, List.not_mem_nil, or_false] at hbad ⊢
          rcases hbad with h | h | h | h | h | h | h | h | h <;> simp [h])
        clear N33 hbad m34 nu5 w34
        dsimp only [gName]
        refine go_seq (go_asg (go_cons ⟨_, rfl, _, rfl, 1, rfl, sz1, fun q1 n1 => ⟨(show 6 ≤ sizeLine by decide), fun q2 n2 => ?_⟩⟩))
        have N35 := N34.same (same_new (o := HO.lst [V.int 0]) n1)
        have R35 := R34.same (core_step (Mv.of (same_new (o := HO.lst [V.int 0]) n1)))
        have hq1 : upd H34 q1 (HO.lst [V.int 0]) q1 = some (.lst [V.int 0]) := upd_same
        have dq1 := N34.wh.ne n1
        generalize upd H34 q1 (HO.lst [V.int 0]) = H35 at N35 R35 hq1 n2 ⊢
        refine mk n2 N35.wh (by omega) (by simp) (show 6 ≤ 1000000 by decide) fun low H36 hlow m36 w36 => ?_
        have N36 := N35.mv m36 w36
        have R36 := R35.same (core_step m36)
        have L36 : HasInt K (core w1 H36) low ∧ withinV low (some 0) (some ((m : Int) - 1)) = false := by
          simp only [List.mem_cons, List.not_mem_nil, or_false] at hlow
          rcases hlow with rfl | rfl | rfl | rfl | rfl | rfl
          · refine ⟨hasInt_int _, ?_⟩
            show (decide ((0 : Int) ≤ (m : Int)) && decide ((m : Int) ≤ (m : Int) - 1)) = false
            rw [decide_eq_false (p := ((m : Int) ≤ (m : Int) - 1)) (by omega), Bool.and_false]
          · exact ⟨hasInt_int _, rfl⟩
          · exact ⟨hasInt_non, rfl⟩
          · exact ⟨hasInt_bl _, rfl⟩
          · exact ⟨hasInt_str _, rfl⟩
          · exact ⟨hasInt_lst (.inl (.inl (core_at (m36 _ _ dq1 hq1) dq1 (fun ps z => by cases z)))), rfl⟩
        clear N34 N35 R34 R35 hlow hq1 dq1 n1 n2 m36 w36
        refine go_cons ⟨_, rfl, sz1, fun q3 n3 => ⟨sz4, fun q4 n4 => ?_⟩⟩
        have x3 := same_new (o := HO.lst [V.str "a"]) n3
        have N37 := N36.same x3
        have R37 := R36.same (core_step (Mv.of x3))
        have L37 := And.intro (L36.1.same (core_step (Mv.of x3))) L36.2
        have hq3 : upd H36 q3 (HO.lst [V.str "a"]) q3 = some (.lst [V.str "a"]) := upd_same
        have dq3 := N36.wh.ne n3
        generalize upd H36 q3 (HO.lst [V.str "a"]) = H37 at N37 R37 L37 hq3 n4 x3 ⊢
        refine mk n4 N37.wh (by omega) (by simp) (show 4 ≤ 1000000 by decide) fun wrong H38 hwrong m38 w38 => ?_
        have N38 := N37.mv m38 w38
        have R38 := R37.same (core_step m38)
        have L38 := And.intro (L37.1.same (core_step m38)) L37.2
        have W38 : ∃ o, StrIs K (core w1 H38) wrong o ∧ o.elim false textB = false := by
          simp only [List.mem_cons, List.not_mem_nil, or_false] at hwrong
          rcases hwrong with rfl | rfl | rfl | rfl
          · exact ⟨none, str_none (.base .non) (by decide +kernel), rfl⟩
          · exact ⟨none, str_none (.base (.int 5)) (by decide +kernel), rfl⟩
          · exact ⟨some [65], ⟨rfl, by decide⟩, by decide⟩
          · exact ⟨none, str_none (tyL (.inl (.inl (core_at (m38 _ _ dq3 hq3) dq3 (fun ps z => by cases z))))) (by decide +kernel), rfl⟩
        clear N36 N37 R36 R37 L36 L37 hwrong hq3 dq3 n3 n4 m38 w38 x3
        refine go_nil ⟨sz2, fun u6 nu6 => ?_⟩
        have x6 := same_new (o := HO.tup [low, wrong]) nu6
        have N39 := N38.same x6
        have R39 := (R38.same (core_step (Mv.of x6))).same core_sub
        have L39 := And.intro ((L38.1.same (core_step (Mv.of x6))).same core_sub) L38.2
        obtain ⟨ow, W39, hw0⟩ := W38
        have W39 := (W39.same (core_step (Mv.of x6))).same core_sub
        refine ⟨u6, _, rfl, .inl (.inl upd_same), rfl, _, _, rfl, _, _, rfl, rfl, ?_⟩
        generalize upd H38 u6 (HO.tup [low, wrong]) = H39 at N39 R39 L39 W39 ⊢
        have hno := N39.no.same core_sub
        have hod := N39.od.same core_sub
        obtain ⟨_, hB, hM, hWh, hT, _, _, _⟩ := N39
        have hF : Fits ws ds m := ⟨ldw.symm, l2, nd, hda⟩
        clear N38 R38 L38 nu6 x6
        dsimp only
        refine go_seq (go_asg (go_lst (go_cons ?_)))
        refine ⟨hT, fun H41 e41 T41 Nn1 => ?_⟩
        refine ⟨_, rfl, _, rfl, fun y dy ny ndy _ => mach_nobook ny ndy (hno.ext e41) fun d H42 e42 hd => ⟨d, .str "book", "book", .inr (.inr (.inl ⟨rfl, rfl⟩)), rfl, hd, fun v1 H43 e43 hv1 => ?_⟩⟩
        have E43 := e41.trans (ExtN.of (e42.trans e43))
        have T43 := T41.ext (e42.trans e43)
        clear e41 e42 e43 T41 hd ny ndy Nn1
        refine go_cons ?_
        refine ⟨T43, fun H44 e44 T44 Nn2 => ?_⟩
        have E44 := E43.trans e44
        refine ⟨_, rfl, _, rfl, fun y dy ny ndy _ => mach_nodeeds ny ndy (hB.ext E44) l1 (hod.ext E44) fun d H45 e45 hd => ⟨d, .str "deeds", "machine", .inl ⟨rfl, rfl⟩, rfl, hd, fun v2 H46 e46 hv2 => ?_⟩⟩
        have x46 := e44.trans (ExtN.of (e45.trans e46))
        have E46 := E43.trans x46
        have T46 := T44.ext (e45.trans e46)
        have hv1 := ext_at x46 hv1
        clear e44 e45 e46 T44 hd ny ndy Nn2 x46 E44
        refine go_cons ?_
        refine ⟨T46, fun H47 e47 T47 Nn3 => ?_⟩
        have E47 := E46.trans e47
        obtain ⟨dx1, bk1, tt1, hx1, _, _⟩ := id (hM.ext E47)
        refine ⟨_, rfl, x, dx1, _, rfl, hx1, rfl, _, rfl, _, rfl, x, ws, ds, m, bad, low, false, rfl, hM.ext E47, hF, R39.ext E47, hasInt_ext E47 L39.1, .inl ⟨rfl, fun d H48 e48 hd => ⟨d, .str "row", "row", .inr (.inr (.inr (.inr ⟨rfl, rfl⟩))), rfl, hd, fun v3 H49 e49 hv3 => ?_⟩⟩⟩
        have x49 := e47.trans (ExtN.of (e48.trans e49))
        have E49 := E46.trans x49
        have T49 := T47.ext (e48.trans e49)
        have hv1 := ext_at x49 hv1
        have hv2 := ext_at x49 hv2
        clear e47 e48 e49 T47 hd Nn3 x49 E47 hx1
        refine go_nil ⟨sz3, fun pl npl => ?_⟩
        have y1 := same_new (o := HO.lst [V.ref v1, V.ref v2, V.ref v3]) npl
        have hpl : upd H49 pl (HO.lst [V.ref v1, V.ref v2, V.ref v3]) pl = some (.lst [V.ref v1, V.ref v2, V.ref v3]) := upd_same
        have E50 := E49.trans (ExtN.of y1)
        have T50 := T49.ext y1
        have hv1 := y1 _ _ hv1
        have hv2 := y1 _ _ hv2
        have hv3 := y1 _ _ hv3
        generalize upd H49 pl (HO.lst [V.ref v1, V.ref v2, V.ref v3]) = H50 at hpl E50 T50 hv1 hv2 hv3 ⊢
        clear y1 npl E49 T49
        dsimp only [gName]
        refine go_seq (go_asg (go_op (go_var rfl (go_lst (go_cons ?_)))))
        refine ⟨T50, fun H51 e51 T51 Nn4 => ?_⟩
        have E51 := E50.trans e51
        obtain ⟨dx1, bk1, tt1, hx1, _, _⟩ := id (hM.ext E51)
        refine ⟨_, rfl, x, dx1, _, rfl, hx1, rfl, sz1, fun u nu => ?_⟩
        have y2 := same_new (o := HO.lst [V.int 0]) nu
        have hu : SqQ K (upd H51 u (.lst [.int 0])) u (nv [0]) := .inl (.inl (.inl upd_same))
        refine ⟨_, rfl, x, ws, ds, m, .ref u, low, true, rfl, (hM.ext E51).same y2, hF, row_arg hu (by decide) (fun k hk => by rw [List.mem_singleton.mp hk]; omega), (hasInt_ext E51 L39.1).same y2, .inr (.inl ⟨rfl, L39.2, fun d H52 e52 hd => ⟨d, .str "start", "number", .inr (.inl ⟨rfl, rfl⟩), rfl, hd, fun v4 H53 e53 hv4 => ?_⟩⟩)⟩
        have x53 := e51.trans (ExtN.of (y2.trans (e52.trans e53)))
        have E53 := E50.trans x53
        have T53 := T51.ext (y2.trans (e52.trans e53))
        have hv1 := ext_at x53 hv1
        have hv2 := ext_at x53 hv2
        have hv3 := ext_at x53 hv3
        have hpl := ext_at x53 hpl
        clear e51 T51 y2 hu nu e52 e53 hd Nn4 x53 E51 hx1 E50 T50
        refine go_cons ?_
        refine ⟨T53, fun H54 e54 T54 Nn5 => ?_⟩
        have E54 := E53.trans e54
        obtain ⟨dx1, bk1, tt1, hx1, _, _⟩ := id (hM.ext E54)
        refine ⟨_, rfl, x, dx1, _, rfl, hx1, rfl, _, rfl, _, rfl, x, ws, ds, m, wrong, low, ow, rfl, hM.ext E54, hF, W39.ext E54, hasInt_ext E54 L39.1, .inl ⟨hw0, fun d H55 e55 hd => ⟨d, .str "text", "text", .inr (.inr (.inr (.inl ⟨rfl, rfl⟩))), rfl, hd, fun v5 H56 e56 hv5 => ?_⟩⟩⟩
        have x56 := e54.trans (ExtN.of (e55.trans e56))
        have E56 := E53.trans x56
        have T56 := T54.ext (e55.trans e56)
        have hv1 := ext_at x56 hv1
        have hv2 := ext_at x56 hv2
        have hv3 := ext_at x56 hv3
        have hv4 := ext_at x56 hv4
        have hpl := ext_at x56 hpl
        clear e54 T54 e55 e56 hd Nn5 x56 E54 hx1 E53 T53
        refine go_cons ?_
        refine ⟨T56, fun H57 e57 T57 Nn6 => ?_⟩
        have E57 := E56.trans e57
        obtain ⟨dx1, bk1, tt1, hx1, _, _⟩ := id (hM.ext E57)
        refine ⟨_, rfl, x, dx1, _, rfl, hx1, rfl, _, rfl, x, ws, ds, m, .str (S [97]), low, some [97], rfl, hM.ext E57, hF, ⟨rfl, by decide⟩, hasInt_ext E57 L39.1, .inr (.inl ⟨by decide, L39.2, fun d H58 e58 hd => ⟨d, .str "start", "number", .inr (.inl ⟨rfl, rfl⟩), rfl, hd, fun v6 H59 e59 hv6 => ?_⟩⟩)⟩
        have x59 := e57.trans (ExtN.of (e58.trans e59))
        have E59 := E56.trans x59
        have T59 := T57.ext (e58.trans e59)
        have hv1 := ext_at x59 hv1
        have hv2 := ext_at x59 hv2
        have hv3 := ext_at x59 hv3
        have hv4 := ext_at x59 hv4
        have hv5 := ext_at x59 hv5
        have hpl := ext_at x59 hpl
        clear e57 T57 e58 e59 hd Nn6 x59 E57 hx1 E56 T56
        refine go_nil ⟨sz3, fun pm npm => ?_⟩
        have y1 := same_new (o := HO.lst [V.ref v4, V.ref v5, V.ref v6]) npm
        refine ⟨pl, pm, _, _, rfl, rfl, y1 _ _ hpl, upd_same, (show 3 + 3 ≤ sizeLine by decide), fun pn npn => ?_⟩
        have y2 := same_new (o := HO.lst ([V.ref v1, V.ref v2, V.ref v3] ++ [V.ref v4, V.ref v5, V.ref v6])) npn
        have y3 := y1.trans y2
        have E60 := E59.trans (ExtN.of y3)
        have T60 := T59.ext y3
        have hv1 := y3 _ _ hv1
        have hv2 := y3 _ _ hv2
        have hv3 := y3 _ _ hv3
        have hv4 := y3 _ _ hv4
        have hv5 := y3 _ _ hv5
        have hv6 := y3 _ _ hv6
        have hpn : upd (upd H59 pm (HO.lst [V.ref v4, V.ref v5, V.ref v6])) pn (HO.lst ([V.ref v1, V.ref v2, V.ref v3] ++ [V.ref v4, V.ref v5, V.ref v6])) pn = some (.lst [V.ref v1, V.ref v2, V.ref v3, V.ref v4, V.ref v5, V.ref v6]) := upd_same
        generalize upd (upd H59 pm (HO.lst [V.ref v4, V.ref v5, V.ref v6])) pn (HO.lst ([V.ref v1, V.ref v2, V.ref v3] ++ [V.ref v4, V.ref v5, V.ref v6])) = H60 at hv1 hv2 hv3 hv4 hv5 hv6 hpn E60 T60 ⊢
        clear y1 y2 y3 npm npn E59 T59 hpl
        dsimp only [gName]
        refine go_if (go_test (go_op (go_var rfl (go_lst (go_cons ?_)))))
        refine ⟨sz2, fun a1 n1 => ?_⟩
        have z1 := same_new (o := HO.tup [V.str "book", V.str "book"]) n1
        have hv1 := z1 _ _ hv1
        have hv2 := z1 _ _ hv2
        have hv3 := z1 _ _ hv3
        have hv4 := z1 _ _ hv4
        have hv5 := z1 _ _ hv5
        have hv6 := z1 _ _ hv6
        have hpn := z1 _ _ hpn
        have f1 : upd H60 a1 (HO.tup [V.str "book", V.str "book"]) a1 = some (.tup [V.str "book", V.str "book"]) := upd_same
        have E61 := E60.trans (ExtN.of z1)
        have T61 := T60.ext z1
        generalize upd H60 a1 (HO.tup [V.str "book", V.str "book"]) = H61 at hv1 hv2 hv3 hv4 hv5 hv6 hpn f1 E61 T61 ⊢
        clear z1 n1 E60 T60
        refine go_cons ?_
        refine ⟨sz2, fun a2 n2 => ?_⟩
        have z2 := same_new (o := HO.tup [V.str "machine", V.str "deeds"]) n2
        have hv1 := z2 _ _ hv1
        have hv2 := z2 _ _ hv2
        have hv3 := z2 _ _ hv3
        have hv4 := z2 _ _ hv4
        have hv5 := z2 _ _ hv5
        have hv6 := z2 _ _ hv6
        have hpn := z2 _ _ hpn
        have f1 := z2 _ _ f1
        have f2 : upd H61 a2 (HO.tup [V.str "machine", V.str "deeds"]) a2 = some (.tup [V.str "machine", V.str "deeds"]) := upd_same
        have E62 := E61.trans (ExtN.of z2)
        have T62 := T61.ext z2
        generalize upd H61 a2 (HO.tup [V.str "machine", V.str "deeds"]) = H62 at hv1 hv2 hv3 hv4 hv5 hv6 hpn f1 f2 E62 T62 ⊢
        clear z2 n2 E61 T61
        refine go_cons ?_
        refine ⟨sz2, fun a3 n3 => ?_⟩
        have z3 := same_new (o := HO.tup [V.str "row", V.str "row"]) n3
        have hv1 := z3 _ _ hv1
        have hv2 := z3 _ _ hv2
        have hv3 := z3 _ _ hv3
        have hv4 := z3 _ _ hv4
        have hv5 := z3 _ _ hv5
        have hv6 := z3 _ _ hv6
        have hpn := z3 _ _ hpn
        have f1 := z3 _ _ f1
        have f2 := z3 _ _ f2
        have f3 : upd H62 a3 (HO.tup [V.str "row", V.str "row"]) a3 = some (.tup [V.str "row", V.str "row"]) := upd_same
        have E63 := E62.trans (ExtN.of z3)
        have T63 := T62.ext z3
        generalize upd H62 a3 (HO.tup [V.str "row", V.str "row"]) = H63 at hv1 hv2 hv3 hv4 hv5 hv6 hpn f1 f2 f3 E63 T63 ⊢
        clear z3 n3 E62 T62
        refine go_cons ?_
        refine ⟨sz2, fun a4 n4 => ?_⟩
        have z4 := same_new (o := HO.tup [V.str "number", V.str "start"]) n4
        have hv1 := z4 _ _ hv1
        have hv2 := z4 _ _ hv2
        have hv3 := z4 _ _ hv3
        have hv4 := z4 _ _ hv4
        have hv5 := z4 _ _ hv5
        have hv6 := z4 _ _ hv6
        have hpn := z4 _ _ hpn
        have f1 := z4 _ _ f1
        have f2 := z4 _ _ f2
        have f3 := z4 _ _ f3
        have f4 : upd H63 a4 (HO.tup [V.str "number", V.str "start"]) a4 = some (.tup [V.str "number", V.str "start"]) := upd_same
        have E64 := E63.trans (ExtN.of z4)
        have T64 := T63.ext z4
        generalize upd H63 a4 (HO.tup [V.str "number", V.str "start"]) = H64 at hv1 hv2 hv3 hv4 hv5 hv6 hpn f1 f2 f3 f4 E64 T64 ⊢
        clear z4 n4 E63 T63
        refine go_cons ?_
        refine ⟨sz2, fun a5 n5 => ?_⟩
        have z5 := same_new (o := HO.tup [V.str "text", V.str "text"]) n5
        have hv1 := z5 _ _ hv1
        have hv2 := z5 _ _ hv2
        have hv3 := z5 _ _ hv3
        have hv4 := z5 _ _ hv4
        have hv5 := z5 _ _ hv5
        have hv6 := z5 _ _ hv6
        have hpn := z5 _ _ hpn
        have f1 := z5 _ _ f1
        have f2 := z5 _ _ f2
        have f3 := z5 _ _ f3
        have f4 := z5 _ _ f4
        have f5 : upd H64 a5 (HO.tup [V.str "text", V.str "text"]) a5 = some (.tup [V.str "text", V.str "text"]) := upd_same
        have E65 := E64.trans (ExtN.of z5)
        have T65 := T64.ext z5
        generalize upd H64 a5 (HO.tup [V.str "text", V.str "text"]) = H65 at hv1 hv2 hv3 hv4 hv5 hv6 hpn f1 f2 f3 f4 f5 E65 T65 ⊢
        clear z5 n5 E64 T64
        refine go_cons ?_
        refine ⟨sz2, fun a6 n6 => ?_⟩
        have z6 := same_new (o := HO.tup [V.str "number", V.str "start"]) n6
        have hv1 := z6 _ _ hv1
        have hv2 := z6 _ _ hv2
        have hv3 := z6 _ _ hv3
        have hv4 := z6 _ _ hv4
        have hv5 := z6 _ _ hv5
        have hv6 := z6 _ _ hv6
        have hpn := z6 _ _ hpn
        have f1 := z6 _ _ f1
        have f2 := z6 _ _ f2
        have f3 := z6 _ _ f3
        have f4 := z6 _ _ f4
        have f5 := z6 _ _ f5
        have f6 : upd H65 a6 (HO.tup [V.str "number", V.str "start"]) a6 = some (.tup [V.str "number", V.str "start"]) := upd_same
        have E66 := E65.trans (ExtN.of z6)
        have T66 := T65.ext z6
        generalize upd H65 a6 (HO.tup [V.str "number", V.str "start"]) = H66 at hv1 hv2 hv3 hv4 hv5 hv6 hpn f1 f2 f3 f4 f5 f6 E66 T66 ⊢
        clear z6 n6 E65 T65
        refine go_nil ⟨(show 6 ≤ sizeLine by decide), fun a7 n7 => ?_⟩
        have z7 := same_new (o := HO.lst [V.ref a1, V.ref a2, V.ref a3, V.ref a4, V.ref a5, V.ref a6]) n7
        have hv1 := z7 _ _ hv1
        have hv2 := z7 _ _ hv2
        have hv3 := z7 _ _ hv3
        have hv4 := z7 _ _ hv4
        have hv5 := z7 _ _ hv5
        have hv6 := z7 _ _ hv6
        have hpn := z7 _ _ hpn
        have f1 := z7 _ _ f1
        have f2 := z7 _ _ f2
        have f3 := z7 _ _ f3
        have f4 := z7 _ _ f4
        have f5 := z7 _ _ f5
        have f6 := z7 _ _ f6
        refine ⟨.list [.tuple [.str "book", .str "book"], .tuple [.str "machine", .str "deeds"], .tuple [.str "row", .str "row"], .tuple [.str "number", .str "start"], .tuple [.str "text", .str "text"], .tuple [.str "number", .str "start"]], .list [.tuple [.str "book", .str "book"], .tuple [.str "machine", .str "deeds"], .tuple [.str "row", .str "row"], .tuple [.str "number", .str "start"], .tuple [.str "text", .str "text"], .tuple [.str "number", .str "start"]],
          .lst (.inl (.inl hpn)) (.cons (.tup (.inl (.inl hv1)) (.cons (.str _) (.cons (.str _) .nil))) (.cons (.tup (.inl (.inl hv2)) (.cons (.str _) (.cons (.str _) .nil))) (.cons (.tup (.inl (.inl hv3)) (.cons (.str _) (.cons (.str _) .nil))) (.cons (.tup (.inl (.inl hv4)) (.cons (.str _) (.cons (.str _) .nil))) (.cons (.tup (.inl (.inl hv5)) (.cons (.str _) (.cons (.str _) .nil))) (.cons (.tup (.inl (.inl hv6)) (.cons (.str _) (.cons (.str _) .nil))) .nil)))))),
          .lst (.inl (.inl upd_same)) (.cons (.tup (.inl (.inl f1)) (.cons (.str _) (.cons (.str _) .nil))) (.cons (.tup (.inl (.inl f2)) (.cons (.str _) (.cons (.str _) .nil))) (.cons (.tup (.inl (.inl f3)) (.cons (.str _) (.cons (.str _) .nil))) (.cons (.tup (.inl (.inl f4)) (.cons (.str _) (.cons (.str _) .nil))) (.cons (.tup (.inl (.inl f5)) (.cons (.str _) (.cons (.str _) .nil))) (.cons (.tup (.inl (.inl f6)) (.cons (.str _) (.cons (.str _) .nil))) .nil)))))), by decide +kernel, by decide +kernel, ?_⟩
        rw [show (PyData.eqv (.list [.tuple [.str "book", .str "book"], .tuple [.str "machine", .str "deeds"], .tuple [.str "row", .str "row"], .tuple [.str "number", .str "start"], .tuple [.str "text", .str "text"], .tuple [.str "number", .str "start"]]) (.list [.tuple [.str "book", .str "book"], .tuple [.str "machine", .str "deeds"], .tuple [.str "row", .str "row"], .tuple [.str "number", .str "start"], .tuple [.str "text", .str "text"], .tuple [.str "number", .str "start"]])) = true by decide +kernel]
        refine ⟨_, rfl, iteF (A := _) ?_⟩
        exact ⟨_, _, _, _, _, _, _, _, _, _, _, _, _, _, _, _, _, rfl, (hWh.ext (E66.trans (ExtN.of z7))).lt (by omega), T66.ext z7⟩
    · exact q _
end
end K21
namespace K21
open PySem PySem.Spec PyProof.Rows L2 Kx SX LamX
def tx_mk {K : PySem.W.Frag} {h : Heap} {mg : Str → Option Value} (X : K.In h) (G : h.Ns mainGlobals mg)
    {f0 : Addr} {od0 an0 : Option Addr} {sl0 : Array (Option Value)} {oc0 kV0 dc0 pm0 cd0 ct0 : Value}
    {f1 : Addr} {od1 an1 : Option Addr} {sl1 : Array (Option Value)} {oc1 kV1 dc1 pm1 cd1 ct1 : Value}
    {f2 : Addr} {od2 an2 : Option Addr} {sl2 : Array (Option Value)} {oc2 kV2 dc2 pm2 cd2 ct2 : Value}
    {f3 : Addr} {od3 an3 : Option Addr} {sl3 : Array (Option Value)} {oc3 kV3 dc3 pm3 cd3 ct3 : Value}
    {f4 : Addr} {od4 an4 : Option Addr} {sl4 : Array (Option Value)} {oc4 kV4 dc4 pm4 cd4 ct4 : Value}
    {f5 : Addr} {od5 an5 : Option Addr} {sl5 : Array (Option Value)} {oc5 kV5 dc5 pm5 cd5 ct5 : Value}
    {f6 : Addr} {od6 an6 : Option Addr} {sl6 : Array (Option Value)} {oc6 kV6 dc6 pm6 cd6 ct6 : Value}
    {f7 : Addr} {od7 an7 : Option Addr} {sl7 : Array (Option Value)} {oc7 kV7 dc7 pm7 cd7 ct7 : Value}
    {f8 : Addr} {od8 an8 : Option Addr} {sl8 : Array (Option Value)} {oc8 kV8 dc8 pm8 cd8 ct8 : Value}
    {f9 : Addr} {od9 an9 : Option Addr} {sl9 : Array (Option Value)} {oc9 kV9 dc9 pm9 cd9 ct9 : Value}
    {f10 : Addr} {od10 an10 : Option Addr} {sl10 : Array (Option Value)} {oc10 kV10 dc10 pm10 cd10 ct10 : Value}
    {f11 : Addr} {od11 an11 : Option Addr} {sl11 : Array (Option Value)} {oc11 kV11 dc11 pm11 cd11 ct11 : Value}
    {f12 : Addr} {od12 an12 : Option Addr} {sl12 : Array (Option Value)} {oc12 kV12 dc12 pm12 cd12 ct12 : Value}
    {f13 : Addr} {od13 an13 : Option Addr} {sl13 : Array (Option Value)} {oc13 kV13 dc13 pm13 cd13 ct13 : Value}
    {f14 : Addr} {od14 an14 : Option Addr} {sl14 : Array (Option Value)} {oc14 kV14 dc14 pm14 cd14 ct14 : Value}
    {f15 : Addr} {od15 an15 : Option Addr} {sl15 : Array (Option Value)} {oc15 kV15 dc15 pm15 cd15 ct15 : Value}
    {f16 : Addr} {od16 an16 : Option Addr} {sl16 : Array (Option Value)} {oc16 kV16 dc16 pm16 cd16 ct16 : Value}
    {f17 : Addr} {od17 an17 : Option Addr} {sl17 : Array (Option Value)} {oc17 kV17 dc17 pm17 cd17 ct17 : Value}
    {f18 : Addr} {od18 an18 : Option Addr} {sl18 : Array (Option Value)} {oc18 kV18 dc18 pm18 cd18 ct18 : Value}
    {f19 : Addr} {od19 an19 : Option Addr} {sl19 : Array (Option Value)} {oc19 kV19 dc19 pm19 cd19 ct19 : Value}
    {f20 : Addr} {od20 an20 : Option Addr} {sl20 : Array (Option Value)} {oc20 kV20 dc20 pm20 cd20 ct20 : Value}
    {f21 : Addr} {od21 an21 : Option Addr} {sl21 : Array (Option Value)} {oc21 kV21 dc21 pm21 cd21 ct21 : Value}
    {mf0 : Addr} {mod0 man0 : Option Addr} {msl0 : Array (Option Value)} {moc0 mkV0 mdc0 mpm0 mcd0 mct0 : Value}
    {mf1 : Addr} {mod1 man1 : Option Addr} {msl1 : Array (Option Value)} {moc1 mkV1 mdc1 mpm1 mcd1 mct1 : Value}
    {mf2 : Addr} {mod2 man2 : Option Addr} {msl2 : Array (Option Value)} {moc2 mkV2 mdc2 mpm2 mcd2 mct2 : Value}
    {mf3 : Addr} {mod3 man3 : Option Addr} {msl3 : Array (Option Value)} {moc3 mkV3 mdc3 mpm3 mcd3 mct3 : Value}
    {mf4 : Addr} {mod4 man4 : Option Addr} {msl4 : Array (Option Value)} {moc4 mkV4 mdc4 mpm4 mcd4 mct4 : Value}
    {mf5 : Addr} {mod5 man5 : Option Addr} {msl5 : Array (Option Value)} {moc5 mkV5 mdc5 mpm5 mcd5 mct5 : Value}
    {KC_Book : Addr}
    {KC_Machine : Addr}
    {KD_TooMany : Addr}
    {KD_BadText : Addr}
    {KD_BadEdits : Addr}
    {KD_BadNumber : Addr}
    {KD_BadBook : Addr}
    {KD_BadMachine : Addr}
    {KD_BadRow : Addr}
    {KD_Misfit : Addr}
    {t0 : Tok}
    {t1 : Tok}
    {t2 : Tok}
    {t3 : Tok}
    {t4 : Tok}
    (a0 : PySem.W.nsIn K mainGlobals "is_list" = some (some (.ref f0))) (l0 : K.lookup f0 = some ⟨oc0, od0, .func (PySem.W.fnOf "is_list" "is_list" (defArgs s_is_list) (defBody s_is_list) (defScope s_is_list) .none kV0 dc0 pm0 an0 cd0 ct0), sl0⟩) (c0 : PySem.W.codeIn K cd0 "is_list" = true) (k0 : PySem.W.keepIn K (.ref f0) = true)
    (a1 : PySem.W.nsIn K mainGlobals "is_integer" = some (some (.ref f1))) (l1 : K.lookup f1 = some ⟨oc1, od1, .func (PySem.W.fnOf "is_integer" "is_integer" (defArgs s_is_integer) (defBody s_is_integer) (defScope s_is_integer) .none kV1 dc1 pm1 an1 cd1 ct1), sl1⟩) (c1 : PySem.W.codeIn K cd1 "is_integer" = true) (k1 : PySem.W.keepIn K (.ref f1) = true)
    (a2 : PySem.W.nsIn K mainGlobals "is_within" = some (some (.ref f2))) (l2 : K.lookup f2 = some ⟨oc2, od2, .func (PySem.W.fnOf "is_within" "is_within" (defArgs s_is_within) (defBody s_is_within) (defScope s_is_within) .none kV2 dc2 pm2 an2 cd2 ct2), sl2⟩) (c2 : PySem.W.codeIn K cd2 "is_within" = true) (k2 : PySem.W.keepIn K (.ref f2) = true)
    (a3 : PySem.W.nsIn K mainGlobals "are_letters" = some (some (.ref f3))) (l3 : K.lookup f3 = some ⟨oc3, od3, .func (PySem.W.fnOf "are_letters" "are_letters" (defArgs s_are_letters) (defBody s_are_letters) (defScope s_are_letters) .none kV3 dc3 pm3 an3 cd3 ct3), sl3⟩) (c3 : PySem.W.codeIn K cd3 "are_letters" = true) (k3 : PySem.W.keepIn K (.ref f3) = true)
    (a4 : PySem.W.nsIn K mainGlobals "is_word" = some (some (.ref f4))) (l4 : K.lookup f4 = some ⟨oc4, od4, .func (PySem.W.fnOf "is_word" "is_word" (defArgs s_is_word) (defBody s_is_word) (defScope s_is_word) .none kV4 dc4 pm4 an4 cd4 ct4), sl4⟩) (c4 : PySem.W.codeIn K cd4 "is_word" = true) (k4 : PySem.W.keepIn K (.ref f4) = true)
    (a5 : PySem.W.nsIn K mainGlobals "is_text" = some (some (.ref f5))) (l5 : K.lookup f5 = some ⟨oc5, od5, .func (PySem.W.fnOf "is_text" "is_text" (defArgs s_is_text) (defBody s_is_text) (defScope s_is_text) .none kV5 dc5 pm5 an5 cd5 ct5), sl5⟩) (c5 : PySem.W.codeIn K cd5 "is_text" = true) (k5 : PySem.W.keepIn K (.ref f5) = true)
    (a6 : PySem.W.nsIn K mainGlobals "are_words" = some (some (.ref f6))) (l6 : K.lookup f6 = some ⟨oc6, od6, .func (PySem.W.fnOf "are_words" "are_words" (defArgs s_are_words) (defBody s_are_words) (defScope s_are_words) .none kV6 dc6 pm6 an6 cd6 ct6), sl6⟩) (c6 : PySem.W.codeIn K cd6 "are_words" = true) (k6 : PySem.W.keepIn K (.ref f6) = true)
    (a7 : PySem.W.nsIn K mainGlobals "is_row" = some (some (.ref f7))) (l7 : K.lookup f7 = some ⟨oc7, od7, .func (PySem.W.fnOf "is_row" "is_row" (defArgs s_is_row) (defBody s_is_row) (defScope s_is_row) .none kV7 dc7 pm7 an7 cd7 ct7), sl7⟩) (c7 : PySem.W.codeIn K cd7 "is_row" = true) (k7 : PySem.W.keepIn K (.ref f7) = true)
    (a8 : PySem.W.nsIn K mainGlobals "read" = some (some (.ref f8))) (l8 : K.lookup f8 = some ⟨oc8, od8, .func (PySem.W.fnOf "read" "read" (defArgs s_read) (defBody s_read) (defScope s_read) .none kV8 dc8 pm8 an8 cd8 ct8), sl8⟩) (c8 : PySem.W.codeIn K cd8 "read" = true) (k8 : PySem.W.keepIn K (.ref f8) = true)
    (a9 : PySem.W.nsIn K mainGlobals "are_deeds" = some (some (.ref f9))) (l9 : K.lookup f9 = some ⟨oc9, od9, .func (PySem.W.fnOf "are_deeds" "are_deeds" (defArgs s_are_deeds) (defBody s_are_deeds) (defScope s_are_deeds) .none kV9 dc9 pm9 an9 cd9 ct9), sl9⟩) (c9 : PySem.W.codeIn K cd9 "are_deeds" = true) (k9 : PySem.W.keepIn K (.ref f9) = true)
    (a10 : PySem.W.nsIn K mainGlobals "end_of_row" = some (some (.ref f10))) (l10 : K.lookup f10 = some ⟨oc10, od10, .func (PySem.W.fnOf "end_of_row" "end_of_row" (defArgs s_end_of_row) (defBody s_end_of_row) (defScope s_end_of_row) .none kV10 dc10 pm10 an10 cd10 ct10), sl10⟩) (c10 : PySem.W.codeIn K cd10 "end_of_row" = true) (k10 : PySem.W.keepIn K (.ref f10) = true)
    (a11 : PySem.W.nsIn K mainGlobals "_law_engine" = some (some (.ref f11))) (l11 : K.lookup f11 = some ⟨oc11, od11, .func (PySem.W.fnOf "_law_engine" "_law_engine" (defArgs s_law_engine) (defBody s_law_engine) (defScope s_law_engine) .none kV11 dc11 pm11 an11 cd11 ct11), sl11⟩) (c11 : PySem.W.codeIn K cd11 "_law_engine" = true) (k11 : PySem.W.keepIn K (.ref f11) = true)
    (a12 : PySem.W.nsIn K mainGlobals "_law_crank" = some (some (.ref f12))) (l12 : K.lookup f12 = some ⟨oc12, od12, .func (PySem.W.fnOf "_law_crank" "_law_crank" (defArgs s_law_crank) (defBody s_law_crank) (defScope s_law_crank) .none kV12 dc12 pm12 an12 cd12 ct12), sl12⟩) (c12 : PySem.W.codeIn K cd12 "_law_crank" = true) (k12 : PySem.W.keepIn K (.ref f12) = true)
    (a13 : PySem.W.nsIn K mainGlobals "_law_one" = some (some (.ref f13))) (l13 : K.lookup f13 = some ⟨oc13, od13, .func (PySem.W.fnOf "_law_one" "_law_one" (defArgs s_law_one) (defBody s_law_one) (defScope s_law_one) .none kV13 dc13 pm13 an13 cd13 ct13), sl13⟩) (c13 : PySem.W.codeIn K cd13 "_law_one" = true) (k13 : PySem.W.keepIn K (.ref f13) = true)
    (a14 : PySem.W.nsIn K mainGlobals "_law_book" = some (some (.ref f14))) (l14 : K.lookup f14 = some ⟨oc14, od14, .func (PySem.W.fnOf "_law_book" "_law_book" (defArgs s_law_book) (defBody s_law_book) (defScope s_law_book) .none kV14 dc14 pm14 an14 cd14 ct14), sl14⟩) (c14 : PySem.W.codeIn K cd14 "_law_book" = true) (k14 : PySem.W.keepIn K (.ref f14) = true)
    (a15 : PySem.W.nsIn K mainGlobals "_law_deed" = some (some (.ref f15))) (l15 : K.lookup f15 = some ⟨oc15, od15, .func (PySem.W.fnOf "_law_deed" "_law_deed" (defArgs s_law_deed) (defBody s_law_deed) (defScope s_law_deed) .none kV15 dc15 pm15 an15 cd15 ct15), sl15⟩) (c15 : PySem.W.codeIn K cd15 "_law_deed" = true) (k15 : PySem.W.keepIn K (.ref f15) = true)
    (a16 : PySem.W.nsIn K mainGlobals "_law_once" = some (some (.ref f16))) (l16 : K.lookup f16 = some ⟨oc16, od16, .func (PySem.W.fnOf "_law_once" "_law_once" (defArgs s_law_once) (defBody s_law_once) (defScope s_law_once) .none kV16 dc16 pm16 an16 cd16 ct16), sl16⟩) (c16 : PySem.W.codeIn K cd16 "_law_once" = true) (k16 : PySem.W.keepIn K (.ref f16) = true)
    (a17 : PySem.W.nsIn K mainGlobals "_law_end" = some (some (.ref f17))) (l17 : K.lookup f17 = some ⟨oc17, od17, .func (PySem.W.fnOf "_law_end" "_law_end" (defArgs s_law_end) (defBody s_law_end) (defScope s_law_end) .none kV17 dc17 pm17 an17 cd17 ct17), sl17⟩) (c17 : PySem.W.codeIn K cd17 "_law_end" = true) (k17 : PySem.W.keepIn K (.ref f17) = true)
    (a18 : PySem.W.nsIn K mainGlobals "_law_heard" = some (some (.ref f18))) (l18 : K.lookup f18 = some ⟨oc18, od18, .func (PySem.W.fnOf "_law_heard" "_law_heard" (defArgs s_law_heard) (defBody s_law_heard) (defScope s_law_heard) .none kV18 dc18 pm18 an18 cd18 ct18), sl18⟩) (c18 : PySem.W.codeIn K cd18 "_law_heard" = true) (k18 : PySem.W.keepIn K (.ref f18) = true)
    (a19 : PySem.W.nsIn K mainGlobals "_law_odd" = some (some (.ref f19))) (l19 : K.lookup f19 = some ⟨oc19, od19, .func (PySem.W.fnOf "_law_odd" "_law_odd" (defArgs s_law_odd) (defBody s_law_odd) (defScope s_law_odd) .none kV19 dc19 pm19 an19 cd19 ct19), sl19⟩) (c19 : PySem.W.codeIn K cd19 "_law_odd" = true) (k19 : PySem.W.keepIn K (.ref f19) = true)
    (a20 : PySem.W.nsIn K mainGlobals "_law_ends_right" = some (some (.ref f20))) (l20 : K.lookup f20 = some ⟨oc20, od20, .func (PySem.W.fnOf "_law_ends_right" "_law_ends_right" (defArgs s_law_ends_right) (defBody s_law_ends_right) (defScope s_law_ends_right) .none kV20 dc20 pm20 an20 cd20 ct20), sl20⟩) (c20 : PySem.W.codeIn K cd20 "_law_ends_right" = true) (k20 : PySem.W.keepIn K (.ref f20) = true)
    (a21 : PySem.W.nsIn K mainGlobals "law" = some (some (.ref f21))) (l21 : K.lookup f21 = some ⟨oc21, od21, .func (PySem.W.fnOf "law" "law" (defArgs s_law) (defBody s_law) (defScope s_law) .none kV21 dc21 pm21 an21 cd21 ct21), sl21⟩) (c21 : PySem.W.codeIn K cd21 "law" = true) (k21 : PySem.W.keepIn K (.ref f21) = true)
    (ca_Book : PySem.W.nsIn K mainGlobals "Book" = some (some (.ref KC_Book)))
    (cp_Book : PySem.W.plainGet K KC_Book Str.empty = true)
    (cd_Book : PySem.W.hasDictIn K KC_Book = true)
    (co_Book : PySem.W.plainOver K KC_Book = true)
    (cs_Book : PySem.W.findIn K (.ref KC_Book) "__setattr__" = some (some (.builtin "object.__setattr__")))
    (cm_Book : PySem.W.makesIn K KC_Book = true)
    (ck_Book : PySem.W.keepIn K (.ref KC_Book) = true)
    (cb_Book : PySem.W.mroIn K KC_Book (.type "object") = some true)
    (cn_Book : PySem.W.findIn K (.ref KC_Book) "__ne__" = some (some (.builtin "object.__ne__")))
    (cc_Book : PySem.W.findIn K (.ref KC_Book) "__class__" = some (some (.builtin "object.__class__")))
    (cg_Book : PySem.W.specialIn K (.builtin "object.__class__") "__get__" = some (some (.builtin "getset_descriptor.__get__")))
    (ct_Book : PySem.W.takesIn K (.builtin "object.__class__") = some true)
    (ci_Book : PySem.W.isClsIn K KC_Book = true)
    (cy_Book : PySem.W.typeIn K (.ref KC_Book) = some (.type "type"))
    (cx_Book_words : PySem.W.findIn K (.ref KC_Book) "words" = some none)
    (ca_Machine : PySem.W.nsIn K mainGlobals "Machine" = some (some (.ref KC_Machine)))
    (cp_Machine : PySem.W.plainGet K KC_Machine Str.empty = true)
    (cd_Machine : PySem.W.hasDictIn K KC_Machine = true)
    (co_Machine : PySem.W.plainOver K KC_Machine = true)
    (cs_Machine : PySem.W.findIn K (.ref KC_Machine) "__setattr__" = some (some (.builtin "object.__setattr__")))
    (cm_Machine : PySem.W.makesIn K KC_Machine = true)
    (ck_Machine : PySem.W.keepIn K (.ref KC_Machine) = true)
    (cb_Machine : PySem.W.mroIn K KC_Machine (.type "object") = some true)
    (cn_Machine : PySem.W.findIn K (.ref KC_Machine) "__ne__" = some (some (.builtin "object.__ne__")))
    (cc_Machine : PySem.W.findIn K (.ref KC_Machine) "__class__" = some (some (.builtin "object.__class__")))
    (cg_Machine : PySem.W.specialIn K (.builtin "object.__class__") "__get__" = some (some (.builtin "getset_descriptor.__get__")))
    (ct_Machine : PySem.W.takesIn K (.builtin "object.__class__") = some true)
    (ci_Machine : PySem.W.isClsIn K KC_Machine = true)
    (cy_Machine : PySem.W.typeIn K (.ref KC_Machine) = some (.type "type"))
    (cx_Machine_book : PySem.W.findIn K (.ref KC_Machine) "book" = some none)
    (cx_Machine_deeds : PySem.W.findIn K (.ref KC_Machine) "deeds" = some none)
    (cx_Machine_states : PySem.W.findIn K (.ref KC_Machine) "states" = some none)
    (da_TooMany : PySem.W.nsIn K mainGlobals "TooMany" = some (some (.ref KD_TooMany)))
    (di_TooMany : PySem.W.isClsIn K KD_TooMany = true)
    (dy_TooMany : PySem.W.typeIn K (.ref KD_TooMany) = some (.type "type"))
    (da_BadText : PySem.W.nsIn K mainGlobals "BadText" = some (some (.ref KD_BadText)))
    (di_BadText : PySem.W.isClsIn K KD_BadText = true)
    (dy_BadText : PySem.W.typeIn K (.ref KD_BadText) = some (.type "type"))
    (da_BadEdits : PySem.W.nsIn K mainGlobals "BadEdits" = some (some (.ref KD_BadEdits)))
    (di_BadEdits : PySem.W.isClsIn K KD_BadEdits = true)
    (dy_BadEdits : PySem.W.typeIn K (.ref KD_BadEdits) = some (.type "type"))
    (da_BadNumber : PySem.W.nsIn K mainGlobals "BadNumber" = some (some (.ref KD_BadNumber)))
    (di_BadNumber : PySem.W.isClsIn K KD_BadNumber = true)
    (dy_BadNumber : PySem.W.typeIn K (.ref KD_BadNumber) = some (.type "type"))
    (da_BadBook : PySem.W.nsIn K mainGlobals "BadBook" = some (some (.ref KD_BadBook)))
    (di_BadBook : PySem.W.isClsIn K KD_BadBook = true)
    (dy_BadBook : PySem.W.typeIn K (.ref KD_BadBook) = some (.type "type"))
    (da_BadMachine : PySem.W.nsIn K mainGlobals "BadMachine" = some (some (.ref KD_BadMachine)))
    (di_BadMachine : PySem.W.isClsIn K KD_BadMachine = true)
    (dy_BadMachine : PySem.W.typeIn K (.ref KD_BadMachine) = some (.type "type"))
    (da_BadRow : PySem.W.nsIn K mainGlobals "BadRow" = some (some (.ref KD_BadRow)))
    (di_BadRow : PySem.W.isClsIn K KD_BadRow = true)
    (dy_BadRow : PySem.W.typeIn K (.ref KD_BadRow) = some (.type "type"))
    (da_Misfit : PySem.W.nsIn K mainGlobals "Misfit" = some (some (.ref KD_Misfit)))
    (di_Misfit : PySem.W.isClsIn K KD_Misfit = true)
    (dy_Misfit : PySem.W.typeIn K (.ref KD_Misfit) = some (.type "type"))
    (ds_BadMachine_TooMany : PySem.W.subIn K (.ref KD_BadMachine) (.ref KD_TooMany) = some false)
    (ds_BadMachine_BadText : PySem.W.subIn K (.ref KD_BadMachine) (.ref KD_BadText) = some false)
    (ds_BadMachine_BadEdits : PySem.W.subIn K (.ref KD_BadMachine) (.ref KD_BadEdits) = some false)
    (ds_BadMachine_BadNumber : PySem.W.subIn K (.ref KD_BadMachine) (.ref KD_BadNumber) = some false)
    (ds_BadMachine_BadBook : PySem.W.subIn K (.ref KD_BadMachine) (.ref KD_BadBook) = some false)
    (ds_BadMachine_BadMachine : PySem.W.subIn K (.ref KD_BadMachine) (.ref KD_BadMachine) = some true)
    (ds_BadMachine_BadRow : PySem.W.subIn K (.ref KD_BadMachine) (.ref KD_BadRow) = some false)
    (ds_BadMachine_Misfit : PySem.W.subIn K (.ref KD_BadMachine) (.ref KD_Misfit) = some false)
    (ds_BadNumber_TooMany : PySem.W.subIn K (.ref KD_BadNumber) (.ref KD_TooMany) = some false)
    (ds_BadNumber_BadText : PySem.W.subIn K (.ref KD_BadNumber) (.ref KD_BadText) = some false)
    (ds_BadNumber_BadEdits : PySem.W.subIn K (.ref KD_BadNumber) (.ref KD_BadEdits) = some false)
    (ds_BadNumber_BadNumber : PySem.W.subIn K (.ref KD_BadNumber) (.ref KD_BadNumber) = some true)
    (ds_BadNumber_BadBook : PySem.W.subIn K (.ref KD_BadNumber) (.ref KD_BadBook) = some false)
    (ds_BadNumber_BadMachine : PySem.W.subIn K (.ref KD_BadNumber) (.ref KD_BadMachine) = some false)
    (ds_BadNumber_BadRow : PySem.W.subIn K (.ref KD_BadNumber) (.ref KD_BadRow) = some false)
    (ds_BadNumber_Misfit : PySem.W.subIn K (.ref KD_BadNumber) (.ref KD_Misfit) = some false)
    (ds_BadBook_TooMany : PySem.W.subIn K (.ref KD_BadBook) (.ref KD_TooMany) = some false)
    (ds_BadBook_BadText : PySem.W.subIn K (.ref KD_BadBook) (.ref KD_BadText) = some false)
    (ds_BadBook_BadEdits : PySem.W.subIn K (.ref KD_BadBook) (.ref KD_BadEdits) = some false)
    (ds_BadBook_BadNumber : PySem.W.subIn K (.ref KD_BadBook) (.ref KD_BadNumber) = some false)
    (ds_BadBook_BadBook : PySem.W.subIn K (.ref KD_BadBook) (.ref KD_BadBook) = some true)
    (ds_BadBook_BadMachine : PySem.W.subIn K (.ref KD_BadBook) (.ref KD_BadMachine) = some false)
    (ds_BadBook_BadRow : PySem.W.subIn K (.ref KD_BadBook) (.ref KD_BadRow) = some false)
    (ds_BadBook_Misfit : PySem.W.subIn K (.ref KD_BadBook) (.ref KD_Misfit) = some false)
    (ds_BadText_TooMany : PySem.W.subIn K (.ref KD_BadText) (.ref KD_TooMany) = some false)
    (ds_BadText_BadText : PySem.W.subIn K (.ref KD_BadText) (.ref KD_BadText) = some true)
    (ds_BadText_BadEdits : PySem.W.subIn K (.ref KD_BadText) (.ref KD_BadEdits) = some false)
    (ds_BadText_BadNumber : PySem.W.subIn K (.ref KD_BadText) (.ref KD_BadNumber) = some false)
    (ds_BadText_BadBook : PySem.W.subIn K (.ref KD_BadText) (.ref KD_BadBook) = some false)
    (ds_BadText_BadMachine : PySem.W.subIn K (.ref KD_BadText) (.ref KD_BadMachine) = some false)
    (ds_BadText_BadRow : PySem.W.subIn K (.ref KD_BadText) (.ref KD_BadRow) = some false)
    (ds_BadText_Misfit : PySem.W.subIn K (.ref KD_BadText) (.ref KD_Misfit) = some false)
    (ds_BadRow_TooMany : PySem.W.subIn K (.ref KD_BadRow) (.ref KD_TooMany) = some false)
    (ds_BadRow_BadText : PySem.W.subIn K (.ref KD_BadRow) (.ref KD_BadText) = some false)
    (ds_BadRow_BadEdits : PySem.W.subIn K (.ref KD_BadRow) (.ref KD_BadEdits) = some false)
    (ds_BadRow_BadNumber : PySem.W.subIn K (.ref KD_BadRow) (.ref KD_BadNumber) = some false)
    (ds_BadRow_BadBook : PySem.W.subIn K (.ref KD_BadRow) (.ref KD_BadBook) = some false)
    (ds_BadRow_BadMachine : PySem.W.subIn K (.ref KD_BadRow) (.ref KD_BadMachine) = some false)
    (ds_BadRow_BadRow : PySem.W.subIn K (.ref KD_BadRow) (.ref KD_BadRow) = some true)
    (ds_BadRow_Misfit : PySem.W.subIn K (.ref KD_BadRow) (.ref KD_Misfit) = some false)
    (ds_Book_Machine : PySem.W.subIn K (.ref KC_Book) (.ref KC_Machine) = some false)
    (ds_Book_Book : PySem.W.subIn K (.ref KC_Book) (.ref KC_Book) = some true)
    (ma0 : PySem.W.findIn K (.ref KC_Book) "__init__" = some (some (.ref mf0))) (mi0 : PySem.W.isFn K (.ref mf0) = true) (ml0 : K.lookup mf0 = some ⟨moc0, mod0, .func (PySem.W.fnOf "__init__" "Book.__init__" (defArgs s_Book_init) (defBody s_Book_init) (defScope s_Book_init) .none mkV0 mdc0 mpm0 man0 mcd0 mct0), msl0⟩) (mc0 : PySem.W.codeIn K mcd0 "Book.__init__" = true) (mk0 : PySem.W.keepIn K (.ref mf0) = true)
    (ma1 : PySem.W.findIn K (.ref KC_Book) "__eq__" = some (some (.ref mf1))) (mi1 : PySem.W.isFn K (.ref mf1) = true) (ml1 : K.lookup mf1 = some ⟨moc1, mod1, .func (PySem.W.fnOf "__eq__" "Book.__eq__" (defArgs s_Book_eq) (defBody s_Book_eq) (defScope s_Book_eq) .none mkV1 mdc1 mpm1 man1 mcd1 mct1), msl1⟩) (mc1 : PySem.W.codeIn K mcd1 "Book.__eq__" = true) (mk1 : PySem.W.keepIn K (.ref mf1) = true)
    (ma2 : PySem.W.findIn K (.ref KC_Machine) "__init__" = some (some (.ref mf2))) (mi2 : PySem.W.isFn K (.ref mf2) = true) (ml2 : K.lookup mf2 = some ⟨moc2, mod2, .func (PySem.W.fnOf "__init__" "Machine.__init__" (defArgs s_Machine_init) (defBody s_Machine_init) (defScope s_Machine_init) .none mkV2 mdc2 mpm2 man2 mcd2 mct2), msl2⟩) (mc2 : PySem.W.codeIn K mcd2 "Machine.__init__" = true) (mk2 : PySem.W.keepIn K (.ref mf2) = true)
    (ma3 : PySem.W.findIn K (.ref KC_Machine) "__eq__" = some (some (.ref mf3))) (mi3 : PySem.W.isFn K (.ref mf3) = true) (ml3 : K.lookup mf3 = some ⟨moc3, mod3, .func (PySem.W.fnOf "__eq__" "Machine.__eq__" (defArgs s_Machine_eq) (defBody s_Machine_eq) (defScope s_Machine_eq) .none mkV3 mdc3 mpm3 man3 mcd3 mct3), msl3⟩) (mc3 : PySem.W.codeIn K mcd3 "Machine.__eq__" = true) (mk3 : PySem.W.keepIn K (.ref mf3) = true)
    (ma4 : PySem.W.findIn K (.ref KC_Machine) "done" = some (some (.ref mf4))) (mi4 : PySem.W.isFn K (.ref mf4) = true) (ml4 : K.lookup mf4 = some ⟨moc4, mod4, .func (PySem.W.fnOf "done" "Machine.done" (defArgs s_Machine_done) (defBody s_Machine_done) (defScope s_Machine_done) .none mkV4 mdc4 mpm4 man4 mcd4 mct4), msl4⟩) (mc4 : PySem.W.codeIn K mcd4 "Machine.done" = true) (mk4 : PySem.W.keepIn K (.ref mf4) = true)
    (ma5 : PySem.W.findIn K (.ref KC_Machine) "done_text" = some (some (.ref mf5))) (mi5 : PySem.W.isFn K (.ref mf5) = true) (ml5 : K.lookup mf5 = some ⟨moc5, mod5, .func (PySem.W.fnOf "done_text" "Machine.done_text" (defArgs s_Machine_done_text) (defBody s_Machine_done_text) (defScope s_Machine_done_text) .none mkV5 mdc5 mpm5 man5 mcd5 mct5), msl5⟩) (mc5 : PySem.W.codeIn K mcd5 "Machine.done_text" = true) (mk5 : PySem.W.keepIn K (.ref mf5) = true)
    (z0 : PySem.W.nsIn K mainGlobals "isinstance" = some none)
    (z1 : PySem.W.nsIn K mainGlobals "list" = some none)
    (z2 : PySem.W.nsIn K mainGlobals "tuple" = some none)
    (z3 : PySem.W.nsIn K mainGlobals "int" = some none)
    (z4 : PySem.W.nsIn K mainGlobals "bool" = some none)
    (z5 : PySem.W.nsIn K mainGlobals "str" = some none)
    (z6 : PySem.W.nsIn K mainGlobals "len" = some none)
    (z7 : PySem.W.nsIn K mainGlobals "all" = some none)
    (z8 : PySem.W.nsIn K mainGlobals "set" = some none)
    (z9 : PySem.W.nsIn K mainGlobals "enumerate" = some none)
    (z10 : PySem.W.nsIn K mainGlobals "abs" = some none)
    (z11 : PySem.W.nsIn K mainGlobals "min" = some none)
    (z12 : PySem.W.nsIn K mainGlobals "range" = some none)
    (z13 : PySem.W.nsIn K mainGlobals "repr" = some none)
    (er_BadBook : Er K mg "BadBook" "BadBook.__init__" s_BadBook_init "LetterError")
    (er_BadMachine : Er K mg "BadMachine" "BadMachine.__init__" s_BadMachine_init "LetterError")
    (er_BadNumber : Er K mg "BadNumber" "BadNumber.__init__" s_BadNumber_init "LetterError")
    (er_BadText : Er K mg "BadText" "BadText.__init__" s_BadText_init "LetterError")
    (er_BadRow : Er K mg "BadRow" "BadRow.__init__" s_BadRow_init "LetterError")
    (q0 : PySem.W.nsIn K mainGlobals "MOST_LETTERS" = some (some (.int 12 t0)))
    (q1 : PySem.W.nsIn K mainGlobals "MOST_SIGNS" = some (some (.int 200000 t1)))
    (q2 : PySem.W.nsIn K mainGlobals "MOST_WORDS" = some (some (.int 40 t2)))
    (q3 : PySem.W.nsIn K mainGlobals "MOST_STATES" = some (some (.int 40 t3)))
    (q4 : PySem.W.nsIn K mainGlobals "MOST_NUMBERS" = some (some (.int 10000 t4))) : Tx K mg :=
  {
    f_is_list := f0
    fd_is_list := _
    F_is_list := fun_mk (st := s_is_list) l0 c0 k0
    g_is_list := PySem.W.mg_of X G a0
    b_is_list := (fun_mk (st := s_is_list) l0 c0 k0).binds (ps := ["value"]) fun _ _ _ _ _ _ us hl => match us, hl with | [_], _ => rfl
    f_is_integer := f1
    fd_is_integer := _
    F_is_integer := fun_mk (st := s_is_integer) l1 c1 k1
    g_is_integer := PySem.W.mg_of X G a1
    b_is_integer := (fun_mk (st := s_is_integer) l1 c1 k1).binds (ps := ["value"]) fun _ _ _ _ _ _ us hl => match us, hl with | [_], _ => rfl
    f_is_within := f2
    fd_is_within := _
    F_is_within := fun_mk (st := s_is_within) l2 c2 k2
    g_is_within := PySem.W.mg_of X G a2
    b_is_within := (fun_mk (st := s_is_within) l2 c2 k2).binds (ps := ["value", "least", "most"]) fun _ _ _ _ _ _ us hl => match us, hl with | [_, _, _], _ => rfl
    f_are_letters := f3
    fd_are_letters := _
    F_are_letters := fun_mk (st := s_are_letters) l3 c3 k3
    g_are_letters := PySem.W.mg_of X G a3
    b_are_letters := (fun_mk (st := s_are_letters) l3 c3 k3).binds (ps := ["text"]) fun _ _ _ _ _ _ us hl => match us, hl with | [_], _ => rfl
    f_is_word := f4
    fd_is_word := _
    F_is_word := fun_mk (st := s_is_word) l4 c4 k4
    g_is_word := PySem.W.mg_of X G a4
    b_is_word := (fun_mk (st := s_is_word) l4 c4 k4).binds (ps := ["value"]) fun _ _ _ _ _ _ us hl => match us, hl with | [_], _ => rfl
    f_is_text := f5
    fd_is_text := _
    F_is_text := fun_mk (st := s_is_text) l5 c5 k5
    g_is_text := PySem.W.mg_of X G a5
    b_is_text := (fun_mk (st := s_is_text) l5 c5 k5).binds (ps := ["value"]) fun _ _ _ _ _ _ us hl => match us, hl with | [_], _ => rfl
    f_are_words := f6
    fd_are_words := _
    F_are_words := fun_mk (st := s_are_words) l6 c6 k6
    g_are_words := PySem.W.mg_of X G a6
    b_are_words := (fun_mk (st := s_are_words) l6 c6 k6).binds (ps := ["value", "most"]) fun _ _ _ _ _ _ us hl => match us, hl with | [_, _], _ => rfl
    f_is_row := f7
    fd_is_row := _
    F_is_row := fun_mk (st := s_is_row) l7 c7 k7
    g_is_row := PySem.W.mg_of X G a7
    b_is_row := (fun_mk (st := s_is_row) l7 c7 k7).binds (ps := ["book", "value"]) fun _ _ _ _ _ _ us hl => match us, hl with | [_, _], _ => rfl
    f_read := f8
    fd_read := _
    F_read := fun_mk (st := s_read) l8 c8 k8
    g_read := PySem.W.mg_of X G a8
    b_read := (fun_mk (st := s_read) l8 c8 k8).binds (ps := ["book", "text"]) fun _ _ _ _ _ _ us hl => match us, hl with | [_, _], _ => rfl
    f_are_deeds := f9
    fd_are_deeds := _
    F_are_deeds := fun_mk (st := s_are_deeds) l9 c9 k9
    g_are_deeds := PySem.W.mg_of X G a9
    b_are_deeds := (fun_mk (st := s_are_deeds) l9 c9 k9).binds (ps := ["value", "words"]) fun _ _ _ _ _ _ us hl => match us, hl with | [_, _], _ => rfl
    f_end_of_row := f10
    fd_end_of_row := _
    F_end_of_row := fun_mk (st := s_end_of_row) l10 c10 k10
    g_end_of_row := PySem.W.mg_of X G a10
    b_end_of_row := (fun_mk (st := s_end_of_row) l10 c10 k10).binds (ps := ["deeds", "row", "start"]) fun _ _ _ _ _ _ us hl => match us, hl with | [_, _, _], _ => rfl
    f_law_engine := f11
    fd_law_engine := _
    F_law_engine := fun_mk (st := s_law_engine) l11 c11 k11
    g_law_engine := PySem.W.mg_of X G a11
    b_law_engine := (fun_mk (st := s_law_engine) l11 c11 k11).binds (ps := ["_law_script"]) fun _ _ _ _ _ _ us hl => match us, hl with | [_], _ => rfl
    f_law_crank := f12
    fd_law_crank := _
    F_law_crank := fun_mk (st := s_law_crank) l12 c12 k12
    g_law_crank := PySem.W.mg_of X G a12
    b_law_crank := (fun_mk (st := s_law_crank) l12 c12 k12).binds (ps := ["_law_engine_here", "_law_many"]) fun _ _ _ _ _ _ us hl => match us, hl with | [_, _], _ => rfl
    f_law_one := f13
    fd_law_one := _
    F_law_one := fun_mk (st := s_law_one) l13 c13 k13
    g_law_one := PySem.W.mg_of X G a13
    b_law_one := (fun_mk (st := s_law_one) l13 c13 k13).binds (ps := ["_law_engine_here", "_law_some"]) fun _ _ _ _ _ _ us hl => match us, hl with | [_, _], _ => rfl
    f_law_book := f14
    fd_law_book := _
    F_law_book := fun_mk (st := s_law_book) l14 c14 k14
    g_law_book := PySem.W.mg_of X G a14
    b_law_book := (fun_mk (st := s_law_book) l14 c14 k14).binds (ps := ["_law_engine_here", "_law_many"]) fun _ _ _ _ _ _ us hl => match us, hl with | [_, _], _ => rfl
    f_law_deed := f15
    fd_law_deed := _
    F_law_deed := fun_mk (st := s_law_deed) l15 c15 k15
    g_law_deed := PySem.W.mg_of X G a15
    b_law_deed := (fun_mk (st := s_law_deed) l15 c15 k15).binds (ps := ["_law_engine_here", "_law_states"]) fun _ _ _ _ _ _ us hl => match us, hl with | [_, _], _ => rfl
    f_law_once := f16
    fd_law_once := _
    F_law_once := fun_mk (st := s_law_once) l16 c16 k16
    g_law_once := PySem.W.mg_of X G a16
    b_law_once := (fun_mk (st := s_law_once) l16 c16 k16).binds (ps := ["_law_engine_here", "_law_states"]) fun _ _ _ _ _ _ us hl => match us, hl with | [_, _], _ => rfl
    f_law_end := f17
    fd_law_end := _
    F_law_end := fun_mk (st := s_law_end) l17 c17 k17
    g_law_end := PySem.W.mg_of X G a17
    b_law_end := (fun_mk (st := s_law_end) l17 c17 k17).binds (ps := ["_law_words", "_law_deeds", "_law_text", "_law_start"]) fun _ _ _ _ _ _ us hl => match us, hl with | [_, _, _, _], _ => rfl
    f_law_heard := f18
    fd_law_heard := _
    F_law_heard := fun_mk (st := s_law_heard) l18 c18 k18
    g_law_heard := PySem.W.mg_of X G a18
    b_law_heard := (fun_mk (st := s_law_heard) l18 c18 k18).binds (ps := ["_law_ask"]) fun _ _ _ _ _ _ us hl => match us, hl with | [_], _ => rfl
    f_law_odd := f19
    fd_law_odd := _
    F_law_odd := fun_mk (st := s_law_odd) l19 c19 k19
    g_law_odd := PySem.W.mg_of X G a19
    b_law_odd := (fun_mk (st := s_law_odd) l19 c19 k19).binds (ps := ["_law_engine_here", "_law_deeds", "_law_states"]) fun _ _ _ _ _ _ us hl => match us, hl with | [_, _, _], _ => rfl
    f_law_ends_right := f20
    fd_law_ends_right := _
    F_law_ends_right := fun_mk (st := s_law_ends_right) l20 c20 k20
    g_law_ends_right := PySem.W.mg_of X G a20
    b_law_ends_right := (fun_mk (st := s_law_ends_right) l20 c20 k20).binds (ps := ["_law_engine_here", "_law_machine", "_law_words", "_law_deeds"]) fun _ _ _ _ _ _ us hl => match us, hl with | [_, _, _, _], _ => rfl
    f_law := f21
    fd_law := _
    F_law := fun_mk (st := s_law) l21 c21 k21
    g_law := PySem.W.mg_of X G a21
    b_law := (fun_mk (st := s_law) l21 c21 k21).binds (ps := ["_law_script"]) fun _ _ _ _ _ _ us hl => match us, hl with | [_], _ => rfl
    n_law := a21
    f_Book_init := mf0
    fd_Book_init := _
    F_Book_init := fun_mk (st := s_Book_init) ml0 mc0 mk0
    b_Book_init := (fun_mk (st := s_Book_init) ml0 mc0 mk0).binds (ps := ["self", "words"]) fun _ _ _ _ _ _ us hl => match us, hl with | [_, _], _ => rfl
    mk_Book := ⟨cm_Book, ma0, mi0, ck_Book⟩
    f_Book_eq := mf1
    fd_Book_eq := _
    F_Book_eq := fun_mk (st := s_Book_eq) ml1 mc1 mk1
    b_Book_eq := (fun_mk (st := s_Book_eq) ml1 mc1 mk1).binds (ps := ["self", "other"]) fun _ _ _ _ _ _ us hl => match us, hl with | [_, _], _ => rfl
    me_Book_eq := ⟨ma1, mi1, mk1⟩
    f_Machine_init := mf2
    fd_Machine_init := _
    F_Machine_init := fun_mk (st := s_Machine_init) ml2 mc2 mk2
    b_Machine_init := (fun_mk (st := s_Machine_init) ml2 mc2 mk2).binds (ps := ["self", "book", "deeds"]) fun _ _ _ _ _ _ us hl => match us, hl with | [_, _, _], _ => rfl
    mk_Machine := ⟨cm_Machine, ma2, mi2, ck_Machine⟩
    f_Machine_eq := mf3
    fd_Machine_eq := _
    F_Machine_eq := fun_mk (st := s_Machine_eq) ml3 mc3 mk3
    b_Machine_eq := (fun_mk (st := s_Machine_eq) ml3 mc3 mk3).binds (ps := ["self", "other"]) fun _ _ _ _ _ _ us hl => match us, hl with | [_, _], _ => rfl
    me_Machine_eq := ⟨ma3, mi3, mk3⟩
    f_Machine_done := mf4
    fd_Machine_done := _
    F_Machine_done := fun_mk (st := s_Machine_done) ml4 mc4 mk4
    b_Machine_done := (fun_mk (st := s_Machine_done) ml4 mc4 mk4).binds (ps := ["self", "row", "start"]) fun _ _ _ _ _ _ us hl => match us, hl with | [_, _, _], _ => rfl
    me_Machine_done := ⟨ma4, mi4, mk4⟩
    f_Machine_done_text := mf5
    fd_Machine_done_text := _
    F_Machine_done_text := fun_mk (st := s_Machine_done_text) ml5 mc5 mk5
    b_Machine_done_text := (fun_mk (st := s_Machine_done_text) ml5 mc5 mk5).binds (ps := ["self", "text", "start"]) fun _ _ _ _ _ _ us hl => match us, hl with | [_, _, _], _ => rfl
    me_Machine_done_text := ⟨ma5, mi5, mk5⟩
    na_Book_words := cx_Book_words
    C_Book := KC_Book
    gC_Book := PySem.W.mg_of X G ca_Book
    cl_Book := ⟨cp_Book, cd_Book, co_Book, cs_Book⟩
    ob_Book := cb_Book
    ne_Book := cn_Book
    oc_Book := cc_Book
    on_Book := cg_Book
    ot_Book := ct_Book
    kc_Book := ci_Book
    kt_Book := cy_Book
    na_Machine_book := cx_Machine_book
    na_Machine_deeds := cx_Machine_deeds
    na_Machine_states := cx_Machine_states
    C_Machine := KC_Machine
    gC_Machine := PySem.W.mg_of X G ca_Machine
    cl_Machine := ⟨cp_Machine, cd_Machine, co_Machine, cs_Machine⟩
    ob_Machine := cb_Machine
    ne_Machine := cn_Machine
    oc_Machine := cc_Machine
    on_Machine := cg_Machine
    ot_Machine := ct_Machine
    kc_Machine := ci_Machine
    kt_Machine := cy_Machine
    k_TooMany := KD_TooMany
    gk_TooMany := PySem.W.mg_of X G da_TooMany
    kc_TooMany := di_TooMany
    kt_TooMany := dy_TooMany
    k_BadText := KD_BadText
    gk_BadText := PySem.W.mg_of X G da_BadText
    kc_BadText := di_BadText
    kt_BadText := dy_BadText
    k_BadEdits := KD_BadEdits
    gk_BadEdits := PySem.W.mg_of X G da_BadEdits
    kc_BadEdits := di_BadEdits
    kt_BadEdits := dy_BadEdits
    k_BadNumber := KD_BadNumber
    gk_BadNumber := PySem.W.mg_of X G da_BadNumber
    kc_BadNumber := di_BadNumber
    kt_BadNumber := dy_BadNumber
    k_BadBook := KD_BadBook
    gk_BadBook := PySem.W.mg_of X G da_BadBook
    kc_BadBook := di_BadBook
    kt_BadBook := dy_BadBook
    k_BadMachine := KD_BadMachine
    gk_BadMachine := PySem.W.mg_of X G da_BadMachine
    kc_BadMachine := di_BadMachine
    kt_BadMachine := dy_BadMachine
    k_BadRow := KD_BadRow
    gk_BadRow := PySem.W.mg_of X G da_BadRow
    kc_BadRow := di_BadRow
    kt_BadRow := dy_BadRow
    k_Misfit := KD_Misfit
    gk_Misfit := PySem.W.mg_of X G da_Misfit
    kc_Misfit := di_Misfit
    kt_Misfit := dy_Misfit
    su_BadMachine_TooMany := ds_BadMachine_TooMany
    su_BadMachine_BadText := ds_BadMachine_BadText
    su_BadMachine_BadEdits := ds_BadMachine_BadEdits
    su_BadMachine_BadNumber := ds_BadMachine_BadNumber
    su_BadMachine_BadBook := ds_BadMachine_BadBook
    su_BadMachine_BadMachine := ds_BadMachine_BadMachine
    su_BadMachine_BadRow := ds_BadMachine_BadRow
    su_BadMachine_Misfit := ds_BadMachine_Misfit
    su_BadNumber_TooMany := ds_BadNumber_TooMany
    su_BadNumber_BadText := ds_BadNumber_BadText
    su_BadNumber_BadEdits := ds_BadNumber_BadEdits
    su_BadNumber_BadNumber := ds_BadNumber_BadNumber
    su_BadNumber_BadBook := ds_BadNumber_BadBook
    su_BadNumber_BadMachine := ds_BadNumber_BadMachine
    su_BadNumber_BadRow := ds_BadNumber_BadRow
    su_BadNumber_Misfit := ds_BadNumber_Misfit
    su_BadBook_TooMany := ds_BadBook_TooMany
    su_BadBook_BadText := ds_BadBook_BadText
    su_BadBook_BadEdits := ds_BadBook_BadEdits
    su_BadBook_BadNumber := ds_BadBook_BadNumber
    su_BadBook_BadBook := ds_BadBook_BadBook
    su_BadBook_BadMachine := ds_BadBook_BadMachine
    su_BadBook_BadRow := ds_BadBook_BadRow
    su_BadBook_Misfit := ds_BadBook_Misfit
    su_BadText_TooMany := ds_BadText_TooMany
    su_BadText_BadText := ds_BadText_BadText
    su_BadText_BadEdits := ds_BadText_BadEdits
    su_BadText_BadNumber := ds_BadText_BadNumber
    su_BadText_BadBook := ds_BadText_BadBook
    su_BadText_BadMachine := ds_BadText_BadMachine
    su_BadText_BadRow := ds_BadText_BadRow
    su_BadText_Misfit := ds_BadText_Misfit
    su_BadRow_TooMany := ds_BadRow_TooMany
    su_BadRow_BadText := ds_BadRow_BadText
    su_BadRow_BadEdits := ds_BadRow_BadEdits
    su_BadRow_BadNumber := ds_BadRow_BadNumber
    su_BadRow_BadBook := ds_BadRow_BadBook
    su_BadRow_BadMachine := ds_BadRow_BadMachine
    su_BadRow_BadRow := ds_BadRow_BadRow
    su_BadRow_Misfit := ds_BadRow_Misfit
    su_Book_Machine := ds_Book_Machine
    su_Book_Book := ds_Book_Book
    m_isinstance := PySem.W.mg_none_of X G z0
    m_list := PySem.W.mg_none_of X G z1
    m_tuple := PySem.W.mg_none_of X G z2
    m_int := PySem.W.mg_none_of X G z3
    m_bool := PySem.W.mg_none_of X G z4
    m_str := PySem.W.mg_none_of X G z5
    m_len := PySem.W.mg_none_of X G z6
    m_all := PySem.W.mg_none_of X G z7
    m_set := PySem.W.mg_none_of X G z8
    m_enumerate := PySem.W.mg_none_of X G z9
    m_abs := PySem.W.mg_none_of X G z10
    m_min := PySem.W.mg_none_of X G z11
    m_range := PySem.W.mg_none_of X G z12
    m_repr := PySem.W.mg_none_of X G z13
    e_BadBook := er_BadBook
    e_BadMachine := er_BadMachine
    e_BadNumber := er_BadNumber
    e_BadText := er_BadText
    e_BadRow := er_BadRow
    t_MOST_LETTERS := t0
    c_MOST_LETTERS := PySem.W.mg_of X G q0
    t_MOST_SIGNS := t1
    c_MOST_SIGNS := PySem.W.mg_of X G q1
    t_MOST_WORDS := t2
    c_MOST_WORDS := PySem.W.mg_of X G q2
    t_MOST_STATES := t3
    c_MOST_STATES := PySem.W.mg_of X G q3
    t_MOST_NUMBERS := t4
    c_MOST_NUMBERS := PySem.W.mg_of X G q4 }
end K21
open PySem PySem.W PyProof.Rows
set_option maxHeartbeats 0 in
theorem PySem.Challenge.cw_anyletter_k21_machines_done_holds : PySem.Challenge.rw_anyletter_k21_machines_done.Holds := by
  w_on; o_law; k_head; (case hw => w_witness2)
  k_fill
  refine Kx.walkL (l := PySem.Challenge.rw_anyletter_k21_machines_done) (n := 63) (k := 16) (x := "_law_script") (y := "law") K21.sp_law rfl (by decide) rfl ⟨rfl, by decide, by decide⟩ (fun w h Y => PySem.W.km_in_of Y) ?hcs ?FF (fun K Pt H a ns hl ht hS => ⟨a, ns, rfl, hS, ht, fun _ => rfl⟩)
  case hcs =>
    intro p
    refine' ⟨⟨_, rfl⟩, Kx.tabIn_of ?ta ?tl ?te ?tl2 ?tv ?tn⟩
    case ta => k_is
    case tl => k_is
    case te => rfl
    case tl2 => k_is
    case tv => rfl
    case tn => rfl
  case FF =>
    intro w mg fa h KX G hmg
    refine' Kx.useIt (K21.tx_mk KX G ?a0 ?l0 ?c0 ?k0 ?a1 ?l1 ?c1 ?k1 ?a2 ?l2 ?c2 ?k2 ?a3 ?l3 ?c3 ?k3 ?a4 ?l4 ?c4 ?k4 ?a5 ?l5 ?c5 ?k5 ?a6 ?l6 ?c6 ?k6 ?a7 ?l7 ?c7 ?k7 ?a8 ?l8 ?c8 ?k8 ?a9 ?l9 ?c9 ?k9 ?a10 ?l10 ?c10 ?k10 ?a11 ?l11 ?c11 ?k11 ?a12 ?l12 ?c12 ?k12 ?a13 ?l13 ?c13 ?k13 ?a14 ?l14 ?c14 ?k14 ?a15 ?l15 ?c15 ?k15 ?a16 ?l16 ?c16 ?k16 ?a17 ?l17 ?c17 ?k17 ?a18 ?l18 ?c18 ?k18 ?a19 ?l19 ?c19 ?k19 ?a20 ?l20 ?c20 ?k20 ?a21 ?l21 ?c21 ?k21 ?ca_Book ?cp_Book ?cd_Book ?co_Book ?cs_Book ?cm_Book ?ck_Book ?cb_Book ?cn_Book ?cc_Book ?cg_Book ?ct_Book ?ci_Book ?cy_Book ?cx_Book_words ?ca_Machine ?cp_Machine ?cd_Machine ?co_Machine ?cs_Machine ?cm_Machine ?ck_Machine ?cb_Machine ?cn_Machine ?cc_Machine ?cg_Machine ?ct_Machine ?ci_Machine ?cy_Machine ?cx_Machine_book ?cx_Machine_deeds ?cx_Machine_states ?da_TooMany ?di_TooMany ?dy_TooMany ?da_BadText ?di_BadText ?dy_BadText ?da_BadEdits ?di_BadEdits ?dy_BadEdits ?da_BadNumber ?di_BadNumber ?dy_BadNumber ?da_BadBook ?di_BadBook ?dy_BadBook ?da_BadMachine ?di_BadMachine ?dy_BadMachine ?da_BadRow ?di_BadRow ?dy_BadRow ?da_Misfit ?di_Misfit ?dy_Misfit ?ds_BadMachine_TooMany ?ds_BadMachine_BadText ?ds_BadMachine_BadEdits ?ds_BadMachine_BadNumber ?ds_BadMachine_BadBook ?ds_BadMachine_BadMachine ?ds_BadMachine_BadRow ?ds_BadMachine_Misfit ?ds_BadNumber_TooMany ?ds_BadNumber_BadText ?ds_BadNumber_BadEdits ?ds_BadNumber_BadNumber ?ds_BadNumber_BadBook ?ds_BadNumber_BadMachine ?ds_BadNumber_BadRow ?ds_BadNumber_Misfit ?ds_BadBook_TooMany ?ds_BadBook_BadText ?ds_BadBook_BadEdits ?ds_BadBook_BadNumber ?ds_BadBook_BadBook ?ds_BadBook_BadMachine ?ds_BadBook_BadRow ?ds_BadBook_Misfit ?ds_BadText_TooMany ?ds_BadText_BadText ?ds_BadText_BadEdits ?ds_BadText_BadNumber ?ds_BadText_BadBook ?ds_BadText_BadMachine ?ds_BadText_BadRow ?ds_BadText_Misfit ?ds_BadRow_TooMany ?ds_BadRow_BadText ?ds_BadRow_BadEdits ?ds_BadRow_BadNumber ?ds_BadRow_BadBook ?ds_BadRow_BadMachine ?ds_BadRow_BadRow ?ds_BadRow_Misfit ?ds_Book_Machine ?ds_Book_Book ?ma0 ?mi0 ?ml0 ?mc0 ?mk0 ?ma1 ?mi1 ?ml1 ?mc1 ?mk1 ?ma2 ?mi2 ?ml2 ?mc2 ?mk2 ?ma3 ?mi3 ?ml3 ?mc3 ?mk3 ?ma4 ?mi4 ?ml4 ?mc4 ?mk4 ?ma5 ?mi5 ?ml5 ?mc5 ?mk5 ?z0 ?z1 ?z2 ?z3 ?z4 ?z5 ?z6 ?z7 ?z8 ?z9 ?z10 ?z11 ?z12 ?z13 ?er_BadBook ?er_BadMachine ?er_BadNumber ?er_BadText ?er_BadRow ?q0 ?q1 ?q2 ?q3 ?q4) (fun T => ?main)
    (case a0 => k_is)
    (case l0 => k_is)
    (case c0 => k_is)
    (case k0 => k_is)
    (case a1 => k_is)
    (case l1 => k_is)
    (case c1 => k_is)
    (case k1 => k_is)
    (case a2 => k_is)
    (case l2 => k_is)
    (case c2 => k_is)
    (case k2 => k_is)
    (case a3 => k_is)
    (case l3 => k_is)
    (case c3 => k_is)
    (case k3 => k_is)
    (case a4 => k_is)
    (case l4 => k_is)
    (case c4 => k_is)
    (case k4 => k_is)
    (case a5 => k_is)
    (case l5 => k_is)
    (case c5 => k_is)
    (case k5 => k_is)
    (case a6 => k_is)
    (case l6 => k_is)
    (case c6 => k_is)
    (case k6 => k_is)
    (case a7 => k_is)
    (case l7 => k_is)
    (case c7 => k_is)
    (case k7 => k_is)
    (case a8 => k_is)
    (case l8 => k_is)
    (case c8 => k_is)
    (case k8 => k_is)
    (case a9 => k_is)
    (case l9 => k_is)
    (case c9 => k_is)
    (case k9 => k_is)
    (case a10 => k_is)
    (case l10 => k_is)
    (case c10 => k_is)
    (case k10 => k_is)
    (case a11 => k_is)
    (case l11 => k_is)
    (case c11 => k_is)
    (case k11 => k_is)
    (case a12 => k_is)
    (case l12 => k_is)
    (case c12 => k_is)
    (case k12 => k_is)
    (case a13 => k_is)
    (case l13 => k_is)
    (case c13 => k_is)
    (case k13 => k_is)
    (case a14 => k_is)
    (case l14 => k_is)
    (case c14 => k_is)
    (case k14 => k_is)
    (case a15 => k_is)
    (case l15 => k_is)
    (case c15 => k_is)
    (case k15 => k_is)
    (case a16 => k_is)
    (case l16 => k_is)
    (case c16 => k_is)
    (case k16 => k_is)
    (case a17 => k_is)
    (case l17 => k_is)
    (case c17 => k_is)
    (case k17 => k_is)
    (case a18 => k_is)
    (case l18 => k_is)
    (case c18 => k_is)
    (case k18 => k_is)
    (case a19 => k_is)
    (case l19 => k_is)
    (case c19 => k_is)
    (case k19 => k_is)
    (case a20 => k_is)
    (case l20 => k_is)
    (case c20 => k_is)
    (case k20 => k_is)
    (case a21 => k_is)
    (case l21 => k_is)
    (case c21 => k_is)
    (case k21 => k_is)
    (case ca_Book => k_is)
    (case cp_Book => k_is)
    (case cd_Book => k_is)
    (case co_Book => k_is)
    (case cs_Book => k_is)
    (case cm_Book => k_is)
    (case ck_Book => k_is)
    (case cb_Book => k_is)
    (case cn_Book => k_is)
    (case cc_Book => k_is)
    (case cg_Book => k_is)
    (case ct_Book => k_is)
    (case ci_Book => k_is)
    (case cy_Book => k_is)
    (case cx_Book_words => k_is)
    (case ca_Machine => k_is)
    (case cp_Machine => k_is)
    (case cd_Machine => k_is)
    (case co_Machine => k_is)
    (case cs_Machine => k_is)
    (case cm_Machine => k_is)
    (case ck_Machine => k_is)
    (case cb_Machine => k_is)
    (case cn_Machine => k_is)
    (case cc_Machine => k_is)
    (case cg_Machine => k_is)
    (case ct_Machine => k_is)
    (case ci_Machine => k_is)
    (case cy_Machine => k_is)
    (case cx_Machine_book => k_is)
    (case cx_Machine_deeds => k_is)
    (case cx_Machine_states => k_is)
    (case da_TooMany => k_is)
    (case di_TooMany => k_is)
    (case dy_TooMany => k_is)
    (case da_BadText => k_is)
    (case di_BadText => k_is)
    (case dy_BadText => k_is)
    (case da_BadEdits => k_is)
    (case di_BadEdits => k_is)
    (case dy_BadEdits => k_is)
    (case da_BadNumber => k_is)
    (case di_BadNumber => k_is)
    (case dy_BadNumber => k_is)
    (case da_BadBook => k_is)
    (case di_BadBook => k_is)
    (case dy_BadBook => k_is)
    (case da_BadMachine => k_is)
    (case di_BadMachine => k_is)
    (case dy_BadMachine => k_is)
    (case da_BadRow => k_is)
    (case di_BadRow => k_is)
    (case dy_BadRow => k_is)
    (case da_Misfit => k_is)
    (case di_Misfit => k_is)
    (case dy_Misfit => k_is)
    (case ds_BadMachine_TooMany => k_is)
    (case ds_BadMachine_BadText => k_is)
    (case ds_BadMachine_BadEdits => k_is)
    (case ds_BadMachine_BadNumber => k_is)
    (case ds_BadMachine_BadBook => k_is)
    (case ds_BadMachine_BadMachine => k_is)
    (case ds_BadMachine_BadRow => k_is)
    (case ds_BadMachine_Misfit => k_is)
    (case ds_BadNumber_TooMany => k_is)
    (case ds_BadNumber_BadText => k_is)
    (case ds_BadNumber_BadEdits => k_is)
    (case ds_BadNumber_BadNumber => k_is)
    (case ds_BadNumber_BadBook => k_is)
    (case ds_BadNumber_BadMachine => k_is)
    (case ds_BadNumber_BadRow => k_is)
    (case ds_BadNumber_Misfit => k_is)
    (case ds_BadBook_TooMany => k_is)
    (case ds_BadBook_BadText => k_is)
    (case ds_BadBook_BadEdits => k_is)
    (case ds_BadBook_BadNumber => k_is)
    (case ds_BadBook_BadBook => k_is)
    (case ds_BadBook_BadMachine => k_is)
    (case ds_BadBook_BadRow => k_is)
    (case ds_BadBook_Misfit => k_is)
    (case ds_BadText_TooMany => k_is)
    (case ds_BadText_BadText => k_is)
    (case ds_BadText_BadEdits => k_is)
    (case ds_BadText_BadNumber => k_is)
    (case ds_BadText_BadBook => k_is)
    (case ds_BadText_BadMachine => k_is)
    (case ds_BadText_BadRow => k_is)
    (case ds_BadText_Misfit => k_is)
    (case ds_BadRow_TooMany => k_is)
    (case ds_BadRow_BadText => k_is)
    (case ds_BadRow_BadEdits => k_is)
    (case ds_BadRow_BadNumber => k_is)
    (case ds_BadRow_BadBook => k_is)
    (case ds_BadRow_BadMachine => k_is)
    (case ds_BadRow_BadRow => k_is)
    (case ds_BadRow_Misfit => k_is)
    (case ds_Book_Machine => k_is)
    (case ds_Book_Book => k_is)
    (case ma0 => k_is)
    (case mi0 => k_is)
    (case ml0 => k_is)
    (case mc0 => k_is)
    (case mk0 => k_is)
    (case ma1 => k_is)
    (case mi1 => k_is)
    (case ml1 => k_is)
    (case mc1 => k_is)
    (case mk1 => k_is)
    (case ma2 => k_is)
    (case mi2 => k_is)
    (case ml2 => k_is)
    (case mc2 => k_is)
    (case mk2 => k_is)
    (case ma3 => k_is)
    (case mi3 => k_is)
    (case ml3 => k_is)
    (case mc3 => k_is)
    (case mk3 => k_is)
    (case ma4 => k_is)
    (case mi4 => k_is)
    (case ml4 => k_is)
    (case mc4 => k_is)
    (case mk4 => k_is)
    (case ma5 => k_is)
    (case mi5 => k_is)
    (case ml5 => k_is)
    (case mc5 => k_is)
    (case mk5 => k_is)
    (case z0 => k_is)
    (case z1 => k_is)
    (case z2 => k_is)
    (case z3 => k_is)
    (case z4 => k_is)
    (case z5 => k_is)
    (case z6 => k_is)
    (case z7 => k_is)
    (case z8 => k_is)
    (case z9 => k_is)
    (case z10 => k_is)
    (case z11 => k_is)
    (case z12 => k_is)
    (case z13 => k_is)
    (case er_BadBook =>
      refine' Kx.er_mk KX G ?waC ?waL ?wxL ?whbm ?wsa ?weC ?wtC ?wkC ?wa1 ?wt1 ?wl1 ?wc1 ?wk1 ?wb1 ?wnb ?wga ?wgg ?whd ?whc ?whn ?wht ?whm ?weL ?wdL ?wtL ?wsCL
      (case waC => k_is); (case waL => k_is); (case wxL => k_is); (case whbm => rfl); (case wsa => k_is); (case weC => k_is); (case wtC => k_is); (case wkC => k_is); (case wa1 => k_is); (case wt1 => k_is); (case wl1 => k_is); (case wc1 => k_is); (case wk1 => k_is)
      (case wb1 => exact fun _ _ _ _ _ _ us hl => match us, hl with | [_, _], _ => rfl)
      (case wnb => k_is); (case wga => k_is); (case wgg => k_is); (case whd => k_is); (case whc => k_is); (case whn => k_is); (case wht => k_is); (case whm => k_is); (case weL => k_is); (case wdL => k_is); (case wtL => k_is); (case wsCL => k_is))
    (case er_BadMachine =>
      refine' Kx.er_mk KX G ?waC ?waL ?wxL ?whbm ?wsa ?weC ?wtC ?wkC ?wa1 ?wt1 ?wl1 ?wc1 ?wk1 ?wb1 ?wnb ?wga ?wgg ?whd ?whc ?whn ?wht ?whm ?weL ?wdL ?wtL ?wsCL
      (case waC => k_is); (case waL => k_is); (case wxL => k_is); (case whbm => rfl); (case wsa => k_is); (case weC => k_is); (case wtC => k_is); (case wkC => k_is); (case wa1 => k_is); (case wt1 => k_is); (case wl1 => k_is); (case wc1 => k_is); (case wk1 => k_is)
      (case wb1 => exact fun _ _ _ _ _ _ us hl => match us, hl with | [_, _], _ => rfl)
      (case wnb => k_is); (case wga => k_is); (case wgg => k_is); (case whd => k_is); (case whc => k_is); (case whn => k_is); (case wht => k_is); (case whm => k_is); (case weL => k_is); (case wdL => k_is); (case wtL => k_is); (case wsCL => k_is))
    (case er_BadNumber =>
      refine' Kx.er_mk KX G ?waC ?waL ?wxL ?whbm ?wsa ?weC ?wtC ?wkC ?wa1 ?wt1 ?wl1 ?wc1 ?wk1 ?wb1 ?wnb ?wga ?wgg ?whd ?whc ?whn ?wht ?whm ?weL ?wdL ?wtL ?wsCL
      (case waC => k_is); (case waL => k_is); (case wxL => k_is); (case whbm => rfl); (case wsa => k_is); (case weC => k_is); (case wtC => k_is); (case wkC => k_is); (case wa1 => k_is); (case wt1 => k_is); (case wl1 => k_is); (case wc1 => k_is); (case wk1 => k_is)
      (case wb1 => exact fun _ _ _ _ _ _ us hl => match us, hl with | [_, _], _ => rfl)
      (case wnb => k_is); (case wga => k_is); (case wgg => k_is); (case whd => k_is); (case whc => k_is); (case whn => k_is); (case wht => k_is); (case whm => k_is); (case weL => k_is); (case wdL => k_is); (case wtL => k_is); (case wsCL => k_is))
    (case er_BadText =>
      refine' Kx.er_mk KX G ?waC ?waL ?wxL ?whbm ?wsa ?weC ?wtC ?wkC ?wa1 ?wt1 ?wl1 ?wc1 ?wk1 ?wb1 ?wnb ?wga ?wgg ?whd ?whc ?whn ?wht ?whm ?weL ?wdL ?wtL ?wsCL
      (case waC => k_is); (case waL => k_is); (case wxL => k_is); (case whbm => rfl); (case wsa => k_is); (case weC => k_is); (case wtC => k_is); (case wkC => k_is); (case wa1 => k_is); (case wt1 => k_is); (case wl1 => k_is); (case wc1 => k_is); (case wk1 => k_is)
      (case wb1 => exact fun _ _ _ _ _ _ us hl => match us, hl with | [_, _], _ => rfl)
      (case wnb => k_is); (case wga => k_is); (case wgg => k_is); (case whd => k_is); (case whc => k_is); (case whn => k_is); (case wht => k_is); (case whm => k_is); (case weL => k_is); (case wdL => k_is); (case wtL => k_is); (case wsCL => k_is))
    (case er_BadRow =>
      refine' Kx.er_mk KX G ?waC ?waL ?wxL ?whbm ?wsa ?weC ?wtC ?wkC ?wa1 ?wt1 ?wl1 ?wc1 ?wk1 ?wb1 ?wnb ?wga ?wgg ?whd ?whc ?whn ?wht ?whm ?weL ?wdL ?wtL ?wsCL
      (case waC => k_is); (case waL => k_is); (case wxL => k_is); (case whbm => rfl); (case wsa => k_is); (case weC => k_is); (case wtC => k_is); (case wkC => k_is); (case wa1 => k_is); (case wt1 => k_is); (case wl1 => k_is); (case wc1 => k_is); (case wk1 => k_is)
      (case wb1 => exact fun _ _ _ _ _ _ us hl => match us, hl with | [_, _], _ => rfl)
      (case wnb => k_is); (case wga => k_is); (case wgg => k_is); (case whd => k_is); (case whc => k_is); (case whn => k_is); (case wht => k_is); (case whm => k_is); (case weL => k_is); (case wdL => k_is); (case wtL => k_is); (case wsCL => k_is))
    (case q0 => k_is)
    (case q1 => k_is)
    (case q2 => k_is)
    (case q3 => k_is)
    (case q4 => k_is)
    case main =>
      obtain rfl := Kx.same_ref (x := "law") T.g_law hmg
      exact ⟨T.fd_law, Kx.binds_one T.F_law (fun _ _ _ _ _ _ _ => rfl), fun c Pt ht base hk hg hTB => K21.ok_law T (Kx.funC_of T.F_law T.n_law ht) hTB⟩
