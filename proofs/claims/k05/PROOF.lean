import PyProof.Rows.All
import Wide.All
import OpenK.AllK
import Wide.FinOn
import PyProof.EqAt
import PyProof.EqKinds
import PyProof.TupleCall
import HandS.ForMost
import HandS.Exc
import HandS.IsInst
import HandS.StrMore
import HandS.Replace
import HandS.ReplaceDef
import HandS.ReplaceLit
import HandS.ReplaceList
import HandS.Defaults
import HandS.Style
import HandS.Zip
import HandS.Conv
import HandS.Lambda
import HandS.Codes
import HandS.Evl
import HandS.ExcValue
import HandS.ExcInit
import HandS.ExcIs
import HandS.ExcField
import KE.KDflt
import KE.KExcIs
import HandS.EndTab
import PyProof.ReprRoads
import PyProof.ReprBulk
import HandS.ExcOwn
import HandS.WordsExc
import HandS.Walk
import PyProof.Rows.StrStrike
import PyProof.Draws
import PyProof.ListStr
import PyProof.Rows.RegStrFacts
import PyProof.Rows.RegReprOcc
import KE.KxIndex
import HandS.OwnEq
import HandS.More
import HandS.Strs
import HandS.SetFor
import KE.KRevSl
import KE.GoesMore
import HandS.DictComp
import PyProof.StrCalls6
import PyProof.MeetsStr3
import PyProof.CallFns
import KE.GoesZip
import HandS.MakeKwOnly
import PySem.Challenge.RW_anyletter_k05_what_is_no_damage
set_option Elab.async false
set_option linter.all false
set_option maxRecDepth 100000
set_option maxHeartbeats 4000000
set_option autoImplicit false
namespace Kx
open PySem PySem.Spec PyProof.Rows L2
/-! ### a def that is promised only where no repr runs around it -/
structure FnG (P : Program) (w : World) (K : PySem.W.Frag) (mg : Str → Option Value) (base : Heap) (CX : CXT) (k : Nat) (f : Addr) (fd : FuncData) (ps : List Str) (sp : Sp) : Prop where
  len : ∀ vs H Q E, sp vs H Q E → vs.length = ps.length
  go : ∀ (A : Around) (outer : List Env) (s : Shared) (H : Hp) (args : Args) (us : List Value) (vs : List V) (Q : VK) (E : XK), A.guards = some [] → Room k A → Env0 P w K mg base A outer s H →
    BindsTo s fd args (ps.zip us) → Vals vs us → sp vs H Q E → codeAny (model P w) A (.call (.ref f) args) (CR CX outer P w H s Q E) s
section
variable {P : Program} {w : World} {K : PySem.W.Frag} {mg : Str → Option Value} {base : Heap}
theorem FnG.of {CX : CXT} {k : Nat} {f : Addr} {fd : FuncData} {ps : List Str} {sp : Sp} (F : FnOk P w K mg base CX k f fd ps sp) : FnG P w K mg base CX k f fd ps sp :=
  ⟨F.len, fun A outer s H args us vs Q E _ => F.run A outer s H args us vs Q E⟩
/-- the body's rule, guards told -/
theorem okG {x qual : Str} {st : Stmt} {f : Addr} {fd : FuncData} {N ps : List Str} {k : Nat} {sp : Sp} (F : Fun K x qual st f fd) (S : FnScope N ps (defScope st)) (len : ∀ vs H Q E, sp vs H Q E → vs.length = ps.length)
    (hbody : ∀ (cdv : Value) (A : Around) (outer : List Env) (s : Shared) (H : Hp) (vs : List V) (Q : VK) (E : XK), A.guards = some [] → Room k (A.deeper (envOfC qual (defScope st) s.heap.objs.size f cdv)) → sp vs H Q E →
      ∃ t, PSs (cxOf CX0 P w K mg base N qual (defScope st) f cdv A outer s H E).nox (defBody st) t ∧ t { nx := fun _ H' => Q .non H', rt := Q } (start N vs) H) :
    FnG P w K mg base CX0 (k + 1) f fd ps sp := by
  obtain ⟨oc, od, kV, doc, pm, an, cdv, ct, osl, rfl, lk, hcd⟩ := F.ex
  refine ⟨len, fun A outer s H args us vs Q E hg hr e0 hb r hsp => ?_⟩
  refine LamX.run_ofS lk hcd S hr e0 hb r (len _ _ _ _ hsp) fun hr' => ?_
  obtain ⟨t, h, q⟩ := hbody cdv A outer s H vs Q E hg hr' hsp
  exact ⟨t, h.nox, q⟩
end
/-! ### the law's own call, guards told -/
section
variable {P : Program} {w : World} {K : PySem.W.Frag} {mg mb : Str → Option Value} {k : Nat} {fa a : Addr} {fd : FuncData} {x : Str} {sp : Sp} {s : Shared} {vs : List Value} {ns : List Int}
/-- what the law's call has to leave -/
def LawEnd (s : Shared) (r : Result) (t : Shared) : Prop := r = .ok (.ret (.bool true)) ∧ OldK s.heap t.heap ∧ t.os = s.os ∧ AllBare t.gens
theorem lawG_of (KX : K.In s.heap) (G : s.heap.Ns mainGlobals mg) (B : s.heap.Ns builtinsNs mb) (BB : ∀ y : Str, y ≠ "__name__" → mb y = bootBuiltins y) (NL : s.heap.NoLimit) (g0 : s.gens = #[])
    (hr : Room k callerA) (F : ∀ base : Heap, K.In base → base.Ns mainGlobals mg → FnG P w K mg base CX0 k fa fd [x] sp) (bd : ∀ (t : Shared) (u : Value), BindsTo t fd ⟨[u], []⟩ [(x, u)])
    (H : Hp) (one : ∀ b u, H b = some u → b = a ∧ K.lookup a = none ∧ (∃ o xs, u = .frz o (.lst xs)) ∧ ∀ o es ep, s.heap.get? a = some o → o.data ≠ .dict es ep) (ok : HOk P w H s.heap)
    (pr : sp [.ref a] H (fun v _ => v = .bl true) fun _ _ _ => False) : codeAny (model P w) callerA (.call (.ref fa) ⟨[.ref a], []⟩) (LawEnd s) s := by
  have stay : ∀ {b : Addr} {o : Obj}, s.heap.get? b = some o → H b = none → (hidT s.heap H).get? b = some o := fun e n => hidT_get e n
  have nodict : ∀ {b : Addr} {m : Str → Option Value}, s.heap.Ns b m → (hidT s.heap H).Ns b m := by
    rintro b m ⟨o, es, ep, e, d, r⟩
    refine ⟨o, es, ep, stay e ?_, d, r⟩
    cases q : H b with
    | none => rfl
    | some u =>
      obtain ⟨rfl, _, _, nd⟩ := one b u q
      exact absurd d (nd o es ep e)
  have Kb : K.In (hidT s.heap H) := by
    intro b o e
    refine stay (KX b o e) ?_
    cases q : H b with
    | none => rfl
    | some u =>
      obtain ⟨rfl, z, _, _⟩ := one b u q
      rw [z] at e
      cases e
  obtain ⟨ml, l1, l2⟩ := NL
  have E0 : Env0 P w K mg (hidT s.heap H) callerA [] s H :=
    { frames := rfl
      mod := { kin := Kb, glob := nodict G, blt := ⟨mb, nodict B, BB⟩, nolimit := ⟨ml, nodict l1, l2⟩ }
      bs := fun b o e => of_hidT e
      bsz := Nat.le_of_eq (hidT_size _ _)
      funs := trivial
      frf := fun b hb => absurd hb (List.not_mem_nil)
      hok := ok
      bare := .of_eq g0 }
  refine codeAny_mono ((F _ Kb (nodict G)).go callerA [] s H ⟨[.ref a], []⟩ [.ref a] [.ref a] _ _ rfl hr E0 (bd s (.ref a)) (.cons rfl .nil) pr) ?_
  intro r t h
  match r, h with
  | .error e, h =>
    exact (show False from h).elim
  | .ok .next, h => exact False.elim h
  | .ok .brk, h => exact False.elim h
  | .ok .cont, h => exact False.elim h
  | .ok (.ret u), h =>
    obtain ⟨v, H', h1, h2, un, ok', rv, rfl⟩ := h
    cases rv
    refine ⟨rfl, OldK.of_keep fun b o e => ?_, h1, h2⟩
    cases q : H b with
    | none => exact un.keep b o e q List.not_mem_nil List.not_mem_nil
    | some u =>
      obtain ⟨rfl, _, ⟨ob, xs, rfl⟩, _⟩ := one b u q
      have e1 := (ok b _ q).1
      have e2 := (ok' b _ (un.frzs b ob _ q)).1
      rw [e] at e1
      cases e1
      exact e2
theorem lawG (KX : K.In s.heap) (G : s.heap.Ns mainGlobals mg) (B : s.heap.Ns builtinsNs mb) (BB : ∀ y : Str, y ≠ "__name__" → mb y = bootBuiltins y) (NL : s.heap.NoLimit) (g0 : s.gens = #[])
    (ha : s.heap.get? a = some { cls := .type "list", data := .seq vs.toArray }) (hi : IntsAre vs ns) (hl : ns.length ≤ sizeLine)
    (hr : Room k callerA) (F : ∀ base : Heap, K.In base → base.Ns mainGlobals mg → FnG P w K mg base CX0 k fa fd [x] sp) (bd : ∀ (t : Shared) (u : Value), BindsTo t fd ⟨[u], []⟩ [(x, u)])
    (pr : ∀ H : Hp, Only H → SqL K H a (ns.map V.int) → sp [.ref a] H (fun v _ => v = .bl true) fun _ _ _ => False) : codeAny (model P w) callerA (.call (.ref fa) ⟨[.ref a], []⟩) (LawEnd s) s := by
  have rv := vals_ints hi
  have lv := hi.length
  have nd : ∀ o es ep, s.heap.get? a = some o → o.data ≠ .dict es ep := by
    intro o es ep e d
    rw [ha] at e
    cases e
    cases d
  cases hk : K.lookup a with
  | some o =>
    have e := KX a o hk
    rw [ha] at e
    cases e
    have z : ∀ (b : Addr) (u : HO), (none : Option HO) = some u → False := fun _ _ q => nomatch q
    refine lawG_of KX G B BB NL g0 hr F bd (fun _ => none) (fun b u q => (z b u q).elim) (fun b u q => (z b u q).elim) (pr _ (fun _ => .inl rfl) (.inr ⟨_, vs.toArray, _, hk, rfl, rfl, rfl, ?_, by simpa using rv⟩))
    rw [List.size_toArray, lv]
    exact hl
  | none =>
    let o0 : Obj := { cls := .type "list", data := .seq vs.toArray }
    let Ha : Hp := fun b => if b = a then some (.frz o0 (.lst (ns.map V.int))) else none
    have at_a : Ha a = some (.frz o0 (.lst (ns.map V.int))) := if_pos rfl
    have but : ∀ b u, Ha b = some u → b = a ∧ u = .frz o0 (.lst (ns.map V.int)) := by
      intro b u q
      by_cases hb : b = a
      · subst hb
        rw [at_a] at q
        exact ⟨rfl, (Option.some.inj q).symm⟩
      · have q' : (none : Option HO) = some u := (if_neg hb).symm.trans q
        cases q'
    refine lawG_of KX G B BB NL g0 hr F bd Ha (fun b u q => ?_) (fun b u q => ?_) (pr _ (fun b => ?_) (.inl (.inr ⟨o0, at_a⟩)))
    · obtain ⟨e1, e2⟩ := but b u q
      exact ⟨e1, hk, ⟨_, _, e2⟩, nd⟩
    · obtain ⟨rfl, rfl⟩ := but b u q
      exact ⟨ha, by rw [List.length_map]; exact hl, vs, _, rv, ha⟩
    · by_cases hb : b = a
      · exact .inr ⟨_, _, by rw [hb]; exact at_a⟩
      · exact .inl (if_neg hb)
end
open PySem.W in
/-- the goal that the head leaves -/
theorem walkG {l : OpenLaw} {n k : Nat} {q : Program} {loose : List Str} {XP : (Str → Option Value) → Heap → Prop} {YP : World → Heap → Prop} {d : DefRec} {K : Params → Frag} {sp : Frag → Sp} {x : Str}
    (hn : l.most = some n) (hz : n ≤ sizeLine) (h0 : d.params.defaults = []) (hr : Room k callerA) (hY : ∀ (w : World) (h : Heap), YP w h → (K w.params).In h)
    (F : ∀ (w : World) (mg : Str → Option Value) (fa : Addr) (h : Heap), (K w.params).In h → h.Ns mainGlobals mg → mg d.name = some (.ref fa) → ∃ fd : FuncData,
      (∀ (t : Shared) (u : Value), BindsTo t fd ⟨[u], []⟩ [(x, u)]) ∧ ∀ base : Heap, (K w.params).In base → base.Ns mainGlobals mg → FnG l.prog w (K w.params) mg base CX0 k fa fd [x] (sp (K w.params)))
    (pr : ∀ (K : Frag) (H : Hp) (a : Addr) (ns : List Int), ns.length ≤ n → Only H → SqL K H a (ns.map V.int) → sp K [.ref a] H (fun v _ => v = .bl true) fun _ _ _ => False) :
    WalkO q loose XP YP l.row.toRowW d [] (fun f us => PySem.call f us) := by
  refine Att.attach_call hn h0 ?_
  intro w s₀ s₁ mg mb fa o pm cd doc a us ns G Y ho hd hcd hm hobj hints hlen hg
  obtain ⟨fd, hb, hF⟩ := F w mg fa _ (hY w _ Y) G.T.g hm
  exact lawG (hY w _ Y) G.T.g G.T.b G.T.builtins G.T.nolimit hg hobj hints (Nat.le_trans hlen hz) hr hF hb fun H hO hS => pr _ H a ns hlen hO hS
end Kx
namespace Kx
open PySem PySem.Spec PyProof.Rows L2 SX
/-! ### heaps -/
theorem same_new {H : Hp} {p : Addr} {o : HO} (h : H p = none) : Same H (upd H p o) := fun b u e => by
  rw [upd_ne (ne_of_none e h)]
  exact e
theorem Same.t {K : PySem.W.Frag} {H H' : Hp} {a : Addr} {xs : List V} (e : Same H H') (h : SqT K H a xs) : SqT K H' a xs := by
  rcases h with (h | ⟨o, h⟩) | h
  · exact .inl (.inl (e _ _ h))
  · exact .inl (.inr ⟨o, e _ _ h⟩)
  · exact .inr h
/-- a list or a tuple -/
def SqQ (K : PySem.W.Frag) (H : Hp) (a : Addr) (xs : List V) : Prop := SqL K H a xs ∨ SqT K H a xs
theorem Same.q {K : PySem.W.Frag} {H H' : Hp} {a : Addr} {xs : List V} (e : Same H H') (h : SqQ K H a xs) : SqQ K H' a xs := h.imp e.seq (Same.t e)
theorem tyL {K : PySem.W.Frag} {H : Hp} {a : Addr} {xs : List V} (h : SqL K H a xs) : TyX K H (.ref a) (.type "list") := by
  rcases h with (h | ⟨o, h⟩) | ⟨o, vs, n, h, hc, _⟩
  · exact .base (.lst h)
  · exact .base (.frz h)
  · exact .kList h hc
theorem tyT {K : PySem.W.Frag} {H : Hp} {a : Addr} {xs : List V} (h : SqT K H a xs) : TyX K H (.ref a) (.type "tuple") := by
  rcases h with (h | ⟨o, h⟩) | ⟨o, vs, n, h, hc, _⟩
  · exact .base (.tup h)
  · exact .fTuple h
  · exact .kTuple h hc
theorem kit_at {K : PySem.W.Frag} {n : String} {a b : Bool} (h1 : kitB n "list" = some a) (h2 : kitB n "tuple" = some b) : PySem.W.kitAny K (.type n) [.type "list", .type "tuple"] = some (a || b) := by
  refine kitAny_cons (kit_ty h1) (fun e => ?_) (fun e => by rw [e]; rfl)
  rw [e, Bool.false_or]
  exact kitAny_cons (kit_ty h2) (fun e => by rw [e]; exact kitAny_nil) (fun e => e)
theorem isl_q {K : PySem.W.Frag} {H : Hp} {a : Addr} {xs : List V} (h : SqQ K H a xs) : ∃ n, TyX K H (.ref a) (.type n) ∧ PySem.W.kitAny K (.type n) [.type "list", .type "tuple"] = some true := by
  rcases h with h | h
  · exact ⟨_, tyL h, kit_at (a := true) (b := false) (by decide +kernel) (by decide +kernel)⟩
  · exact ⟨_, tyT h, kit_at (a := false) (b := true) (by decide +kernel) (by decide +kernel)⟩
theorem ix_q {K : PySem.W.Frag} {H : Hp} {a : Addr} {xs : List V} {i : Int} {v : V} {Q : VK} (h : SqQ K H a xs) (hv : atI xs i = some v) (q : Q v H) : rIx K (.ref a) (.int i) H Q := by
  rcases h with h | h
  · exact .inl ⟨a, xs, i, v, rfl, rfl, h, hv, q⟩
  · exact .inr (.inl ⟨a, xs, i, v, rfl, rfl, h, hv, q⟩)
/-- is it data of this form, whatever tracks it -/
theorem dp_same {K : PySem.W.Frag} {H H' : Hp} (e : Same H H') : ∀ (d : PyData) (v : V), Dp K H v d → Dp K H' v d := by
  intro d v h
  exact Dp.rec (motive_1 := fun v d _ => Dp K H' v d) (motive_2 := fun vs ds _ => DpAll K H' vs ds) .non .bl .int .str (fun h _ i => .lst (e.seq h) i) (fun h _ i => .tup (Same.t e h) i) .nil (fun _ _ a b => .cons a b) h
end Kx
namespace Kx
open PySem PySem.Spec PyProof.Rows L2 SX
theorem iteC {c : Bool} {A B : Prop} (h1 : c = true → A) (h2 : c = false → B) : if c = true then A else B := by
  cases c with
  | true => exact iteT (h1 rfl)
  | false => exact iteF (h2 rfl)
/-! ### letters and signs -/
def low (c : Nat) : Bool := decide (97 ≤ c) && decide (c ≤ 122)
def lowB (l : List Nat) : Bool := !l.isEmpty && l.all low
def sg (c : Nat) : Bool := decide (c = 32) || low c
def textB (l : List Nat) : Bool := decide (l.length ≤ 200000) && l.all sg
theorem ascii1 : (List.range 128).all (fun c => (if Unicode.isAlpha c then (Unicode.isLower c && !(Unicode.isUpper c || Unicode.isTitle c)) == low c && ((Unicode.isLower c && !(Unicode.isUpper c || Unicode.isTitle c)) || (Unicode.isUpper c || Unicode.isTitle c)) else !low c)) = true := by decide +kernel
theorem ascii2 (c : Nat) (h : c < 128) : (Unicode.isAlpha c = true → ((Unicode.isUpper c || Unicode.isTitle c) = !low c) ∧ (low c = true → Unicode.isLower c = true)) ∧ (low c = true → Unicode.isAlpha c = true) := by
  have z := List.all_eq_true.mp ascii1 c (List.mem_range.mpr h)
  cases ha : Unicode.isAlpha c <;> cases hl : Unicode.isLower c <;> cases hu : (Unicode.isUpper c || Unicode.isTitle c) <;> cases hw : low c <;> simp_all
theorem low_lt {c : Nat} (h : low c = true) : c < 128 := by
  unfold low at h
  simp only [Bool.and_eq_true, decide_eq_true_eq] at h
  omega
theorem letters_S (l : List Nat) : (Txt.isascii (S l) && (Txt.isalpha (S l) && Txt.islower (S l))) = lowB l := by
  have ea : ∀ p : Nat → Bool, (S l).cps.all p = l.all p := fun p => by simp
  have ey : ∀ p : Nat → Bool, (S l).cps.any p = l.any p := fun p => by simp
  unfold Txt.isascii Txt.isalpha Txt.islower lowB
  rw [ea, ea, ey, ey, S_len]
  cases l with
  | nil => rfl
  | cons d r =>
    have e0 : decide ((d :: r).length > 0) = true := by simp
    rw [e0, Bool.true_and]
    rw [Bool.eq_iff_iff]
    simp only [Bool.and_eq_true, List.all_eq_true, decide_eq_true_eq, List.any_eq_true, Bool.not_eq_true', List.isEmpty_cons, Bool.not_false, true_and]
    constructor
    · rintro ⟨h1, h2, _, h4⟩ c hc
      have k := (ascii2 c (h1 c hc)).1 (h2 c hc)
      have n : (Unicode.isUpper c || Unicode.isTitle c) = false := by
        cases q : (Unicode.isUpper c || Unicode.isTitle c) with
        | false => rfl
        | true =>
          rw [List.any_eq_false] at h4
          exact absurd q (h4 c hc)
      rw [n] at k
      simpa using k.1
    · intro h
      refine ⟨fun c hc => low_lt (h c hc), fun c hc => (ascii2 c (low_lt (h c hc))).2 (h c hc), ⟨d, List.mem_cons_self, ?_⟩, ?_⟩
      · have hd := h d List.mem_cons_self
        exact ((ascii2 d (low_lt hd)).1 ((ascii2 d (low_lt hd)).2 hd)).2 hd
      · rw [List.any_eq_false]
        intro c hc q
        have hd := h c hc
        have k := ((ascii2 c (low_lt hd)).1 ((ascii2 c (low_lt hd)).2 hd)).1
        rw [q, hd] at k
        cases k
end Kx
namespace Kx
open PySem PySem.Spec PyProof.Rows L2 SX
/-! ### an exception that a name keeps behind the suite -/
/-- at a: an exception of the class cls, its own dict at d -/
def exT (a : Addr) (cls : Value) (d : Option Addr) : HO := .ext fun h => ∃ (oe : Obj) (vs : Array Value), h.get? a = some oe ∧ Zc cls d oe ∧ oe.data = .fields vs
section
variable {X : Cx} {pn0 : List (Addr × Obj)} {σ : L2.St} {H : Hp} {s : Shared} {a : Addr} {oe : Obj} {cls : Value} {d : Option Addr}
theorem exT_ne (o : HO) (h : ∀ φ, o ≠ .ext φ) : exT a cls d ≠ o := fun z => h _ z.symm
/-- what stands pinned in the suite is tracked behind it -/
theorem Inv.track {vs : Array Value} (I : Inv X pn0 σ H s) (ha : s.heap.get? a = some oe) (hz : Zc cls d oe) (hd : oe.data = .fields vs) (na : H a = none) (new0 : X.s_0.heap.get? a = none) (nL : a ≠ X.env.locals)
    (np : ∀ p ∈ X.pn ++ pn0, p.1 ≠ a) : Inv X pn0 σ (upd H a (exT a cls d)) s := by
  have off : ∀ {b : Addr} {u : HO}, H b = some u → upd H a (exT a cls d) b = some u := fun {b u} e => by
    rw [upd_ne (ne_of_none e na)]
    exact e
  have un : ∀ {b : Addr}, b ≠ a → H b = none → upd H a (exT a cls d) b = none := fun {b} n e => by
    rw [upd_ne n]
    exact e
  have old : ∀ {b : Addr} {o : Obj}, X.s_0.heap.get? b = some o → b ≠ a := fun {b o} e z => by
    rw [z, new0] at e
    cases e
  exact
    { ok := I.ok
      os := I.os
      bare := I.bare
      base :=
        { keep := I.base.keep
          slot := I.base.slot
          free := fun b o e n x => un (old e) (I.base.free b o e n x)
          there := I.base.there
          tups := fun b xs e => off (I.base.tups b xs e)
          frzs := fun b o u e => off (I.base.frzs b o u e)
          tbls := fun b ps e => by
            obtain ⟨m, q⟩ := I.base.tbls b ps e
            exact ⟨m, off q⟩ }
      loc := I.loc
      cell := I.cell
      free := un (Ne.symm nL) I.free
      freeC := fun y c e => by
        refine un (fun z => ?_) (I.freeC y c e)
        obtain ⟨v, o, e1, e2⟩ := I.cell y c e
        rw [z, ha] at e1
        cases e1
        rw [hd] at e2
        cases e2
      pin := fun p hp => by
        obtain ⟨e, n, r⟩ := I.pin p hp
        exact ⟨e, un (np p hp) n, r⟩
      hok := HOk.laidN (P := X.prog) (w := X.w) I.hok (fun _ _ e => e) na ⟨⟨oe, vs, ha, hz, hd⟩, ⟨oe, ha⟩, fun h1 h2 z k => by
        obtain ⟨o, v, e1, e2⟩ := z
        exact ⟨o, v, k _ e1, e2⟩⟩
      len := I.len }
end
/-- what «try: .. except x as n: y = n» wishes of an exception: it is one of x's; y keeps it -/
def wKeep (K : PySem.W.Frag) (n : Nat) (c : Value) (i j : Nat) (D : Ends) : WX := fun cls d σ H =>
  PySem.W.exmOne K cls c = some true ∧ ∀ a, H a = none → σ.length = n → D.nx ((((σ.set i (some (.ref a))).set j (some (.ref a)))).set i none) (upd H a (exT a cls d))
section
variable {X : Cx} {x n y : Str} {c : Value} {i j : Nat} {body : List Stmt} {p1 p2 p3 np pos pos' : Pos} {tb : WX → TS}
theorem ps_keep (hs : X.stack = X.env :: X.outer) (hex : X.ex = []) (hf : X.env.frame = some X.env.locals) (hN : X.N.Nodup) (hi : X.N[i]? = some n) (hln : X.env.kindOf n = some .local) (hlv : X.env.scope.names.lookup n = some .local)
    (hj : X.N[j]? = some y) (hlj : X.env.scope.names.lookup y = some .local) (hc : Names X x c) (hdb : (n == ("__debug__" : Str)) = false) (hdc : (n == ("__classdict__" : Str)) = false)
    (hb : ∀ (W : WX) (pn : List (Addr × Obj)) (xe : Value → Shared → Prop), Takes (X.tr pn xe) W → PassesOwn (model X.prog X.w) X.A X.env xe → PSs (X.tr pn xe) body (tb W)) :
    PS X (.Try body [.ExceptHandler (some (.Name x np)) (some n) [.Assign [.Name y p1] (.Name n p2) p3] pos'] [] [] pos) (fun D σ H => tb (wKeep X.K X.N.length c i j D) D σ H) := by
  refine ⟨fun pn0 s σ H D I h => ?_⟩
  have ok := I.ok
  have fr : X.A.frames = some (X.env :: X.outer) := by rw [ok.frames, hs]
  apply wpAny_Try_except
  have run := hb (wKeep X.K X.N.length c i j D) (X.pn ++ pn0)
    (fun e t1 => wpAny (model X.prog X.w) X.A (noteFrame e X.env)
      (fun _ t2 => wpAny (model X.prog X.w) X.A (setFlight e none)
        (fun _ t3 => wpAny (model X.prog X.w) X.A (handleBy e X.env [.ExceptHandler (some (.Name x np)) (some n) [.Assign [.Name y p1] (.Name n p2) p3] pos']) (SP X pn0 D) X.xe t3) X.xe t2) X.xe t1) ?take PassesOwn.looking
  case take =>
    rintro u t ⟨a, B, sI, pins', σ', H', cls, d, rfl, J', nb, up, sky, na, os, ag, isOne, hend⟩
    have Jb : Inv X pn0 σ' H' sI := J'.ofTry ok
    rw [show (X.tr (X.pn ++ pn0) _).stack = X.env :: X.outer from hs] at sky
    show wpAny (model X.prog X.w) X.A (noteFrame (.ref a) X.env) _ _ _
    refine Sky.land Zc.steady fr hf sky (fun h3 fl up3 => ?_)
    have J3 : Inv X pn0 σ' H' { t with heap := h3 } := Jb.landed nb fl.1 (up.trans up3) os ag
    have Bn := fl.2.1
    obtain ⟨oz3, vz3, at3, zc3, dt3⟩ := fl.there
    have out : a ∉ frs (X.env :: X.outer) := by
      intro hm
      obtain ⟨_, o', e', hnf⟩ := fl.2.2.1.mem hm
      rw [at3] at e'
      cases e'
      exact hnf _ dt3
    have nL : a ≠ X.env.locals := fun z => out (List.mem_filterMap.mpr ⟨X.env, List.mem_cons_self, by rw [hf, z]⟩)
    have nF : a ∉ X.fs := by
      intro hm
      obtain ⟨e, hme, q⟩ := List.mem_filterMap.mp hm
      exact out (List.mem_filterMap.mpr ⟨e, List.mem_cons_of_mem _ hme, q⟩)
    have gone : ∀ {b : Addr} {o : Obj}, sI.heap.get? b = some o → b ≠ a := by
      intro b o e z
      rw [z] at e
      have q := nb a o e (by rw [hs]; exact out)
      rw [Bn] at q
      cases q
    have new0 : X.s_0.heap.get? a = none := by
      cases q : X.s_0.heap.get? a with
      | none => rfl
      | some o =>
        obtain ⟨o', e'⟩ := Jb.base.there a o q (by rw [hex]; exact List.not_mem_nil)
        exact absurd rfl (gone e')
    have np0 : ∀ p ∈ X.pn ++ pn0, p.1 ≠ a := fun p hp => gone (Jb.pin p hp).1
    have In3 := J3.suite at3 dt3 na nL nF
    refine wpAny_handleBy_cons (codeAny_handlers_test ?_) (by intro q; cases q)
    have lookT : PySem.W.Looks (model X.prog X.w) h3 (typeOf (.ref a)) cls := fun A Q E s k q => wpAny_typeOf_ref (k _ _ at3) (by rw [zc3.1]; exact q)
    have LM := PySem.W.exm_one (M := model X.prog X.w) J3.kIn lookT isOne
    have named : ∀ {Q E : Value → Shared → Prop}, Q c { t with heap := h3 } → wpAny (model X.prog X.w) (X.A.mark (some (.ref a))) (eval (.Name x np) X.env) Q E { t with heap := h3 } := by
      intro Q E q
      obtain ⟨g, gd, g2⟩ := hc
      rcases g2 with m | ⟨m, v, nn⟩
      · exact ld_glob (X := X.suite a ((a, oz3) :: (X.pn ++ pn0))) In3 g m q gd
      · exact ld_blt (X := X.suite a ((a, oz3) :: (X.pn ++ pn0))) In3 g m v q nn gd
    refine named (LM.here ?_)
    refine codeAny_handlers_suite_as (HandSPX.lands_againZ fl fun h4 flr up4 => ?_)
    have J4 : Inv X pn0 σ' H' { t with heap := h4 } := Jb.landed nb flr.1 ((up.trans up3).trans up4) os ag
    obtain ⟨oz4, vz4, at4, zc4, dt4⟩ := flr.there
    have In4 := J4.suite at4 dt4 na nL nF
    refine store_ok (X := X.suite a ((a, oz4) :: (X.pn ++ pn0))) (v := .ref a) In4 hN hi (.inl hlv) rfl (fun s5 S5 => ?_) (.inr hlv)
    have il : i < σ'.length := by
      rw [In4.len]
      exact (List.getElem?_eq_some_iff.mp hi).1
    have suite : PSs (X.suite a ((a, oz4) :: (X.pn ++ pn0))) [.Assign [.Name y p1] (.Name n p2) p3] (tAsg (tVar i) (gName j)) :=
      pss_one (ps_set hN hj (.inl hlj) (pe_var hi (.inl hlv) hdb hdc) rfl (.inr hlj))
    refine wpAny_mono (suite.run [] s5 _ H' { nx := fun σ6 H6 => σ6 = (σ'.set i (some (.ref a))).set j (some (.ref a)) ∧ H6 = H', rt := fun _ _ => False, bk := fun _ _ => False, ct := fun _ _ => False } S5 ⟨_, List.getElem?_set_self il, rfl, rfl⟩) (fun f s6 q => ?_) (fun _ _ z => False.elim z)
    match f, q with
    | .ret _, q =>
      obtain ⟨_, _, _, _, _, z⟩ := q
      exact False.elim z
    | .brk, q =>
      obtain ⟨_, _, _, z⟩ := q
      exact False.elim z
    | .cont, q =>
      obtain ⟨_, _, _, z⟩ := q
      exact False.elim z
    | .next, q =>
      obtain ⟨σ6, H6, S6, rfl, rfl⟩ := q
      have pin := S6.pin (a, oz4) List.mem_cons_self
      have J6 : Inv X pn0 _ _ s6 := S6.unsuite ok
      have J7 := Kx.Inv.track J6 pin.1 zc4 dt4 na new0 nL np0
      refine gone_ok J7 hN hi hln fun s8 J8 => ⟨_, _, J8, hend a na Jb.len⟩
  refine wpAny_mono (run.run [] s σ H D (I.toTry _) h) (fun f s1 q => ?_) fun _ _ z => z
  match f, q with
  | .next, q =>
    obtain ⟨σ', H', J', z⟩ := q
    exact wpAny_execs_nil ⟨σ', H', J'.ofTry ok, z⟩
  | .brk, q =>
    obtain ⟨σ', H', J', z⟩ := q
    exact ⟨σ', H', J'.ofTry ok, z⟩
  | .cont, q =>
    obtain ⟨σ', H', J', z⟩ := q
    exact ⟨σ', H', J'.ofTry ok, z⟩
  | .ret u, q =>
    obtain ⟨v, σ', H', J', r, z⟩ := q
    exact ⟨v, σ', H', J'.ofTry ok, r, z⟩
end
end Kx
namespace Kx
open PySem PySem.Spec PyProof.Rows L2 SX LamX
section
variable {X : Cx} {pn0 : List (Addr × Obj)} {σ : L2.St} {H HZ : Hp} {s sB : Shared}
abbrev lamQ (X : Cx) : Str := X.env.qual ++ "<lambda>"
/-- the lambda as an object, its defaults at dV -/
abbrev lamObj (X : Cx) (params : Arguments) (body : Expr) (scp : Scope) (dV doc pm : Value) (c' : Addr) (ctv : Value) : Obj := PySem.W.kdv_obj "<lambda>" (lamQ X) params (.expr body) scp (cloFrom X.env.cells scp.names []) dV doc pm c' ctv
/-- what the making leaves -/
def Made (X : Cx) (pn0 : List (Addr × Obj)) (σ : L2.St) (H : Hp) (T : List (Addr × Str)) (params : Arguments) (body : Expr) (scp : Scope) (dV : Value) (s0 : Shared) (v : Value) (s' : Shared) : Prop :=
  ∃ (f c' : Addr) (doc pm ctv : Value) (H1 : Hp), v = .ref f ∧ Inv X pn0 σ H1 s' ∧ ExtN H H1 ∧ Tabs T H1 ∧ s'.heap.get? f = some (lamObj X params body scp dV doc pm c' ctv) ∧ H1 f = none ∧ f ∉ frs X.stack ∧ H1 c' = some (CodeO c' (lamQ X)) ∧
    (∀ b o, s0.heap.get? b = some o → (∀ pz, H b ≠ some (.tbl pz)) → s'.heap.get? b = some o) ∧ (∀ b, b < s0.heap.objs.size → H b = none → H1 b = none)
theorem lam_tail {T : List (Addr × Str)} {c P : Addr} {params : Arguments} {body : Expr} {scp : Scope} {pos : Pos} {ln : Nat} {dV : Value} {E : Value → Shared → Prop} (I : Inv X pn0 σ H s) (TB : TabB X.base X.mg c P) (hcode : X.env.code = .ref c)
    (hm : (P, lamQ X) ∈ T) (onlyP : ∀ p ∈ T, p.1 = P → p.2 = lamQ X) (hT : Tabs T H) (hfree : ∀ y ∈ scp.names, y.2 = .free → ∃ c, X.env.cells.lookup y.1 = some c) :
    wpAny (model X.prog X.w) X.A (makeTail "<lambda>" (lamQ X) params (.expr body) scp X.env dV .none none pos ln) (Made X pn0 σ H T params body scp dV s) E s := by
  obtain ⟨pz, eP, tr3, amg⟩ := hT _ hm
  have btP : s.heap.BuiltinsAt X.mg P := TB.bm.keeps I.bk
  have hP' : s.heap.get? P = some { cls := .none, data := .fields pz } := I.hok P _ eP
  have nofr : ∀ f, s.heap.objs.size ≤ f → f ∉ frs X.stack := by
    intro f hf z
    rcases List.mem_cons.mp (I.stkSub _ z) with e | e
    · have h1 := I.lt
      rw [← e] at h1
      exact absurd (Nat.lt_of_lt_of_le h1 hf) (Nat.lt_irrefl _)
    · exact I.nofs hf e
  cases fnd : codeAmong pos pz.toList with
  | none =>
    refine PySem.W.kdv_makeTail (mg := X.mg) (c := c) (P := P) (ps := pz) (closure_ok hfree) I.ok.glob (I.mod.glob.keeps I.bk) hcode (TB.code.keeps I.bk) hP' tr3 fnd TB.gP btP fun c' ctv doc h' tk stP gec ltc rcc tbb => ?_
    obtain ⟨cc2, oc, vs, t, e2, ocE, hd, ovE⟩ := rcc
    cases e2
    have szle : s.heap.objs.size ≤ h'.objs.size := Nat.le_trans gec (Nat.le_of_lt ltc)
    have ncn : H c' = none := I.hok.fresh gec
    have up : ∀ b o, b ≠ P → s.heap.get? b = some o → (h'.push (lamObj X params body scp dV doc ((X.mg "__name__").getD .none) c' ctv)).get? b = some o := fun b o hb e => Heap.get?_push_of_some _ (stP b o hb e)
    have I1 := inv_table (t' := tk) (more := #[rawInt pos.line, rawInt pos.col, .ref c']) (h' := h'.push (lamObj X params body scp dV doc ((X.mg "__name__").getD .none) c' ctv)) I eP up (Heap.get?_push_of_some _ tbb) gec ⟨oc, vs, t, Heap.get?_push_of_some _ ocE, hd, ovE⟩
    have exE : ExtN H (upd (upd H P (.tbl (pz ++ #[rawInt pos.line, rawInt pos.col, .ref c']))) c' (CodeO c' (lamQ X))) := by
      intro b o e n
      rw [upd_ne (ne_of_none e ncn), upd_ne (fun z => n pz (Option.some.inj (e.symm.trans (by rw [z]; exact eP))))]
      exact e
    have ell : (pz ++ #[rawInt pos.line, rawInt pos.col, .ref c']).toList = pz.toList ++ [rawInt pos.line, rawInt pos.col, .ref c'] := by simp
    refine ⟨h'.objs.size, c', doc, _, ctv, _, rfl, I1, exE, fun p hp => ?_, Heap.get?_push_size _ rfl, ?_, nofr _ szle, upd_same, fun b o e n => up b o (fun z => n pz (by rw [z]; exact eP)) e, fun b hb n => ?_⟩
    · by_cases hb : p.1 = P
      · rw [onlyP p hp hb, hb]
        refine ⟨_, by rw [upd_ne (ne_of_none eP ncn), upd_same], by rw [ell]; exact PySem.TriplesOk_snoc _ _ _ _ tr3, fun p' cwv cvE => ?_⟩
        rw [ell] at cvE
        rcases among_app _ tr3 cvE with z | z
        · obtain ⟨cq, e1, e2⟩ := amg p' cwv z
          exact ⟨cq, e1, exE _ _ e2 codeO_ne⟩
        · exact ⟨c', z, upd_same⟩
      · obtain ⟨ps', a1, a2, a3⟩ := hT p hp
        refine ⟨ps', by rw [upd_ne (ne_of_none a1 ncn), upd_ne hb]; exact a1, a2, fun p' cwv cvE => ?_⟩
        obtain ⟨cq, e1, e2⟩ := a3 p' cwv cvE
        exact ⟨cq, e1, exE _ _ e2 codeO_ne⟩
    · rw [upd_ne (Nat.ne_of_gt ltc), upd_ne (Nat.ne_of_gt (Nat.lt_of_lt_of_le (Heap.lt_size hP') szle))]
      exact I.hok.fresh szle
    · have n1 : b ≠ c' := Nat.ne_of_lt (Nat.lt_of_lt_of_le hb gec)
      have n2 : b ≠ P := fun z => by
        rw [z, eP] at n
        cases n
      rw [upd_ne n1, upd_ne n2]
      exact n
  | some cwv =>
    obtain ⟨c', e, hco⟩ := amg pos cwv fnd
    subst e
    refine PySem.W.kdv_makeTailHit (mg := X.mg) (c := c) (P := P) (ps := pz) (closure_ok hfree) I.ok.glob (I.mod.glob.keeps I.bk) hcode (TB.code.keeps I.bk) hP' tr3 fnd btP fun ctv doc h' tk stP szle => ?_
    refine ⟨h'.objs.size, c', doc, (X.mg "__name__").getD .none, ctv, H, rfl, I.kept fun b o e => Heap.get?_push_of_some _ (stP b o e), ExtN.refl H, hT, Heap.get?_push_size _ rfl, I.hok.fresh szle, nofr _ szle, hco, fun b o e _ => Heap.get?_push_of_some _ (stP b o e), fun _ _ n => n⟩
/-- .. with one default, 0 -/
theorem lam_makeD {T : List (Addr × Str)} {c P : Addr} {params : Arguments} {body : Expr} {scp : Scope} {pos cp : Pos} {j : Nat} {E : Value → Shared → Prop} {Qw : Value → Shared → Prop} (I : Inv X pn0 σ H s) (TB : TabB X.base X.mg c P) (hcode : X.env.code = .ref c)
    (hm : (P, lamQ X) ∈ T) (onlyP : ∀ p ∈ T, p.1 = P → p.2 = lamQ X) (hT : Tabs T H) (hfree : ∀ y ∈ scp.names, y.2 = .free → ∃ c, X.env.cells.lookup y.1 = some c)
    (hp : params.defaults = [.Constant (.int 0) j cp]) (hk : params.kw_defaults = [])
    (h : ∀ (t f c' : Addr) (tk : Tok) (doc pm ctv : Value) (H1 : Hp) (s' : Shared), Inv X pn0 σ H1 s' → ExtN H H1 → Tabs T H1 → s'.heap.get? t = some (PySem.W.kdv_tup [.int 0 tk]) → H1 t = none → t ∉ frs X.stack →
      s'.heap.get? f = some (lamObj X params body scp (.ref t) doc pm c' ctv) → H1 f = none → f ∉ frs X.stack → H1 c' = some (CodeO c' (lamQ X)) → Qw (.ref f) s') :
    wpAny (model X.prog X.w) X.A (eval (.Lambda params body scp pos) X.env) Qw E s := by
  refine PySem.W.kdv_lam (by rw [hp]; rfl) hk ?_
  rw [hp]
  refine PySem.W.kdv_all1 (thn ((pe_int (X := X) (i := 0) (j := j) (pos := cp)).run pn0 s σ H (fun v H1 => v = .int 0 ∧ H1 = H) I ⟨rfl, rfl⟩) fun u sB ⟨v, H1, I1, r, e1, e2⟩ => ?_)
  subst e1 e2
  obtain ⟨tk, rfl⟩ := r
  refine PySem.W.kdv_all0 ?_
  rw [makeFunction_eq]
  simp only [List.zip_nil_right, List.filterMap_nil, List.isEmpty_nil, if_true, pure_bind, List.isEmpty_cons, Bool.false_eq_true, if_false]
  refine wpAny_bind (wpAny_newTextTuple ?_)
  have fresh : H1 sB.heap.objs.size = none := I1.hok.fresh (Nat.le_refl _)
  have off : sB.heap.objs.size ∉ frs X.stack := by
    intro z
    rcases List.mem_cons.mp (I1.stkSub _ z) with e | e
    · exact absurd I1.lt (by rw [← e]; exact Nat.lt_irrefl _)
    · exact I1.nofs (Nat.le_refl _) e
  have I2 : Inv X pn0 σ H1 { sB with heap := sB.heap.push (PySem.W.kdv_tup [.int 0 tk]) } := I1.kept (t' := sB.toks) fun b o e => Heap.get?_push_of_some _ e
  refine thn (lam_tail I2 TB hcode hm onlyP hT hfree) fun v s2 ⟨f, c', doc, pm, ctv, H2, ev, I3, eN, T3, hf, nf, off2, hco, keep, fr⟩ => ?_
  subst ev
  refine h sB.heap.objs.size f c' tk doc pm ctv H2 s2 I3 eN T3 (keep _ _ (Heap.get?_push_size _ rfl) fun pz z => ?_) (fr _ ?_ fresh) off hf nf off2 hco
  · rw [fresh] at z
    cases z
  · show sB.heap.objs.size < (sB.heap.push _).objs.size
    rw [Heap.size_push]
    exact Nat.lt_succ_self _
/-! ### its body -/
/-- one parameter, z, with a default; else captured names and globals -/
structure LamP (sc scp : Scope) (z : Str) : Prop where
  kind : scp.kind = .function
  co : scp.isCoroutine = false
  gen : scp.isGenerator = false
  own : ∀ y ∈ scp.names, y.2 ≠ .cell ∧ (y.2 = .local → y.1 = z)
  par : scp.names.lookup z = some .local
  free : ∀ y ∈ scp.names, y.2 = .free → sc.names.lookup y.1 = some .cell ∨ sc.names.lookup y.1 = some .free
theorem LamP.has {X : Cx} {scp : Scope} {z : Str} (L : LamP X.env.scope scp z) (ok : X.Ok) : ∀ y ∈ scp.names, y.2 = .free → ∃ c, X.env.cells.lookup y.1 = some c := fun y hy e => ok.has _ ((L.free y hy e).imp id id)
/-- the slots' names without z -/
def hideN (z : Str) (N : List Str) : List Str := N.map fun y => if y = z then ("%" : Str) else y
/-- the context of such a body -/
def lamCxD (X : Cx) (A : Around) (outer : List Env) (s : Shared) (H : Hp) (E : XK) (scp : Scope) (z : Str) (f c' : Addr) : Cx := { lamCx X A outer s H E scp f c' with N := hideN z X.N }
theorem lam_startD {A : Around} {outer : List Env} {E : XK} {scp : Scope} {z : Str} {f c' : Addr} {h₁ : Heap} {tk : Nat} {u : Value} (I : Inv X pn0 σ H s) (L : LamP X.env.scope scp z) (hz : scp.names.lookup ("%" : Str) = none) (e0 : Env0 X.prog X.w X.K X.mg X.base A outer sB HZ)
    (hd : A.handled = none) (un : Un (frs X.stack) [] H HZ s.heap sB.heap) (hns : h₁.Ns sB.heap.objs.size fun y => ([(z, u)] : List (Str × Value)).reverse.lookup y) (kp : ∀ b o, sB.heap.get? b = some o → h₁.get? b = some o) :
    Inv (lamCxD X A outer sB HZ E scp z f c') [] σ HZ { sB with heap := h₁, toks := tk } := by
  have hfree := L.has I.ok
  have back : ∀ {y c}, (cloFrom X.env.cells scp.names []).lookup y = some c → X.env.cells.lookup y = some c := by
    intro y c e
    rcases cloFrom_mem (PySem.mem_of_lookup e) with hm | ⟨h1, h2⟩
    · cases hm
    · obtain ⟨cc1, fnd⟩ := hfree _ h1 rfl
      have hc' : X.env.cells.lookup y = some cc1 := fnd
      have e2 : c = cc1 := by
        rw [h2]
        show (X.env.cells.lookup y).getD 0 = cc1
        rw [hc'] <;> rfl
      rw [e2]
      exact hc'
  have there : ∀ {y}, scp.names.lookup y = some .free → ∃ c, (cloFrom X.env.cells scp.names []).lookup y = some c := fun {y} hl => mem_lookup (cloFrom_has (cells := X.env.cells) (acc := []) (PySem.mem_of_lookup hl))
  have cellK : ∀ {c : Addr} {v : Option Value}, H c = none → s.heap.IsCell c v → h₁.IsCell c v := by
    rintro c v n ⟨o, ho, hdat⟩
    obtain ⟨sl, q⟩ := un.any ho n List.not_mem_nil
    exact ⟨_, kp _ _ q, hdat⟩
  have noEx : ∀ b : Addr, b ∉ (lamCxD X A outer sB HZ E scp z f c').ex := fun b => List.not_mem_nil
  refine
    { ok :=
        { mod := e0.mod
          kind := L.kind
          glob := rfl
          blt := rfl
          above := Nat.le_refl _
          inj := fun y y2 c e1 e2 => I.ok.inj y y2 c (back e1) (back e2)
          has := fun y hy => ?has
          cab := fun y c q _ => absurd (show false = true from q) Bool.false_ne_true
          hd := fun _ => hd
          frames := Around.frames_deeper e0.frames
          stk := .inr ⟨rfl, rfl⟩
          exf := fun b q => absurd q (noEx b)
          bs := e0.bs
          bsz := e0.bsz
          noex := fun b _ _ => noEx b
          exfs := fun b q => absurd q (noEx b)
          funs := e0.funs
          frf := e0.frf }
      os := rfl
      bare := e0.bare
      base := Un.kept kp
      loc := ⟨_, hns, fun i y v e1 e2 e3 => ?loc⟩
      cell := fun y c e => ?cell
      free := e0.hok.fresh (Nat.le_refl _)
      freeC := fun y c e => ?freeC
      pin := fun q hq => absurd (show q ∈ ([] : List (Addr × Obj)) ++ [] from hq) List.not_mem_nil
      hok := e0.hok.kept kp
      len := ?len }
  case has =>
    rcases (show scp.names.lookup y = some .cell ∨ scp.names.lookup y = some .free from hy) with q | q
    · exact absurd rfl (L.own _ (PySem.mem_of_lookup q)).1
    · exact there q
  case loc =>
    have e3 : Vis scp y := e3
    have e1' : (hideN z X.N)[i]? = some y := e1
    rcases e3 with k | k | k
    · exfalso
      have ez : y = z := (L.own _ (PySem.mem_of_lookup k)).2 rfl
      unfold hideN at e1'
      rw [List.getElem?_map] at e1'
      cases q : X.N[i]? with
      | none =>
        rw [q] at e1'
        cases e1'
      | some n =>
        rw [q] at e1'
        have e4 : (if n = z then ("%" : Str) else n) = y := Option.some.inj e1'
        by_cases hn : n = z
        · rw [if_pos hn] at e4
          rw [← e4, hz] at k
          cases k
        · rw [if_neg hn] at e4
          exact hn (e4.trans ez)
    · exact absurd rfl (L.own _ (PySem.mem_of_lookup k)).1
    · have eN : X.N[i]? = some y := by
        unfold hideN at e1'
        rw [List.getElem?_map] at e1'
        cases q : X.N[i]? with
        | none =>
          rw [q] at e1'
          cases e1'
        | some n =>
          rw [q] at e1'
          have e4 : (if n = z then ("%" : Str) else n) = y := Option.some.inj e1'
          by_cases hn : n = z
          · rw [if_pos hn] at e4
            rw [← e4, hz] at k
            cases k
          · rw [if_neg hn] at e4
            rw [e4]
      obtain ⟨m, hn, hl⟩ := I.loc
      have vis : Vis X.env.scope y := (L.free _ (PySem.mem_of_lookup k) rfl).elim (fun q => .inr (.inl q)) fun q => .inr (.inr q)
      obtain ⟨w', r, q⟩ := hl i y v eN e2 vis
      obtain ⟨cc2, h2⟩ := there k
      refine ⟨w', r, .inr ⟨.inr k, cc2, h2, ?_⟩⟩
      have cc1 := back h2
      rcases q with ⟨k', _⟩ | ⟨_, c3, e', q3⟩
      · have k' : X.env.scope.names.lookup y = some .local := k'
        rcases L.free _ (PySem.mem_of_lookup k) rfl with kk2 | kk2 <;> rw [show X.env.scope.names.lookup y = _ from kk2] at k' <;> cases k'
      · rw [cc1] at e'
        cases e'
        exact cellK (I.freeC y _ cc1) q3
  case cell =>
    obtain ⟨w', q⟩ := I.cell y c (back e)
    exact ⟨w', cellK (I.freeC y c (back e)) q⟩
  case freeC =>
    obtain ⟨v, o, ho, _⟩ := I.cell y c (back e)
    exact un.free c o ho (I.freeC y c (back e)) List.not_mem_nil
  case len =>
    show σ.length = (hideN z X.N).length
    unfold hideN
    rw [List.length_map]
    exact I.len
end
end Kx
namespace Kx
open PySem PySem.Spec PyProof.Rows L2 SX LamX
section
variable {X : Cx} {pn0 : List (Addr × Obj)} {σ : L2.St} {Hm : Hp} {st : Shared}
/-- how the lambda's one default binds -/
def BindD (params : Arguments) (body : Expr) (scp : Scope) (z : Str) : Prop := ∀ (q : Str) (cl : List (Str × Addr)) (t : Addr) (doc pm cv ctv : Value) (tk : Tok), ∃ k,
  bindArgs (PySem.W.kdv_fn "<lambda>" q params (.expr body) scp cl (.ref t) doc pm cv ctv) ⟨[], []⟩ = seqItems? (.ref t) >>= k ∧ k (some #[.int 0 tk]) = pure [(z, .int 0 tk)]
theorem pe_actD {CXg : CXT} {Eg : XK} {Ng : List Str} {qg : Str} {sg : Scope} {g f c' t : Addr} {tk : Tok} {cdg doc pm ctv : Value} {params : Arguments} {body : Expr} {scp : Scope} {z : Str} {k i : Nat} {a : Str} {pn : List (Addr × Obj)} {xe : Value → Shared → Prop} {W : WX} {E : XK} {tb : TE} {p1 p2 : Pos}
    (I : Inv X pn0 σ Hm st) (L : LamP X.env.scope scp z) (hz : scp.names.lookup ("%" : Str) = none)
    (ht : st.heap.get? t = some (PySem.W.kdv_tup [.int 0 tk])) (htn : Hm t = none) (htr : t ∉ frs X.stack)
    (hf : st.heap.get? f = some (lamObj X params body scp (.ref t) doc pm c' ctv)) (hfn : Hm f = none) (hfr : f ∉ frs X.stack) (hbind : BindD params body scp z)
    (tk' : Takes ((cxOf CXg X.prog X.w X.K X.mg X.base Ng qg sg g cdg X.A X.stack st Hm Eg).tr pn xe) W) (hW : ∀ cls d σ' H', E cls d H' → W cls d σ' H') (hr : Room (k + 1) (X.A.deeper (envOfC qg sg st.heap.objs.size g cdg)))
    (hbody : ∀ (A : Around) (outer : List Env) (st : Shared) (Hm : Hp), Room k (A.deeper (lamEnv X scp st.heap.objs.size f c')) → PE (lamCxD X A outer st Hm E scp z f c') body tb)
    (ixN1 : Ng[i]? = some a) (visN : Vis sg a) (dbgN : (a == ("__debug__" : Str)) = false := by decide) (clsN : (a == ("__classdict__" : Str)) = false := by decide) :
    PE ((cxOf CXg X.prog X.w X.K X.mg X.base Ng qg sg g cdg X.A X.stack st Hm Eg).tr pn xe) (.Call (.Name a p1) [] [] p2)
      (fun σZ HZ Q => σZ[i]? = some (some (.ref f)) ∧ HZ c' = some (CodeO c' (lamQ X)) ∧ tb σ HZ Q) := by
  refine ⟨fun pnZ tZ σZ HZ Q IZ h => ?_⟩
  obtain ⟨hs, hc, hq⟩ := h
  refine wpAny_Call_Name_kw (thn ((pe_var (pos := p1) (i := i) ixN1 visN dbgN clsN).run pnZ tZ σZ HZ (fun v H1 => v = .ref f ∧ H1 = HZ) IZ ⟨.ref f, hs, rfl, rfl⟩) fun u s1 hh => ?_)
  obtain ⟨v, H1, I1, r1, rfl, rfl⟩ := hh
  obtain rfl : u = Value.ref f := r1
  have none_ex : ∀ {b : Addr}, b ∉ ([] : List Addr) := fun {b} => List.not_mem_nil
  have f1 := I1.base.keep f _ hf hfn hfr none_ex
  have t1 := I1.base.keep t _ ht htn htr none_ex
  refine PySem.W.callWith_F0 ⟨_, _, _, _, f1⟩ ?_
  have un : Un (frs X.stack) [] Hm H1 st.heap s1.heap := I1.base
  obtain ⟨⟨oc, vs, tq, e1, e2, e3⟩, _, _⟩ := I1.hok c' _ hc
  have run : codeAny (model X.prog X.w) (X.A.deeper (envOfC qg sg st.heap.objs.size g cdg)) (.call (.ref f) ⟨[], []⟩) (CR (L2.CX X.prog X.w) (envOfC qg sg st.heap.objs.size g cdg :: X.stack) X.prog X.w H1 s1 Q E) s1 := by
    refine PySem.W.kla_callFunE hr.depth f1 rfl L.co L.gen rfl ⟨c', oc, vs, tq, rfl, e1, e2, e3⟩ ?_
    obtain ⟨k2, b1, b2⟩ := hbind (lamQ X) (cloFrom X.env.cells scp.names []) t doc pm (.ref c') ctv tk
    refine BindsTo.of_defaults rfl t1 rfl b1 b2 _ _ _ _ ?_
    refine wpAny_newFunctionEnv (fun y hy => (L.own y hy).1) (fun y hy => ?_) (fun h₁ hns sbt => ⟨I1.nolimit.fresh _ sbt, ?_⟩) L.kind
    · obtain rfl := List.mem_singleton.mp hy
      exact L.par
    show codeAny _ _ (.expr body (lamEnv X scp s1.heap.objs.size f c')) _ _
    have kpt : ∀ b o, s1.heap.get? b = some o → h₁.get? b = some o := fun b o e => sbt.extBut b o (Nat.ne_of_lt (Heap.lt_size e)) (Heap.get?_push_of_some _ e)
    have J := lam_startD (E := E) (f := f) (c' := c') (tk := s1.toks + 1) I L hz I1.env0 hr.hd un hns kpt
    refine PySem.W.kla_codeExpr (wpAny_mono ((hbody _ _ s1 H1 (hr.deeper _)).run [] _ _ H1 Q J hq) (fun v s' q => ?_) fun _ _ q => q)
    obtain ⟨w', H', J', rv, q⟩ := q
    exact ⟨w', H', J'.os, J'.bare, J'.base, J'.hok, rv, q⟩
  have pass : Passes (L2.CX X.prog X.w) ((cxOf CXg X.prog X.w X.K X.mg X.base Ng qg sg g cdg X.A X.stack st Hm Eg).tr pn xe) E := passes_call tk' hW
  refine wpAny_call (codeAny_mono run fun r s' q => ?_)
  match r, q with
  | .error e, q => exact pass pnZ σZ H1 s1 e s' I1 q
  | .ok (.ret u), q => exact I1.after q
  | .ok .next, q => exact False.elim q
  | .ok .brk, q => exact False.elim q
  | .ok .cont, q => exact False.elim q
/-- x(lambda z=0: body) -/
theorem pe_lamcallD {T : List (Addr × Str)} {TT : (XK → Hp → VK → Prop) → Hp → VK → Prop} {x a z : Str} {g c P : Addr} {k : Nat} {pg : Arguments} {bg : List Stmt} {sg : Scope} {dV kV doc pm cdw ct oc : Value} {an od : Option Addr} {slg : Array (Option Value)} {Ng : List Str}
    {params : Arguments} {body : Expr} {scp : Scope} {t : XK → TE} {p lps pos cp : Pos} {j : Nat} (hg : Gl X x) (mgx : X.mg x = some (.ref g)) (hk : PySem.W.keepIn X.K (.ref g) = true)
    (lkg : X.K.lookup g = some ⟨oc, od, .func (PySem.W.fnOf x x pg bg sg dV kV doc pm an cdw ct), slg⟩) (cdg2 : PySem.W.codeIn X.K cdw x = true) (bdg : L2.Binds X.K (PySem.W.fnOf x x pg bg sg dV kV doc pm an cdw ct) [a] []) (Sg : FnScope Ng [a] sg) (hNg : Ng[0]? = some a) (hva : Vis sg a)
    (hG : GivesTo X Ng x sg g cdw bg a (lamQ X) TT) (TB : TabB X.base X.mg c P) (hcode : X.env.code = .ref c) (hmT : (P, lamQ X) ∈ T) (hu : ∀ p ∈ T, p.1 = P → p.2 = lamQ X) (hr : Room (k + 2) X.A)
    (L : LamP X.env.scope scp z) (hz : scp.names.lookup ("%" : Str) = none) (hp : params.defaults = [.Constant (.int 0) j cp]) (hkw : params.kw_defaults = []) (hbind : BindD params body scp z)
    (hbody : ∀ (A : Around) (outer : List Env) (st : Shared) (Hm : Hp) (E : XK) (f c' : Addr), Room k (A.deeper (lamEnv X scp st.heap.objs.size f c')) → PE (lamCxD X A outer st Hm E scp z f c') body (t E))
    (dbgX : (x == ("__debug__" : Str)) = false := by decide) (dbgN : (a == ("__debug__" : Str)) = false := by decide) (clsN : (a == ("__classdict__" : Str)) = false := by decide) :
    PE X (.Call (.Name x p) [.Lambda params body scp lps] [] pos) (tLam T TT t) := by
  refine ⟨fun pn0 st σ Hm Q I h => ?_⟩
  obtain ⟨hT, hq⟩ := h
  refine wpAny_Call_Name_kw (ld_glob I hg mgx ?_ dbgX)
  refine PySem.W.callWith_K (h₀ := X.base) I.ok.mod.kin hk ?_ (by rfl) (by rfl)
  show wpAny _ _ (spliced ((false, eval (.Lambda params body scp lps) X.env) :: backTo pos (starEach [] X.env))) _ _ st
  refine Calls.spliced_cons (lam_makeD I TB hcode hmT hu hT (L.has I.ok) hp hkw ?_)
  intro tt f c' tk doc' pm' ctv H1 s' I1 eN T1 ht nt ot hf nf of_ hco
  refine Calls.spliced_nil ⟨I1.kIn, ?_⟩
  have called : codeAny (model X.prog X.w) X.A (.call (.ref g) ⟨[.ref f], []⟩) (CR C8.CX0 X.stack X.prog X.w H1 s' Q C8.E0) s' := by
    refine run_ofS (N := Ng) (ps := [a]) (us := [.ref f]) (vs := [.ref f]) lkg cdg2 Sg hr I1.env0 (bdg s' [.ref f] I1.kIn rfl) (.cons rfl .nil) rfl fun hr' => ?_
    obtain ⟨t', d', q'⟩ := hG f c' s' H1 Q (fun E H' Q' => t E σ H' Q') (fun W pn xe E p1 p2 tk2 hW => pe_actD (i := 0) I1 L hz ht nt ot hf nf of_ hbind tk2 hW hr' (fun A outer st Hm hr2 => hbody A outer st Hm E f c' hr2) hNg hva dbgN clsN) hco (hq H1 eN T1)
    exact ⟨t', d'.nox, q'⟩
  refine wpAny_call (codeAny_mono called fun r s2 q => ?_)
  match r, q with
  | .error e, q => exact (show False from q).elim
  | .ok (.ret u), q => exact I1.after q
  | .ok .next, q => exact False.elim q
  | .ok .brk, q => exact False.elim q
  | .ok .cont, q => exact False.elim q
end
end Kx
namespace Kx
open PySem PySem.Spec PyProof.Rows L2 SX LamX
/-! ### the law's own call: guards told, tables of code objects known -/
section
variable {P : Program} {w : World} {K : PySem.W.Frag} {mg mb : Str → Option Value} {k : Nat} {fa a : Addr} {fd : FuncData} {x : Str} {sp : Sp} {s : Shared} {vs : List Value} {ns : List Int} {cs : List (Addr × Addr)}
abbrev tab0 : Obj := { cls := .none, data := .fields #[] }
abbrev scriptObj (vs : List Value) : Obj := { cls := .type "list", data := .seq vs.toArray }
/-- what is tracked when the law begins: the script, perhaps, and the tables -/
inductive Tr (cs : List (Addr × Addr)) (K : PySem.W.Frag) (a : Addr) (b : Addr) (u : HO) : Prop where
  | script (o : Obj) (xs : List V) (e : b = a) (k : K.lookup a = none) (h : u = .frz o (.lst xs))
  | table (p : Addr × Addr) (m : p ∈ cs) (e : b = p.2) (h : u = .tbl #[])
theorem lawT_of (KX : K.In s.heap) (G : s.heap.Ns mainGlobals mg) (B : s.heap.Ns builtinsNs mb) (BB : ∀ y : Str, y ≠ "__name__" → mb y = bootBuiltins y) (NL : s.heap.NoLimit) (g0 : s.gens = #[])
    (hT : ∀ p ∈ cs, s.heap.get? p.2 = some tab0 ∧ K.lookup p.2 = none ∧ PySem.W.CodeHd s.heap p.1 p.2)
    (bm : ∃ (m : Addr) (ob : Obj), mg "__builtins__" = some (.ref m) ∧ m ≠ builtinsNs ∧ s.heap.get? m = some ob ∧ ob.cls = .type "module" ∧ ob.dict = some builtinsNs ∧ ob.data = .plain)
    (ha : s.heap.get? a = some (scriptObj vs)) (hr : Room k callerA) (F : ∀ base : Heap, K.In base → base.Ns mainGlobals mg → (∀ p ∈ cs, TabB base mg p.1 p.2) → FnG P w K mg base CX0 k fa fd [x] sp)
    (bd : ∀ (t : Shared) (u : Value), BindsTo t fd ⟨[u], []⟩ [(x, u)]) (H : Hp) (tr : ∀ b u, H b = some u → Tr cs K a b u) (ok : HOk P w H s.heap) (all : ∀ p ∈ cs, H p.2 = some (.tbl #[]))
    (pr : sp [.ref a] H (fun v _ => v = .bl true) fun _ _ _ => False) : codeAny (model P w) callerA (.call (.ref fa) ⟨[.ref a], []⟩) (LawEnd s) s := by
  have stay : ∀ {b : Addr} {o : Obj}, s.heap.get? b = some o → H b = none → (hidT s.heap H).get? b = some o := fun e n => hidT_get e n
  -- what is neither a list nor an empty table is not tracked
  have off : ∀ {b : Addr} {o : Obj}, s.heap.get? b = some o → (∀ l n, o.data ≠ .seq l n) → o.data ≠ .fields #[] → H b = none := by
    intro b o e h1 h2
    cases q : H b with
    | none => rfl
    | some u =>
      exfalso
      cases tr b u q with
      | script ob xs eb _ _ =>
        rw [eb, ha] at e
        cases e
        exact h1 _ _ rfl
      | table p m eb _ =>
        rw [eb, (hT p m).1] at e
        cases e
        exact h2 rfl
  have nsK : ∀ {b : Addr} {m : Str → Option Value}, s.heap.Ns b m → (hidT s.heap H).Ns b m := by
    rintro b m ⟨o, es, ep, e, d, r⟩
    exact ⟨o, es, ep, stay e (off e (fun l n z => by rw [d] at z; cases z) (fun z => by rw [d] at z; cases z)), d, r⟩
  have Kb : K.In (hidT s.heap H) := by
    intro b o e
    refine stay (KX b o e) ?_
    cases q : H b with
    | none => rfl
    | some u =>
      exfalso
      cases tr b u q with
      | script ob xs eb kn _ =>
        rw [eb, kn] at e
        cases e
      | table p m eb _ =>
        rw [eb, (hT p m).2.1] at e
        cases e
  obtain ⟨ml, l1, l2⟩ := NL
  have TB : ∀ p ∈ cs, TabB (hidT s.heap H) mg p.1 p.2 := by
    intro p hp
    obtain ⟨t0, _, cd⟩ := hT p hp
    refine { code := ?_, bm := ?_, gP := ?_ }
    · obtain ⟨o, us, fl, tf, fg, tg, iF, tx, tt, e1, r1, r2, r3, r⟩ := cd
      refine ⟨o, us, fl, tf, fg, tg, iF, tx, tt, stay e1 (off e1 (fun l n z => by rw [r2] at z; cases z) fun z => ?_), r1, r2, r3, r⟩
      rw [r2] at z
      cases z
      simp at r3
    · obtain ⟨m, ob, b1, b2, b3, b4, b5, b6⟩ := bm
      have pl : ∀ d : Data, d = .plain → (∀ l n, d ≠ .seq l n) ∧ d ≠ .fields #[] := by
        rintro d rfl
        exact ⟨fun l n z => (by cases z), fun z => (by cases z)⟩
      refine ⟨m, ob, b1, b2, fun q => ?_, fun q => ?_, stay b3 (off b3 (pl _ b6).1 (pl _ b6).2), b4, b5, b6⟩
      · obtain ⟨o, es, ep, e, hd, _⟩ := G
        rw [q, e] at b3
        cases b3
        rw [hd] at b6
        cases b6
      · rw [q, t0] at b3
        cases b3
        cases b6
    · intro z
      obtain ⟨o, es, ep, e, hd, _⟩ := G
      rw [z, t0] at e
      cases e
      cases hd
  have E0 : Env0 P w K mg (hidT s.heap H) callerA [] s H :=
    { frames := rfl
      mod := { kin := Kb, glob := nsK G, blt := ⟨mb, nsK B, BB⟩, nolimit := ⟨ml, nsK l1, l2⟩ }
      bs := fun b o e => of_hidT e
      bsz := Nat.le_of_eq (hidT_size _ _)
      funs := trivial
      frf := fun b hb => absurd hb (List.not_mem_nil)
      hok := ok
      bare := .of_eq g0 }
  refine codeAny_mono ((F _ Kb (nsK G) TB).go callerA [] s H ⟨[.ref a], []⟩ [.ref a] [.ref a] _ _ rfl hr E0 (bd s (.ref a)) (.cons rfl .nil) pr) ?_
  intro r t h
  match r, h with
  | .error e, h =>
    exact (show False from h).elim
  | .ok .next, h => exact False.elim h
  | .ok .brk, h => exact False.elim h
  | .ok .cont, h => exact False.elim h
  | .ok (.ret u), h =>
    obtain ⟨v, H', h1, h2, un, ok', rv, rfl⟩ := h
    cases rv
    have grown : ∀ p ∈ cs, ∃ more : Array Value, t.heap.get? p.2 = some { cls := .none, data := .fields more } := by
      intro p hp
      obtain ⟨more, q⟩ := un.tbls p.2 #[] (all p hp)
      exact ⟨_, ok' p.2 _ q⟩
    have kept : ∀ b o, (∀ p ∈ cs, b ≠ p.2) → s.heap.get? b = some o → t.heap.get? b = some o := by
      intro b o nb e
      cases q : H b with
      | none => exact un.keep b o e q List.not_mem_nil List.not_mem_nil
      | some u =>
        cases tr b u q with
        | script ob xs eb _ eu =>
          rw [eu] at q
          have e1 := (ok b _ q).1
          have e2 := (ok' b _ (un.frzs b ob _ q)).1
          rw [e] at e1
          cases e1
          exact e2
        | table p m eb _ => exact absurd eb (nb p m)
    refine ⟨rfl, ⟨fun b o e => ?_, fun b o e => ?_⟩, h1, h2⟩
    · by_cases hb : ∃ p ∈ cs, b = p.2
      · obtain ⟨p, hp, rfl⟩ := hb
        obtain ⟨t0, _, cd⟩ := hT p hp
        obtain ⟨more, q⟩ := grown p hp
        rw [t0] at e
        cases e
        exact .inr (.inl ⟨(cd.tab t0).isCodeTable, rfl, #[], more, rfl, by rw [Array.empty_append]; exact q⟩)
      · exact .inl (kept b o (fun p hp z => hb ⟨p, hp, z⟩) e)
    · by_cases hb : ∃ p ∈ cs, b = p.2
      · obtain ⟨p, hp, rfl⟩ := hb
        obtain ⟨more, q⟩ := grown p hp
        exact ⟨_, q⟩
      · exact ⟨o, kept b o (fun p hp z => hb ⟨p, hp, z⟩) e⟩
theorem lawT (KX : K.In s.heap) (G : s.heap.Ns mainGlobals mg) (B : s.heap.Ns builtinsNs mb) (BB : ∀ y : Str, y ≠ "__name__" → mb y = bootBuiltins y) (NL : s.heap.NoLimit) (g0 : s.gens = #[])
    (hT : ∀ p ∈ cs, s.heap.get? p.2 = some tab0 ∧ K.lookup p.2 = none ∧ PySem.W.CodeHd s.heap p.1 p.2)
    (bm : ∃ (m : Addr) (ob : Obj), mg "__builtins__" = some (.ref m) ∧ m ≠ builtinsNs ∧ s.heap.get? m = some ob ∧ ob.cls = .type "module" ∧ ob.dict = some builtinsNs ∧ ob.data = .plain)
    (ha : s.heap.get? a = some (scriptObj vs)) (hi : IntsAre vs ns) (hl : ns.length ≤ sizeLine) (hr : Room k callerA)
    (F : ∀ base : Heap, K.In base → base.Ns mainGlobals mg → (∀ p ∈ cs, TabB base mg p.1 p.2) → FnG P w K mg base CX0 k fa fd [x] sp) (bd : ∀ (t : Shared) (u : Value), BindsTo t fd ⟨[u], []⟩ [(x, u)])
    (pr : ∀ H : Hp, (∀ p ∈ cs, H p.2 = some (.tbl #[])) → SqL K H a (ns.map V.int) → (∀ b u, H b = some u → Tr cs K a b u) → sp [.ref a] H (fun v _ => v = .bl true) fun _ _ _ => False) :
    codeAny (model P w) callerA (.call (.ref fa) ⟨[.ref a], []⟩) (LawEnd s) s := by
  have rv := vals_ints hi
  have na : ∀ p ∈ cs, p.2 ≠ a := by
    intro p hp z
    have e := (hT p hp).1
    rw [z, ha] at e
    cases e
  let tabs : Hp := fun b => if b ∈ cs.map (·.2) then some (.tbl #[]) else none
  have isT : ∀ p ∈ cs, tabs p.2 = some (.tbl #[]) := fun p hp => if_pos (List.mem_map.mpr ⟨p, hp, rfl⟩)
  have ofT : ∀ b u, tabs b = some u → ∃ p ∈ cs, b = p.2 ∧ u = .tbl #[] := by
    intro b u q
    by_cases hb : b ∈ cs.map (·.2)
    · obtain ⟨p, hp, e⟩ := List.mem_map.mp hb
      have q' : some (HO.tbl #[]) = some u := (if_pos hb).symm.trans q
      exact ⟨p, hp, e.symm, (Option.some.inj q').symm⟩
    · have q' : (none : Option HO) = some u := (if_neg hb).symm.trans q
      cases q'
  cases hk : K.lookup a with
  | some o =>
    have e := KX a o hk
    rw [ha] at e
    cases e
    have tr : ∀ b u, tabs b = some u → Tr cs K a b u := fun b u q => by
      obtain ⟨p, hp, e1, e2⟩ := ofT b u q
      exact .table p hp e1 e2
    refine lawT_of KX G B BB NL g0 hT bm ha hr F bd tabs tr (fun b u q => ?_) isT (pr tabs isT (.inr ⟨_, vs.toArray, _, hk, rfl, rfl, rfl, ?_, by simpa using rv⟩) tr)
    · obtain ⟨p, hp, rfl, rfl⟩ := ofT b u q
      exact (hT p hp).1
    · rw [List.size_toArray, hi.length]
      exact hl
  | none =>
    let Ha : Hp := fun b => if b = a then some (.frz (scriptObj vs) (.lst (ns.map V.int))) else tabs b
    have at_a : Ha a = some (.frz (scriptObj vs) (.lst (ns.map V.int))) := if_pos rfl
    have but : ∀ b, b ≠ a → Ha b = tabs b := fun b hb => if_neg hb
    have tr : ∀ b u, Ha b = some u → Tr cs K a b u := by
      intro b u q
      by_cases hb : b = a
      · rw [hb, at_a] at q
        exact .script _ _ hb hk (Option.some.inj q).symm
      · rw [but b hb] at q
        obtain ⟨p, hp, e1, e2⟩ := ofT b u q
        exact .table p hp e1 e2
    have isH : ∀ p ∈ cs, Ha p.2 = some (.tbl #[]) := fun p hp => (but _ (na p hp)).trans (isT p hp)
    refine lawT_of KX G B BB NL g0 hT bm ha hr F bd Ha tr (fun b u q => ?_) isH (pr Ha isH (.inl (.inr ⟨scriptObj vs, at_a⟩)) tr)
    by_cases hb : b = a
    · subst hb
      rw [at_a] at q
      cases q
      exact ⟨ha, by rw [List.length_map]; exact hl, vs, _, rv, ha⟩
    · rw [but b hb] at q
      obtain ⟨p, hp, rfl, rfl⟩ := ofT b u q
      exact (hT p hp).1
end
open PySem.W in
/-- the goal that the head leaves; cs: the defs that make lambdas, each with its code object and its table -/
theorem walkT {l : OpenLaw} {n k : Nat} {q : Program} {loose : List Str} {XP : (Str → Option Value) → Heap → Prop} {YP : World → Heap → Prop} {d : DefRec} {K : Params → Frag} {sp : Frag → Sp} {x : Str} {cs : Params → List (Str × Addr × Addr)}
    (hn : l.most = some n) (hz : n ≤ sizeLine) (h0 : d.params.defaults = []) (hr : Room k callerA) (hY : ∀ (w : World) (h : Heap), YP w h → (K w.params).In h)
    (hc : ∀ p, ∀ e ∈ cs p, (∃ r, (recsOf q).find? (fun r => r.name == e.1) = some r) ∧ tabIn (K p) e.1 = some e.2 ∧ (K p).lookup e.2.2 = none)
    (F : ∀ (w : World) (mg : Str → Option Value) (fa : Addr) (h : Heap), (K w.params).In h → h.Ns mainGlobals mg → mg d.name = some (.ref fa) → ∃ fd : FuncData,
      (∀ (t : Shared) (u : Value), BindsTo t fd ⟨[u], []⟩ [(x, u)]) ∧ ∀ base : Heap, (K w.params).In base → base.Ns mainGlobals mg → (∀ e ∈ cs w.params, TabB base mg e.2.1 e.2.2) → FnG l.prog w (K w.params) mg base CX0 k fa fd [x] (sp (K w.params)))
    (pr : ∀ (p : Params) (H : Hp) (a : Addr) (ns : List Int), ns.length ≤ n → (∀ e ∈ cs p, H e.2.2 = some (.tbl #[])) → SqL (K p) H a (ns.map V.int) → (∀ b u, H b = some u → Tr ((cs p).map (·.2)) (K p) a b u) → sp (K p) [.ref a] H (fun v _ => v = .bl true) fun _ _ _ => False) :
    WalkO q loose XP YP l.row.toRowW d [] (fun f us => PySem.call f us) := by
  refine Att.attach_call hn h0 ?_
  intro w s₀ s₁ mg mb fa o pm cd doc a us ns G Y ho hd hcd hm hobj hints hlen hg
  have KX := hY w _ Y
  obtain ⟨fd, hb, hF⟩ := F w mg fa _ KX G.T.g hm
  have lift : ∀ {φ : Addr × Addr → Prop}, (∀ p ∈ (cs w.params).map (·.2), φ p) ↔ ∀ e ∈ cs w.params, φ e.2 := by
    intro φ
    constructor
    · intro h e he
      exact h _ (List.mem_map.mpr ⟨e, he, rfl⟩)
    · intro h p hp
      obtain ⟨e, he, rfl⟩ := List.mem_map.mp hp
      exact h e he
  refine lawT (cs := (cs w.params).map (·.2)) KX G.T.g G.T.b G.T.builtins G.T.nolimit hg (lift.mpr fun e he => ?_) G.T.bmain hobj hints (Nat.le_trans hlen hz) hr (fun base h1 h2 h3 => hF base h1 h2 (lift.mp h3)) hb fun H h1 h2 h3 => pr _ H a ns hlen (lift.mp h1) h2 h3
  obtain ⟨⟨r, e1⟩, e2, e3⟩ := hc w.params e he
  obtain ⟨t1, t2⟩ := tab_of G.T KX e1 e2
  exact ⟨t2, e3, t1⟩
end Kx
namespace Kx
open PySem PySem.Spec PyProof.Rows L2 SX LamX
section
variable {X : Cx}
/-! ### repr of data -/
def rRepr (K : PySem.W.Frag) : List V → Hp → VK → Prop := fun xs H Q => ∃ (a : Addr) (d : PyData), xs = [.ref a] ∧ Dp K H (.ref a) d ∧ d.showable = true ∧ d.hasDict = false ∧ d.depth ≤ 60 ∧ d.shown.length ≤ sizeLine ∧ Q (.str d.shown) H
theorem call_reprD (hg : X.A.guards = some []) (hu : X.A.units + 64 < cLine) : CallR X (.builtin "repr") (rRepr X.K) := by
  intro pins s σ H xs us Q I r h
  obtain ⟨a, d, rfl, hd, hs, hn, hp, hl, q⟩ := h
  cases r with
  | cons r0 rr =>
    cases rr
    obtain ⟨as, rd⟩ := Dp.reads I d _ _ hd r0
    cases r0
    refine repr_of_reads' rd hs (PyData.noDict_hsm hn) hg (by omega) (fun _ _ e => e) (fun h' u tk k => ?_) hl
    exact ⟨.str d.shown, H, I.kept k, ⟨u, rfl⟩, q⟩
/-! ### f(k = v, ..): keywords alone -/
theorem pe_callK0 {CX : CXT} {k : Nat} {f : Addr} {fd : FuncData} {ps ks : List Str} {sp : Sp} {E : XK} {x : Str} {p pos : Pos} {kws : List Keyword} {tk : TA} {g : List Value → List Value → List Value} {gV : List V → List V → List V}
    (F : FnOk X.prog X.w X.K X.mg X.base CX k f fd ps sp) (hr : Room k X.A) (hg : Gl X x) (hm : X.mg x = some (.ref f)) (hk : PySem.W.keepIn X.K (.ref f) = true) (hb : KBinds X.K fd ps ks g gV) (hx : Passes CX X E) (hkw : PK X kws tk)
    (hall : (backToKw pos (keywordEach kws X.env)).all (·.1.isSome) = true := by rfl) (hks : (backToKw pos (keywordEach kws X.env)).filterMap (·.1) = ks := by rfl) (hdb : (x == ("__debug__" : Str)) = false := by decide)
    (hpl : ((backTo pos (starEach [] X.env)).any (·.1) || (backToKw pos (keywordEach kws X.env)).any (·.1.isNone)) = false := by rfl) : PE X (.Call (.Name x p) [] kws pos) (tCallK sp gV E tNil tk) := by
  refine ⟨fun pins s σ H Q I h => ?_⟩
  apply wpAny_Call_Name_kw
  refine ld_glob I hg hm ?_ hdb
  refine PySem.W.callWith_KW0 (h₀ := X.base) I.ok.mod.kin hk hall (thn (hkw.run pos pins s σ H _ I h) fun ws s2 hh => ?_) hpl
  obtain ⟨zs, H2, I2, rz, q2⟩ := hh
  refine ⟨I2.kIn, ?_⟩
  rw [hks]
  exact run_fnk (us := []) F hr hb hx I2 .nil rz q2
/-! ### an exception that a name holds -/
/-- isinstance of it -/
def rIsX (K : PySem.W.Frag) : List V → Hp → VK → Prop := fun xs H Q => ∃ (a D dd : Addr) (fs : List (Str × V)) (c : V) (cv : Value) (b : Bool), xs = [.ref a, c] ∧ H a = some (exT a (.ref D) (some dd)) ∧ H dd = some (.xd fs) ∧ ExcC K D ∧
  (∀ u, RelV c u → u = cv) ∧ PySem.W.kitOne K (.ref D) cv = some b ∧ Q (.bl b) H
theorem exT_at {P : Program} {w : World} {H : Hp} {h : Heap} {a : Addr} {cls : Value} {d : Option Addr} (hok : HOk P w H h) (e : H a = some (exT a cls d)) : ∃ (oe : Obj) (vs : Array Value), h.get? a = some oe ∧ Zc cls d oe ∧ oe.data = .fields vs := by
  have q : ObjOk P w H h a (exT a cls d) := hok a _ e
  exact q.1
theorem inst_at {pins : List (Addr × Obj)} {σ : L2.St} {H : Hp} {s : Shared} {a D dd : Addr} {fs : List (Str × V)} (I : Inv X pins σ H s) (e : H a = some (exT a (.ref D) (some dd))) (ed : H dd = some (.xd fs)) :
    ∃ (oe od : Obj) (mA : Str → Option Value), PySem.W.InstAt s.heap a oe D (some od) ∧ (∀ n, PySem.W.lookIn n od = some (mA n)) ∧ ∀ n, RelO (fs.lookup n) (mA n) := by
  obtain ⟨oe, vs, h1, h2, h3⟩ := exT_at I.hok e
  have hx : ObjOk X.prog X.w H s.heap dd (.xd fs) := I.hok dd _ ed
  obtain ⟨mA, hns, hr⟩ := hx
  obtain ⟨od, ho, hl⟩ := lookIn_ns hns
  refine ⟨oe, od, mA, { at_ := h1, cls := h2.1, no := ?_, dict := ?_ }, hl, hr⟩
  · unfold PySem.W.notCls
    rw [h3] <;> rfl
  · rw [h2.2]
    exact ho
theorem call_isX : CallR X (.builtin "isinstance") (rIsX X.K) := by
  intro pins s σ H xs us Q I r h
  obtain ⟨a, D, dd, fs, c, cv, b, rfl, e, ed, C, hc, hk, q⟩ := h
  obtain ⟨u1, u2, rfl, r1, r2⟩ := vals2 r
  obtain rfl : u1 = Value.ref a := r1
  obtain rfl := hc _ r2
  obtain ⟨oe, od, mA, J, _, _⟩ := inst_at I e ed
  have cls : (PySem.W.clsIn X.K D).isSome = true := by
    obtain ⟨cd, hcd, _⟩ := PySem.W.any_some C.hd
    rw [hcd]
    rfl
  exact PySem.W.kia_one (PySem.W.kitx_exc cls C.hg C.hk C.hs C.ha C.hn C.ht C.hm) I.kIn J hk (fun z => nomatch z) fun tk => ⟨.bl b, H, I.kept (t' := tk) fun _ _ z => z, rfl, q⟩
def rIsiX (K : PySem.W.Frag) : List V → Hp → VK → Prop := fun xs H Q => rIsi K xs H Q ∨ rIsX K xs H Q
theorem call_isiX : CallR X (.builtin "isinstance") (rIsiX X.K) := fun pins s σ H xs us Q I r h => h.elim (call_isi pins s σ H xs us Q I r) (call_isX pins s σ H xs us Q I r)
/-- e.n, e's value such an exception -/
def tXp (K : PySem.W.Frag) (n : Str) (te : TE) : TE := fun σ H Q => te σ H fun x H1 => ∃ (a D dd : Addr) (fs : List (Str × V)) (v : V), x = .ref a ∧ H1 a = some (exT a (.ref D) (some dd)) ∧ H1 dd = some (.xd fs) ∧ XfC K D ∧ PySem.W.findIn K (.ref D) n = some none ∧ fs.lookup n = some v ∧ Q v H1
theorem pe_xp {e : Expr} {te : TE} {n : Str} {pos : Pos} (he : PE X e te) (hb : attributeBase e n X.env (eval e X.env) = eval e X.env := by rfl) : PE X (.Attribute e n pos) (tXp X.K n te) := by
  refine ⟨fun pins s σ H Q I h => ?_⟩
  refine attr_of hb (thn (he.run pins s σ H _ I h) fun u s1 hh => ?_)
  obtain ⟨x, H1, I1, rx, a, D, dd, fs, v, rfl, e1, e2, T, hno, hl, q⟩ := hh
  obtain rfl : u = Value.ref a := rx
  obtain ⟨oe, od, mA, J, look, rel⟩ := inst_at I1 e1 e2
  obtain ⟨w, hw, rw'⟩ := RelO.some_of (v := v) (o := mA n) (by rw [← hl]; exact rel n)
  exact HandSPX.exc_get I1.kIn J T.ga T.gg T.exC (PySem.W.findObj_own T.hdC hno rfl (by rw [look, hw])) (handed_of rw') ⟨v, H1, I1.tok _, rw', q⟩
end
end Kx
namespace Kx
open PySem PySem.Spec PyProof.Rows L2 SX LamX
/-! ### an error class of the program: one field, part -/
structure Er (K : PySem.W.Frag) (mg : Str → Option Value) (x qual : Str) (st : Stmt) (base : Str) where
  C : Addr
  L : Addr
  fI : Addr
  fd : FuncData
  gC : mg x = some (.ref C)
  gL : mg base = some (.ref L)
  oex : OexC K C
  iC : PySem.W.findIn K (.ref C) "__init__" = some (some (.ref fI))
  tI : PySem.W.typeIn K (.ref fI) = some (.type "function")
  F : Fun K "__init__" qual st fI fd
  b : Binds K fd ["self", "part"] []
  np : PySem.W.findIn K (.ref C) "part" = some none
  exc : ExcC K C
  xf : XfC K C
  em : PySem.W.exmOne K (.ref C) (.ref L) = some true
/-- its making, out of what the top left -/
def er_mk {K : PySem.W.Frag} {h : Heap} {mg : Str → Option Value} (X : K.In h) (G : h.Ns mainGlobals mg) {x qual : Str} {st : Stmt} {base : Str} {C L fI N : Addr} {nm q : Str} {bs bm : List Value} {sn : List Str} {sub : List Value} {ab : Bool} {col : Option Bool} {dd : Option Addr} {m0 m1 m2 m3 m5 : Option Value}
    {od an : Option Addr} {sl : Array (Option Value)} {oc kV dc pm cd ct : Value} (aC : PySem.W.nsIn K mainGlobals x = some (some (.ref C))) (aL : PySem.W.nsIn K mainGlobals base = some (some (.ref L)))
    (xL : K.lookup C = some (excClassObj nm q C N bs bm true sn sub ab col dd m0 m1 m2 m3 m5 "ValueError.__new__")) (hbm : PySem.HandSPX.refsVE bm = true)
    (sa : PySem.W.findIn K (.ref C) "__setattr__" = some (some (.builtin "object.__setattr__"))) (eC : PySem.W.subIn K (.ref C) (.type "BaseException") = some true) (tC : PySem.W.typeIn K (.ref C) = some (.type "type")) (kC : PySem.W.keepIn K (.ref C) = true)
    (a1 : PySem.W.findIn K (.ref C) "__init__" = some (some (.ref fI))) (t1 : PySem.W.typeIn K (.ref fI) = some (.type "function"))
    (l1 : K.lookup fI = some ⟨oc, od, .func (PySem.W.fnOf "__init__" qual (defArgs st) (defBody st) (defScope st) .none kV dc pm an cd ct), sl⟩) (c1 : PySem.W.codeIn K cd qual = true) (k1 : PySem.W.keepIn K (.ref fI) = true)
    (b1 : ∀ (kV doc pm : Value) (an : Option Addr) (cdv ct : Value) (us : List Value), us.length = (["self", "part"] : List Str).length → bindArgs (PySem.W.fnOf "__init__" qual (defArgs st) (defBody st) (defScope st) .none kV doc pm an cdv ct) ⟨us, []⟩ = pure ((["self", "part"] : List Str).zip us))
    (nb : PySem.W.findIn K (.ref C) "part" = some none) (ga : PySem.W.findIn K (.ref C) "__getattribute__" = some (some (.builtin "BaseException.__getattribute__"))) (gg : PySem.W.findIn K (.ref C) "__getattr__" = some none) (hd : PySem.W.hasDictIn K C = true)
    (hc : PySem.W.findIn K (.ref C) "__class__" = some (some (.builtin "object.__class__"))) (hn : PySem.W.specialIn K (.builtin "object.__class__") "__get__" = some (some (.builtin "getset_descriptor.__get__"))) (ht : PySem.W.takesIn K (.builtin "object.__class__") = some true)
    (hm : PySem.W.mroIn K C (.type "object") = some true) (eL : PySem.W.subIn K (.ref L) (.type "BaseException") = some true) (dL : PySem.W.hasDictIn K L = true) (tL : PySem.W.typeIn K (.ref L) = some (.type "type")) (sCL : PySem.W.subIn K (.ref C) (.ref L) = some true) : Er K mg x qual st base where
  C := C
  L := L
  fI := fI
  fd := _
  gC := PySem.W.mg_of X G aC
  gL := PySem.W.mg_of X G aL
  oex := ⟨⟨nm, q, N, bs, bm, sn, sub, ab, col, dd, m0, m1, m2, m3, m5, xL, hbm⟩, sa, eC, tC, kC⟩
  iC := a1
  tI := t1
  F := fun_mk (st := st) l1 c1 k1
  b := (fun_mk (st := st) l1 c1 k1).binds (ps := ["self", "part"]) b1
  np := nb
  exc := ⟨ga, gg, eC, hd, hc, hn, ht, hm⟩
  xf := ⟨ga, gg, eC, hd⟩
  em := PySem.W.exm_ref eL dL tL sCL
theorem passF {X : Cx} : Passes (L2.CX X.prog X.w) X (fun _ _ _ => False) := fun _ _ _ _ _ _ _ z => by
  obtain ⟨_, _, _, _, _, _, _, _, _, _, _, _, f⟩ := z
  exact f.elim
/-- the promise of such an __init__: self.part = part -/
def sp_init (K : PySem.W.Frag) : Sp := fun vs H Q _ => ∃ (a C : Addr) (y : V), vs = [.ref a, y] ∧ OexC K C ∧ PySem.W.findIn K (.ref C) "part" = some none ∧ H a = some (exo a C none) ∧
  ∀ dx, H dx = none → dx ≠ a → Q .non (upd (upd H dx (exd dx [("part", y)])) a (exo a C (some dx)))
section
variable {P : Program} {w : World} {K : PySem.W.Frag} {mg : Str → Option Value} {base : Heap}
/-- the body of such an __init__ -/
def IsInit (st : Stmt) : Prop := ∃ p1 p2 p3 p4, defBody st = [.Assign [.Attribute (.Name "self" p1) "part" p2] (.Name "part" p3) p4] ∧ FnScope ["self", "part"] ["self", "part"] (defScope st) ∧ (defScope st).names.lookup ("self" : Str) = some .local ∧ (defScope st).names.lookup ("part" : Str) = some .local
theorem ok_init {x qual : Str} {st : Stmt} {bs : Str} (e : Er K mg x qual st bs) (h : IsInit st) : FnOk P w K mg base CX0 1 e.fI e.fd ["self", "part"] (sp_init K) := by
  obtain ⟨p1, p2, p3, p4, hb, sc, v1, v2⟩ := h
  refine e.F.ok sc (fun vs H Q E h => ?_) (fun cdv A outer s H vs Q E hr h => ?_)
  · obtain ⟨a, C, y, rfl, _⟩ := h
    rfl
  · obtain ⟨a, C, y, rfl, o, n, ha, q⟩ := h
    rw [hb]
    refine ⟨_, pss_one (ps_ost (pv 0 rfl (.inl v1)) (pv 1 rfl (.inl v2))), ?_⟩
    exact ⟨y, rfl, .ref a, rfl, a, C, rfl, o, n, .inl ⟨ha, q⟩⟩
end
/-! ### a choice of rules -/
section
variable {X : Cx}
theorem pi_either {tg it : Expr} {w1 w2 : TI} (h1 : PI X tg it w1) (h2 : PI X tg it w2) : PI X tg it (fun σ H R => w1 σ H R ∨ w2 σ H R) := ⟨fun pins s σ H R I h => h.elim (h1.run pins s σ H R I) (h2.run pins s σ H R I)⟩
theorem pe_either {e : Expr} {t1 t2 : TE} (h1 : PE X e t1) (h2 : PE X e t2) : PE X e (fun σ H Q => t1 σ H Q ∨ t2 σ H Q) := ⟨fun pins s σ H Q I h => h.elim (h1.run pins s σ H Q I) (h2.run pins s σ H Q I)⟩
theorem pi_seq {tg it : Expr} {tl : TE} (h : PE X it tl) : PI X tg it (fun σ H R => iList X.K tl σ H R ∨ iTup X.K tl σ H R) := pi_either (pi_list h) (pi_tup h)
end
end Kx
namespace Kx
open PySem PySem.Spec PyProof.Rows L2 SX LamX
theorem tyx_same {K : PySem.W.Frag} {H H' : Hp} {x : V} {n : String} (e : Same H H') (h : TyX K H x (.type n)) : TyX K H' x (.type n) := by
  cases h with
  | base b =>
    cases b with
    | non => exact .base .non
    | bl y => exact .base (.bl y)
    | int i => exact .base (.int i)
    | str z => exact .base (.str z)
    | flt z => exact .base (.flt z)
    | lst h => exact .base (.lst (e _ _ h))
    | frz h => exact .base (.frz (e _ _ h))
    | tup h => exact .base (.tup (e _ _ h))
    | dK h => exact .base (.dK (e _ _ h))
    | dT h => exact .base (.dT (e _ _ h))
  | byt b => exact .byt b
  | set h => exact .set (e _ _ h)
  | kList h c => exact .kList h c
  | kTuple h c => exact .kTuple h c
  | kDict h c => exact .kDict h c
  | fTuple h => exact .fTuple (e _ _ h)
  | fDict h => exact .fDict (e _ _ h)
/-! ### integers with bounds, of any value -/
def isIntV : V → Bool
  | .int _ => true
  | _ => false
/-- what the checks ask of a value's type -/
def HasInt (K : PySem.W.Frag) (H : Hp) (x : V) : Prop := ∃ (n : String) (a b : Bool), TyX K H x (.type n) ∧ kitB n "int" = some a ∧ kitB n "bool" = some b ∧ (a && !b) = isIntV x
theorem HasInt.same {K : PySem.W.Frag} {H H' : Hp} {x : V} (e : Same H H') (h : HasInt K H x) : HasInt K H' x := by
  obtain ⟨n, a, b, t, r⟩ := h
  exact ⟨n, a, b, tyx_same e t, r⟩
theorem hasInt_int {K : PySem.W.Frag} {H : Hp} (i : Int) : HasInt K H (.int i) := ⟨"int", true, false, .base (.int i), by decide +kernel, by decide +kernel, rfl⟩
theorem hasInt_bl {K : PySem.W.Frag} {H : Hp} (i : Bool) : HasInt K H (.bl i) := ⟨"bool", true, true, .base (.bl i), by decide +kernel, by decide +kernel, rfl⟩
theorem hasInt_str {K : PySem.W.Frag} {H : Hp} (i : Str) : HasInt K H (.str i) := ⟨"str", false, false, .base (.str i), by decide +kernel, by decide +kernel, rfl⟩
theorem hasInt_non {K : PySem.W.Frag} {H : Hp} : HasInt K H .non := ⟨"NoneType", false, false, .base .non, by decide +kernel, by decide +kernel, rfl⟩
theorem hasInt_lst {K : PySem.W.Frag} {H : Hp} {a : Addr} {xs : List V} (h : SqL K H a xs) : HasInt K H (.ref a) := ⟨"list", false, false, tyL h, by decide +kernel, by decide +kernel, rfl⟩
theorem hasInt_tup {K : PySem.W.Frag} {H : Hp} {a : Addr} {xs : List V} (h : SqT K H a xs) : HasInt K H (.ref a) := ⟨"tuple", false, false, tyT h, by decide +kernel, by decide +kernel, rfl⟩
/-- a bound: none, or an int -/
def bdV : Option Int → V
  | none => .non
  | some i => .int i
def loB (i : Int) : Option Int → Bool
  | none => true
  | some l => decide (l ≤ i)
def hiB (i : Int) : Option Int → Bool
  | none => true
  | some h => decide (i ≤ h)
def withinB (i : Int) (lo hi : Option Int) : Bool := loB i lo && hiB i hi
def withinV (x : V) (lo hi : Option Int) : Bool := match x with
  | .int i => withinB i lo hi
  | _ => false
end Kx
namespace Kx
open PySem PySem.Spec PyProof.Rows L2 SX LamX
/-! ### the draws' wheel: cells, how many were begun, what is left -/
def Wh (H : Hp) (a c : Addr) (n : Nat) : Prop := ∃ (cs : List Int) (t l : Int), H a = some (.lst [.ref c, .int t, .int l]) ∧ H c = some (.lst (cs.map V.int)) ∧ cs.length ≤ 60 ∧ 0 ≤ t ∧ t ≤ n
/-- all that was tracked, but for what stands at a, is as it was -/
def Mv (a : Addr) (H H' : Hp) : Prop := ∀ b o, b ≠ a → H b = some o → H' b = some o
theorem Mv.refl (a : Addr) (H : Hp) : Mv a H H := fun _ _ _ h => h
theorem Mv.trans {a : Addr} {H H1 H2 : Hp} (x : Mv a H H1) (y : Mv a H1 H2) : Mv a H H2 := fun b o n h => y b o n (x b o n h)
theorem Mv.of {a : Addr} {H H1 : Hp} (x : Same H H1) : Mv a H H1 := fun b o _ h => x b o h
theorem Mv.upd (a : Addr) (H : Hp) (o : HO) : Mv a H (upd H a o) := fun b p n h => by rw [upd_ne n]; exact h
theorem Mv.same {a : Addr} {H H1 : Hp} (x : Mv a H H1) (h : H a = none) : Same H H1 := fun b o e => x b o (fun z => by rw [z, h] at e; cases e) e
theorem Wh.lt {H : Hp} {a c : Addr} {n m : Nat} (h : Wh H a c n) (l : n ≤ m) : Wh H a c m := by
  obtain ⟨cs, t, l', h1, h2, h3, h4, h5⟩ := h
  exact ⟨cs, t, l', h1, h2, h3, h4, by omega⟩
theorem Wh.same {H H' : Hp} {a c : Addr} {n : Nat} (h : Wh H a c n) (e : Same H H') : Wh H' a c n := by
  obtain ⟨cs, t, l', h1, h2, h3⟩ := h
  exact ⟨cs, t, l', e _ _ h1, e _ _ h2, h3⟩
theorem wh_set {H : Hp} {a c : Addr} {cs : List Int} {t l : Int} {n : Nat} {u : List V} (h1 : H a = some (.lst u)) (h2 : H c = some (.lst (cs.map V.int))) (hac : a ≠ c) (h3 : cs.length ≤ 60) (h4 : 0 ≤ t) (h5 : t ≤ n) : Wh (upd H a (.lst [.ref c, .int t, .int l])) a c n :=
  ⟨cs, t, l, upd_same, by rw [upd_ne (fun e => hac e.symm)]; exact h2, h3, h4, h5⟩
theorem wh_ac {H : Hp} {a c : Addr} {cs : List Int} {t l : Int} (h1 : H a = some (.lst [.ref c, .int t, .int l])) (h2 : H c = some (.lst (cs.map V.int))) : a ≠ c := by
  intro e
  rw [← e, h1] at h2
  injection h2 with h2
  injection h2 with h2
  cases cs with
  | nil => cases h2
  | cons x xs => injection h2 with h2 _; cases h2
/-! ### data: lists that are laid, compared -/
theorem canLayAll_of : ∀ (ds : List PyData), (∀ d ∈ ds, d.canLay0 = true) → PyData.canLayAll0 ds = true
  | [], _ => rfl
  | d :: ds, h => by
    have h1 := h d (List.mem_cons_self ..)
    have h2 := canLayAll_of ds fun e m => h e (List.mem_cons_of_mem _ m)
    show (d.canLay0 && PyData.canLayAll0 ds) = true
    rw [h1, h2]
    rfl
theorem depthAll_of {k : Nat} : ∀ (ds : List PyData), (∀ d ∈ ds, d.depth ≤ k) → PyData.depthAll ds ≤ k
  | [], _ => Nat.zero_le _
  | d :: ds, h => by
    have h1 := h d (List.mem_cons_self ..)
    have h2 := depthAll_of ds fun e m => h e (List.mem_cons_of_mem _ m)
    show max d.depth (PyData.depthAll ds) ≤ k
    omega
/-- plain data of a depth -/
def Pl (k : Nat) (d : PyData) : Prop := d.canLay0 = true ∧ d.depth ≤ k
theorem Pl.lst {k : Nat} {ds : List PyData} (h : ∀ d ∈ ds, Pl k d) : Pl (k + 1) (.list ds) :=
  ⟨canLayAll_of ds fun d m => (h d m).1, Nat.succ_le_succ (depthAll_of ds fun d m => (h d m).2)⟩
theorem Pl.tup {k : Nat} {ds : List PyData} (h : ∀ d ∈ ds, Pl k d) : Pl (k + 1) (.tuple ds) :=
  ⟨canLayAll_of ds fun d m => (h d m).1, Nat.succ_le_succ (depthAll_of ds fun d m => (h d m).2)⟩
theorem Pl.shaped {k : Nat} {d : PyData} (h : Pl k d) (hk : k ≤ 64) : SeqAt.shaped d = true := by
  show (d.canLay0 && decide (d.depth ≤ 64)) = true
  rw [h.1, decide_eq_true (Nat.le_trans h.2 hk)]
  rfl
theorem pl_int (k : Nat) (i : Int) : Pl k (.int i) := ⟨rfl, Nat.zero_le _⟩
theorem pl_ints (xs : List Int) : Pl 1 (.list (xs.map PyData.int)) := Pl.lst fun d m => by
  obtain ⟨i, _, rfl⟩ := List.mem_map.mp m
  exact pl_int 0 i
theorem dpAll_map {K : PySem.W.Frag} {H : Hp} {α : Type} {f : α → V} {g : α → PyData} : ∀ (xs : List α), (∀ x ∈ xs, Dp K H (f x) (g x)) → DpAll K H (xs.map f) (xs.map g)
  | [], _ => .nil
  | x :: xs, h => .cons (h x (List.mem_cons_self ..)) (dpAll_map xs fun y m => h y (List.mem_cons_of_mem _ m))
theorem dp_ints {K : PySem.W.Frag} {H : Hp} {a : Addr} {xs : List Int} (h : SqL K H a (xs.map V.int)) : Dp K H (.ref a) (.list (xs.map PyData.int)) := .lst h (dpAll_map xs fun x _ => .int x)
theorem eqvAll_map {α : Type} [DecidableEq α] {g : α → PyData} (hg : ∀ x y, PyData.eqv (g x) (g y) = decide (x = y)) : ∀ (xs ys : List α), PyData.eqvAll (xs.map g) (ys.map g) = decide (xs = ys)
  | [], [] => rfl
  | [], _ :: _ => rfl
  | _ :: _, [] => rfl
  | x :: xs, y :: ys => by
    show (PyData.eqv (g x) (g y) && PyData.eqvAll (xs.map g) (ys.map g)) = _
    rw [hg, eqvAll_map hg xs ys]
    by_cases e : x = y
    · by_cases e2 : xs = ys
      · subst e e2; simp
      · simp [e, e2]
    · simp [e]
theorem eqv_int (x y : Int) : PyData.eqv (.int x) (.int y) = decide (x = y) := by
  show (x == y) = _
  by_cases e : x = y <;> simp [e]
theorem eqv_ints (xs ys : List Int) : PyData.eqv (.list (xs.map PyData.int)) (.list (ys.map PyData.int)) = decide (xs = ys) := eqvAll_map eqv_int xs ys
/-- «xs != []» -/
theorem ne_nil {K : PySem.W.Frag} {H : Hp} {a p : Addr} {xs : List Int} {Q : VK} (h1 : SqL K H a (xs.map V.int)) (h2 : H p = some (.lst [])) (q : Q (.bl (!decide (xs = []))) H) : rNeD K (.ref a) (.ref p) H Q :=
  ⟨_, _, dp_ints h1, dp_ints (xs := []) (.inl (.inl h2)), (pl_ints xs).shaped (by decide), (pl_ints []).shaped (by decide), by rw [eqv_ints]; exact q⟩
/-! ### places -/
theorem at_nat {α : Type} {xs : List α} {i : Nat} (h : i < xs.length) : atI xs (i : Int) = some xs[i] := by
  unfold atI ixN
  rw [if_pos (by omega), if_pos (by omega)]
  show xs[(i : Int).toNat]? = _
  rw [Int.toNat_natCast, List.getElem?_eq_getElem h]
theorem at_lt {α : Type} {xs : List α} {i : Int} (h0 : 0 ≤ i) (h : i < xs.length) : ∃ v, v ∈ xs ∧ atI xs i = some v := by
  obtain ⟨k, rfl⟩ : ∃ k : Nat, i = k := ⟨i.toNat, by omega⟩
  exact ⟨_, List.getElem_mem (by omega), at_nat (by omega)⟩
theorem at_last {α : Type} {xs : List α} {x : α} : atI (xs ++ [x]) (-1) = some x := by
  unfold atI ixN
  rw [if_neg (by omega), if_pos (by simp; omega)]
  show (xs ++ [x])[_]? = _
  rw [show (-1 + ((xs ++ [x]).length : Int)).toNat = xs.length by simp; omega]
  simp
/-- one way on from two branches, for all values that they leave -/
theorem cutI {c : Bool} {A B : Prop} {R : Int → Prop} (y : Int) (h2 : c = false → R y → B) (h1 : (∀ z, R z) → c = true → A) (key : ∀ z, R z) : if c = true then A else B := iteC (h1 key) fun e => h2 e (key y)
theorem genI {P : V → Prop} {x : Int} (h : ∀ z : Int, P (.int z)) : P (.int x) := h x
theorem genIB {P : V → Prop} {x M : Int} (hM : 0 < M) (h : ∀ z : Int, 0 ≤ z → z < M → P (.int z)) : P (.int (x.fmod M)) := h _ (Int.fmod_nonneg_of_pos _ hM) (Int.fmod_lt_of_pos _ hM)
theorem cutP {c : Bool} {X Y B : Prop} (h2 : c = false → B → Y) (h1 : B → c = true → X) (b : B) : if c = true then X else Y := iteC (h1 b) fun e => h2 e b
theorem mul_bnd {a b A B : Int} (a0 : 0 ≤ a) (a1 : a ≤ A) (b0 : 0 ≤ b) (b1 : b ≤ B) : 0 ≤ a * b ∧ a * b ≤ A * B :=
  ⟨Int.mul_nonneg a0 b0, Int.mul_le_mul a1 b1 b0 (Int.le_trans a0 a1)⟩
theorem bnd5 {c M k t l : Int} (hM : 0 < M) (hM2 : M ≤ 1099511627776) (t0 : 0 ≤ t) (t1 : t ≤ 1000000) (k0 : 0 ≤ k) (k1 : k ≤ 8388608) (l0 : 0 ≤ l) (l1 : l ≤ 1099511627776) : (c.fmod M + k * t + l).natAbs < 2 ^ 64 := by
  have h1 := Int.fmod_nonneg_of_pos c hM
  have h2 := Int.fmod_lt_of_pos c hM
  obtain ⟨h3, h4⟩ := mul_bnd k0 k1 t0 t1
  omega
theorem bnd3 {m t a k l : Int} (m0 : 0 ≤ m) (m1 : m ≤ 4294967296) (t0 : 0 ≤ t) (t1 : t ≤ 1000000) (a0 : 0 ≤ a) (a1 : a ≤ 8388608) (k0 : 0 ≤ k) (k1 : k ≤ 8388608) (l0 : 0 ≤ l) (l1 : l ≤ 1099511627776) : (m * (2 * t + a) + k * t * t + l).natAbs < 2 ^ 64 := by
  obtain ⟨h1, h2⟩ := mul_bnd (b := 2 * t + a) (B := 10388608) m0 m1 (by omega) (by omega)
  obtain ⟨h3, h4⟩ := mul_bnd k0 k1 t0 t1
  obtain ⟨h5, h6⟩ := mul_bnd h3 h4 t0 t1
  omega
/-! ### slices -/
theorem cut_to (xs : List V) (k : Nat) : cutV xs none (some (k : Int)) = xs.take k := by
  unfold cutV
  rw [HT.sIx_none, HT.sIx_nat, List.drop_zero, Nat.sub_zero]
  by_cases h : k ≤ xs.length
  · rw [Nat.min_eq_left h]
  · rw [Nat.min_eq_right (by omega), List.take_of_length_le (Nat.le_refl _), List.take_of_length_le (by omega)]
theorem cut_from (xs : List V) (k : Nat) : cutV xs (some (k : Int)) none = xs.drop k := by
  unfold cutV
  rw [HT.sIx_none, HT.sIx_nat]
  by_cases h : k ≤ xs.length
  · rw [Nat.min_eq_left h, List.take_of_length_le (by rw [List.length_drop]; omega)]
  · rw [Nat.min_eq_right (by omega), Nat.sub_self, List.take_zero, List.drop_eq_nil_of_le (by omega)]
/-! ### comprehensions, item by item -/
section
variable {K : PySem.W.Frag} {a : Addr} {xs : List V} {g : TG} {tt : TT} {te : TE} {vs : List Nat} {σ : L2.St} {H1 : Hp} {D : Addr} {Qd : Hp → Prop}
theorem lc_mapL (f : V → V) (hq : SqL K H1 a xs) (nD : H1 D = none) (len : xs.length ≤ 100000)
    (turn : ∀ (i : Nat) (x : V) (Hc : Hp) (Q' : VK) (R' : Hp → Prop), xs[i]? = some x → Same H1 Hc → (∀ H4, Same Hc H4 → Q' (f x) H4) → g x (wipe σ vs) Hc fun σ2 H2 => wipe σ2 vs = wipe σ vs ∧ tt σ2 H2 fun b H3 => if b = true then te σ2 H3 Q' else R' H3)
    (fin : ∀ Hc, Same H1 Hc → Hc D = some (.lst (xs.map f)) → Qd Hc) :
    ∃ W : Nat → Nat → Hp → Prop, (∃ m, W 0 m (upd H1 D (.lst []))) ∧ ∀ i m H, W i m H →
      ((Itl K a).stop i H ∧ Qd H) ∨ ((Itl K a).go i H ∧ ∃ Nx : Hp → Prop, (∀ H', Nx H' → ∃ m', m' < m ∧ W (i + 1) m' H') ∧ ∀ x H', (Itl K a).yld i H x H' → g x (wipe σ vs) H' fun σ2 H2 => wipe σ2 vs = wipe σ vs ∧ tt σ2 H2 fun b H3 =>
        if b = true then te σ2 H3 fun y H4 => ∃ acc, H4 D = some (.lst acc) ∧ acc.length < sizeLine ∧ Nx (upd H4 D (.lst (acc ++ [y]))) else Nx H3) := by
  refine lc_list (fun i Hc => Same H1 Hc ∧ Hc D = some (.lst ((xs.take i).map f))) ⟨same_new nD, upd_same⟩ (fun i H _ p => p.1.seq hq) (fun i x Hc hx p => ?_) (fun Hc p => ?_)
  · refine turn i x Hc _ _ hx p.1 (fun H4 e4 => ⟨_, e4 _ _ p.2, ?_, ?_⟩)
    · rw [List.length_map, List.length_take]
      exact Nat.lt_of_le_of_lt (Nat.min_le_right _ _) (Nat.lt_of_le_of_lt len (by decide))
    · refine ⟨fun b o z => ?_, ?_⟩
      · rw [upd_ne (ne_of_none z nD)]
        exact e4 _ _ (p.1 b o z)
      · rw [upd_same, List.take_add_one, hx, List.map_append]
        rfl
  · rw [List.take_length] at p
    exact fin Hc p.1 p.2
theorem lc_mapT (f : V → V) (hq : SqT K H1 a xs) (nD : H1 D = none) (len : xs.length ≤ 100000)
    (turn : ∀ (i : Nat) (x : V) (Hc : Hp) (Q' : VK) (R' : Hp → Prop), xs[i]? = some x → Same H1 Hc → (∀ H4, Same Hc H4 → Q' (f x) H4) → g x (wipe σ vs) Hc fun σ2 H2 => wipe σ2 vs = wipe σ vs ∧ tt σ2 H2 fun b H3 => if b = true then te σ2 H3 Q' else R' H3)
    (fin : ∀ Hc, Same H1 Hc → Hc D = some (.lst (xs.map f)) → Qd Hc) :
    ∃ W : Nat → Nat → Hp → Prop, (∃ m, W 0 m (upd H1 D (.lst []))) ∧ ∀ i m H, W i m H →
      ((Itt K a).stop i H ∧ Qd H) ∨ ((Itt K a).go i H ∧ ∃ Nx : Hp → Prop, (∀ H', Nx H' → ∃ m', m' < m ∧ W (i + 1) m' H') ∧ ∀ x H', (Itt K a).yld i H x H' → g x (wipe σ vs) H' fun σ2 H2 => wipe σ2 vs = wipe σ vs ∧ tt σ2 H2 fun b H3 =>
        if b = true then te σ2 H3 fun y H4 => ∃ acc, H4 D = some (.lst acc) ∧ acc.length < sizeLine ∧ Nx (upd H4 D (.lst (acc ++ [y]))) else Nx H3) := by
  refine lc_tup (fun i Hc => Same H1 Hc ∧ Hc D = some (.lst ((xs.take i).map f))) ⟨same_new nD, upd_same⟩ (fun i H _ p => Same.t p.1 hq) (fun i x Hc hx p => ?_) (fun Hc p => ?_)
  · refine turn i x Hc _ _ hx p.1 (fun H4 e4 => ⟨_, e4 _ _ p.2, ?_, ?_⟩)
    · rw [List.length_map, List.length_take]
      exact Nat.lt_of_le_of_lt (Nat.min_le_right _ _) (Nat.lt_of_le_of_lt len (by decide))
    · refine ⟨fun b o z => ?_, ?_⟩
      · rw [upd_ne (ne_of_none z nD)]
        exact e4 _ _ (p.1 b o z)
      · rw [upd_same, List.take_add_one, hx, List.map_append]
        rfl
  · rw [List.take_length] at p
    exact fin Hc p.1 p.2
end
end Kx
namespace Kx
open PySem PySem.Spec PyProof.Rows L2 SX LamX
theorem paired_get {α β : Type} {F : α → β → Prop} : ∀ {l : List α} {m : List β}, Paired F l m → ∀ {i : Nat} {a : α}, l[i]? = some a → ∃ b, m[i]? = some b ∧ F a b
  | _, _, .cons h t, 0, a, e => by
    simp at e
    subst e
    exact ⟨_, rfl, h⟩
  | _, _, .cons h t, i + 1, a, e => paired_get t (i := i) (by simpa using e)
theorem paired_split {α β : Type} {F : α → β → Prop} : ∀ {l : List α} (m : List β) {b : β}, Paired F l (m ++ [b]) → ∃ l' a, l = l' ++ [a] ∧ Paired F l' m ∧ F a b
  | _, [], _, .cons h .nil => ⟨[], _, rfl, .nil, h⟩
  | _, _ :: m, b, .cons h t => by
    obtain ⟨l', a, rfl, p, f⟩ := paired_split m t
    exact ⟨_ :: l', a, rfl, .cons h p, f⟩
theorem paired_nil {α β : Type} {F : α → β → Prop} {l : List α} (h : Paired F l []) : l = [] := by
  cases h
  rfl
theorem nil_or_snoc {α : Type} (l : List α) : l = [] ∨ ∃ l' a, l = l' ++ [a] := by
  rcases List.eq_nil_or_concat l with h | ⟨l', a, h⟩
  · exact .inl h
  · exact .inr ⟨l', a, by rw [h, List.concat_eq_append]⟩
theorem paired_map {α β γ : Type} {F : α → γ → Prop} {G : α → β → Prop} (f : β → γ) (h : ∀ a b, G a b → F a (f b)) : ∀ {l : List α} {m : List β}, Paired G l m → Paired F l (m.map f)
  | _, _, .nil => .nil
  | _, _, .cons x t => .cons (h _ _ x) (paired_map f h t)
theorem paired_of_map {α β γ : Type} {F : α → γ → Prop} (f : β → α) (g : β → γ) : ∀ {m : List β}, (∀ b ∈ m, F (f b) (g b)) → Paired F (m.map f) (m.map g)
  | [], _ => .nil
  | b :: m, h => .cons (h b (List.mem_cons_self ..)) (paired_of_map f g fun c hc => h c (List.mem_cons_of_mem _ hc))
theorem dpAll_of {K : PySem.W.Frag} {H : Hp} : ∀ {vs : List V} {ds : List PyData}, Paired (fun v d => Dp K H v d) vs ds → DpAll K H vs ds
  | _, _, .nil => .nil
  | _, _, .cons h t => .cons h (dpAll_of t)
/-- «xs != []», any laid items -/
theorem ne_nilD {K : PySem.W.Frag} {H : Hp} {a p : Addr} {vs : List V} {ds : List PyData} {k : Nat} {Q : VK} (h1 : SqL K H a vs) (hd : Paired (fun v d => Dp K H v d) vs ds) (hp : ∀ d ∈ ds, Pl k d) (hk : k ≤ 60) (h2 : H p = some (.lst [])) (q : Q (.bl (!decide (ds = []))) H) : rNeD K (.ref a) (.ref p) H Q :=
  ⟨_, _, .lst h1 (dpAll_of hd), dp_ints (xs := []) (.inl (.inl h2)), (Pl.lst hp).shaped (by omega), (pl_ints []).shaped (by decide), by
    have e : PyData.eqv (.list ds) (.list (([] : List Int).map PyData.int)) = decide (ds = []) := by
      cases ds with
      | nil => rfl
      | cons d t => rfl
    rw [e]
    exact q⟩
/-- a pair of ints -/
def Pr2 (H : Hp) (v : V) (r : Int × Int) : Prop := ∃ t, v = V.ref t ∧ H t = some (.tup [.int r.1, .int r.2])
theorem Pr2.same {H H' : Hp} {v : V} {r : Int × Int} (e : Same H H') (h : Pr2 H v r) : Pr2 H' v r := by
  obtain ⟨t, rfl, h⟩ := h
  exact ⟨t, rfl, e _ _ h⟩
def pr2D (r : Int × Int) : PyData := .tuple [.int r.1, .int r.2]
theorem Pr2.dp {K : PySem.W.Frag} {H : Hp} {v : V} {r : Int × Int} (h : Pr2 H v r) : Dp K H v (pr2D r) := by
  obtain ⟨t, rfl, h⟩ := h
  exact .tup (.inl (.inl h)) (.cons (.int _) (.cons (.int _) .nil))
theorem pl_pr2 (r : Int × Int) : Pl 1 (pr2D r) := Pl.tup fun d m => by
  rcases List.mem_cons.mp m with rfl | m
  · exact pl_int 0 _
  · rcases List.mem_cons.mp m with rfl | m
    · exact pl_int 0 _
    · cases m
/-! ### stretches of like numbers -/
def stepR (rs : List (Int × Int)) (n : Int) : List (Int × Int) :=
  match rs.reverse with
  | [] => [(n, 1)]
  | (m, k) :: t => if m = n then t.reverse ++ [(n, k + 1)] else rs ++ [(n, 1)]
theorem stepR_nil (n : Int) : stepR [] n = [(n, 1)] := rfl
theorem stepR_snoc (rs : List (Int × Int)) (m k n : Int) : stepR (rs ++ [(m, k)]) n = if m = n then rs ++ [(n, k + 1)] else rs ++ [(m, k)] ++ [(n, 1)] := by
  unfold stepR
  simp
def runs (row : List Int) : List (Int × Int) := row.foldl stepR []
theorem runs_snoc (row : List Int) (n : Int) : runs (row ++ [n]) = stepR (runs row) n := by
  unfold runs
  rw [List.foldl_append]
  rfl
theorem stepR_length (rs : List (Int × Int)) (n : Int) : (stepR rs n).length ≤ rs.length + 1 := by
  rcases nil_or_snoc rs with rfl | ⟨rs', ⟨m, k⟩, rfl⟩
  · simp [stepR_nil]
  · rw [stepR_snoc]
    split <;> simp
theorem fold_length : ∀ (row : List Int) (rs : List (Int × Int)), (row.foldl stepR rs).length ≤ rs.length + row.length
  | [], _ => Nat.le_refl _
  | x :: row, rs => by
    have h1 := fold_length row (stepR rs x)
    have h2 := stepR_length rs x
    show (row.foldl stepR (stepR rs x)).length ≤ rs.length + (row.length + 1)
    omega
theorem runs_length (row : List Int) : (runs row).length ≤ row.length := by
  have h := fold_length row []
  rw [List.length_nil, Nat.zero_add] at h
  exact h
/-! ### for and comprehension over a list or a tuple, held by a name -/
section
variable {K : PySem.W.Frag} {a : Addr} {xs : List V} {g : TG} {σ : L2.St} {H : Hp} {k : Nat}
theorem for_seq {tb : TS} {D : Ends} {H0 : Hp} (hi : σ[k]? = some (some (.ref a))) (hq : SqQ K H0 a xs) (e0 : Same H0 H) (Pv : Nat → L2.St → Hp → Prop) (h0 : Pv 0 σ H) (stay : ∀ i σ' H', i ≤ xs.length → Pv i σ' H' → Same H0 H')
    (hs : ∀ i x σ H, xs[i]? = some x → Pv i σ H → g x σ H fun σ2 H2 => tb { D with nx := Pv (i + 1), ct := Pv (i + 1), bk := D.nx } σ2 H2) (hd : ∀ σ H, Pv xs.length σ H → D.nx σ H) :
    tFor (fun σ H R => iList K (tVar k) σ H R ∨ iTup K (tVar k) σ H R) g tb D σ H := by
  rcases hq with h | h
  · exact .inl ⟨_, hi, a, rfl, ⟨_, e0.seq h⟩, for_list Pv h0 (fun i σ' H' l p => (stay i σ' H' l p).seq h) hs hd⟩
  · exact .inr ⟨_, hi, a, rfl, ⟨_, Same.t e0 h⟩, for_tup Pv h0 (fun i σ' H' l p => Same.t (stay i σ' H' l p) h) hs hd⟩
theorem lc_seqmap {tt : TT} {te : TE} {vs : List Nat} {Q : VK} (f : V → V) (hi : σ[k]? = some (some (.ref a))) (hq : SqQ K H a xs) (len : xs.length ≤ 100000)
    (turn : ∀ (i : Nat) (x : V) (Hc : Hp) (Q' : VK) (R' : Hp → Prop), xs[i]? = some x → Same H Hc → (∀ H4, Same Hc H4 → Q' (f x) H4) → g x (wipe σ vs) Hc fun σ2 H2 => wipe σ2 vs = wipe σ vs ∧ tt σ2 H2 fun b H3 => if b = true then te σ2 H3 Q' else R' H3)
    (fin : ∀ (D : Addr) (Hc : Hp), Same H Hc → Hc D = some (.lst (xs.map f)) → Q (.ref D) Hc) :
    tLc (fun σ H R => iList K (tVar k) σ H R ∨ iTup K (tVar k) σ H R) g tt te vs σ H Q := by
  rcases hq with h | h
  · exact .inl ⟨_, hi, a, rfl, ⟨_, h⟩, fun D nD => lc_mapL f h nD len turn (fin D)⟩
  · exact .inr ⟨_, hi, a, rfl, ⟨_, h⟩, fun D nD => lc_mapT f h nD len turn (fin D)⟩
theorem lc_lstmap {tt : TT} {te : TE} {vs : List Nat} {Q : VK} (f : V → V) (hi : σ[k]? = some (some (.ref a))) (hq : SqL K H a xs) (len : xs.length ≤ 100000)
    (turn : ∀ (i : Nat) (x : V) (Hc : Hp) (Q' : VK) (R' : Hp → Prop), xs[i]? = some x → Same H Hc → (∀ H4, Same Hc H4 → Q' (f x) H4) → g x (wipe σ vs) Hc fun σ2 H2 => wipe σ2 vs = wipe σ vs ∧ tt σ2 H2 fun b H3 => if b = true then te σ2 H3 Q' else R' H3)
    (fin : ∀ (D : Addr) (Hc : Hp), Same H Hc → Hc D = some (.lst (xs.map f)) → Q (.ref D) Hc) :
    tLc (iList K (tVar k)) g tt te vs σ H Q := ⟨_, hi, a, rfl, ⟨_, hq⟩, fun D nD => lc_mapL f hq nD len turn (fin D)⟩
end
theorem Pr2.set {H : Hp} {p : Addr} {us : List V} {v : V} {r : Int × Int} {o : HO} (hp : H p = some (.lst us)) (h : Pr2 H v r) : Pr2 (upd H p o) v r := by
  obtain ⟨t, rfl, h⟩ := h
  refine ⟨t, rfl, ?_⟩
  rw [upd_ne (fun e => by rw [e, hp] at h; cases h)]
  exact h
theorem same_set {H Hd : Hp} {p : Addr} {o : HO} (e : Same H Hd) (np : H p = none) : Same H (upd Hd p o) := fun b u h => by
  rw [upd_ne (ne_of_none h np)]
  exact e b u h
theorem Pr2.new {H : Hp} {t : Addr} {x y : Int} : Pr2 (upd H t (.tup [.int x, .int y])) (.ref t) (x, y) := ⟨t, rfl, upd_same⟩
theorem sz1 {x : V} : [x].length ≤ sizeLine := by
  show 1 ≤ sizeLine
  decide
theorem sz2 {x y : V} : [x, y].length ≤ sizeLine := by
  show 2 ≤ sizeLine
  decide
theorem sz3 {x y z : V} : [x, y, z].length ≤ sizeLine := by
  show 3 ≤ sizeLine
  decide
theorem sz4 {x y z u : V} : [x, y, z, u].length ≤ sizeLine := by
  show 4 ≤ sizeLine
  decide
theorem ix_last {n : Nat} : ixN (n + 1) (-1) = some n := by
  unfold ixN
  rw [if_neg (by omega), if_pos (by omega)]
  congr 1
  omega
/-- xs[-1] = y, what is set -/
theorem set_last {H : Hp} {p : Addr} {xs : List V} {x y : V} {Q : Hp → Prop} (hp : H p = some (.lst (xs ++ [x]))) (q : Q (upd H p (.lst (xs ++ [y])))) : rSetL (.ref p) (.int (-1)) y H Q :=
  ⟨p, _, -1, xs.length, rfl, rfl, hp, by rw [List.length_append]; exact ix_last, by rw [show (xs ++ [x]).set xs.length y = xs ++ [y] by simp]; exact q⟩
end Kx
namespace Kx
open PySem PySem.Spec PyProof.Rows L2 SX LamX
/-! ### rules that name the frame, within a comprehension -/
section
variable {X : Cx} {K : PySem.W.Frag}
theorem inK_ix_list (e : X.K = K) : IxR X (rIxL K) := e ▸ ix_list
theorem inK_ix_tup (e : X.K = K) : IxR X (rIxT K) := e ▸ ix_tup
theorem inK_call_len_seq (e : X.K = K) : CallR X (.builtin "len") (fun xs H Q => ∃ p ys, xs = [.ref p] ∧ (SqL K H p ys ∨ SqT K H p ys) ∧ Q (.int ys.length) H) := e ▸ call_len_seq
theorem inK_sl_list (e : X.K = K) : SlR X (rSlL K) := e ▸ sl_list
theorem inK_op_eqD (e : X.K = K) (hu : X.A.units + 64 < cLine) : OpR X (compareOp .Eq) (rEqD K) := e ▸ op_eqD hu
theorem inK_op_neD (e : X.K = K) (hu : X.A.units + 64 < cLine) : OpR X (compareOp .NotEq) (rNeD K) := e ▸ op_neD hu
theorem inK_pg_tup {es : List Expr} {k : Nat} {t : TGs} {n : Nat} {pos : Pos} (e : X.K = K) (hc : X.calm = true) (h : PGs X es t) (hn : (assignEach es X.env).length = n := by rfl) (hst : (assignEach es X.env).findIdx? (·.1) = none := by rfl) : PG X (.Tuple es k pos) (gTup K n t) := e ▸ pg_tup hc h hn hst
end
end Kx
namespace Kx
open PySem PySem.Spec PyProof.Rows L2 SX LamX
/-- an error is made with its part -/
theorem mk_part {K : PySem.W.Frag} {C : Addr} {σ : L2.St} {H : Hp} {Q : XK} {v : V} (o : OexC K C) (n : PySem.W.findIn K (.ref C) "part" = some none)
    (q : ∀ d H', Same H H' → H' d = some (.xd [("part", v)]) → Q (.ref C) (some d) H') : tMkO C (sp_init K) [] (tCons (tC v) tNil) σ H Q := by
  refine ⟨by show 1 ≤ 1000; decide, fun a na => ⟨a, C, v, rfl, o, n, upd_same, fun dx nd hne => ⟨rfl, dx, [("part", v)], upd_same, ?_, ?_, q dx _ ?_ upd_same⟩⟩⟩
  · rw [upd_ne hne, upd_same]
  · rw [upd_ne hne] at nd
    exact nd
  · rw [upd_ne hne] at nd
    intro b u h
    rw [upd_ne (ne_of_none h nd)]
    show (if b = a then none else _) = some u
    rw [if_neg (ne_of_none h na), upd_ne (ne_of_none h na), upd_ne (ne_of_none h nd), upd_ne (ne_of_none h na)]
    exact h
end Kx
namespace Kx
open PySem PySem.Spec PyProof.Rows L2 SX LamX
section
variable {K : PySem.W.Frag} {J : It} {n : Nat} {G : Hp → Prop} {Y : Nat → Hp → V → Hp → Prop} {g : TG} {tt : TT} {te : TE} {vs : List Nat} {σ : L2.St} {H1 : Hp} {D : Addr} {Qd : Hp → Prop}
/-- a comprehension whose items are told ahead -/
theorem lc_out (w : Walk J n G Y) (zs : List V) (hz : zs.length = n) (nD : H1 D = none) (len : n ≤ 100000) (hG : ∀ Hc, Same H1 Hc → G Hc)
    (turn : ∀ (i : Nat) (x z : V) (Hc Hx : Hp) (Q' : VK) (R' : Hp → Prop), i < n → zs[i]? = some z → Same H1 Hc → Y i Hc x Hx → (∀ H4, Same Hc H4 → Q' z H4) → g x (wipe σ vs) Hx fun σ2 H2 => wipe σ2 vs = wipe σ vs ∧ tt σ2 H2 fun b H3 => if b = true then te σ2 H3 Q' else R' H3)
    (fin : ∀ Hc, Same H1 Hc → Hc D = some (.lst zs) → Qd Hc) :
    ∃ W : Nat → Nat → Hp → Prop, (∃ m, W 0 m (upd H1 D (.lst []))) ∧ ∀ i m H, W i m H →
      (J.stop i H ∧ Qd H) ∨ (J.go i H ∧ ∃ Nx : Hp → Prop, (∀ H', Nx H' → ∃ m', m' < m ∧ W (i + 1) m' H') ∧ ∀ x H', J.yld i H x H' → g x (wipe σ vs) H' fun σ2 H2 => wipe σ2 vs = wipe σ vs ∧ tt σ2 H2 fun b H3 =>
        if b = true then te σ2 H3 fun y H4 => ∃ acc, H4 D = some (.lst acc) ∧ acc.length < sizeLine ∧ Nx (upd H4 D (.lst (acc ++ [y]))) else Nx H3) := by
  refine lc_it w (fun i Hc => Same H1 Hc ∧ Hc D = some (.lst (zs.take i))) ⟨same_new nD, upd_same⟩ (fun i H _ p => hG H p.1) (fun i x Hc Hx hi p y => ?_) (fun Hc p => ?_)
  · have hzi : zs[i]? = some (zs[i]'(by omega)) := List.getElem?_eq_getElem (by omega)
    refine turn i x _ Hc Hx _ _ hi hzi p.1 y (fun H4 e4 => ⟨_, e4 _ _ p.2, ?_, ?_⟩)
    · rw [List.length_take]
      exact Nat.lt_of_le_of_lt (Nat.min_le_right _ _) (Nat.lt_of_le_of_lt (by omega) (by decide : 100000 < sizeLine))
    · refine ⟨fun b o z => ?_, ?_⟩
      · rw [upd_ne (ne_of_none z nD)]
        exact e4 _ _ (p.1 b o z)
      · rw [upd_same, List.take_add_one, hzi]
        rfl
  · rw [← hz, List.take_length] at p
    exact fin Hc p.1 p.2
end
section
variable {K : PySem.W.Frag} {a b : Addr} {xs ys : List V} {g : TG} {tt : TT} {te : TE} {vs : List Nat} {σ : L2.St} {H : Hp} {k l : Nat} {Q : VK}
/-- [e for x in NAME], NAME a list: the items told ahead -/
theorem lc_lst (zs : List V) (hz : zs.length = xs.length) (hi : σ[k]? = some (some (.ref a))) (hq : SqL K H a xs) (len : xs.length ≤ 100000)
    (turn : ∀ (i : Nat) (x z : V) (Hc : Hp) (Q' : VK) (R' : Hp → Prop), xs[i]? = some x → zs[i]? = some z → Same H Hc → (∀ H4, Same Hc H4 → Q' z H4) → g x (wipe σ vs) Hc fun σ2 H2 => wipe σ2 vs = wipe σ vs ∧ tt σ2 H2 fun b H3 => if b = true then te σ2 H3 Q' else R' H3)
    (fin : ∀ (D : Addr) (Hc : Hp), Same H Hc → Hc D = some (.lst zs) → Q (.ref D) Hc) :
    tLc (iList K (tVar k)) g tt te vs σ H Q := ⟨_, hi, a, rfl, ⟨_, hq⟩, fun D nD => lc_out walk_list zs hz nD len (fun Hc e => e.seq hq) (fun i x z Hc Hx Q' R' _ hzi e y q => by
      obtain ⟨rfl, hx⟩ := y
      exact turn i x z _ Q' R' hx hzi e q) (fin D)⟩
/-- [e for x, y in zip(NAME, NAME)], both lists -/
theorem lc_zip (zs : List V) (hz : zs.length = min xs.length ys.length) (hi : σ[k]? = some (some (.ref a))) (hj : σ[l]? = some (some (.ref b))) (hq : SqL K H a xs) (hp : SqL K H b ys) (len : xs.length ≤ 100000)
    (turn : ∀ (i : Nat) (x y z : V) (t : Addr) (Hc : Hp) (Q' : VK) (R' : Hp → Prop), xs[i]? = some x → ys[i]? = some y → zs[i]? = some z → Same H Hc → Hc t = some (.tup [x, y]) → (∀ H4, Same Hc H4 → Q' z H4) → g (.ref t) (wipe σ vs) Hc fun σ2 H2 => wipe σ2 vs = wipe σ vs ∧ tt σ2 H2 fun b H3 => if b = true then te σ2 H3 Q' else R' H3)
    (fin : ∀ (D : Addr) (Hc : Hp), Same H Hc → Hc D = some (.lst zs) → Q (.ref D) Hc) :
    tLc (iZip K (tCons (tVar k) (tCons (tVar l) tNil))) g tt te vs σ H Q := ⟨_, hi, _, hj, a, b, xs, ys, rfl, hq, hp, fun D nD => lc_out (walk_zip rfl) zs hz nD (by omega) (fun Hc e => ⟨e.seq hq, e.seq hp⟩) (fun i x z Hc Hx Q' R' _ hzi e y q => by
      obtain ⟨t, x', y', rfl, nt, rfl, hx, hy⟩ := y
      exact turn i x' y' z t _ Q' R' hx hy hzi (e.trans (same_new nt)) upd_same (fun H4 e4 => q H4 ((same_new nt).trans e4))) (fin D)⟩
end
/-- «xs != ys», ints -/
theorem ne_ints {K : PySem.W.Frag} {H : Hp} {a b : Addr} {xs ys : List Int} {Q : VK} (h1 : SqL K H a (xs.map V.int)) (h2 : SqL K H b (ys.map V.int)) (q : Q (.bl (!decide (xs = ys))) H) : rNeD K (.ref a) (.ref b) H Q :=
  ⟨_, _, dp_ints h1, dp_ints h2, (pl_ints xs).shaped (by decide), (pl_ints ys).shaped (by decide), by rw [eqv_ints]; exact q⟩
theorem paired_at {α β : Type} {F : α → β → Prop} {l : List α} {m : List β} (h : Paired F l m) {i : Nat} {a : α} {b : β} (ha : l[i]? = some a) (hb : m[i]? = some b) : F a b := by
  obtain ⟨b', e, f⟩ := paired_get h ha
  rw [hb] at e
  cases e
  exact f
theorem map_at {α β : Type} {f : α → β} {l : List α} {i : Nat} {z : β} (h : (l.map f)[i]? = some z) : ∃ x, l[i]? = some x ∧ z = f x := by
  rw [List.getElem?_map] at h
  cases e : l[i]? with
  | none => rw [e] at h; cases h
  | some x => rw [e] at h; exact ⟨x, rfl, (Option.some.inj h).symm⟩
/-! ### one step into a reading -/
section
variable {D : Ends} {σ : L2.St} {H : Hp}
theorem go_seq {t u : TS} (h : t { D with nx := u D } σ H) : tSeq t u D σ H := h
theorem go_if {c : TT} {t u : TS} (h : c σ H fun b H1 => if b = true then t D σ H1 else u D σ H1) : tIfS c t u D σ H := h
theorem go_test {te : TE} {Q : Bool → Hp → Prop} (h : te σ H fun x H' => ∃ k, x = .bl k ∧ Q k H') : tTest te σ H Q := h
theorem go_op {r : R2} {ta tb : TE} {Q : VK} (h : ta σ H fun x H1 => tb σ H1 fun y H2 => r x y H2 Q) : tOp r ta tb σ H Q := h
theorem go_ret {te : TE} (h : te σ H D.rt) : tRet te D σ H := h
theorem go_asg {te : TE} {g : TG} (h : te σ H fun x H1 => g x σ H1 D.nx) : tAsg te g D σ H := h
theorem go_cb {r : List V → Hp → VK → Prop} {t : TA} {Q : VK} (h : t σ H fun vs H1 => r vs H1 Q) : tCB r t σ H Q := h
theorem go_cons {te : TE} {t : TA} {Q : List V → Hp → Prop} (h : te σ H fun x H1 => t σ H1 fun xs H2 => Q (x :: xs) H2) : tCons te t σ H Q := h
end
theorem cut_toI {xs : List Int} {k : Int} (h : 0 ≤ k) : cutV (xs.map V.int) none (some k) = (xs.take k.toNat).map V.int := by
  obtain ⟨n, rfl⟩ : ∃ n : Nat, k = n := ⟨k.toNat, by omega⟩
  rw [cut_to, List.map_take, Int.toNat_natCast]
theorem cut_fromI {xs : List Int} {k : Int} (h : 0 ≤ k) : cutV (xs.map V.int) (some k) none = (xs.drop k.toNat).map V.int := by
  obtain ⟨n, rfl⟩ : ∃ n : Nat, k = n := ⟨k.toNat, by omega⟩
  rw [cut_from, List.map_drop, Int.toNat_natCast]
theorem ne_of_two {H : Hp} {a b : Addr} {o u : HO} (ha : H a = some o) (hb : H b = some u) (h : o ≠ u) : a ≠ b := fun e => by
  rw [e, hb] at ha
  exact h (Option.some.inj ha).symm
theorem Wh.held {H : Hp} {a c : Addr} {n : Nat} (h : Wh H a c n) : ∃ o, H a = some o := by
  obtain ⟨cs, t, l, h1, _⟩ := h
  exact ⟨_, h1⟩
theorem Wh.ne {H : Hp} {a c p : Addr} {n : Nat} (h : Wh H a c n) (np : H p = none) : p ≠ a := fun e => by
  obtain ⟨o, h⟩ := h.held
  rw [← e, np] at h
  cases h
theorem Wh.new {H : Hp} {a c p : Addr} {n : Nat} {o : HO} (h : Wh H a c n) (np : H p = none) : Wh (upd H p o) a c n := h.same (same_new np)
theorem Mv.new {H H' : Hp} {a p : Addr} {o : HO} (h : Mv a H H') (np : H' p = none) : Mv a H (L2.upd H' p o) := h.trans (Mv.of (same_new np))
theorem Wh.cell {H : Hp} {a c : Addr} {n : Nat} (h : Wh H a c n) : ∃ o, H c = some o := by
  obtain ⟨cs, t, l, _, h2, _⟩ := h
  exact ⟨_, h2⟩
/-- a list of the law's own is written: the wheel stays -/
theorem Wh.set {H : Hp} {a c p : Addr} {n : Nat} {o : HO} (h : Wh H a c n) (h1 : p ≠ a) (h2 : p ≠ c) : Wh (upd H p o) a c n := by
  obtain ⟨cs, t, l, g1, g2, g3⟩ := h
  exact ⟨cs, t, l, by rw [upd_ne h1.symm]; exact g1, by rw [upd_ne h2.symm]; exact g2, g3⟩
theorem Wh.nc {H : Hp} {a c p : Addr} {n : Nat} (h : Wh H a c n) (np : H p = none) : p ≠ c := fun e => by
  obtain ⟨o, h⟩ := h.cell
  rw [← e, np] at h
  cases h
end Kx
namespace Kx
open PySem
/-- other can be cut into pieces, none empty, one for each number of row -/
inductive Th : List Int → List Int → Prop
  | nil : Th [] []
  | more {r o : List Int} (x : Int) (k : Nat) : Th r o → Th (r ++ [x]) (o ++ List.replicate (k + 1) x)
def LeR (p q : Int × Int) : Prop := p.1 = q.1 ∧ p.2 ≤ q.2
theorem snoc_inj {α : Type} {l m : List α} {a b : α} (h : l ++ [a] = m ++ [b]) : l = m ∧ a = b := by
  have h2 := List.append_inj' h rfl
  exact ⟨h2.1, by simpa using h2.2⟩
theorem snoc_ne {α : Type} {l : List α} {a : α} : l ++ [a] ≠ [] := by
  intro h
  have := congrArg List.length h
  simp at this
theorem stepR_le {rs ss : List (Int × Int)} (h : Paired LeR rs ss) (x : Int) : Paired LeR (stepR rs x) (stepR ss x) := by
  rcases nil_or_snoc ss with rfl | ⟨ss', ⟨m, d⟩, rfl⟩
  · cases paired_nil h
    exact .cons ⟨rfl, Int.le_refl _⟩ .nil
  · obtain ⟨rs', ⟨m', c⟩, rfl, h1, h2, h3⟩ := paired_split ss' h
    have e : m' = m := h2
    subst e
    rw [stepR_snoc, stepR_snoc]
    by_cases e : m' = x
    · rw [if_pos e, if_pos e]
      exact Paired.snoc h1 ⟨rfl, by have : c ≤ d := h3; show c + 1 ≤ d + 1; omega⟩
    · rw [if_neg e, if_neg e]
      exact Paired.snoc (Paired.snoc h1 ⟨rfl, h3⟩) ⟨rfl, Int.le_refl _⟩
theorem stepR_up (rs : List (Int × Int)) (x : Int) : ∃ rs' c, stepR rs x = rs' ++ [(x, c)] := by
  rcases nil_or_snoc rs with rfl | ⟨rs', ⟨m, d⟩, rfl⟩
  · exact ⟨[], 1, rfl⟩
  · rw [stepR_snoc]
    by_cases e : m = x
    · exact ⟨rs', d + 1, by rw [if_pos e]⟩
    · exact ⟨rs' ++ [(m, d)], 1, by rw [if_neg e]⟩
theorem more_le {rs ss : List (Int × Int)} {x c : Int} (h : Paired LeR (rs ++ [(x, c)]) ss) : Paired LeR (rs ++ [(x, c)]) (stepR ss x) := by
  rcases nil_or_snoc ss with rfl | ⟨ss', ⟨m, d⟩, rfl⟩
  · exact absurd (paired_nil h) snoc_ne
  · obtain ⟨rs', ⟨m', c'⟩, e, h1, h2, h3⟩ := paired_split ss' h
    obtain ⟨rfl, e2⟩ := snoc_inj e
    cases e2
    have e : x = m := h2
    subst e
    rw [stepR_snoc, if_pos rfl]
    exact Paired.snoc h1 ⟨rfl, by have : c ≤ d := h3; show c ≤ d + 1; omega⟩
theorem runs_rep (o : List Int) (x : Int) : ∀ k : Nat, runs (o ++ List.replicate (k + 1) x) = stepR (runs (o ++ List.replicate k x)) x := fun k => by
  rw [List.replicate_succ', ← List.append_assoc, runs_snoc]
theorem th_le {r o : List Int} (h : Th r o) : Paired LeR (runs r) (runs o) := by
  induction h with
  | nil => exact .nil
  | @more r o x k _ ih =>
    rw [runs_snoc]
    induction k with
    | zero =>
      rw [runs_rep]
      simp only [List.replicate_zero, List.append_nil]
      exact stepR_le ih x
    | succ k ihk =>
      rw [runs_rep]
      obtain ⟨rs', c, e⟩ := stepR_up (runs r) x
      rw [e] at ihk ⊢
      exact more_le ihk
theorem fold_pos : ∀ (o : List Int) (rs : List (Int × Int)), (∀ p ∈ rs, 1 ≤ p.2) → ∀ p ∈ o.foldl stepR rs, 1 ≤ p.2
  | [], _, h => h
  | x :: o, rs, h => by
    refine fold_pos o (stepR rs x) fun p m => ?_
    rcases nil_or_snoc rs with rfl | ⟨rs', ⟨y, d⟩, rfl⟩
    · rcases List.mem_singleton.mp m with rfl
      exact Int.le_refl _
    · have hd : (1 : Int) ≤ d := h (y, d) (by simp)
      rw [stepR_snoc] at m
      by_cases e : y = x
      · rw [if_pos e] at m
        rcases List.mem_append.mp m with m | m
        · exact h p (List.mem_append_left _ m)
        · rcases List.mem_singleton.mp m with rfl
          show (1 : Int) ≤ d + 1
          omega
      · rw [if_neg e] at m
        rcases List.mem_append.mp m with m | m
        · exact h p m
        · rcases List.mem_singleton.mp m with rfl
          exact Int.le_refl _
theorem runs_pos (o : List Int) : ∀ p ∈ runs o, 1 ≤ p.2 := fold_pos o [] (fun _ m => by cases m)
theorem runs_nil {o : List Int} (h : runs o = []) : o = [] := by
  rcases nil_or_snoc o with rfl | ⟨o', x, rfl⟩
  · rfl
  · rw [runs_snoc] at h
    obtain ⟨rs', c, e⟩ := stepR_up (runs o') x
    rw [e] at h
    exact absurd h snoc_ne
theorem runs_last {o : List Int} {ss : List (Int × Int)} {x d : Int} (h : runs o = ss ++ [(x, d)]) : ∃ o', o = o' ++ [x] ∧ ((d = 1 ∧ runs o' = ss) ∨ (2 ≤ d ∧ runs o' = ss ++ [(x, d - 1)])) := by
  rcases nil_or_snoc o with rfl | ⟨o', y, rfl⟩
  · exact absurd h.symm snoc_ne
  · rw [runs_snoc] at h
    rcases nil_or_snoc (runs o') with e | ⟨rs', ⟨m, c⟩, e⟩
    · rw [e] at h
      obtain ⟨h1, h2⟩ := snoc_inj (l := []) h
      cases h2
      exact ⟨o', rfl, .inl ⟨rfl, by rw [e, h1]⟩⟩
    · have hc : (1 : Int) ≤ c := runs_pos o' (m, c) (by rw [e]; simp)
      rw [e, stepR_snoc] at h
      by_cases em : m = y
      · rw [if_pos em] at h
        obtain ⟨h1, h2⟩ := snoc_inj h
        cases h2
        subst em h1
        exact ⟨o', rfl, .inr ⟨by omega, by rw [e, Int.add_sub_cancel]⟩⟩
      · rw [if_neg em] at h
        obtain ⟨h1, h2⟩ := snoc_inj h
        cases h2
        exact ⟨o', rfl, .inl ⟨rfl, by rw [e, h1]⟩⟩
theorem runs_piece {x : Int} {ss : List (Int × Int)} : ∀ (n : Nat) {o : List Int}, runs o = ss ++ [(x, (n : Int) + 1)] → ∃ o', o = o' ++ List.replicate (n + 1) x ∧ runs o' = ss
  | 0, o, h => by
    obtain ⟨o', e, h1 | h1⟩ := runs_last h
    · exact ⟨o', e, h1.2⟩
    · omega
  | n + 1, o, h => by
    obtain ⟨o', rfl, h1 | h1⟩ := runs_last h
    · omega
    · rw [show ((n + 1 : Nat) : Int) + 1 - 1 = (n : Int) + 1 by omega] at h1
      obtain ⟨o2, rfl, e2⟩ := runs_piece n h1.2
      exact ⟨o2, by rw [List.replicate_succ' (n := n + 1), List.append_assoc], e2⟩
theorem le_th : ∀ (n : Nat) {r o : List Int}, r.length = n → Paired LeR (runs r) (runs o) → Th r o
  | 0, r, o, hn, h => by
    cases r with
    | nil =>
      have e : runs o = [] := by
        cases h' : runs o with
        | nil => rfl
        | cons p t => rw [h'] at h; cases h
      rw [runs_nil e]
      exact .nil
    | cons _ _ => simp at hn
  | n + 1, r, o, hn, h => by
    rcases nil_or_snoc r with rfl | ⟨r', x, rfl⟩
    · simp at hn
    · have hn' : r'.length = n := by simpa using hn
      rw [runs_snoc] at h
      obtain ⟨rs', c, e⟩ := stepR_up (runs r') x
      rw [e] at h
      rcases nil_or_snoc (runs o) with eo | ⟨ss, ⟨y, d⟩, eo⟩
      · rw [eo] at h
        exact absurd (paired_nil h) snoc_ne
      · rw [eo] at h
        obtain ⟨q', ⟨x', c'⟩, e1, h1, h2, h3⟩ := paired_split ss h
        obtain ⟨e3, e2⟩ := snoc_inj e1
        cases e2
        subst e3
        have e4 : x = y := h2
        subst e4
        have h3 : c ≤ d := h3
        have hpos : (1 : Int) ≤ d := runs_pos o (x, d) (by rw [eo]; simp)
        rcases nil_or_snoc (runs r') with er | ⟨ts, ⟨m, c2⟩, er⟩
        · rw [er] at e
          obtain ⟨e5, e6⟩ := snoc_inj (l := []) e
          subst e5
          obtain ⟨o', rfl, eo'⟩ := runs_piece (d - 1).toNat (o := o) (ss := ss) (x := x) (by rw [eo]; congr 3; omega)
          exact .more x _ (le_th n hn' (by rw [er, eo']; exact h1))
        · have hc2 : (1 : Int) ≤ c2 := runs_pos r' (m, c2) (by rw [er]; simp)
          rw [er, stepR_snoc] at e
          by_cases em : m = x
          · rw [if_pos em] at e
            obtain ⟨e5, e6⟩ := snoc_inj e
            cases e6
            subst e5 em
            obtain ⟨o', rfl, hh | ⟨_, hh⟩⟩ := runs_last eo
            · omega
            · exact .more m 0 (le_th n hn' (by rw [er, hh]; exact Paired.snoc h1 ⟨rfl, by show c2 ≤ d - 1; omega⟩))
          · rw [if_neg em] at e
            obtain ⟨e5, e6⟩ := snoc_inj e
            cases e6
            subst e5
            obtain ⟨o', rfl, eo'⟩ := runs_piece (d - 1).toNat (o := o) (ss := ss) (x := x) (by rw [eo]; congr 3; omega)
            exact .more x _ (le_th n hn' (by rw [er, eo']; exact h1))
theorem leR_iff : ∀ (rs ss : List (Int × Int)), (decide (rs.map Prod.fst = ss.map Prod.fst) && (rs.zip ss).all fun p => decide (p.1.2 ≤ p.2.2)) = true ↔ Paired LeR rs ss
  | [], [] => ⟨fun _ => .nil, fun _ => rfl⟩
  | [], q :: ss => ⟨fun h => by simp at h, fun h => by cases h⟩
  | p :: rs, [] => ⟨fun h => by simp at h, fun h => by cases h⟩
  | p :: rs, q :: ss => by
    have ih := leR_iff rs ss
    constructor
    · intro h
      simp only [List.map_cons, List.zip_cons_cons, List.all_cons, Bool.and_eq_true, decide_eq_true_eq, List.cons.injEq] at h
      obtain ⟨⟨h1, h2⟩, h3, h4⟩ := h
      refine .cons ⟨h1, h3⟩ (ih.mp ?_)
      simp only [Bool.and_eq_true, decide_eq_true_eq]
      exact ⟨h2, h4⟩
    · intro h
      cases h with
      | cons h1 h2 =>
        have h3 := ih.mpr h2
        simp only [Bool.and_eq_true, decide_eq_true_eq] at h3
        simp only [List.map_cons, List.zip_cons_cons, List.all_cons, Bool.and_eq_true, decide_eq_true_eq, List.cons.injEq]
        exact ⟨⟨h1.1, h3.1⟩, h1.2, h3.2⟩
theorem th_iff (r o : List Int) : (decide ((runs r).map Prod.fst = (runs o).map Prod.fst) && ((runs r).zip (runs o)).all fun p => decide (p.1.2 ≤ p.2.2)) = true ↔ Th r o :=
  (leR_iff _ _).trans ⟨le_th _ rfl, th_le⟩
end Kx
namespace Kx
open PySem PySem.Spec PyProof.Rows L2 SX LamX
/-- a def whose code object is known -/
def FunC (K : PySem.W.Frag) (x qual : Str) (st : Stmt) (f : Addr) (fd : FuncData) (c : Addr) : Prop :=
  ∃ (oc : Value) (od : Option Addr) (kV doc pm : Value) (an : Option Addr) (ct : Value) (osl : Array (Option Value)), fd = PySem.W.fnOf x qual (defArgs st) (defBody st) (defScope st) .none kV doc pm an (.ref c) ct ∧
    K.lookup f = some ⟨oc, od, .func (PySem.W.fnOf x qual (defArgs st) (defBody st) (defScope st) .none kV doc pm an (.ref c) ct), osl⟩ ∧ PySem.W.codeIn K (.ref c) qual = true
section
variable {P : Program} {w : World} {K : PySem.W.Frag} {mg : Str → Option Value} {base : Heap}
/-- the body's rule: guards told, the code object known -/
theorem okC {x qual : Str} {st : Stmt} {f c : Addr} {fd : FuncData} {N ps : List Str} {k : Nat} {sp : Sp} (F : FunC K x qual st f fd c) (S : FnScope N ps (defScope st)) (len : ∀ vs H Q E, sp vs H Q E → vs.length = ps.length)
    (hbody : ∀ (A : Around) (outer : List Env) (s : Shared) (H : Hp) (vs : List V) (Q : VK) (E : XK), A.guards = some [] → Room k (A.deeper (envOfC qual (defScope st) s.heap.objs.size f (.ref c))) → sp vs H Q E →
      ∃ t, PSs (cxOf CX0 P w K mg base N qual (defScope st) f (.ref c) A outer s H E).nox (defBody st) t ∧ t { nx := fun _ H' => Q .non H', rt := Q } (start N vs) H) :
    FnG P w K mg base CX0 (k + 1) f fd ps sp := by
  obtain ⟨oc, od, kV, doc, pm, an, ct, osl, rfl, lk, hcd⟩ := F
  refine ⟨len, fun A outer s H args us vs Q E hg hr e0 hb r hsp => ?_⟩
  refine LamX.run_ofS lk hcd S hr e0 hb r (len _ _ _ _ hsp) fun hr' => ?_
  obtain ⟨t, h, q⟩ := hbody A outer s H vs Q E hg hr' hsp
  exact ⟨t, h.nox, q⟩
theorem funC_mk {x qual : Str} {st : Stmt} {f c : Addr} {oc : Value} {od an : Option Addr} {osl : Array (Option Value)} {kV doc pm ct : Value} (l : K.lookup f = some ⟨oc, od, .func (PySem.W.fnOf x qual (defArgs st) (defBody st) (defScope st) .none kV doc pm an (.ref c) ct), osl⟩)
    (h : PySem.W.codeIn K (.ref c) qual = true) : FunC K x qual st f (PySem.W.fnOf x qual (defArgs st) (defBody st) (defScope st) .none kV doc pm an (.ref c) ct) c := ⟨oc, od, kV, doc, pm, an, ct, osl, rfl, l, h⟩
theorem funC_of {x qual : Str} {st : Stmt} {f c Pt : Addr} {fd : FuncData} (F : Fun K x qual st f fd) (g : PySem.W.nsIn K mainGlobals x = some (some (.ref f))) (t : PySem.W.tabIn K x = some (c, Pt)) : FunC K x qual st f fd c := by
  obtain ⟨oc, od, kV, doc, pm, an, cdv, ct, osl, rfl, lk, hcd⟩ := F.ex
  unfold PySem.W.tabIn at t
  rw [g] at t
  simp only [lk] at t
  have e : (PySem.W.fnOf x qual (defArgs st) (defBody st) (defScope st) .none kV doc pm an cdv ct).code = cdv := rfl
  clear e
  cases cdv with
  | ref c' =>
    simp only at t
    split at t
    · split at t
      · injection t with t
        injection t with t1 t2
        subst t1
        exact ⟨oc, od, kV, doc, pm, an, ct, osl, rfl, lk, hcd⟩
      · cases t
    · cases t
  | _ => simp at t
end
/-- no positional value, two by name: exchanged -/
def swapG {α : Type} (us ws : List α) : List α := match us, ws with | [], [v, u] => [u, v] | _, _ => []
/-- f(b = .., a = ..): two parameters, both by name, the other way round -/
theorem kb_swap {K : PySem.W.Frag} {x qual : Str} {st : Stmt} {f : Addr} {fd : FuncData} {a b : Str} (F : Fun K x qual st f fd)
    (h : ∀ (kV doc pm : Value) (an : Option Addr) (cdv ct : Value) (u v : Value), bindArgs (PySem.W.fnOf x qual (defArgs st) (defBody st) (defScope st) .none kV doc pm an cdv ct) ⟨[], [(b, v), (a, u)]⟩ = pure [(a, u), (b, v)]) :
    KBinds K fd [a, b] [b, a] swapG swapG := by
  obtain ⟨oc, od, kV, doc, pm, an, cdv, ct, osl, rfl, lk, hcd⟩ := F.ex
  refine ⟨fun s us ws X l => ?_, fun {vs us zs ws} r1 r2 => ?_⟩
  · match us, ws, l with
    | [], [v, u], _ => exact .of_eq (h kV doc pm an cdv ct u v)
    | [], [], l => cases l
    | [], [_], l => cases l
    | [], _ :: _ :: _ :: _, l => cases l
    | _ :: _, _, l => cases l
  · cases r1 with
    | cons _ _ => exact .nil
    | nil =>
      cases r2 with
      | nil => exact .nil
      | cons h1 r2 =>
        cases r2 with
        | nil => exact .nil
        | cons h2 r2 =>
          cases r2 with
          | nil => exact .cons h2 (.cons h1 .nil)
          | cons _ _ => exact .nil
/-! ### the scope of a lambda with one default, checked -/
def lamPB (sc scope : Scope) (z : Str) : Bool :=
  decide (scope.kind = .function) && !scope.isCoroutine && !scope.isGenerator && decide (scope.names.lookup z = some .local) && scope.names.all fun y => !decide (y.2 = .cell) && (!decide (y.2 = .local) || decide (y.1 = z)) && (!decide (y.2 = .free) || decide (sc.names.lookup y.1 = some .cell) || decide (sc.names.lookup y.1 = some .free))
theorem lamP_by {sc scope : Scope} {z : Str} (h : lamPB sc scope z = true) : LamP sc scope z := by
  unfold lamPB at h
  simp only [Bool.and_eq_true, Bool.or_eq_true, Bool.not_eq_true', decide_eq_true_eq, decide_eq_false_iff_not, List.all_eq_true] at h
  obtain ⟨⟨⟨⟨h1, h2⟩, h3⟩, h5⟩, h4⟩ := h
  refine { kind := h1, co := h2, gen := h3, own := fun y hy => ⟨(h4 y hy).1.1, fun e => ?_⟩, par := h5, free := fun y hy e => ?_ }
  · rcases (h4 y hy).1.2 with z | z
    · exact absurd e z
    · exact z
  · rcases (h4 y hy).2 with (z | z) | z
    · exact absurd e z
    · exact .inl z
    · exact .inr z
open PySem.W in
/-- the goal that the head leaves, of a law that makes lambdas: x its def's name, P its table -/
theorem walkL {l : OpenLaw} {n k : Nat} {q : Program} {loose : List Str} {XP : (Str → Option Value) → Heap → Prop} {YP : World → Heap → Prop} {d : DefRec} {K : Params → Frag} {x y : Str} (sp : Frag → Addr → Sp)
    (hn : l.most = some n) (hz : n ≤ sizeLine) (h0 : d.params.defaults = []) (hr : Room k callerA) (hY : ∀ (w : World) (h : Heap), YP w h → (K w.params).In h)
    (hc : ∀ p, (∃ r, (recsOf q).find? (fun r => r.name == y) = some r) ∧ ∃ c Pt, tabIn (K p) y = some (c, Pt) ∧ (K p).lookup Pt = none)
    (F : ∀ (w : World) (mg : Str → Option Value) (fa : Addr) (h : Heap), (K w.params).In h → h.Ns mainGlobals mg → mg d.name = some (.ref fa) → ∃ fd : FuncData,
      (∀ (t : Shared) (u : Value), BindsTo t fd ⟨[u], []⟩ [(x, u)]) ∧ ∀ (c Pt : Addr), tabIn (K w.params) y = some (c, Pt) → ∀ base : Heap, (K w.params).In base → base.Ns mainGlobals mg → TabB base mg c Pt → FnG l.prog w (K w.params) mg base CX0 k fa fd [x] (sp (K w.params) Pt))
    (pr : ∀ (K : Frag) (Pt : Addr) (H : Hp) (a : Addr) (ns : List Int), ns.length ≤ n → H Pt = some (.tbl #[]) → SqL K H a (ns.map V.int) → sp K Pt [.ref a] H (fun v _ => v = .bl true) fun _ _ _ => False) :
    WalkO q loose XP YP l.row.toRowW d [] (fun f us => PySem.call f us) := by
  refine walkT (x := x) (K := K) (cs := fun p => [(y, ((tabIn (K p) y).getD (0, 0)))]) (sp := fun K => sp K ((tabIn K y).getD (0, 0)).2) hn hz h0 hr hY (fun p e he => ?_) (fun w mg fa h KX G hmg => ?_) (fun p H a ns hl ht hS _ => pr _ _ H a ns hl (ht _ (List.mem_singleton.mpr rfl)) hS)
  · obtain ⟨h1, c, Pt, h2, h3⟩ := hc p
    cases List.mem_singleton.mp he
    refine ⟨h1, ?_, ?_⟩
    · rw [h2]
      rfl
    · rw [h2]
      exact h3
  · obtain ⟨fd, hb, hF⟩ := F w mg fa h KX G hmg
    obtain ⟨_, c, Pt, h2, _⟩ := hc w.params
    refine ⟨fd, hb, fun base hk hg ht => ?_⟩
    have hT := ht _ (List.mem_singleton.mpr rfl)
    simp only [h2, Option.getD_some] at hT ⊢
    exact hF c Pt h2 base hk hg hT
theorem useIt {α : Type} {P : Prop} (x : α) (h : α → P) : P := h x
theorem binds_one {K : PySem.W.Frag} {x qual a : Str} {st : Stmt} {f : Addr} {fd : FuncData} (F : Fun K x qual st f fd)
    (h : ∀ (kV doc pm : Value) (an : Option Addr) (cdv ct u : Value), bindArgs (PySem.W.fnOf x qual (defArgs st) (defBody st) (defScope st) .none kV doc pm an cdv ct) ⟨[u], []⟩ = pure [(a, u)]) : ∀ (t : Shared) (u : Value), BindsTo t fd ⟨[u], []⟩ [(a, u)] := by
  obtain ⟨oc, od, kV, doc, pm, an, cdv, ct, osl, rfl, lk, hcd⟩ := F.ex
  exact fun t u => .of_eq (h kV doc pm an cdv ct u)
theorem same_ref {mg : Str → Option Value} {x : Str} {a b : Addr} (h : mg x = some (.ref a)) (k : mg x = some (.ref b)) : a = b := by
  rw [h] at k
  injection k with k
  injection k
theorem tabIn_of {K : PySem.W.Frag} {x : Str} {f c Pt : Addr} {oc oc2 : Value} {od od2 : Option Addr} {osl osl2 : Array (Option Value)} {fd : FuncData} {vs : Array Value} (a : PySem.W.nsIn K mainGlobals x = some (some (.ref f)))
    (l : K.lookup f = some ⟨oc, od, .func fd, osl⟩) (e : fd.code = .ref c) (l2 : K.lookup c = some ⟨oc2, od2, .fields vs, osl2⟩) (v : (vs[11]? : Option Value) = some (.ref Pt)) (n : K.lookup Pt = none) :
    ∃ c Pt, PySem.W.tabIn K x = some (c, Pt) ∧ K.lookup Pt = none := by
  refine ⟨c, Pt, ?_, n⟩
  unfold PySem.W.tabIn
  rw [a]
  simp only [l, e, l2, v]
end Kx
namespace Kx
open PySem PySem.Spec PyProof.Rows L2 SX LamX
/-! ### what stays through draws and through the making of lambdas -/
/-- H without what stands at a and without tables -/
def core (a : Addr) (H : Hp) : Hp := fun b => if b = a then none else match H b with | some (.tbl _) => none | o => o
theorem core_at {a b : Addr} {H : Hp} {o : HO} (h : H b = some o) (n : b ≠ a) (t : ∀ ps, o ≠ .tbl ps) : core a H b = some o := by
  unfold core
  rw [if_neg n, h]
  cases o with
  | tbl ps => exact absurd rfl (t ps)
  | _ => rfl
theorem of_core {a b : Addr} {H : Hp} {o : HO} (h : core a H b = some o) : b ≠ a ∧ H b = some o ∧ ∀ ps, o ≠ .tbl ps := by
  unfold core at h
  by_cases e : b = a
  · rw [if_pos e] at h
    cases h
  · rw [if_neg e] at h
    cases q : H b with
    | none => rw [q] at h; cases h
    | some u =>
      rw [q] at h
      cases u with
      | tbl ps => cases h
      | _ =>
        have h' := Option.some.inj h
        subst h'
        exact ⟨e, rfl, fun ps z => by cases z⟩
theorem core_mv {a : Addr} {H H' : Hp} (m : Mv a H H') : Same (core a H) H' := fun b o h => m b o (of_core h).1 (of_core h).2.1
theorem core_ext {a : Addr} {H0 H H' : Hp} (s : Same (core a H0) H) (e : ExtN H H') : Same (core a H0) H' := fun b o h => e b o (s b o h) (of_core h).2.2
theorem Wh.ext {H H' : Hp} {a c : Addr} {n : Nat} (h : Wh H a c n) (e : ExtN H H') : Wh H' a c n := by
  obtain ⟨cs, t, l', h1, h2, h3⟩ := h
  exact ⟨cs, t, l', e _ _ h1 (fun ps z => by cases z), e _ _ h2 (fun ps z => by cases z), h3⟩
theorem Wh.tab {H : Hp} {a c P : Addr} {n : Nat} {ps : Array Value} (h : Wh H a c n) (t : H P = some (.tbl ps)) : P ≠ a := by
  obtain ⟨cs, x, l', h1, _⟩ := h
  exact ne_of_two t h1 (fun z => by cases z)
/-! ### what never is a list or tuple -/
theorem no_list {K : PySem.W.Frag} {n : String} (h1 : kitB n "list" = some false) (h2 : kitB n "tuple" = some false) : PySem.W.kitAny K (.type n) [.type "list", .type "tuple"] = some false := kit_at h1 h2
theorem flat_rep (n : Nat) (xs : List Int) : (List.replicate n (xs.map V.int)).flatten = ((List.replicate n xs).flatten).map V.int := by
  rw [List.map_flatten, List.map_replicate]
theorem rep_one (n : Nat) (x : Int) : (List.replicate n [V.int x]).flatten = (List.replicate n x).map V.int := by
  rw [List.map_replicate]
  induction n with
  | zero => rfl
  | succ j ih => rw [List.replicate_succ, List.flatten_cons, ih, List.replicate_succ]; rfl
theorem flat_length (n : Nat) (xs : List Int) : ((List.replicate n xs).flatten).length = n * xs.length := by
  induction n with
  | zero => simp
  | succ j ih => rw [List.replicate_succ, List.flatten_cons, List.length_append, ih, Nat.succ_mul, Nat.add_comm]
theorem flat_mem {n : Nat} {xs : List Int} {i : Int} (h : i ∈ (List.replicate n xs).flatten) : i ∈ xs := by
  obtain ⟨l, hl, hi⟩ := List.mem_flatten.mp h
  rw [List.eq_of_mem_replicate hl] at hi
  exact hi
/-- one and the same truth, twice -/
theorem dp_bb {K : PySem.W.Frag} {H : Hp} {p : Addr} {b : Bool} (h : H p = some (.lst [.bl b, .bl b])) : Dp K H (.ref p) (.list [.bool b, .bool b]) := .lst (.inl (.inl h)) (.cons (.bl b) (.cons (.bl b) .nil))
/-- [b, b] is shown -/
theorem bb1 (b : Bool) : (PyData.list [.bool b, .bool b]).showable = true := by cases b <;> rfl
theorem bb2 (b : Bool) : (PyData.list [.bool b, .bool b]).hasDict = false := by cases b <;> rfl
theorem bb3 (b : Bool) : (PyData.list [.bool b, .bool b]).depth ≤ 60 := by cases b <;> decide
theorem bb4 (b : Bool) : (PyData.list [.bool b, .bool b]).shown.length ≤ sizeLine := by cases b <;> decide +kernel
theorem bool_of {P : Prop} {a b : Bool} (h1 : a = true ↔ P) (h2 : b = true ↔ P) : a = b := Bool.eq_iff_iff.mpr (h1.trans h2.symm)
theorem ne_self {x : V} : (!decide (x = x)) = false := by simp
theorem th_refl : ∀ (n : Nat) (r : List Int), r.length = n → Th r r
  | 0, r, h => by
    cases r with
    | nil => exact .nil
    | cons _ _ => simp at h
  | n + 1, r, h => by
    rcases nil_or_snoc r with rfl | ⟨r', x, rfl⟩
    · simp at h
    · exact .more x 0 (th_refl n r' (by simpa using h))
end Kx
namespace Kx
open PySem PySem.Spec PyProof.Rows L2 SX LamX
/-! ### a def that calls replace: a token is out when it begins -/
section
variable {X : Cx}
theorem pst_set {i : Nat} {x : Str} {e : Expr} {te : TE} {pos pos' : Pos} (hN : X.N.Nodup) (hi : X.N[i]? = some x) (hx : Loc X.env.scope x) (he : PET X e te) (hs : swapsWith e (some (.Name x pos')) pos.line X.env = pure false := by rfl)
    (hf : X.fn x = true ∨ X.env.scope.names.lookup x = some .local := by first | exact .inl rfl | exact .inr rfl | assumption) : PST X (.Assign [.Name x pos'] e pos) (tAsg te (gName i)) := by
  intro pins s σ H D h0 I h
  refine wpAny_Assign_Name (thn (he pins s σ H _ h0 I h) fun v s1 hh => ?_) hs
  obtain ⟨y, H1, I1, r1, q1⟩ := hh
  exact store_ok I1 hN hi hx r1 (fun s2 I2 => ⟨_, H1, I2, q1⟩) hf
end
theorem okT {P : Program} {w : World} {K : PySem.W.Frag} {mg : Str → Option Value} {base : Heap} {x qual : Str} {st : Stmt} {f : Addr} {fd : FuncData} {N ps : List Str} {k : Nat} {sp : Sp} (F : Fun K x qual st f fd) (S : FnScope N ps (defScope st))
    (hnc : ((defScope st).names.all fun y => !decide (y.2 = .cell)) = true) (hps : 1 ≤ ps.length) (len : ∀ vs H Q E, sp vs H Q E → vs.length = ps.length)
    (hbody : ∀ (cdv : Value) (A : Around) (outer : List Env) (s : Shared) (H : Hp) (vs : List V) (Q : VK) (E : XK), Room k (A.deeper (envOfC qual (defScope st) s.heap.objs.size f cdv)) → sp vs H Q E →
      ∃ t, PSsT (cxOf CX0 P w K mg base N qual (defScope st) f cdv A outer s H E) (defBody st) t ∧ t { nx := fun _ H' => Q .non H', rt := Q } (start N vs) H) :
    FnOk P w K mg base CX0 (k + 1) f fd ps sp := by
  obtain ⟨oc, od, kV, doc, pm, an, cdv, ct, osl, rfl, lk, hcd⟩ := F.ex
  refine fn_ofT lk hcd S (fun y hy e => ?_) hps len fun A outer s H vs Q E hr hsp => hbody cdv A outer s H vs Q E hr hsp
  have h := List.all_eq_true.mp hnc y hy
  rw [e] at h
  exact absurd h (by decide)
/-! ### texts -/
theorem replace_S (l : List Nat) : Txt.replace (S l) ⟨#[32]⟩ ⟨#[]⟩ = S (l.filter (· != 32)) := by
  have h := PyProof.Rows.replace_strikes (S l) 32
  refine TL.ext_tl ?_
  show (Txt.replace (S l) ⟨#[32]⟩ ⟨#[]⟩).cps.toList = (S (l.filter (· != 32))).cps.toList
  rw [h]
theorem S_nil (l : List Nat) : decide (V.str (S l) = V.str "") = l.isEmpty := by
  cases l with
  | nil => rfl
  | cons c t =>
    rw [decide_eq_false]
    · rfl
    · intro e
      injection e with e
      have := congrArg (fun z : Str => z.cps.size) e
      have e0 : (Str.ofString "").cps.size = 0 := rfl
      simp [S] at this
      omega
/-- letters and blanks alone -/
theorem text_filter (l : List Nat) : ((l.filter (· != 32)).isEmpty || lowB (l.filter (· != 32))) = l.all sg := by
  have h : (l.filter (· != 32)).all low = l.all sg := by
    induction l with
    | nil => rfl
    | cons c t ih =>
      by_cases e : c = 32
      · subst e
        rw [List.filter_cons_of_neg (by simp), ih]
        rfl
      · rw [List.filter_cons_of_pos (by simpa using e), List.all_cons, List.all_cons, ih]
        have : sg c = low c := by
          unfold sg
          rw [decide_eq_false e, Bool.false_or]
        rw [this]
  unfold lowB
  rw [h]
  cases hE : (l.filter (· != 32)).isEmpty with
  | true =>
    have : l.filter (· != 32) = [] := List.isEmpty_iff.mp hE
    rw [← h, this]
    rfl
  | false => simp
/-- as an error with its part is raised -/
def RaisedPart (E : XK) (C : Addr) (H : Hp) (part : Str) : Prop := ∀ d H', Same H H' → H' d = some (.xd [("part", .str part)]) → E (.ref C) (some d) H'
/-! ### items between blanks -/
def itemsA (acc : List Nat) : List Nat → List (List Nat)
  | [] => [acc]
  | c :: r => if c = 32 then acc :: itemsA [] r else itemsA (acc ++ [c]) r
theorem pre_blank (c : Nat) (r : List Nat) : TL.pre [32] (c :: r) = decide (c = 32) := by
  by_cases h : c = 32
  · subst h
    simp [TL.pre]
  · have h' : ¬ 32 = c := fun e => h e.symm
    simp [TL.pre, h, h']
theorem spl_items : ∀ (l acc : List Nat), TL.spl [32] 0 acc l = itemsA acc l
  | [], acc => TL.spl_nil _ _ _
  | c :: r, acc => by
    by_cases h : c = 32
    · rw [TL.spl_hit (by rw [pre_blank, decide_eq_true h])]
      show acc :: TL.spl [32] 0 [] r = if c = 32 then acc :: itemsA [] r else itemsA (acc ++ [c]) r
      rw [if_pos h, spl_items r []]
    · rw [TL.spl_miss (by rw [pre_blank, decide_eq_false h])]
      show TL.spl [32] 0 (acc ++ [c]) r = if c = 32 then acc :: itemsA [] r else itemsA (acc ++ [c]) r
      rw [if_neg h, spl_items r (acc ++ [c])]
theorem split_items (l : List Nat) : Txt.split (S l) " " = (itemsA [] l).map S := by
  have h := SX.split_S (a := l) (b := [32]) (by simp) (by decide)
  rw [spl_items] at h
  exact h
def beginsA : Nat → List (List Nat) → List Nat
  | _, [] => []
  | p, x :: xs => p :: beginsA (p + x.length + 1) xs
/-- how far items reach -/
def reachA : Nat → List (List Nat) → Nat
  | p, [] => p
  | p, x :: xs => reachA (p + x.length + 1) xs
theorem beginsA_snoc : ∀ (xs : List (List Nat)) (p : Nat) (x : List Nat), beginsA p (xs ++ [x]) = beginsA p xs ++ [reachA p xs]
  | [], _, _ => rfl
  | y :: ys, p, x => by
    show p :: beginsA (p + y.length + 1) (ys ++ [x]) = p :: (beginsA (p + y.length + 1) ys ++ [reachA (p + y.length + 1) ys])
    rw [beginsA_snoc ys]
theorem reachA_snoc : ∀ (xs : List (List Nat)) (p : Nat) (x : List Nat), reachA p (xs ++ [x]) = reachA p xs + x.length + 1
  | [], _, _ => rfl
  | y :: ys, p, x => reachA_snoc ys _ x
theorem reach_items : ∀ (l acc : List Nat) (p : Nat), reachA p (itemsA acc l) = p + acc.length + l.length + 1
  | [], acc, p => rfl
  | c :: r, acc, p => by
    show reachA p (if c = 32 then acc :: itemsA [] r else itemsA (acc ++ [c]) r) = _
    by_cases h : c = 32
    · rw [if_pos h]
      show reachA (p + acc.length + 1) (itemsA [] r) = _
      rw [reach_items]
      simp
      omega
    · rw [if_neg h, reach_items]
      simp
      omega
theorem items_blank : ∀ (l acc : List Nat), itemsA acc (l ++ [32]) = itemsA acc l ++ [[]]
  | [], acc => rfl
  | c :: r, acc => by
    show (if c = 32 then acc :: itemsA [] (r ++ [32]) else itemsA (acc ++ [c]) (r ++ [32])) = (if c = 32 then acc :: itemsA [] r else itemsA (acc ++ [c]) r) ++ [[]]
    by_cases h : c = 32
    · rw [if_pos h, if_pos h, items_blank]
      rfl
    · rw [if_neg h, if_neg h, items_blank]
theorem items_sign {s : Nat} (hs : s ≠ 32) : ∀ (l acc : List Nat), ∃ xs x, itemsA acc l = xs ++ [x] ∧ itemsA acc (l ++ [s]) = xs ++ [x ++ [s]]
  | [], acc => ⟨[], acc, rfl, by show (if s = 32 then _ else itemsA (acc ++ [s]) []) = _; rw [if_neg hs]; rfl⟩
  | c :: r, acc => by
    by_cases h : c = 32
    · obtain ⟨xs, x, h1, h2⟩ := items_sign hs r []
      refine ⟨acc :: xs, x, ?_, ?_⟩
      · show (if c = 32 then acc :: itemsA [] r else _) = _
        rw [if_pos h, h1]
        rfl
      · show (if c = 32 then acc :: itemsA [] (r ++ [s]) else _) = _
        rw [if_pos h, h2]
        rfl
    · obtain ⟨xs, x, h1, h2⟩ := items_sign hs r (acc ++ [c])
      refine ⟨xs, x, ?_, ?_⟩
      · show (if c = 32 then _ else itemsA (acc ++ [c]) r) = _
        rw [if_neg h, h1]
      · show (if c = 32 then _ else itemsA (acc ++ [c]) (r ++ [s])) = _
        rw [if_neg h, h2]
theorem items_length : ∀ (l acc : List Nat), (itemsA acc l).length = l.count 32 + 1
  | [], acc => rfl
  | c :: r, acc => by
    show (if c = 32 then acc :: itemsA [] r else itemsA (acc ++ [c]) r).length = _
    by_cases h : c = 32
    · subst h
      rw [if_pos rfl, List.length_cons, items_length, List.count_cons_self]
    · rw [if_neg h, items_length, List.count_cons_of_ne h]
theorem join_items : ∀ (l acc : List Nat), TL.joinL [32] (itemsA acc l) = acc ++ l
  | [], acc => by simp [itemsA, TL.joinL]
  | c :: r, acc => by
    show TL.joinL [32] (if c = 32 then acc :: itemsA [] r else itemsA (acc ++ [c]) r) = _
    by_cases h : c = 32
    · subst h
      rw [if_pos rfl]
      have ih := join_items r []
      cases hi : itemsA [] r with
      | nil =>
        have := items_length r []
        rw [hi] at this
        simp at this
      | cons x xs =>
        rw [hi] at ih
        show acc ++ ([32] ++ TL.joinL [32] (x :: xs)) = _
        rw [ih]
        simp
    · rw [if_neg h, join_items]
      simp
theorem beginsA_length : ∀ (xs : List (List Nat)) (p : Nat), (beginsA p xs).length = xs.length
  | [], _ => rfl
  | x :: xs, p => by
    show (beginsA (p + x.length + 1) xs).length + 1 = xs.length + 1
    rw [beginsA_length xs]
theorem item_le : ∀ (l acc it : List Nat), it ∈ itemsA acc l → it.length ≤ acc.length + l.length
  | [], acc, it, h => by
    rw [List.mem_singleton.mp h]
    simp
  | c :: r, acc, it, h => by
    have h : it ∈ (if c = 32 then acc :: itemsA [] r else itemsA (acc ++ [c]) r) := h
    by_cases e : c = 32
    · rw [if_pos e] at h
      rcases List.mem_cons.mp h with rfl | h
      · simp
      · have := item_le r [] it h
        simp at this ⊢
        omega
    · rw [if_neg e] at h
      have := item_le r _ it h
      simp at this ⊢
      omega
end Kx
namespace Kx
open PySem PySem.Spec PyProof.Rows L2 SX LamX
/-! ### an int or a truth is (not) a truth -/
def rNotBI : R2 := fun x y H Q => ∃ b : Bool, y = .bl b ∧ ((∃ i : Int, x = .int i ∧ Q (.bl true) H) ∨ ∃ a : Bool, x = .bl a ∧ Q (.bl (!decide (a = b))) H)
section
variable {X : Cx}
theorem op_notBI : OpR X (compareOp .IsNot) rNotBI := by
  intro pins s σ H x y v u Q I rx ry h
  obtain ⟨b, rfl, h⟩ := h
  rcases h with ⟨i, rfl, q⟩ | ⟨a, rfl, q⟩
  · obtain ⟨t, rfl⟩ := rx
    obtain rfl : u = Value.bool b := ry
    exact wpAny_isNot_other rfl (fun z => nomatch z) ⟨.bl true, H, I, rfl, q⟩
  · exact op_notBl pins s σ H _ _ v u Q I rx ry ⟨a, b, rfl, rfl, q⟩
/-! ### list(text) -/
def signsV (l : List Nat) : List V := l.map fun c => V.str (S [c])
theorem vals_signs : ∀ {l : List Nat} {its : List Value}, l.length = its.length → (∀ (i : Nat) (c : Nat), l[i]? = some c → ∃ u : Tok, its[i]? = some (Value.str (S [c]) u)) → Vals (signsV l) its
  | [], [], _, _ => .nil
  | [], _ :: _, h, _ => by simp at h
  | _ :: _, [], h, _ => by simp at h
  | c :: l, v :: its, hl, h => by
    obtain ⟨u, e⟩ := h 0 c rfl
    have e' : v = .str (S [c]) u := by simpa using e
    exact .cons ⟨u, e'⟩ (vals_signs (by simpa using hl) fun i d hd => by
      have := h (i + 1) d (by simpa using hd)
      simpa using this)
theorem call_list_txt (hc : X.calm = true) : CallR X (.type "list") (fun xs H Q => ∃ l : List Nat, xs = [.str (S l)] ∧ l.length ≤ 1000000 ∧ ∀ p, H p = none → Q (.ref p) (upd H p (.lst (signsV l)))) := by
  intro pins s σ H xs us Q I r h
  obtain ⟨l, rfl, hl, q⟩ := h
  obtain ⟨u, rfl, t, rfl⟩ := vals1 r
  have hz : (S l).cps.size = l.length := by simp [S]
  have hn : (S l).cps.size ≤ sizeLine := by
    rw [hz]
    exact Nat.le_trans hl (by decide)
  refine call_list_str (hn := hn) (I.ok.hd hc) (S l) t fun h' tk acc' c' k e1 e2 => ?_
  obtain ⟨z1, z2⟩ := e2
  rw [hz] at z1
  have rv : Vals (signsV l) acc'.toList := by
    refine vals_signs (l := l) (by have e := Array.length_toList (xs := acc'); omega) fun i c hi => ?_
    have il : i < l.length := by
      rcases Nat.lt_or_ge i l.length with h | h
      · exact h
      · rw [List.getElem?_eq_none h] at hi
        cases hi
    have ia : i < acc'.size := by omega
    obtain ⟨d, u, h3, h4⟩ := z2 i acc'[i] (by simp [ia])
    have h5 : (S l).cps[i]? = l[i]? := by simp [S]
    rw [h5, hi] at h3
    cases h3
    refine ⟨u, ?_⟩
    have h6 : acc'.toList[i]? = some acc'[i] := by simp [ia]
    rw [h6, h4]
  exact ⟨.ref s.heap.objs.size, upd H s.heap.objs.size (.lst (signsV l)), I.laid (t' := tk) k (Nat.le_refl _) (show ObjOk X.prog X.w _ h' _ (.lst (signsV l)) from ⟨by unfold signsV; rw [List.length_map]; exact Nat.le_trans hl (by decide), acc'.toList, c', rv, by simpa using e1⟩), rfl, q _ (I.hok.fresh (Nat.le_refl _))⟩
end
/-! ### enumerate(text) -/
def IteS (x : Str) : It :=
  ⟨fun i _ => i < x.cps.size, fun i H v H' => ∃ T c, v = .ref T ∧ H T = none ∧ H' = upd H T (.tup [.int (i : Nat), .str ⟨#[c]⟩]) ∧ x.cps[i]? = some c, fun i _ => i = x.cps.size⟩
theorem draws_str {prog : Program} {w : World} {A : Around} (hh : A.handled = none) (it : Addr) (x : Str) (t : Tok) :
    Draws prog w A it [it] x.cps.size (fun i v => ∃ c u, x.cps[i]? = some c ∧ v = .str ⟨#[c]⟩ u) (fun i h => h.IsStrIter it (strIterType x) x t i) := by
  unfold strIterType
  cases x.cps.all (· < 128)
  · exact Draws.strWide hh it x t
  · exact Draws.strAscii hh it x t
theorem turn_enumS {P : Program} {w : World} {K : PySem.W.Frag} {elts : List Expr} {kk : Nat} {tpos : Pos} (x : Str) (t : Tok) (e it : Addr) :
    Turn P w K (.Tuple elts kk tpos) (IteS x) [e, it] e (fun i h => (∃ old, IsEnum h e it ((i : Nat) : Int) old) ∧ h.IsStrIter it (strIterType x) x t i ∧ e ≠ it) where
  mem := by simp
  obj := fun i h st b hb => by
    obtain ⟨⟨old, he⟩, ⟨o, ho, hc, hd⟩, _⟩ := st
    rcases (show b = e ∨ b = it by simpa using hb) with z | z
    · rw [z]
      exact ⟨_, he, fun v q => nomatch q⟩
    · rw [z]
      exact ⟨o, ho, fun v q => by rw [hd] at q; cases q⟩
  keep := fun i h h' st k => by
    obtain ⟨⟨old, he⟩, ⟨o, ho, r⟩, hne⟩ := st
    exact ⟨⟨old, k e (by simp) _ he⟩, ⟨o, k it (by simp) _ ho, r⟩, hne⟩
  item := by
    intro X hP hw hK hc i pins s σ H E I hf st hg
    subst hP hw hK
    obtain ⟨⟨old, he⟩, hit, hne⟩ := st
    have el : e < s.heap.objs.size := Heap.lt_size he
    have il : it < s.heap.objs.size := by
      obtain ⟨_, q, _⟩ := hit
      exact Heap.lt_size q
    have D := draws_str (prog := X.prog) (w := X.w) (A := X.A.in1) (I.ok.hd hc) it x t
    refine wpAny_pyNext_enum_itemD D he hit hg hne (by simpa using hne) fun u h' tk hu ho hit' hT hz hk => ?_
    obtain ⟨c, tu, hcx, rfl⟩ := hu
    refine ⟨_, rfl, wpAny_letOwnedTupleGo_enum (s := { s with heap := h', toks := tk + 1 }) ho fun h2 he' sb => ?_⟩
    have T2 := (sb.2 _ (Nat.ne_of_gt el)).trans hT
    have new : ObjOk X.prog X.w (upd H s.heap.objs.size (.tup [.int (i : Nat), .str ⟨#[c]⟩])) h2 s.heap.objs.size (.tup [.int (i : Nat), .str ⟨#[c]⟩]) :=
      ⟨by show 2 ≤ sizeLine; decide, [.int i tk, .str ⟨#[c]⟩ tu], .cons ⟨_, rfl⟩ (.cons ⟨_, rfl⟩ .nil), ⟨_, T2, rfl, _, rfl⟩⟩
    have I1 : Inv X pins σ (upd H s.heap.objs.size (.tup [.int (i : Nat), .str ⟨#[c]⟩])) { s with heap := h2, toks := tk + 1 } :=
      I.turnedNew (ch := [e, it]) (fun b ob hb q => (sb.2 b (fun z => hb (by simp [z]))).trans (hk b ob (fun z => hb (by simp [z])) (fun z => hb (by simp [z])) q)) hf (Nat.le_refl _) new
    refine ⟨.ref s.heap.objs.size, _, I1, rfl, ⟨_, c, rfl, I.hok.fresh (Nat.le_refl _), rfl, hcx⟩, ⟨⟨.str ⟨#[c]⟩ tu, ?_⟩, ?_, hne⟩, fun b hb => ?_⟩
    · rw [show ((i + 1 : Nat) : Int) = (i : Int) + 1 by omega]
      exact he'
    · obtain ⟨o, ho2, r⟩ := hit'
      exact ⟨o, (sb.2 it (Ne.symm hne)).trans ho2, r⟩
    · have hb' : b < s.heap.objs.size := by
        rcases (show b = e ∨ b = it by simpa using hb) with z | z
        · rw [z]
          exact el
        · rw [z]
          exact il
      rw [upd_ne (Nat.ne_of_lt hb')]
      exact (hf b hb).1
  done := by
    intro X hP hw hK hc i pins s σ H E I hf st hg
    subst hP hw hK
    obtain ⟨⟨old, he⟩, hit, hne⟩ := st
    obtain ⟨f0, f1, f2, f3, f4, f5⟩ := hf it (by simp)
    have hg : i = x.cps.size := hg
    subst hg
    have D := draws_str (prog := X.prog) (w := X.w) (A := X.A.in1) (I.ok.hd hc) it x t
    exact wpAny_pyNext_enum_endD D he hit fun h' eb => ⟨rfl, I.turned (t' := s.toks) (fun b o hb q => eb b o hb q) f0 f1 f3 f4 f5⟩
  self := fun A i s Q E st h => by
    obtain ⟨⟨_, he⟩, _⟩ := st
    exact wpAny_pyIter_enum he h
def iEnumS (ta : TA) : TI := fun σ H R => ta σ H fun vs H1 => ∃ x : Str, vs = [.str x] ∧ R (IteS x) H1
theorem pi_enumS {X : Cx} {e : Expr} {ta : TA} {p pos tpos : Pos} {elts : List Expr} {kk : Nat} (hg : Gl X "enumerate") (hm : X.mg "enumerate" = none) (ha : PA X [e] ta) (hs : starEach [e] X.env = [(false, eval e X.env)] := by rfl) :
    PI X (.Tuple elts kk tpos) (.Call (.Name "enumerate" p) [e] [] pos) (iEnumS ta) := by
  refine ⟨fun pins s σ H R I h => ?_⟩
  refine Call_ (ld_blt I hg hm boot_enumerate (PyProof.Rows.callWith_type1 (thn (ha.run pos pins s σ H _ I h) fun us s1 hh => ?_) hs rfl))
  obtain ⟨vs, H1, I1, r1, x, rfl, q⟩ := hh
  obtain ⟨u, rfl, t, rfl⟩ := vals1 r1
  refine call_enumerate_str fun h' he hit hz hk => wpAny_pyIter_enum he ?_
  have I2 : Inv X pins σ H1 { s1 with heap := h' } := I1.kept (t' := s1.toks) hk
  refine ⟨s1.heap.objs.size + 1, [s1.heap.objs.size + 1, s1.heap.objs.size], _, _, H1, rfl, I2, turn_enumS x t (s1.heap.objs.size + 1) s1.heap.objs.size, ⟨⟨.none, he⟩, hit, Nat.succ_ne_self _⟩, fun b hb => ?_, q⟩
  have hle : s1.heap.objs.size ≤ b := by
    rcases (show b = s1.heap.objs.size + 1 ∨ b = s1.heap.objs.size by simpa using hb) with z | z
    · rw [z]
      exact Nat.le_add_right _ _
    · rw [z]
      exact Nat.le_refl _
  exact I1.fpOk hle (I1.hok.fresh hle)
theorem walk_enumS {x : Str} : Walk (IteS x) x.cps.size (fun _ => True) (fun i H v H' => ∃ T c, v = .ref T ∧ H T = none ∧ H' = upd H T (.tup [.int (i : Nat), .str ⟨#[c]⟩]) ∧ x.cps[i]? = some c) :=
  ⟨fun _ _ h _ => h, fun _ _ => rfl, fun _ _ _ _ _ _ y => y⟩
end Kx
namespace Kx
open PySem PySem.Spec PyProof.Rows L2 SX LamX
/-! ### values of all kinds -/
def KindIs (K : PySem.W.Frag) (H : Hp) (x : V) : Prop := (∃ i, x = .int i) ∨ (∃ b, x = .bl b) ∨ (isIntV x = false ∧ ∃ n, TyX K H x (.type n) ∧ kitB n "int" = some false)
section
variable {K : PySem.W.Frag} {H H' : Hp}
theorem KindIs.same {x : V} (e : Same H H') (h : KindIs K H x) : KindIs K H' x := by
  rcases h with h | h | ⟨h, n, h1, h2⟩
  · exact .inl h
  · exact .inr (.inl h)
  · exact .inr (.inr ⟨h, n, tyx_same e h1, h2⟩)
theorem kind_non : KindIs K H .non := .inr (.inr ⟨rfl, "NoneType", .base .non, by decide +kernel⟩)
theorem kind_str (x : Str) : KindIs K H (.str x) := .inr (.inr ⟨rfl, "str", .base (.str x), by decide +kernel⟩)
theorem kind_lst {a : Addr} {ws : List V} (h : SqL K H a ws) : KindIs K H (.ref a) := .inr (.inr ⟨rfl, "list", tyL h, by decide +kernel⟩)
theorem kind_tup {a : Addr} {ws : List V} (h : SqT K H a ws) : KindIs K H (.ref a) := .inr (.inr ⟨rfl, "tuple", tyT h, by decide +kernel⟩)
theorem kind_dk {a : Addr} {kvs : List (Key × V)} (h : H a = some (.dK kvs)) : KindIs K H (.ref a) := .inr (.inr ⟨rfl, "dict", .base (.dK h), by decide +kernel⟩)
theorem hasInt_dk {a : Addr} {kvs : List (Key × V)} (h : H a = some (.dK kvs)) : HasInt K H (.ref a) := ⟨"dict", false, false, .base (.dK h), by decide +kernel, by decide +kernel, rfl⟩
end
/-- an item: of what kind it is -/
def Itm (K : PySem.W.Frag) (H : Hp) (v : V) : Prop := HasInt K H v ∧ KindIs K H v
theorem Itm.same {K : PySem.W.Frag} {H H' : Hp} {x : V} (e : Same H H') (h : Itm K H x) : Itm K H' x := ⟨h.1.same e, h.2.same e⟩
/-- codes of signs -/
def cdC (l : List Nat) : Prop := l.all (fun c => decide (c < 1114112)) = true
theorem cdC.app {l m : List Nat} (h : cdC l) (k : cdC m) : cdC (l ++ m) := by
  unfold cdC at h k ⊢
  rw [List.all_append, h, k]
  rfl
theorem cdC.sub {l m : List Nat} (h : cdC l) (k : ∀ c ∈ m, c ∈ l) : cdC m := by
  unfold cdC at h ⊢
  exact List.all_eq_true.mpr fun c hc => List.all_eq_true.mp h c (k c hc)
theorem ok_ofString (s : String) : cdC (Str.ofString s).cps.toList := by
  rw [Str.ofString_eq_toList]
  unfold cdC
  refine List.all_eq_true.mpr fun n hn => ?_
  obtain ⟨c, _, rfl⟩ := List.mem_map.mp (by simpa using hn)
  refine decide_eq_true ?_
  have hv := c.valid
  show c.val.toNat < 1114112
  rcases hv with h | ⟨_, h⟩
  · have h' : c.val.toNat < 55296 := h
    omega
  · exact h
inductive AnyV (K : PySem.W.Frag) (H : Hp) : V → Prop where
  | non : AnyV K H .non
  | bl (b : Bool) : AnyV K H (.bl b)
  | int (i : Int) : AnyV K H (.int i)
  | str (l : List Nat) (h : l.length ≤ 5000) (v : cdC l) : AnyV K H (.str (S l))
  | lst {a : Addr} {ws : List V} (h : SqL K H a ws) (n : ws.length ≤ 1000) (t : ∀ v ∈ ws, Itm K H v) : AnyV K H (.ref a)
  | tup {a : Addr} {ws : List V} (h : SqT K H a ws) (n : ws.length ≤ 1000) (t : ∀ v ∈ ws, Itm K H v) : AnyV K H (.ref a)
  | dk {a : Addr} {kvs : List (Key × V)} (h : H a = some (.dK kvs)) : AnyV K H (.ref a)
section
variable {K : PySem.W.Frag} {H H' : Hp} {x : V}
theorem AnyV.same (e : Same H H') (h : AnyV K H x) : AnyV K H' x := by
  cases h with
  | non => exact .non
  | bl b => exact .bl b
  | int i => exact .int i
  | str l h v => exact .str l h v
  | lst h n t => exact .lst (e.seq h) n fun v m => (t v m).same e
  | tup h n t => exact .tup (Same.t e h) n fun v m => (t v m).same e
  | dk h => exact .dk (e _ _ h)
theorem AnyV.itm (h : AnyV K H x) : Itm K H x := by
  cases h with
  | non => exact ⟨hasInt_non, kind_non⟩
  | bl b => exact ⟨hasInt_bl b, .inr (.inl ⟨b, rfl⟩)⟩
  | int i => exact ⟨hasInt_int i, .inl ⟨i, rfl⟩⟩
  | str l h v => exact ⟨hasInt_str _, kind_str _⟩
  | lst h n t => exact ⟨hasInt_lst h, kind_lst h⟩
  | tup h n t => exact ⟨hasInt_tup h, kind_tup h⟩
  | dk h => exact ⟨hasInt_dk h, kind_dk h⟩
/-- is it a list or a tuple -/
theorem AnyV.seq (h : AnyV K H x) : (∃ n, TyX K H x (.type n) ∧ PySem.W.kitAny K (.type n) [.type "list", .type "tuple"] = some false) ∨
    ∃ (a : Addr) (ws : List V), x = .ref a ∧ SqQ K H a ws ∧ ws.length ≤ 1000 ∧ ∀ v ∈ ws, Itm K H v := by
  cases h with
  | non => exact .inl ⟨"NoneType", .base .non, no_list (by decide +kernel) (by decide +kernel)⟩
  | bl b => exact .inl ⟨"bool", .base (.bl b), no_list (by decide +kernel) (by decide +kernel)⟩
  | int i => exact .inl ⟨"int", .base (.int i), no_list (by decide +kernel) (by decide +kernel)⟩
  | str l h v => exact .inl ⟨"str", .base (.str _), no_list (by decide +kernel) (by decide +kernel)⟩
  | lst h n t => exact .inr ⟨_, _, rfl, .inl h, n, t⟩
  | tup h n t => exact .inr ⟨_, _, rfl, .inr h, n, t⟩
  | dk h => exact .inl ⟨"dict", .base (.dK h), no_list (by decide +kernel) (by decide +kernel)⟩
/-- is it a text -/
theorem AnyV.str? (h : AnyV K H x) : (∃ l : List Nat, x = .str (S l) ∧ l.length ≤ 5000 ∧ cdC l) ∨ ∃ n, TyX K H x (.type n) ∧ kitB n "str" = some false := by
  cases h with
  | non => exact .inr ⟨"NoneType", .base .non, by decide +kernel⟩
  | bl b => exact .inr ⟨"bool", .base (.bl b), by decide +kernel⟩
  | int i => exact .inr ⟨"int", .base (.int i), by decide +kernel⟩
  | str l h v => exact .inl ⟨l, rfl, h, v⟩
  | lst h n t => exact .inr ⟨"list", tyL h, by decide +kernel⟩
  | tup h n t => exact .inr ⟨"tuple", tyT h, by decide +kernel⟩
  | dk h => exact .inr ⟨"dict", .base (.dK h), by decide +kernel⟩
end
theorem S_of (x : Str) : S x.cps.toList = x := by
  cases x
  simp [S]
theorem any_text {K : PySem.W.Frag} {H : Hp} (x : Str) (h : x.length ≤ 5000) (v : cdC x.cps.toList) : AnyV K H (.str x) := by
  have e := AnyV.str (K := K) (H := H) x.cps.toList (by simpa [Str.length] using h) v
  rw [S_of] at e
  exact e
theorem itms_nil {K : PySem.W.Frag} {H : Hp} : ∀ v ∈ ([] : List V), Itm K H v := fun _ m => by cases m
theorem itms_cons {K : PySem.W.Frag} {H : Hp} {x : V} {xs : List V} (h : Itm K H x) (t : ∀ v ∈ xs, Itm K H v) : ∀ v ∈ x :: xs, Itm K H v := fun v m => by
  rcases List.mem_cons.mp m with rfl | m
  · exact h
  · exact t v m
theorem itm_int {K : PySem.W.Frag} {H : Hp} (i : Int) : Itm K H (.int i) := ⟨hasInt_int i, .inl ⟨i, rfl⟩⟩
theorem itm_bl {K : PySem.W.Frag} {H : Hp} (b : Bool) : Itm K H (.bl b) := ⟨hasInt_bl b, .inr (.inl ⟨b, rfl⟩)⟩
theorem joinL_nil : ∀ (l : List Nat), TL.joinL [] (l.map fun c => [c]) = l
  | [] => rfl
  | [c] => rfl
  | c :: d :: r => by
    have ih := joinL_nil (d :: r)
    show [c] ++ ([] ++ TL.joinL [] ((d :: r).map fun c => [c])) = c :: d :: r
    rw [ih]
    rfl
theorem join_signs (l : List Nat) : Txt.join "" (l.map fun c => S [c]) = S l := by
  have h := SX.join_S [] (l.map fun c => [c])
  rw [joinL_nil, List.map_map] at h
  exact h
theorem sum_signs : ∀ (l : List Nat), ((l.map fun c => S [c]).map (·.length)).sum = l.length
  | [] => rfl
  | c :: r => by
    show (S [c]).length + ((r.map fun c => S [c]).map (·.length)).sum = r.length + 1
    rw [sum_signs r, S_len]
    show 1 + r.length = _
    omega
theorem signs_map (l : List Nat) : signsV l = (l.map fun c => S [c]).map V.str := by
  unfold signsV
  rw [List.map_map]
  rfl
theorem in_signs {l : List Nat} {v : V} (h : v ∈ signsV l) : ∃ c, c ∈ l ∧ v = .str (S [c]) := by
  obtain ⟨c, hc, e⟩ := List.mem_map.mp h
  exact ⟨c, hc, e.symm⟩
end Kx
namespace Kx
open PySem PySem.Spec PyProof.Rows L2 SX LamX
section
variable {K : PySem.W.Frag} {J : It} {n : Nat} {G : Hp → Prop} {Y : Nat → Hp → V → Hp → Prop} {g : TG} {tt : TT} {te : TE} {vs : List Nat} {σ : L2.St} {H1 : Hp} {D : Addr} {Qd : Hp → Prop}
theorem keep_some {zs : List (Option V)} {i : Nat} {v : V} (h : zs[i]? = some (some v)) : (zs.take (i + 1)).filterMap id = (zs.take i).filterMap id ++ [v] := by
  rw [List.take_add_one, h, List.filterMap_append]
  rfl
theorem keep_none {zs : List (Option V)} {i : Nat} (h : zs[i]? = some none) : (zs.take (i + 1)).filterMap id = (zs.take i).filterMap id := by
  rw [List.take_add_one, h, List.filterMap_append]
  simp
/-- a comprehension with a test, its items told ahead: none where the test fails -/
theorem lc_keep (w : Walk J n G Y) (zs : List (Option V)) (hz : zs.length = n) (nD : H1 D = none) (len : n ≤ 1000000) (hG : ∀ Hc, Same H1 Hc → G Hc)
    (turn : ∀ (i : Nat) (x : V) (z : Option V) (Hc Hx : Hp) (Q' : VK) (R' : Hp → Prop), i < n → zs[i]? = some z → Same H1 Hc → Y i Hc x Hx → (∀ v H4, z = some v → Same Hc H4 → Q' v H4) → (∀ H4, z = none → Same Hc H4 → R' H4) → g x (wipe σ vs) Hx fun σ2 H2 => wipe σ2 vs = wipe σ vs ∧ tt σ2 H2 fun b H3 => if b = true then te σ2 H3 Q' else R' H3)
    (fin : ∀ Hc, Same H1 Hc → Hc D = some (.lst (zs.filterMap id)) → Qd Hc) :
    ∃ W : Nat → Nat → Hp → Prop, (∃ m, W 0 m (upd H1 D (.lst []))) ∧ ∀ i m H, W i m H →
      (J.stop i H ∧ Qd H) ∨ (J.go i H ∧ ∃ Nx : Hp → Prop, (∀ H', Nx H' → ∃ m', m' < m ∧ W (i + 1) m' H') ∧ ∀ x H', J.yld i H x H' → g x (wipe σ vs) H' fun σ2 H2 => wipe σ2 vs = wipe σ vs ∧ tt σ2 H2 fun b H3 =>
        if b = true then te σ2 H3 fun y H4 => ∃ acc, H4 D = some (.lst acc) ∧ acc.length < sizeLine ∧ Nx (upd H4 D (.lst (acc ++ [y]))) else Nx H3) := by
  refine lc_it w (fun i Hc => Same H1 Hc ∧ Hc D = some (.lst ((zs.take i).filterMap id))) ⟨same_new nD, upd_same⟩ (fun i H _ p => hG H p.1) (fun i x Hc Hx hi p y => ?_) (fun Hc p => ?_)
  · have hzi : zs[i]? = some (zs[i]'(by omega)) := List.getElem?_eq_getElem (by omega)
    refine turn i x _ Hc Hx _ _ hi hzi p.1 y (fun v H4 ev e4 => ⟨_, e4 _ _ p.2, ?_, ?_⟩) (fun H4 ev e4 => ⟨p.1.trans e4, ?_⟩)
    · have h1 : ((zs.take i).filterMap id).length ≤ (zs.take i).length := List.length_filterMap_le ..
      rw [List.length_take] at h1
      exact Nat.lt_of_le_of_lt (show _ ≤ 1000000 by omega) (by decide)
    · refine ⟨fun b o z => ?_, ?_⟩
      · rw [upd_ne (ne_of_none z nD)]
        exact e4 _ _ (p.1 b o z)
      · rw [upd_same, keep_some (by rw [hzi, ev])]
    · rw [keep_none (by rw [hzi, ev])]
      exact e4 _ _ p.2
  · rw [← hz, List.take_length] at p
    exact fin Hc p.1 p.2
end
section
variable {K : PySem.W.Frag} {a : Addr} {xs : List V} {g : TG} {tt : TT} {te : TE} {vs : List Nat} {σ : L2.St} {H : Hp} {k : Nat} {Q : VK} {l : List Nat}
/-- [e for c in NAME if t], NAME a text -/
theorem lc_txt (zs : List (Option V)) (hz : zs.length = l.length) (hi : σ[k]? = some (some (.str (S l)))) (len : l.length ≤ 1000000)
    (turn : ∀ (i : Nat) (c : Nat) (z : Option V) (Hc : Hp) (Q' : VK) (R' : Hp → Prop), l[i]? = some c → zs[i]? = some z → Same H Hc → (∀ v H4, z = some v → Same Hc H4 → Q' v H4) → (∀ H4, z = none → Same Hc H4 → R' H4) → g (.str (S [c])) (wipe σ vs) Hc fun σ2 H2 => wipe σ2 vs = wipe σ vs ∧ tt σ2 H2 fun b H3 => if b = true then te σ2 H3 Q' else R' H3)
    (fin : ∀ (D : Addr) (Hc : Hp), Same H Hc → Hc D = some (.lst (zs.filterMap id)) → Q (.ref D) Hc) :
    tLc (iStr (tVar k)) g tt te vs σ H Q := by
  have e : (S l).cps.size = l.length := by simp [S]
  refine ⟨_, hi, S l, rfl, fun D nD => lc_keep walk_str zs (by rw [hz, e]) nD (by rw [e]; exact len) (fun _ _ => trivial) (fun i x z Hc Hx Q' R' _ hzi e1 y q r => ?_) (fin D)⟩
  obtain ⟨rfl, c, hc, rfl⟩ := y
  have hc' : l[i]? = some c := by
    have : (S l).cps[i]? = l[i]? := by simp [S]
    rw [← this]
    exact hc
  exact turn i c z _ Q' R' hc' hzi e1 q r
/-- [e for x in NAME if t], NAME a list -/
theorem lc_lstk (zs : List (Option V)) (hz : zs.length = xs.length) (hi : σ[k]? = some (some (.ref a))) (hq : SqL K H a xs) (len : xs.length ≤ 1000000)
    (turn : ∀ (i : Nat) (x : V) (z : Option V) (Hc : Hp) (Q' : VK) (R' : Hp → Prop), xs[i]? = some x → zs[i]? = some z → Same H Hc → (∀ v H4, z = some v → Same Hc H4 → Q' v H4) → (∀ H4, z = none → Same Hc H4 → R' H4) → g x (wipe σ vs) Hc fun σ2 H2 => wipe σ2 vs = wipe σ vs ∧ tt σ2 H2 fun b H3 => if b = true then te σ2 H3 Q' else R' H3)
    (fin : ∀ (D : Addr) (Hc : Hp), Same H Hc → Hc D = some (.lst (zs.filterMap id)) → Q (.ref D) Hc) :
    tLc (iList K (tVar k)) g tt te vs σ H Q := ⟨_, hi, a, rfl, ⟨_, hq⟩, fun D nD => lc_keep walk_list zs hz nD len (fun Hc e => e.seq hq) (fun i x z Hc Hx Q' R' _ hzi e y q r => by
      obtain ⟨rfl, hx⟩ := y
      exact turn i x z _ Q' R' hx hzi e q r) (fin D)⟩
end
/-- texts of one sign each, laid -/
theorem pl_signs {l : List Nat} (h : cdC l) : ∀ d ∈ l.map (fun c => PyData.str (S [c])), Pl 0 d := fun d m => by
  obtain ⟨c, hc, rfl⟩ := List.mem_map.mp m
  refine ⟨?_, Nat.le_refl _⟩
  have h2 := List.all_eq_true.mp h c hc
  show (S [c]).cps.all (· < 0x110000) = true
  simpa [S] using of_decide_eq_true h2
theorem dp_signs {K : PySem.W.Frag} {H : Hp} (l : List Nat) : Paired (fun v d => Dp K H v d) (signsV l) (l.map fun c => PyData.str (S [c])) := paired_of_map _ _ fun c _ => .str (S [c])
/-- «xs == []», any laid items -/
theorem eq_nilD {K : PySem.W.Frag} {H : Hp} {a p : Addr} {vs : List V} {ds : List PyData} {k : Nat} {Q : VK} (h1 : SqL K H a vs) (hd : Paired (fun v d => Dp K H v d) vs ds) (hp : ∀ d ∈ ds, Pl k d) (hk : k ≤ 60) (h2 : H p = some (.lst [])) (q : Q (.bl (decide (ds = []))) H) : rEqD K (.ref a) (.ref p) H Q :=
  ⟨_, _, .lst h1 (dpAll_of hd), dp_ints (xs := []) (.inl (.inl h2)), (Pl.lst hp).shaped (by omega), (pl_ints []).shaped (by decide), by
    have e : PyData.eqv (.list ds) (.list (([] : List Int).map PyData.int)) = decide (ds = []) := by
      cases ds with
      | nil => rfl
      | cons d t => rfl
    rw [e]
    exact q⟩
theorem filt_map {α β : Type} (p : α → Bool) (f : α → β) : ∀ (l : List α), (l.map fun c => if p c = true then some (f c) else none).filterMap id = (l.filter p).map f
  | [] => rfl
  | c :: l => by
    rw [List.map_cons, List.filterMap_cons]
    cases h : p c with
    | true =>
      rw [List.filter_cons_of_pos h]
      show f c :: _ = f c :: _
      rw [filt_map p f l]
    | false =>
      rw [List.filter_cons_of_neg (by rw [h]; decide)]
      exact filt_map p f l
end Kx
namespace Kx
open PySem PySem.Spec PyProof.Rows L2 SX LamX
section
variable {D : Ends} {σ : L2.St} {H : Hp}
theorem go_and {ta tb : TE} {Q : VK} (h : ta σ H fun x H1 => ∃ c, x = .bl c ∧ if c = true then tb σ H1 Q else Q (.bl false) H1) : tAndV ta tb σ H Q := h
theorem go_chain {r r' : R2} {ta tb tc : TE} {Q : VK} (h : ta σ H fun x H1 => tb σ H1 fun y H2 => r x y H2 fun z H3 => ∃ k, z = .bl k ∧ if k = true then tc σ H3 fun w' H4 => r' y w' H4 Q else Q (.bl false) H3) : tChain r r' ta tb tc σ H Q := h
theorem go_or {ta tb : TE} {Q : VK} (h : ta σ H fun x H1 => ∃ c, x = .bl c ∧ if c = true then Q (.bl true) H1 else tb σ H1 Q) : tOrV ta tb σ H Q := h
theorem go_lst {t : TA} {Q : VK} (h : t σ H fun xs H1 => xs.length ≤ sizeLine ∧ ∀ p, H1 p = none → Q (.ref p) (upd H1 p (.lst xs))) : tLst t σ H Q := h
end
/-- both, told as one truth -/
theorem and_join {c : Bool} {tb : TE} {Q : VK} {σ : L2.St} {H : Hp} (d : Bool) (h : c = true → ∀ Q' : VK, Q' (.bl d) H → tb σ H Q') (q : Q (.bl (c && d)) H) : ∃ c', V.bl c = .bl c' ∧ if c' = true then tb σ H Q else Q (.bl false) H := by
  refine ⟨c, rfl, ?_⟩
  cases c with
  | true => exact h rfl _ q
  | false => exact q
theorem and_b {c : Bool} {A B : Prop} (h1 : c = true → A) (h2 : c = false → B) : if c = true then A else B := by
  cases c with
  | true => rw [if_pos rfl]; exact h1 rfl
  | false => rw [if_neg (by decide)]; exact h2 rfl
theorem map_nil_dec {α β : Type} (f : α → β) (l : List α) [Decidable (l.map f = [])] : decide (l.map f = []) = l.isEmpty := by
  cases l with
  | nil => exact decide_eq_true rfl
  | cons a t => exact decide_eq_false (fun e => nomatch e)
theorem filt_empty (p : Nat → Bool) (l : List Nat) : (l.filter fun c => !p c).isEmpty = l.all p := by
  induction l with
  | nil => rfl
  | cons c t ih =>
    cases h : p c with
    | true =>
      rw [List.filter_cons_of_neg (by rw [h]; decide), List.all_cons, h, ih]
      rfl
    | false =>
      rw [List.filter_cons_of_pos (by rw [h]; rfl), List.all_cons, h]
      rfl
/-- one sign is the blank -/
theorem is_blank (c : Nat) : decide (V.str (S [c]) = V.str (Str.ofString " ")) = decide (c = 32) := by
  by_cases hc : c = 32
  · subst hc
    rfl
  · rw [decide_eq_false hc, decide_eq_false]
    intro e
    injection e with e
    have := congrArg (fun z : Str => z.cps.toList) e
    simp [S] at this
    exact hc (by have h2 : (Str.ofString " ").cps.toList = [32] := rfl; rw [h2] at this; simpa using this)
theorem take_succ {α : Type} {l : List α} {i : Nat} {c : α} (h : l[i]? = some c) : l.take (i + 1) = l.take i ++ [c] := by
  rw [List.take_add_one, h]
  rfl
theorem ixN_last (n : Nat) : ixN (n + 1) (-1) = some n := by
  unfold ixN
  rw [if_neg (by decide), if_pos (by omega)]
  congr 1
  omega
end Kx
namespace Kx
open PySem PySem.Spec PyProof.Rows L2 SX LamX
section
variable {X : Cx} {k : Nat} {f : Addr} {fd : FuncData} {ps : List Str} {sp : Sp} {x : Str} {p pos : Pos} {e1 : Expr} {more : List Expr} {t : TA}
/-! ### a call of a def that is promised only where no repr runs around it; it raises nothing -/
theorem pe_callG (F : FnG X.prog X.w X.K X.mg X.base CX0 k f fd ps sp) (nog : X.A.guards = some []) (room : Room k X.A) (here : Gl X x) (at_f : X.mg x = some (.ref f)) (keeps : PySem.W.keepIn X.K (.ref f) = true) (bd : Binds X.K fd ps [])
    (args : PA X (e1 :: more) t) (nd : (x == ("__debug__" : Str)) = false := by decide) (h1 : starEach (e1 :: more) X.env = (false, eval e1 X.env) :: starEach more X.env := by rfl) (h2 : (backTo pos (starEach more X.env)).any (·.1) = false := by rfl) :
    PE X (.Call (.Name x p) (e1 :: more) [] pos) (tCall sp [] C8.E0 t) := by
  constructor
  intro pins s σ H Q I want
  apply wpAny_Call_Name_kw
  refine ld_glob I here at_f ?_ nd
  refine PySem.W.callWith_K (h₀ := X.base) I.ok.mod.kin keeps (thn (args.run pos pins s σ H _ I want) fun us st hh => ?_) h1 h2
  obtain ⟨vs, Hm, J, rv, promise⟩ := hh
  rw [List.append_nil] at promise
  have size : (us ++ []).length = ps.length := by
    rw [List.append_nil, ← rv.length]
    exact F.len _ _ _ _ promise
  have bound := bd st us J.kIn size
  rw [List.append_nil] at bound
  refine ⟨J.kIn, wpAny_call (codeAny_mono (F.go X.A X.stack st Hm ⟨us, []⟩ us vs Q C8.E0 nog room J.env0 bound rv promise) fun r st2 done => ?_)⟩
  match r, done with
  | .ok (.ret u), done => exact J.after done
  | .error e, done => exact (show False from done).elim
  | .ok .next, done => exact done.elim
  | .ok .brk, done => exact done.elim
  | .ok .cont, done => exact done.elim
end
/-! ### tables stay through draws -/
theorem Tabs.mv {T : List (Addr × Str)} {a c : Addr} {n : Nat} {H H' : Hp} (t : Tabs T H) (w : Wh H a c n) (m : Mv a H H') : Tabs T H' := fun p hp => by
  obtain ⟨ps, h1, h2, h3⟩ := t p hp
  obtain ⟨cs, x, l', g1, _⟩ := w
  refine ⟨ps, m _ _ (ne_of_two h1 g1 (fun z => by cases z)) h1, h2, fun pos cv hc => ?_⟩
  obtain ⟨c', e1, e2⟩ := h3 pos cv hc
  exact ⟨c', e1, m _ _ (ne_of_two e2 g1 (fun z => by cases z)) e2⟩
theorem Tabs.same {T : List (Addr × Str)} {H H' : Hp} (t : Tabs T H) (m : Same H H') : Tabs T H' := fun p hp => (t p hp).ext m
end Kx
namespace Kx
open PySem PySem.Spec PyProof.Rows L2 SX LamX
/-! ### data that repr shows -/
structure Sh (k m : Nat) (d : PyData) : Prop where
  sh : d.showable = true
  nd : d.hasDict = false
  dp : d.depth ≤ k
  lv : d.leavesShort 13 = true
  bk : d.bulk ≤ m
theorem Sh.len {k m : Nat} {d : PyData} (h : Sh k m d) (hm : m ≤ 1048576) : d.shown.length ≤ sizeLine :=
  PyData.shown_fits_bulk (B := 13) (by decide) (by decide) h.lv (Nat.le_trans h.bk hm)
theorem Sh.up {k l m n : Nat} {d : PyData} (h : Sh k m d) (hk : k ≤ l) (hm : m ≤ n) : Sh l n d := ⟨h.sh, h.nd, Nat.le_trans h.dp hk, h.lv, Nat.le_trans h.bk hm⟩
theorem sh_bool (b : Bool) : Sh 0 0 (.bool b) := ⟨rfl, rfl, Nat.le_refl _, rfl, Nat.le_refl _⟩
theorem sh_none : Sh 0 0 .none := ⟨rfl, rfl, Nat.le_refl _, rfl, Nat.le_refl _⟩
theorem sh_int {i : Int} (h : i.natAbs < 1000000000000) : Sh 0 0 (.int i) :=
  ⟨by
    simp only [PyData.showable, decide_eq_true_eq]
    by_cases z : i.natAbs = 0
    · rw [z]; decide
    · exact Nat.lt_of_lt_of_le ((Nat.log2_lt z).mpr (Nat.lt_of_lt_of_le h (by decide : 1000000000000 ≤ 2 ^ 40))) (by decide), rfl, Nat.le_refl _, by simp only [PyData.leavesShort, decide_eq_true_eq]; exact PyData.shown_int_le (by exact h), Nat.le_refl _⟩
theorem sh_str {x : Str} {l : List Nat} (e : x = S l) (h : cdC l) : Sh 0 l.length (.str x) :=
  ⟨rfl, rfl, Nat.le_refl _, by
    subst e
    simp only [PyData.leavesShort, List.all_eq_true, decide_eq_true_eq]
    intro c hc
    have h2 := List.all_eq_true.mp h c (by simpa [S] using hc)
    have h3 := of_decide_eq_true h2
    exact Nat.lt_of_lt_of_le h3 (by decide), by
    subst e
    simp [PyData.bulk, S]⟩
/-- items that are shown, m: their signs and one each -/
inductive ShA (k : Nat) : Nat → List PyData → Prop
  | nil : ShA k 0 []
  | cons {m n : Nat} {d : PyData} {ds : List PyData} : Sh k m d → ShA k n ds → ShA k (m + 1 + n) (d :: ds)
theorem ShA.all {k m : Nat} {ds : List PyData} (h : ShA k m ds) : PyData.showableAll ds = true ∧ PyData.hasDictAll ds = false ∧ PyData.depthAll ds ≤ k ∧ PyData.leavesShortAll 13 ds = true ∧ PyData.bulkAll ds ≤ m := by
  induction h with
  | nil => exact ⟨rfl, rfl, Nat.zero_le _, rfl, Nat.le_refl _⟩
  | cons h1 _ ih =>
    obtain ⟨a, b, c, d, e⟩ := ih
    refine ⟨?_, ?_, ?_, ?_, ?_⟩
    · simp only [PyData.showableAll, h1.sh, a, Bool.and_self]
    · simp only [PyData.hasDictAll, h1.nd, b, Bool.or_self]
    · simp only [PyData.depthAll]
      exact Nat.max_le.mpr ⟨h1.dp, c⟩
    · simp only [PyData.leavesShortAll, h1.lv, d, Bool.and_self]
    · simp only [PyData.bulkAll]
      have := h1.bk
      omega
theorem ShA.lst {k m : Nat} {ds : List PyData} (h : ShA k m ds) : Sh (k + 1) m (.list ds) := by
  obtain ⟨a, b, c, d, e⟩ := h.all
  exact ⟨by simp only [PyData.showable, a], by simp only [PyData.hasDict, b], by simp only [PyData.depth]; omega, by simp only [PyData.leavesShort, d], by simp only [PyData.bulk]; exact e⟩
theorem ShA.tup {k m : Nat} {ds : List PyData} (h : ShA k m ds) : Sh (k + 1) m (.tuple ds) := by
  obtain ⟨a, b, c, d, e⟩ := h.all
  exact ⟨by simp only [PyData.showable, a], by simp only [PyData.hasDict, b], by simp only [PyData.depth]; omega, by simp only [PyData.leavesShort, d], by simp only [PyData.bulk]; exact e⟩
theorem shA_ints {k : Nat} : ∀ (l : List Int), (∀ i ∈ l, i.natAbs < 1000000000000) → ShA k l.length (l.map PyData.int)
  | [], _ => .nil
  | i :: r, h => by
    have := ShA.cons ((sh_int (h i List.mem_cons_self)).up (Nat.zero_le k) (Nat.le_refl _)) (shA_ints r fun j m => h j (List.mem_cons_of_mem _ m))
    have e : 0 + 1 + r.length = (i :: r).length := by rw [List.length_cons]; omega
    rw [e] at this
    exact this
theorem shA_texts {k : Nat} : ∀ (xs : List (List Nat)), (∀ x ∈ xs, cdC x) → ShA k (reachA 0 xs) (xs.map fun x => PyData.str (S x))
  | [], _ => .nil
  | x :: r, h => by
    have := ShA.cons ((sh_str rfl (h x List.mem_cons_self)).up (Nat.zero_le k) (Nat.le_refl _)) (shA_texts r fun y m => h y (List.mem_cons_of_mem _ m))
    have e : ∀ (r : List (List Nat)) (p : Nat), reachA p r = p + reachA 0 r := fun r => by
      induction r with
      | nil => intro p; rfl
      | cons y r ih =>
        intro p
        show reachA (p + y.length + 1) r = p + reachA (0 + y.length + 1) r
        rw [ih, ih (0 + y.length + 1)]
        omega
    have e2 : x.length + 1 + reachA 0 r = reachA 0 (x :: r) := by
      show _ = reachA (0 + x.length + 1) r
      rw [e r (0 + x.length + 1)]
      omega
    rw [e2] at this
    exact this
theorem item_cd : ∀ (l acc it : List Nat), it ∈ itemsA acc l → ∀ c ∈ it, c ∈ acc ∨ c ∈ l
  | [], acc, it, h, c, hc => by
    rw [List.mem_singleton.mp h] at hc
    exact .inl hc
  | d :: r, acc, it, h, c, hc => by
    have h : it ∈ (if d = 32 then acc :: itemsA [] r else itemsA (acc ++ [d]) r) := h
    by_cases e : d = 32
    · rw [if_pos e] at h
      rcases List.mem_cons.mp h with rfl | h
      · exact .inl hc
      · rcases item_cd r [] it h c hc with z | z
        · cases z
        · exact .inr (List.mem_cons_of_mem _ z)
    · rw [if_neg e] at h
      rcases item_cd r _ it h c hc with z | z
      · rcases List.mem_append.mp z with z | z
        · exact .inl z
        · rw [List.mem_singleton.mp z]
          exact .inr List.mem_cons_self
      · exact .inr (List.mem_cons_of_mem _ z)
theorem begins_le : ∀ (xs : List (List Nat)) (p : Nat), ∀ b ∈ beginsA p xs, b ≤ reachA p xs
  | [], p, b, h => by cases h
  | x :: xs, p, b, h => by
    have r : ∀ (xs : List (List Nat)) (p : Nat), p ≤ reachA p xs := fun xs => by
      induction xs with
      | nil => exact fun p => Nat.le_refl _
      | cons y ys ih =>
        intro p
        show p ≤ reachA (p + y.length + 1) ys
        exact Nat.le_trans (by omega) (ih _)
    show b ≤ reachA (p + x.length + 1) xs
    rcases List.mem_cons.mp h with rfl | h
    · exact Nat.le_trans (by omega) (r xs _)
    · exact begins_le xs _ b h
/-- repr of data -/
theorem go_repr {K : PySem.W.Frag} {a : Addr} {d : PyData} {k m : Nat} {H : Hp} {Q : VK} (hd : Dp K H (.ref a) d) (h : Sh k m d) (hk : k ≤ 60) (hm : m ≤ 1048576) (q : Q (.str d.shown) H) : rRepr K [.ref a] H Q :=
  ⟨a, d, rfl, hd, h.sh, h.nd, Nat.le_trans h.dp hk, h.len hm, q⟩
/-- one and the same text is no other -/
theorem rne_self {x : Str} {H : Hp} {Q : Bool → Hp → Prop} (q : Q false H) : ∃ k, V.bl (!decide (V.str x = V.str x)) = .bl k ∧ Q k H := ⟨false, by simp, q⟩
theorem bools_dp {K : PySem.W.Frag} {H : Hp} {p : Addr} {bs : List Bool} (h : H p = some (.lst (bs.map V.bl))) : Dp K H (.ref p) (.list (bs.map PyData.bool)) := .lst (.inl (.inl h)) (by
  clear h
  induction bs with
  | nil => exact .nil
  | cons b t ih => exact .cons (.bl b) ih)
theorem shA_bools {k : Nat} : ∀ (l : List Bool), ShA k l.length (l.map PyData.bool)
  | [] => .nil
  | i :: r => by
    have := ShA.cons ((sh_bool i).up (Nat.zero_le k) (Nat.le_refl _)) (shA_bools r)
    have e : 0 + 1 + r.length = (i :: r).length := by rw [List.length_cons]; omega
    rw [e] at this
    exact this
theorem cnt_count : ∀ (l : List Nat), cnt 32 l = (l.count 32 : Nat)
  | [] => rfl
  | c :: r => by
    rw [cnt_cons, cnt_count r]
    by_cases h : c = 32
    · subst h
      rw [List.count_cons_self]
      simp
      omega
    · rw [List.count_cons_of_ne h]
      simp [h]
theorem count_blank (l : List Nat) : Txt.count (S l) " " = (l.count 32 : Nat) := by
  have h := count_cnt (S l) 32
  have e : (" " : Str) = ⟨#[32]⟩ := rfl
  rw [e, h]
  have e2 : (S l).cps.toList = l := by simp [S]
  rw [e2, cnt_count]
end Kx
namespace Kx
open PySem PySem.Spec PyProof.Rows L2 SX LamX
/-- no positional value, one by name -/
def oneG {α : Type} (us ws : List α) : List α := match us, ws with | [], [u] => [u] | _, _ => []
theorem kb_one {K : PySem.W.Frag} {x qual : Str} {st : Stmt} {f : Addr} {fd : FuncData} {a : Str} (F : Fun K x qual st f fd)
    (h : ∀ (kV doc pm : Value) (an : Option Addr) (cdv ct : Value) (u : Value), bindArgs (PySem.W.fnOf x qual (defArgs st) (defBody st) (defScope st) .none kV doc pm an cdv ct) ⟨[], [(a, u)]⟩ = pure [(a, u)]) :
    KBinds K fd [a] [a] oneG oneG := by
  obtain ⟨oc, od, kV, doc, pm, an, cdv, ct, osl, rfl, lk, hcd⟩ := F.ex
  refine ⟨fun s us ws X l => ?_, fun {vs us zs ws} r1 r2 => ?_⟩
  · match us, ws, l with
    | [], [u], _ => exact .of_eq (h kV doc pm an cdv ct u)
    | [], [], l => cases l
    | [], _ :: _ :: _, l => cases l
    | _ :: _, _, l => cases l
  · cases r1 with
    | cons _ _ => exact .nil
    | nil =>
      cases r2 with
      | nil => exact .nil
      | cons h1 r2 =>
        cases r2 with
        | nil => exact .cons h1 .nil
        | cons _ _ => exact .nil
/-- no positional value, three by name: c, a, b for a, b, c -/
def turnG {α : Type} (us ws : List α) : List α := match us, ws with | [], [c, a, b] => [a, b, c] | _, _ => []
theorem kb_turn {K : PySem.W.Frag} {x qual : Str} {st : Stmt} {f : Addr} {fd : FuncData} {a b c : Str} (F : Fun K x qual st f fd)
    (h : ∀ (kV doc pm : Value) (an : Option Addr) (cdv ct : Value) (u v w : Value), bindArgs (PySem.W.fnOf x qual (defArgs st) (defBody st) (defScope st) .none kV doc pm an cdv ct) ⟨[], [(c, w), (a, u), (b, v)]⟩ = pure [(a, u), (b, v), (c, w)]) :
    KBinds K fd [a, b, c] [c, a, b] turnG turnG := by
  obtain ⟨oc, od, kV, doc, pm, an, cdv, ct, osl, rfl, lk, hcd⟩ := F.ex
  refine ⟨fun s us ws X l => ?_, fun {vs us zs ws} r1 r2 => ?_⟩
  · match us, ws, l with
    | [], [w, u, v], _ => exact .of_eq (h kV doc pm an cdv ct u v w)
    | [], [], l => cases l
    | [], [_], l => cases l
    | [], [_, _], l => cases l
    | [], _ :: _ :: _ :: _ :: _, l => cases l
    | _ :: _, _, l => cases l
  · cases r1 with
    | cons _ _ => exact .nil
    | nil =>
      cases r2 with
      | nil => exact .nil
      | cons h1 r2 =>
        cases r2 with
        | nil => exact .nil
        | cons h2 r2 =>
          cases r2 with
          | nil => exact .nil
          | cons h3 r2 =>
            cases r2 with
            | nil => exact .cons h2 (.cons h3 (.cons h1 .nil))
            | cons _ _ => exact .nil
end Kx
namespace Kx
open PySem PySem.Spec PyProof.Rows L2 SX LamX
theorem go_nil {σ : L2.St} {H : Hp} {Q : List V → Hp → Prop} (h : Q [] H) : tNil σ H Q := h
theorem go_var {σ : L2.St} {H : Hp} {i : Nat} {v : V} {Q : VK} (e : σ[i]? = some (some v)) (h : Q v H) : tVar i σ H Q := ⟨v, e, h⟩
theorem go_or2 {ta tb : TT} {σ : L2.St} {H : Hp} {Q : Bool → Hp → Prop} (h : ta σ H fun b H1 => if b = true then Q true H1 else tb σ H1 Q) : tOr ta tb σ H Q := h
theorem go_not {ta : TT} {σ : L2.St} {H : Hp} {Q : Bool → Hp → Prop} (h : ta σ H fun b H1 => Q (!b) H1) : tNot ta σ H Q := h
theorem go_b {te : TE} {σ : L2.St} {H : Hp} {Q : Bool → Hp → Prop} (h : te σ H fun x H1 => ∃ c, x = .bl c ∧ Q c H1) : tB te σ H Q := h
end Kx
namespace Kx
open PySem PySem.Spec PyProof.Rows L2 SX LamX
theorem ext_at {H H' : Hp} {b : Addr} {o : HO} (e : ExtN H H') (h : H b = some o) (n : ∀ ps, o ≠ .tbl ps := by intro ps z; cases z) : H' b = some o := e b o h n
theorem tyx_ext {K : PySem.W.Frag} {H H' : Hp} {x : V} {n : String} (e : ExtN H H') (h : TyX K H x (.type n)) : TyX K H' x (.type n) := by
  cases h with
  | base b =>
    cases b with
    | non => exact .base .non
    | bl y => exact .base (.bl y)
    | int i => exact .base (.int i)
    | str z => exact .base (.str z)
    | flt z => exact .base (.flt z)
    | lst h => exact .base (.lst (ext_at e h))
    | frz h => exact .base (.frz (ext_at e h))
    | tup h => exact .base (.tup (ext_at e h))
    | dK h => exact .base (.dK (ext_at e h))
    | dT h => exact .base (.dT (ext_at e h))
  | byt b => exact .byt b
  | set h => exact .set (ext_at e h)
  | kList h c => exact .kList h c
  | kTuple h c => exact .kTuple h c
  | kDict h c => exact .kDict h c
  | fTuple h => exact .fTuple (ext_at e h)
  | fDict h => exact .fDict (ext_at e h)
theorem sqL_ext {K : PySem.W.Frag} {H H' : Hp} {a : Addr} {xs : List V} (e : ExtN H H') (h : SqL K H a xs) : SqL K H' a xs := by
  rcases h with (h | ⟨o, h⟩) | h
  · exact .inl (.inl (ext_at e h))
  · exact .inl (.inr ⟨o, ext_at e h⟩)
  · exact .inr h
theorem sqT_ext {K : PySem.W.Frag} {H H' : Hp} {a : Addr} {xs : List V} (e : ExtN H H') (h : SqT K H a xs) : SqT K H' a xs := by
  rcases h with (h | ⟨o, h⟩) | h
  · exact .inl (.inl (ext_at e h))
  · exact .inl (.inr ⟨o, ext_at e h⟩)
  · exact .inr h
/-- ["text", "text"] == ["text", "text"] -/
theorem eq_data {K : PySem.W.Frag} {H : Hp} {a b : Addr} {d e : PyData} {Q : VK} (h1 : Dp K H (.ref a) d) (h2 : Dp K H (.ref b) e) (s1 : SeqAt.shaped d = true) (s2 : SeqAt.shaped e = true) (q : Q (.bl (PyData.eqv d e)) H) : rEqD K (.ref a) (.ref b) H Q :=
  ⟨d, e, h1, h2, s1, s2, q⟩
end Kx
namespace Kx
open PySem PySem.Spec PyProof.Rows L2 SX LamX
theorem reachA_add : ∀ (r : List (List Nat)) (p : Nat), reachA p r = p + reachA 0 r
  | [], p => rfl
  | y :: r, p => by
    show reachA (p + y.length + 1) r = p + reachA (0 + y.length + 1) r
    rw [reachA_add r, reachA_add r (0 + y.length + 1)]
    omega
theorem sum_texts : ∀ xs : List (List Nat), ((xs.map S).map (·.length)).sum + xs.length = reachA 0 xs
  | [] => rfl
  | x :: r => by
    have e : reachA 0 (x :: r) = x.length + 1 + reachA 0 r := by
      show reachA (0 + x.length + 1) r = _
      rw [reachA_add]
      omega
    rw [e, ← sum_texts r]
    simp only [List.map_cons, List.sum_cons, List.length_cons, S_len]
    omega
end Kx
namespace Kx
open PySem PySem.Spec PyProof.Rows L2 SX LamX
theorem S_inj {a b : Str} (h : a.cps.toList = b.cps.toList) : a = b := by
  cases a with
  | mk a =>
    cases b with
    | mk b =>
      have : a = b := Array.toList_inj.mp h
      rw [this]
theorem fold_arr (a : Array Nat) : ∀ (n : Nat) (acc : Array Nat), ((List.replicate n a).foldl (· ++ ·) acc).toList = acc.toList ++ (List.replicate n a.toList).flatten
  | 0, acc => by simp
  | n + 1, acc => by
    rw [List.replicate_succ, List.foldl_cons, fold_arr a n, List.replicate_succ, List.flatten_cons, Array.toList_append, List.append_assoc]
theorem mul_S (l : List Nat) (n : Nat) : Txt.mul (S l) n = S ((List.replicate n l).flatten) := by
  refine S_inj ?_
  have e0 : ∀ m : List Nat, (S m).cps.toList = m := fun m => by simp [S]
  rw [e0]
  unfold Txt.mul
  by_cases h1 : (n : Int) < 1
  · rw [if_pos h1]
    have : n = 0 := by omega
    subst this
    rfl
  · rw [if_neg h1]
    by_cases h2 : ((n : Int) == 1 || (S l).length == 0) = true
    · rw [if_pos h2, e0]
      simp only [Bool.or_eq_true, beq_iff_eq] at h2
      rcases h2 with h2 | h2
      · have : n = 1 := by omega
        subst this
        simp
      · rw [S_len] at h2
        cases l with
        | nil => simp
        | cons _ _ => simp at h2
    · rw [if_neg h2]
      show ((List.replicate (n : Int).toNat (S l).cps).foldl (· ++ ·) #[]).toList = _
      rw [fold_arr, Int.toNat_natCast, e0]
      simp
section
variable {X : Cx}
/-- a text times an int -/
def rRepS : R2 := fun x y H Q => ∃ (l : List Nat) (n : Nat), x = .str (S l) ∧ y = .int n ∧ l.length ≤ 16 ∧ n ≤ 1048576 ∧ Q (.str (S ((List.replicate n l).flatten))) H
theorem op_repS : OpR X (binaryOp .Mult) rRepS := by
  intro pins s σ H x y v u Q I rx ry h
  obtain ⟨l, n, rfl, rfl, h1, h2, q⟩ := h
  obtain ⟨t, rfl⟩ := rx
  obtain ⟨t', rfl⟩ := ry
  refine PySem.W.KXi.mul (n := l.length) (S_len l) h1 (by omega) (by omega) (fun t2 tk _ _ => ⟨.str _, H, I.tok _, ⟨_, rfl⟩, ?_⟩)
  rw [mul_S]
  exact q
end
end Kx
namespace Kx
open PySem PySem.Spec PyProof.Rows L2 SX LamX
section
variable {X : Cx}
/-- a list of whatever values == [] -/
def rEqE : R2 := fun x y H Q => ∃ (a b : Addr) (xs : List V), x = .ref a ∧ y = .ref b ∧ H a = some (.lst xs) ∧ H b = some (.lst []) ∧ Q (.bl xs.isEmpty) H
theorem op_eqE (hu : X.A.units + 64 < cLine) : OpR X (compareOp .Eq) rEqE := by
  intro pins s σ H x y v u Q I rx ry h
  obtain ⟨a, b, xs, rfl, rfl, ha, hb, q⟩ := h
  cases rx
  cases ry
  obtain ⟨z, its, n, r, hl, e⟩ := I.lstM ha
  obtain ⟨z2, its2, n2, r2, hl2, e2⟩ := I.lstM hb
  have l2 : its2 = [] := by
    cases its2 with
    | nil => rfl
    | cons _ _ => simp at hl2
  subst l2
  cases xs with
  | nil =>
    have l1 : its = [] := by
      cases its with
      | nil => rfl
      | cons _ _ => simp at hl
    subst l1
    exact P.eq_list (e := fun _ => true) e e2 rfl (fun j h1 _ => absurd h1 (Nat.not_lt_zero j)) (by omega) ⟨.bl true, H, I, rfl, q⟩
  | cons x r' =>
    exact P.eq_list_lengths e e2 (by
      simp only [List.size_toArray, List.length_nil]
      rw [← hl]
      simp) (by omega) ⟨.bl false, H, I, rfl, q⟩
end
end Kx
namespace Kx
open PySem PySem.Spec PyProof.Rows L2 SX LamX
section
variable {K : PySem.W.Frag} {a : Addr} {xs : List V} {g : TG} {tt : TT} {te : TE} {vs : List Nat} {σ : L2.St} {H : Hp} {k : Nat} {Q : VK}
/-- [e for x in NAME if t], NAME a tuple -/
theorem lc_tupk (zs : List (Option V)) (hz : zs.length = xs.length) (hi : σ[k]? = some (some (.ref a))) (hq : SqT K H a xs) (len : xs.length ≤ 1000000)
    (turn : ∀ (i : Nat) (x : V) (z : Option V) (Hc : Hp) (Q' : VK) (R' : Hp → Prop), xs[i]? = some x → zs[i]? = some z → Same H Hc → (∀ v H4, z = some v → Same Hc H4 → Q' v H4) → (∀ H4, z = none → Same Hc H4 → R' H4) → g x (wipe σ vs) Hc fun σ2 H2 => wipe σ2 vs = wipe σ vs ∧ tt σ2 H2 fun b H3 => if b = true then te σ2 H3 Q' else R' H3)
    (fin : ∀ (D : Addr) (Hc : Hp), Same H Hc → Hc D = some (.lst (zs.filterMap id)) → Q (.ref D) Hc) :
    tLc (iTup K (tVar k)) g tt te vs σ H Q := ⟨_, hi, a, rfl, ⟨_, hq⟩, fun D nD => lc_keep walk_tup zs hz nD len (fun Hc e => Same.t e hq) (fun i x z Hc Hx Q' R' _ hzi e y q r => by
      obtain ⟨rfl, hx⟩ := y
      exact turn i x z _ Q' R' hx hzi e q r) (fin D)⟩
theorem lc_or {I J : TI} (h : tLc I g tt te vs σ H Q ∨ tLc J g tt te vs σ H Q) : tLc (fun σ H R => I σ H R ∨ J σ H R) g tt te vs σ H Q := h
/-- .. a list or a tuple -/
theorem lc_seqk (zs : List (Option V)) (hz : zs.length = xs.length) (hi : σ[k]? = some (some (.ref a))) (hq : SqQ K H a xs) (len : xs.length ≤ 1000000)
    (turn : ∀ (i : Nat) (x : V) (z : Option V) (Hc : Hp) (Q' : VK) (R' : Hp → Prop), xs[i]? = some x → zs[i]? = some z → Same H Hc → (∀ v H4, z = some v → Same Hc H4 → Q' v H4) → (∀ H4, z = none → Same Hc H4 → R' H4) → g x (wipe σ vs) Hc fun σ2 H2 => wipe σ2 vs = wipe σ vs ∧ tt σ2 H2 fun b H3 => if b = true then te σ2 H3 Q' else R' H3)
    (fin : ∀ (D : Addr) (Hc : Hp), Same H Hc → Hc D = some (.lst (zs.filterMap id)) → Q (.ref D) Hc) :
    tLc (fun σ H R => iList K (tVar k) σ H R ∨ iTup K (tVar k) σ H R) g tt te vs σ H Q :=
  lc_or (hq.imp (fun h => lc_lstk zs hz hi h len turn fin) (fun h => lc_tupk zs hz hi h len turn fin))
end
theorem filt_none {α : Type} (p : α → Bool) : ∀ (l : List α), ((l.map fun x => if p x = true then some x else none).filterMap id).isEmpty = l.all fun x => !p x
  | [] => rfl
  | x :: r => by
    cases h : p x with
    | true =>
      simp only [List.map_cons, h, if_true, List.filterMap_cons, id, List.all_cons, Bool.not_true, Bool.false_and]
      rfl
    | false =>
      have := filt_none p r
      simp only [List.map_cons, h, Bool.false_eq_true, if_false, List.filterMap_cons, id, List.all_cons, Bool.not_false, Bool.true_and]
      exact this
theorem core_same {a : Addr} {H H' : Hp} (e : Same (core a H) H') (h : ∀ b o, core a H b = some o → b ≠ a) : Same (core a H) (core a H') := fun b o k => core_at (e b o k) (h b o k) (of_core k).2.2
theorem core_core {a : Addr} {H0 H : Hp} (e : Same (core a H0) H) : Same (core a H0) (core a H) := fun b o k => core_at (e b o k) (of_core k).1 (of_core k).2.2
theorem go_par {i j : Nat} {t : TA} {D : Ends} {σ : L2.St} {H : Hp} (h : tPar i j t D σ H) : tPar i j t D σ H := h
end Kx
namespace Kx
open PySem PySem.Spec PyProof.Rows L2 SX LamX
section
variable {K : PySem.W.Frag} {σ : L2.St} {H : Hp} {ta tb : TE} {k m : Nat}
/-- repr(x) != repr(y), of one and the same data -/
theorem nerepr_t (d : PyData) (hd : Sh k m d) (hk : k ≤ 60) (hm : m ≤ 1048576) {Q : Bool → Hp → Prop}
    (ha : ∀ Q : VK, (∀ a H', Same H H' → Dp K H' (.ref a) d → Q (.ref a) H') → ta σ H Q)
    (hb : ∀ H0, Same H H0 → ∀ Q : VK, (∀ b H', Same H0 H' → Dp K H' (.ref b) d → Q (.ref b) H') → tb σ H0 Q)
    (h : ∀ H', Same H H' → Q false H') : tTest (tOp rNe (tCB (rRepr K) (tCons ta tNil)) (tCB (rRepr K) (tCons tb tNil))) σ H Q := by
  refine go_test (go_op (go_cb (go_cons (ha _ fun a H1 e1 h1 => go_nil (go_repr h1 hd hk hm (go_cb (go_cons (hb H1 e1 _ fun b H2 e2 h2 => go_nil (go_repr h2 hd hk hm ⟨rfl, false, ?_, h H2 (e1.trans e2)⟩)))))))))
  rw [ne_self]
theorem nerepr_if (d : PyData) (hd : Sh k m d) (hk : k ≤ 60) (hm : m ≤ 1048576) {D : Ends} {t u : TS}
    (ha : ∀ Q : VK, (∀ a H', Same H H' → Dp K H' (.ref a) d → Q (.ref a) H') → ta σ H Q)
    (hb : ∀ H0, Same H H0 → ∀ Q : VK, (∀ b H', Same H0 H' → Dp K H' (.ref b) d → Q (.ref b) H') → tb σ H0 Q)
    (h : ∀ H', Same H H' → u D σ H') : tIfS (tTest (tOp rNe (tCB (rRepr K) (tCons ta tNil)) (tCB (rRepr K) (tCons tb tNil)))) t u D σ H :=
  go_if (nerepr_t d hd hk hm ha hb fun H' e => iteF (A := _) (h H' e))
end
theorem sh_bb (b c : Bool) : Sh 1 2 (.list [.bool b, .bool c]) := (shA_bools (k := 0) [b, c]).lst
theorem dp_bc {K : PySem.W.Frag} {H : Hp} {p : Addr} {b c : Bool} (h : H p = some (.lst [.bl b, .bl c])) : Dp K H (.ref p) (.list [.bool b, .bool c]) := .lst (.inl (.inl h)) (.cons (.bl b) (.cons (.bl c) .nil))
end Kx
namespace Kx
open PySem PySem.Spec PyProof.Rows L2 SX LamX
theorem go_c {v : V} {σ : L2.St} {H : Hp} {Q : VK} (h : Q v H) : tC v σ H Q := h
theorem core_sub {a : Addr} {H : Hp} : Same (core a H) H := fun b o h => (of_core h).2.1
theorem core_mvO {a : Addr} {H0 H H' : Hp} (e : Same (core a H0) H) (m : Mv a H H') : Same (core a H0) H' := fun b o h => m b o (of_core h).1 (e b o h)
theorem sz5 : 5 ≤ sizeLine := by decide
theorem rep_flat (n x : Nat) : (List.replicate n [x]).flatten = List.replicate n x := by
  induction n with
  | zero => rfl
  | succ j ih => rw [List.replicate_succ, List.flatten_cons, ih, List.replicate_succ]; rfl
theorem rep_len (n : Nat) (l : List Nat) : ((List.replicate n l).flatten).length = n * l.length := by
  induction n with
  | zero => simp
  | succ j ih => rw [List.replicate_succ, List.flatten_cons, List.length_append, ih, Nat.succ_mul, Nat.add_comm]
theorem rep_mem {n : Nat} {l : List Nat} {i : Nat} (h : i ∈ (List.replicate n l).flatten) : i ∈ l := by
  obtain ⟨m, hm, hi⟩ := List.mem_flatten.mp h
  rw [List.eq_of_mem_replicate hm] at hi
  exact hi
end Kx
namespace Kx
open PySem PySem.Spec PyProof.Rows L2 SX LamX
section
variable {M : Model} {prog : Program} {w : World} {A : Around} {E : Value → Shared → Prop} {s : Shared} {K : PySem.W.Frag} {x C f : Addr} {ox : Obj} {od : Option Obj} {y : Value}
theorem objNe (X : K.In s.heap) (I : PySem.W.InstAt s.heap x ox C od) (hu : A.units < cLine) (hs : PySem.W.findIn K (.ref C) "__eq__" = some (some (.ref f))) (hf : PySem.W.isFn K (.ref f) = true) {Q : Fin → Shared → Prop}
    (hcall : wpAny (model prog w) A (call (.ref f) [.ref x, y]) (fun v s' => ∃ b, v = .bool b ∧ Q (.done (.ret (.bool (!b)))) s') E s) : wpAny (model prog w) A (Builtin.«object.__ne__» ⟨[.ref x, y], []⟩) Q E s := by
  unfold Builtin.«object.__ne__»
  repeat (first
    | with_reducible refine wpAny_cRoomFor hu ?_
    | (refine wpAny_bind (m := callSpecialIfBound? (.ref x) (Str.ofString "__eq__") [y])
        (PySem.W.ifBound_K X I hs hf (wpAny_mono hcall (fun r s' hr => by
          obtain ⟨b, rfl, hq⟩ := hr
          repeat (first | exact hq | exact wpAny_pure hq | exact wpAny_truthy_bool hq | (refine wpAny_bind (m := truthy (.bool _)) (wpAny_truthy_bool ?_)) | wp_step)) fun _ _ e => e)))
    | wp_step)
theorem call_ne {Q : Value → Shared → Prop} (X : K.In s.heap) (I : PySem.W.InstAt s.heap x ox C od) (hu : A.in1.units < cLine) (hm : PySem.W.mroIn K C (.type "object") = some true) (hs : PySem.W.findIn K (.ref C) "__eq__" = some (some (.ref f))) (hf : PySem.W.isFn K (.ref f) = true)
    (hcall : wpAny (model prog w) A.in1 (call (.ref f) [.ref x, y]) (fun v s' => ∃ b, v = .bool b ∧ Q (.bool (!b)) s') E s) : wpAny (model prog w) A (call (.builtin "object.__ne__") [.ref x, y]) Q E s :=
  wpAny_call (codeAny_call_builtin F.cmp_object.ne.plain F.cmpEntry_ne (PySem.W.check_slot F.cmpKind_ne F.cmpSplit_ne (I.type.andThen (PySem.W.looks_mroIn X hm)) (F.cmpArgs_ne _ _) (objNe X I hu hs hf hcall)))
theorem ifBound_objNe {args : List Value} {Q : Option Value → Shared → Prop} (X : K.In s.heap) (I : PySem.W.InstAt s.heap x ox C od) (hs : PySem.W.findIn K (.ref C) "__ne__" = some (some (.builtin "object.__ne__")))
    (h : wpAny M A (call (.builtin "object.__ne__") (.ref x :: args)) (fun v => Q (some v)) E s) : wpAny M A (callSpecialIfBound? (.ref x) "__ne__" args) Q E s := by
  simp only [callSpecialIfBound?, bindSpecialIfBound?]
  refine wpAny_holding (wpAny_bind (wpAny_bind (wpAny_bind (I.type.here ((PySem.W.looks_findIn X hs).here ?_)))))
  refine wpAny_bind (wpAny_askSetting (wpAny_ite ?_))
  have fin : wpAny M A (call (.builtin "object.__ne__") ([.ref x] ++ args) >>= fun v => pure (some v)) Q E s := wpAny_bind (wpAny_mono h (fun v s' h' => wpAny_pure h') fun _ _ h' => h')
  split
  · exact wpAny_bind (wpAny_of_eq (F.cmp_object.ne.bind _) (wpAny_pure (by exact fin)))
  · exact wpAny_tryCatch (wpAny_bind (wpAny_of_eq (F.cmp_object.ne.bind _) (wpAny_pure (by exact fin))))
/-- x != y, x an instance with an == of its own, no != -/
theorem rich_ne {Q : Value → Shared → Prop} {tb : Value} (hu : A.in1.units < cLine) (X : K.In s.heap) (I : PySem.W.InstAt s.heap x ox C od) (hb : PySem.W.Looks (model prog w) s.heap (typeOf y) tb) (hn : PySem.W.notFirst K C tb = true) (hm : PySem.W.mroIn K C (.type "object") = some true)
    (hs : PySem.W.findIn K (.ref C) "__eq__" = some (some (.ref f))) (hf : PySem.W.isFn K (.ref f) = true) (hne : PySem.W.findIn K (.ref C) "__ne__" = some (some (.builtin "object.__ne__")))
    (h : wpAny (model prog w) A.in1 (call (.ref f) [.ref x, y]) (fun v s' => ∃ b, v = .bool b ∧ Q (.bool (!b)) s') E s) : wpAny (model prog w) A (richCompare .NotEq (.ref x) y) Q E s := by
  have one : wpAny (model prog w) A (tryCompare (.ref x) "__ne__" y) (fun r s' => ∃ v, r = some v ∧ Q v s') E s := by
    unfold tryCompare
    refine wpAny_bind (ifBound_objNe X I hne (call_ne X I hu hm hs hf (wpAny_mono h (fun v s' hv => ?_) fun _ _ e => e)))
    obtain ⟨b, rfl, hq⟩ := hv
    exact ⟨b, rfl, wpAny_pure ⟨_, rfl, hq⟩⟩
  have hu0 : A.units < cLine := Nat.lt_of_succ_lt (show A.units + 1 < cLine from hu)
  unfold richCompare
  simp only [oneThing_ref]
  refine wpAny_holding (wpAny_bind (wpAny_cRoomFor hu0 ?_))
  rw [cmpInfo_NotEq]
  dsimp only
  refine wpAny_bind (I.type.here (wpAny_bind (hb.here ?_)))
  split
  · rename_i q
    have e : PySem.W.subIn K tb (.ref C) = some false := by
      rcases Bool.or_eq_true_iff.mp hn with e | e
      · rw [beq_iff_eq.mp e] at q; simp at q
      · exact beq_iff_eq.mp e
    refine wpAny_bind ((PySem.W.looks_subIn X e).here ?_)
    simp only [Bool.false_eq_true, if_false]
    refine wpAny_bind (wpAny_mono one (fun r s' z => ?_) fun _ _ e => e)
    obtain ⟨v, rfl, hq⟩ := z
    exact wpAny_pure hq
  · refine wpAny_bind (wpAny_pure ?_)
    simp only [Bool.false_eq_true, if_false]
    refine wpAny_bind (wpAny_mono one (fun r s' z => ?_) fun _ _ e => e)
    obtain ⟨v, rfl, hq⟩ := z
    exact wpAny_pure hq
theorem sub_list : PySem.W.subIn K (.type "list") (.ref C) = some false := by
  have e : fastBuiltinMro "list" = some [.type "list", .type "object"] := by decide +kernel
  show (fastBuiltinMro "list").map (·.contains (.ref C)) = some false
  rw [e]
  first
    | rfl
    | simp
theorem sub_tuple : PySem.W.subIn K (.type "tuple") (.ref C) = some false := by
  have e : fastBuiltinMro "tuple" = some [.type "tuple", .type "object"] := by decide +kernel
  show (fastBuiltinMro "tuple").map (·.contains (.ref C)) = some false
  rw [e]
  first
    | rfl
    | simp
end
end Kx
namespace Kx
open PySem PySem.Spec PyProof.Rows L2 SX LamX
section
variable {X : Cx} {pins : List (Addr × Obj)} {σ : L2.St} {H : Hp} {s : Shared}
/-- what stands at the other side of an own ==: an instance of the class, a list, a tuple -/
def OthV (K : PySem.W.Frag) (C : Addr) (H : Hp) (y : V) : Prop := ∃ b, y = .ref b ∧ ((∃ dx fs, H b = some (.ins C dx fs)) ∨ ∃ xs, SqQ K H b xs)
theorem oth_looks {C : Addr} {y : V} {u : Value} (I : Inv X pins σ H s) (ry : RelV y u) (h : OthV X.K C H y) : ∃ b tb, y = .ref b ∧ u = .ref b ∧ (∀ M, PySem.W.Looks M s.heap (typeOf u) tb) ∧ PySem.W.notFirst X.K C tb = true := by
  obtain ⟨b, rfl, h⟩ := h
  obtain rfl : u = Value.ref b := ry
  rcases h with ⟨dx, fs, h⟩ | ⟨xs, h | h⟩
  · obtain ⟨mA, J, _⟩ := ins_get I.hok h
    obtain ⟨od, J, _⟩ := J.look
    exact ⟨b, _, rfl, rfl, fun M => J.type, by simp [PySem.W.notFirst]⟩
  · obtain ⟨us, r1, p1, _⟩ := I.list h
    obtain ⟨o, n, e, c1, c2, d⟩ := p1
    have c : o.cls = .type "list" := by first | exact c1 | exact c2
    refine ⟨b, .type "list", rfl, rfl, fun M => c ▸ (PySem.W.Looks.ld e).andThen .now, ?_⟩
    unfold PySem.W.notFirst
    rw [sub_list]
    rfl
  · obtain ⟨us, r1, ⟨o, e, c, _⟩, _⟩ := I.tuple h
    refine ⟨b, .type "tuple", rfl, rfl, fun M => c ▸ (PySem.W.Looks.ld e).andThen .now, ?_⟩
    unfold PySem.W.notFirst
    rw [sub_tuple]
    rfl
end
end Kx
namespace Kx
open PySem PySem.Spec PyProof.Rows L2 SX LamX
section
variable {X : Cx}
/-- x == y by the class's own ==: what it promises, a truth -/
def rEqI (K : PySem.W.Frag) (C : Addr) (sp : Sp) : R2 := fun x y H Q => ∃ a dx fs, x = .ref a ∧ H a = some (.ins C dx fs) ∧ OthV K C H y ∧ sp [x, y] H (fun v H' => ∃ b, v = .bl b ∧ Q (.bl b) H') C8.E0
def rNeI (K : PySem.W.Frag) (C : Addr) (sp : Sp) : R2 := fun x y H Q => ∃ a dx fs, x = .ref a ∧ H a = some (.ins C dx fs) ∧ OthV K C H y ∧ sp [x, y] H (fun v H' => ∃ b, v = .bl b ∧ Q (.bl (!b)) H') C8.E0
theorem own_run {f : Addr} {fd : FuncData} {ps : List Str} {n : Nat} {sp : Sp} {A : Around} {pins : List (Addr × Obj)} {σ : L2.St} {H : Hp} {s : Shared} {a b : Addr} {Q : VK} {R : Value → Shared → Prop} {xe : Value → Shared → Prop}
    (F : FnOk X.prog X.w X.K X.mg X.base C8.CX0 n f fd ps sp) (hb : Binds X.K fd ps []) (hr : Room n A) (hf : A.frames = X.A.frames) (I : Inv X pins σ H s) (h : sp [.ref a, .ref b] H Q C8.E0)
    (back : ∀ u s', EP X pins σ Q u s' → R u s') : wpAny (model X.prog X.w) A (call (.ref f) [.ref a, .ref b]) R xe s := by
  have e0 : Env0 X.prog X.w X.K X.mg X.base A X.stack s H := by
    have e := I.env0
    exact ⟨by rw [hf]; exact e.frames, e.mod, e.bs, e.bsz, e.funs, e.frf, e.hok, e.bare⟩
  have hl := F.len _ _ _ _ h
  have r2 : Vals [V.ref a, V.ref b] [Value.ref a, Value.ref b] := .cons rfl (.cons rfl .nil)
  refine wpAny_call (codeAny_mono (F.run A X.stack s H ⟨[.ref a, .ref b], []⟩ [.ref a, .ref b] [.ref a, .ref b] _ C8.E0 hr e0 (by
    have := hb s [.ref a, .ref b] I.kIn (by simpa using hl)
    simpa using this) r2 h) fun r s' hq => ?_)
  match r, hq with
  | .error e, hq => exact (show False from hq).elim
  | .ok (.ret w), hq => exact back w s' (I.after hq)
  | .ok .next, hq => exact False.elim hq
  | .ok .brk, hq => exact False.elim hq
  | .ok .cont, hq => exact False.elim hq
theorem op_eqI {C f : Addr} {fd : FuncData} {ps : List Str} {n : Nat} {sp : Sp} (F : FnOk X.prog X.w X.K X.mg X.base C8.CX0 n f fd ps sp) (hb : Binds X.K fd ps []) (hr : Room n X.A)
    (hs : PySem.W.findIn X.K (.ref C) "__eq__" = some (some (.ref f))) (hf : PySem.W.isFn X.K (.ref f) = true) : OpR X (compareOp .Eq) (rEqI X.K C sp) := by
  intro pins s σ H x y v u Q I rx ry hq
  obtain ⟨a, dx, fs, rfl, ha, oth, h⟩ := hq
  cases rx
  obtain ⟨mA, J, _⟩ := ins_get I.hok ha
  obtain ⟨od, J, _⟩ := J.look
  obtain ⟨b, tb, rfl, rfl, lk, nf⟩ := oth_looks I ry oth
  obtain ⟨m, hF⟩ := I.fr
  show wpAny (model X.prog X.w) X.A (richCompare .Eq (.ref a) (.ref b)) _ _ s
  refine PySem.W.cmp_K (op := .Eq) (tb := tb) hr.units0 hF I.ok.mod.kin J (lk _) nf hs hf (own_run F hb hr rfl I h fun u s' ep => ?_)
  obtain ⟨z, H', I', rz, c, rfl, q⟩ := ep
  cases rz
  exact ⟨.bl c, H', I', rfl, q⟩
theorem op_neI {C f : Addr} {fd : FuncData} {ps : List Str} {n : Nat} {sp : Sp} (F : FnOk X.prog X.w X.K X.mg X.base C8.CX0 n f fd ps sp) (hb : Binds X.K fd ps []) (hr : Room (n + 1) X.A)
    (hs : PySem.W.findIn X.K (.ref C) "__eq__" = some (some (.ref f))) (hf : PySem.W.isFn X.K (.ref f) = true) (hm : PySem.W.mroIn X.K C (.type "object") = some true) (hne : PySem.W.findIn X.K (.ref C) "__ne__" = some (some (.builtin "object.__ne__"))) :
    OpR X (compareOp .NotEq) (rNeI X.K C sp) := by
  intro pins s σ H x y v u Q I rx ry hq
  obtain ⟨a, dx, fs, rfl, ha, oth, h⟩ := hq
  cases rx
  obtain ⟨mA, J, _⟩ := ins_get I.hok ha
  obtain ⟨od, J, _⟩ := J.look
  obtain ⟨b, tb, rfl, rfl, lk, nf⟩ := oth_looks I ry oth
  show wpAny (model X.prog X.w) X.A (richCompare .NotEq (.ref a) (.ref b)) _ _ s
  refine rich_ne hr.in1.units0 I.kIn J (lk _) nf hm hs hf hne (own_run F hb hr.in1 rfl I h fun u s' ep => ?_)
  obtain ⟨z, H', I', rz, c, rfl, q⟩ := ep
  cases rz
  exact ⟨c, rfl, .bl (!c), H', I', rfl, q⟩
end
end Kx
namespace Kx
open PySem PySem.Spec PyProof.Rows L2 SX LamX
/-! ### texts, each once -/
def onceStep (σ : List Str) (x : Str) : List Str := if σ.any (· == x) = true then σ else σ ++ [x]
def onceS (xs : List Str) : List Str := xs.foldl onceStep []
theorem once_any (σ : List Str) (v k : Str) : (onceStep σ v).any (· == k) = (σ.any (· == k) || decide (k = v)) := by
  unfold onceStep
  by_cases h : σ.any (· == v) = true
  · rw [if_pos h]
    by_cases e : k = v
    · rw [e, h]; simp
    · simp [e]
  · rw [if_neg h, List.any_append]
    by_cases e : k = v
    · rw [e]; simp
    · have hb : (v == k) = false := by simpa [beq_iff_eq] using (fun h' : v = k => e h'.symm)
      simp [hb, e]
theorem once_len (σ : List Str) (v : Str) : (onceStep σ v).length = if σ.any (· == v) = true then σ.length else σ.length + 1 := by
  unfold onceStep
  split <;> simp
theorem once_fold : ∀ (xs σ : List Str), (xs.foldl onceStep σ).length ≤ σ.length + xs.length
  | [], σ => Nat.le_refl _
  | x :: r, σ => by
    have h := once_fold r (onceStep σ x)
    have h2 := once_len σ x
    rw [List.foldl_cons, List.length_cons]
    split at h2 <;> omega
theorem onceS_le (xs : List Str) : (onceS xs).length ≤ xs.length := by
  have h := once_fold xs []
  simpa [onceS] using h
theorem onceS_take {xs : List Str} {i : Nat} {x : Str} (h : xs[i]? = some x) : onceS (xs.take (i + 1)) = onceStep (onceS (xs.take i)) x := by
  unfold onceS
  rw [List.take_add_one, h, List.foldl_append]
  rfl
section
variable {prog : Program} {w : World} {A : Around} {R : Result → Shared → Prop} {I : Addr} {fp wr : List Addr} {G : Array GenState → Array GenState → Prop} {n : Nat} {P : Nat → Value → Prop} {St : Nat → Shared → Prop}
def txSet (prog : Program) (w : World) (h : Heap) (S : Addr) (l : List Str) : Prop := h.SetOf (PySem.strKind prog w) S (fun k => l.any (· == k)) l.length
theorem txSet_at {h h' : Heap} {S : Addr} {l : List Str} (t : txSet prog w h S l) (k : ∀ o, h.get? S = some o → h'.get? S = some o) : txSet prog w h' S l := by
  obtain ⟨o, es, ep, tb, ho, rest⟩ := t
  exact ⟨o, es, ep, tb, k o ho, rest⟩
/-- set.update over texts, whatever walks over them -/
theorem upd_texts (W : WalksS prog w A.in1 I fp wr G n P St) (S : Addr) (hSf : S ∉ fp) (xs : List Str) (hn : n = xs.length) (hval : ∀ i v, P i v → ∃ x t, xs[i]? = some x ∧ v = .str x t) (hb : n + 1 < scanBound) :
    ∀ (k i : Nat) (s : Shared), n - i = k → i ≤ n → St i s → txSet prog w s.heap S (onceS (xs.take i)) →
      (∀ s', Moved (S :: wr) G s s' → txSet prog w s'.heap S (onceS xs) → R (.ok (.ret .none)) s') → codeAny (model prog w) A (.builtin "set.update.loop" ⟨[.ref S, .ref I], []⟩) R s := by
  have out : S ∉ wr := fun h => hSf (W.sub _ h)
  have more : ∀ b ∈ wr, b ∈ S :: wr := fun b hb => List.mem_cons_of_mem _ hb
  intro k
  induction k with
  | zero =>
    intro i s hk hi hst hS hR
    obtain rfl : i = n := by omega
    refine codeAny_builtin PyProof.Rows.F.entry_set_update_loop ?_
    rw [Around.under_plainId PyProof.Rows.F.plain_set_update_loop _]
    show wpAny _ A.in1 (pyNext (.ref I) >>= _) _ _ s
    refine wpAny_bind (W.done s _ _ hst fun s' hm => ?_)
    show wpAny _ A.in1 (ret Value.none) _ _ s'
    rw [hn, List.take_length] at hS
    exact wpAny_pure (hR s' (hm.mono more) (txSet_at hS fun o e => hm.heap S o out e))
  | succ k ih =>
    intro i s hk hi hst hS hR
    have hlt : i < n := by omega
    refine codeAny_builtin PyProof.Rows.F.entry_set_update_loop ?_
    rw [Around.under_plainId PyProof.Rows.F.plain_set_update_loop _]
    show wpAny _ A.in1 (pyNext (.ref I) >>= _) _ _ s
    refine wpAny_bind (W.item i s _ _ hlt hst fun v s' hP hst' hm => ?_)
    obtain ⟨x, t, hx, rfl⟩ := hval i v hP
    have hS' := txSet_at hS fun o e => hm.heap S o out e
    show wpAny _ A.in1 (holding [Value.str x t] (setAdd S (.str x t)) >>= _) _ _ s'
    refine wpAny_bind (wpAny_holding ?_)
    unfold setAdd
    refine wpAny_holding (wpAny_bind ((PySem.strKind prog w).pyHash (k := x) (strKind_is _ _ _ _) ?_))
    have room : (onceS (xs.take i)).length + 1 < scanBound := by
      have h1 := onceS_le (xs.take i)
      rw [List.length_take] at h1
      omega
    refine wpAny_setAddHashed_of (knd := PySem.strKind prog w) (s := { s' with toks := s'.toks + 1 }) (strKind_is _ _ _ _) rfl hS' room fun h' same hS2 => ?_
    have hS3 : txSet prog w h' S (onceS (xs.take (i + 1))) := PyProof.Rows.SetOf_congr hS2 (fun k' => by rw [onceS_take hx, once_any]) (by rw [onceS_take hx, once_len])
    refine wpAny_pure ⟨plainId_quiet PyProof.Rows.F.plain_set_update_loop _, ih (i + 1) _ (by omega) hlt (W.frame _ s' _ _ hst' (Nat.le_succ _) fun b hb o e => ?_) hS3 fun s2 hm2 hS4 => ?_⟩
    · rw [same.2 b (fun h : b = S => hSf (by rw [← h]; exact hb))]
      exact e
    · refine hR s2 (Moved.trans W.gtrans ((hm.mono more).then_heap (Nat.le_succ _) fun b o hb e => ?_) hm2) hS4
      rw [same.2 b (fun h : b = S => hb (by rw [h]; exact List.mem_cons_self))]
      exact e
end
section
variable {prog : Program} {w : World} {A : Around} {E : Value → Shared → Prop} {s : Shared}
abbrev freshSet (led : Bool) : Obj := { cls := .type "set", dict := none, data := .set #[] 0 (.fresh 0 0 led) }
/-- what a set of these texts leaves -/
def MadeTx (prog : Program) (w : World) (s : Shared) (xs : List Str) (h' : Heap) : Prop := txSet prog w h' s.heap.objs.size (onceS xs) ∧ ∀ b o, s.heap.get? b = some o → h'.get? b = some o
/-- set(x): what its __init__ has to do -/
theorem set_made {x : Value} {xs : List Str} {Q : Value → Shared → Prop}
    (hin : ∀ (led : Bool) (A' : Around) (E' : Value → Shared → Prop) (Q' : Fin → Shared → Prop), A'.handled = A.handled → (∀ h' tk, MadeTx prog w s xs h' → Q' (.done (.ret .none)) { s with heap := h', toks := tk }) →
      wpAny (model prog w) A' (Builtin.«set.__init__» ⟨[.ref s.heap.objs.size, x], []⟩) Q' E' { s with heap := s.heap.push (freshSet led) })
    (h : ∀ (h' : Heap) (tk : Nat), MadeTx prog w s xs h' → Q (.ref s.heap.objs.size) { s with heap := h', toks := tk }) : wpAny (model prog w) A (call (.type "set") [x]) Q E s := by
  obtain ⟨c, tl, hmro⟩ := PySem.F.called_set.mro
  have hmade := PySem.F.called_set.made
  have hsub := PySem.F.called_set.sub
  refine wpAny_call (codeAny_of_tree ?_)
  show wpAny _ _ (callAny (.type "set") _) _ _ _
  refine wpAny_pure ⟨Code.quiet_builtin _ (by decide +kernel), codeAny_builtin PySem.F.entry_type_call ?_⟩
  rw [Around.under_plain (weight_type_call_type "set" [x] []) rfl]
  have h1 := PySem.F.called_set.notType
  have h2 := PySem.F.called_set.canCreate
  have hct := PySem.F.typeCall_set_1 x
  repeat (any_goals (first | assumption | wp_step))
  refine codeAny_mono (code_set_new_1 x (E := E) (Q₁ := fun obj s₁ => ∃ led : Bool, obj = .ref s.heap.objs.size ∧ s₁ = { s with heap := s.heap.push (freshSet led) }) fun led => ⟨led, rfl, rfl⟩) fun r s₁ hr => ?_
  match r, hr with
  | .error e, hr => exact hr
  | .ok .next, hr => exact hr.elim
  | .ok .brk, hr => exact hr.elim
  | .ok .cont, hr => exact hr.elim
  | .ok (.ret obj), hr =>
    obtain ⟨led, rfl, rfl⟩ := hr
    have hS : (s.heap.push (freshSet led)).get? s.heap.objs.size = some (freshSet led) := Heap.get?_push_size _ rfl
    have hT : Shared.TypeIs { s with heap := s.heap.push (freshSet led) } (.ref s.heap.objs.size) "set" := ⟨_, hS, rfl⟩
    have hli := PySem.F.called_set.init.lookup
    have hbi := PySem.F.called_set.init.bind (.ref s.heap.objs.size)
    repeat (any_goals (first | assumption | wp_step))
    refine codeAny_mono (codeAny_call_builtin (R := wants (fun r s₂ => r = .none ∧ ∃ h' tk, s₂ = { s with heap := h', toks := tk } ∧ MadeTx prog w s xs h') E) PySem.F.called_set.init.plain PySem.F.entry_set_init (check_set_init_1 hT ?_)) fun r₂ s₂ hr₂ => ?_
    · exact hin led _ _ _ rfl fun h' tk m => ⟨rfl, h', tk, rfl, m⟩
    · match r₂, hr₂ with
      | .error e, hr₂ => exact hr₂
      | .ok .next, hr₂ => exact hr₂.elim
      | .ok .brk, hr₂ => exact hr₂.elim
      | .ok .cont, hr₂ => exact hr₂.elim
      | .ok (.ret r), hr₂ =>
        obtain ⟨rfl, h', tk, rfl, m⟩ := hr₂
        repeat (any_goals (first | assumption | wp_step))
        exact h _ _ m
end
end Kx
namespace Kx
open PySem PySem.Spec PyProof.Rows L2 SX LamX
section
variable {prog : Program} {w : World} {A : Around} {E : Value → Shared → Prop} {s : Shared}
theorem strs_get : ∀ {us : List Value} {xs : List Str}, StrsAre us xs → ∀ (i : Nat) (v : Value), us[i]? = some v → ∃ x t, xs[i]? = some x ∧ v = .str x t
  | _, _, .nil, i, v, h => by simp at h
  | _, _, .cons y t hr, 0, v, h => by
    simp at h
    exact ⟨y, t, rfl, h.symm⟩
  | _, _, .cons y t hr, i + 1, v, h => by
    simp only [List.getElem?_cons_succ] at h
    exact strs_get hr i v h
theorem strs_len : ∀ {us : List Value} {xs : List Str}, StrsAre us xs → us.length = xs.length
  | _, _, .nil => rfl
  | _, _, .cons _ _ r => by rw [List.length_cons, List.length_cons, strs_len r]
/-- set(x), a list or a tuple of texts -/
theorem call_set_texts {l : Addr} {items : Array Value} {xs : List Str} {Q : Value → Shared → Prop} (hh : A.handled = none) (hl : s.heap.IsList l items ∨ s.heap.IsTuple l items) (hi : StrsAre items.toList xs) (hb : xs.length + 1 < scanBound)
    (h : ∀ (h' : Heap) (tk : Nat), MadeTx prog w s xs h' → Q (.ref s.heap.objs.size) { s with heap := h', toks := tk }) : wpAny (model prog w) A (call (.type "set") [.ref l]) Q E s := by
  refine set_made (xs := xs) (fun led A' E' Q' hA q => ?_) h
  have isz : items.size = xs.length := by rw [← strs_len hi, Array.length_toList]
  have hS : (s.heap.push (freshSet led)).get? s.heap.objs.size = some (freshSet led) := Heap.get?_push_size _ rfl
  have hlS : l < s.heap.objs.size := by
    rcases hl with ⟨o, ho, _⟩ | ⟨o, ho, _⟩ <;> exact Heap.lt_size ho
  have hneI : l ≠ (s.heap.push (freshSet led)).objs.size := by
    rw [Heap.size_push]
    exact Nat.ne_of_lt (Nat.lt_succ_of_lt hlS)
  have hSf : s.heap.objs.size ∉ [(s.heap.push (freshSet led)).objs.size, l] := by
    rw [Heap.size_push]
    simp only [List.mem_cons, List.not_mem_nil, or_false, not_or]
    exact ⟨Nat.ne_of_lt (Nat.lt_succ_self _), Nat.ne_of_gt hlS⟩
  have hval : ∀ (i : Nat) (v : Value), items[i]? = some v → ∃ x t, xs[i]? = some x ∧ v = .str x t := fun i v hv => strs_get hi i v (by rw [Array.getElem?_toList]; exact hv)
  have hh3 : A'.in1.handled = none := by simp [hA, hh]
  have done : ∀ (it : Obj) (s' : Shared), Moved (s.heap.objs.size :: [(s.heap.push (freshSet led)).objs.size]) (fun a b => b = a) { s with heap := (s.heap.push (freshSet led)).push it } s' → txSet prog w s'.heap s.heap.objs.size (onceS xs) →
      wpAny (model prog w) A' (ret Value.none) Q' E' s' := fun it s' hm hS' => by
    obtain ⟨h', g', d', tk', os'⟩ := s'
    have eg : g' = s.gens := hm.gens
    have ed : d' = s.drawn := hm.drawn
    have eo : os' = s.os := hm.os
    subst eg
    subst ed
    subst eo
    refine wpAny_pure (q h' tk' ⟨hS', fun b o e => ?_⟩)
    have hb0 : b < s.heap.objs.size := Heap.lt_size e
    have hb1 : b ≠ s.heap.objs.size := Nat.ne_of_lt hb0
    have hb2 : b ≠ (s.heap.push (freshSet led)).objs.size := by
      rw [Heap.size_push]
      exact Nat.ne_of_lt (Nat.lt_succ_of_lt hb0)
    exact hm.heap b o (by simp only [List.mem_cons, List.not_mem_nil, or_false, not_or]; exact ⟨hb1, hb2⟩) (Heap.get?_push_of_some _ (Heap.get?_push_of_some _ e))
  unfold Builtin.«set.__init__» noKeywords Builtin.Frozenset.updateFrom
  rcases hl with hl | hl
  · obtain ⟨ol, hol, hcl, nl, hdl⟩ := hl
    obtain ⟨ocls, odict, odata, oslots⟩ := ol
    simp only at hcl hdl
    subst hcl
    subst hdl
    have hol' : (s.heap.push (freshSet led)).get? l = some { cls := .type "list", dict := odict, data := .seq items nl, slots := oslots } := Heap.get?_push_of_some _ hol
    have hsls := PySem.F.sub_list_set
    have hslf := PySem.F.sub_list_frozenset
    have hne : (Value.type "list" == Value.type "dict") = false := by decide
    have hl1 : (s.heap.push (freshSet led)).IsList l items := ⟨_, hol', rfl, nl, rfl⟩
    generalize hPI : pyIter = PI
    wp_walk
    subst hPI
    refine wpAny_pyIter_list hl1 ?_
    refine wpAny_bind (wpAny_runValue ?_)
    refine upd_texts ((Walks.list hh3 _ l hneI items).toS) s.heap.objs.size hSf xs isz hval (by omega) (items.size - 0) 0 _ (by omega) (Nat.zero_le _) ⟨⟨_, Heap.get?_push_size _ rfl, rfl, rfl⟩, (hl1.push _)⟩ ?_ (fun s' hm hS' => ?_)
    · have hget : ((s.heap.push (freshSet led)).push { cls := .type "list_iterator", data := .fields #[.ref l, .int 0 0] }).get? s.heap.objs.size = some (freshSet led) := Heap.get?_push_of_some _ hS
      exact PyProof.Rows.SetOf_congr ((PyProof.Rows.setObjOf_fresh (knd := PySem.strKind prog w) led).setOf hget (by unfold scanBound; omega)) (fun _ => rfl) rfl
    · exact wpAny_pure (done _ s' hm hS')
  · obtain ⟨ol, hol, hcl, nl, hdl⟩ := hl
    obtain ⟨ocls, odict, odata, oslots⟩ := ol
    simp only at hcl hdl
    subst hcl
    subst hdl
    have hol' : (s.heap.push (freshSet led)).get? l = some { cls := .type "tuple", dict := odict, data := .seq items nl, slots := oslots } := Heap.get?_push_of_some _ hol
    have hsls := PySem.F.sub_tuple_set
    have hslf := PySem.F.sub_tuple_frozenset
    have hne : (Value.type "tuple" == Value.type "dict") = false := by decide
    have hl1 : (s.heap.push (freshSet led)).IsTuple l items := ⟨_, hol', rfl, nl, rfl⟩
    generalize hPI : pyIter = PI
    wp_walk
    subst hPI
    refine wpAny_pyIter_tuple hl1 ?_
    refine wpAny_bind (wpAny_runValue ?_)
    refine upd_texts ((Walks.tuple hh3 _ l hneI items).toS) s.heap.objs.size hSf xs isz hval (by omega) (items.size - 0) 0 _ (by omega) (Nat.zero_le _) ⟨⟨_, Heap.get?_push_size _ rfl, rfl, rfl⟩, (hl1.push _)⟩ ?_ (fun s' hm hS' => ?_)
    · have hget : ((s.heap.push (freshSet led)).push { cls := .type "tuple_iterator", data := .fields #[.ref l, .int 0 0] }).get? s.heap.objs.size = some (freshSet led) := Heap.get?_push_of_some _ hS
      exact PyProof.Rows.SetOf_congr ((PyProof.Rows.setObjOf_fresh (knd := PySem.strKind prog w) led).setOf hget (by unfold scanBound; omega)) (fun _ => rfl) rfl
    · exact wpAny_pure (done _ s' hm hS')
end
end Kx
namespace Kx
open PySem PySem.Spec PyProof.Rows L2 SX LamX
section
variable {X : Cx}
/-- len(set(e)), e a list or a tuple of texts -/
def tLenSetN (K : PySem.W.Frag) (ta : TE) : TE := fun σ H Q => ta σ H fun x H1 => ∃ (l : Addr) (xs : List Str), x = .ref l ∧ SqQ K H1 l (xs.map V.str) ∧ xs.length ≤ 4000 ∧ Q (.int ((onceS xs).length : Nat)) H1
theorem pe_lenSetN {a : Expr} {ta : TE} {p p2 q pos : Pos} (hg : Gl X "len") (hm : X.mg "len" = none) (hg2 : Gl X "set") (hm2 : X.mg "set" = none) (ha : PE X a ta) (hc : X.calm = true := by rfl)
    (na : starEach [a] X.env = (false, eval a X.env) :: starEach [] X.env := by rfl) : PE X (.Call (.Name "len" p) [.Call (.Name "set" p2) [a] [] q] [] pos) (tLenSetN X.K ta) := by
  refine ⟨fun pins s σ H Q I h => ?_⟩
  refine Call_ (ld_blt I hg hm boot_len ?_)
  refine PyProof.Rows.callWith_builtin1 (PyProof.Rows.args_cons ?_ rfl) rfl rfl
  refine Call_ (ld_blt I hg2 hm2 boot_set ?_)
  refine PyProof.Rows.callWith_type1 (PyProof.Rows.args_cons (thn (ha.run pins s σ H _ I h) fun v s1 ⟨x, H1, I1, r1, q1⟩ => PyProof.Rows.args_nil ?_) na) na rfl
  obtain ⟨l, xs, rfl, hq, h1, q1⟩ := q1
  cases r1
  have fin : ∀ (h' : Heap) (tk : Nat), MadeTx X.prog X.w s1 xs h' →
      wpAny (model X.prog X.w) X.A (spliced (backTo pos (starEach [] X.env))) (fun vs s₂ => wpAny (model X.prog X.w) X.A (call (.builtin "len") (Value.ref s1.heap.objs.size :: vs)) (EP X pins σ Q) X.xe s₂) X.xe { s1 with heap := h', toks := tk } := fun h' tk m => by
    refine PyProof.Rows.args_nil ?_
    obtain ⟨⟨o, es, ep, t, ho, hex, hd, _, _, _, hf, hn⟩, hk⟩ := m
    have I2 : Inv X pins σ H1 { s1 with heap := h', toks := tk } := I1.kept fun b o e => hk b o e
    have h2 := onceS_le xs
    exact call_len_set ho hex hd hf (by rw [hn] <;> omega) ⟨.int ((onceS xs).length : Nat), H1, I2.tok _, ⟨_, by rw [hn]⟩, q1⟩
  rcases hq with hq | hq
  · obtain ⟨its, r, pl, hz⟩ := I1.list hq
    exact call_set_texts (I1.ok.hd hc) (.inl pl.isList) (by simpa using strsAre_of r) (by unfold scanBound; omega) fin
  · obtain ⟨its, r, pl, hz⟩ := I1.tuple hq
    exact call_set_texts (I1.ok.hd hc) (.inr pl) (by simpa using strsAre_of r) (by unfold scanBound; omega) fin
end
theorem onceS_nodup : ∀ (xs : List Str), (onceS xs).length = xs.length ↔ xs.Nodup := by
  have key : ∀ (xs σ : List Str), σ.Nodup → ((xs.foldl onceStep σ).length = σ.length + xs.length ↔ (xs.Nodup ∧ ∀ x ∈ xs, x ∉ σ)) := by
    intro xs
    induction xs with
    | nil => intro σ _; simp
    | cons x r ih =>
      intro σ hσ
      rw [List.foldl_cons, List.length_cons]
      by_cases hx : σ.any (· == x) = true
      · have e : onceStep σ x = σ := by unfold onceStep; rw [if_pos hx]
        have hm : x ∈ σ := by
          obtain ⟨y, hy, e⟩ := List.any_eq_true.mp hx
          rw [← beq_iff_eq.mp e]
          exact hy
        rw [e]
        have := once_fold r σ
        constructor
        · intro h; omega
        · intro ⟨_, h⟩
          exact absurd hm (h x List.mem_cons_self)
      · have e : onceStep σ x = σ ++ [x] := by unfold onceStep; rw [if_neg hx]
        have hm : x ∉ σ := fun hm => hx (List.any_eq_true.mpr ⟨x, hm, by simp⟩)
        rw [e]
        have hn : (σ ++ [x]).Nodup := List.nodup_append.mpr ⟨hσ, by simp, fun a ha b hb => by
          rw [List.mem_singleton.mp hb]
          exact fun e => hm (e ▸ ha)⟩
        have h := ih (σ ++ [x]) hn
        rw [List.length_append, List.length_singleton] at h
        have e2 : σ.length + 1 + r.length = σ.length + (r.length + 1) := by omega
        rw [e2] at h
        rw [h, List.nodup_cons]
        constructor
        · rintro ⟨h1, h2⟩
          refine ⟨⟨fun hr => h2 x hr (List.mem_append_right _ (List.mem_singleton.mpr rfl)), h1⟩, fun y hy => ?_⟩
          rcases List.mem_cons.mp hy with rfl | hy
          · exact hm
          · exact fun z => h2 y hy (List.mem_append_left _ z)
        · rintro ⟨⟨h1, h2⟩, h3⟩
          refine ⟨h2, fun y hy z => ?_⟩
          rcases List.mem_append.mp z with z | z
          · exact h3 y (List.mem_cons_of_mem _ hy) z
          · rw [List.mem_singleton.mp z] at hy
            exact h1 hy
  intro xs
  have h := key xs [] List.nodup_nil
  simpa [onceS] using h
end Kx
namespace Kx
open PySem PySem.Spec PyProof.Rows L2 SX LamX
section
variable {X : Cx}
/-- tuple(list): the tuple is known to the object -/
theorem call_tuple_frz : CallR X (.type "tuple") (fun xs H Q => ∃ p ys, xs = [.ref p] ∧ ((SqL X.K H p ys ∧ ∀ l o, H l = none → o.dict = none → Q (.ref l) (upd H l (.frz o (.tup ys)))) ∨ (SqT X.K H p ys ∧ Q (.ref p) H))) := by
  intro pins s σ H xs us Q I r h
  obtain ⟨p, ys, rfl, h⟩ := h
  obtain ⟨u, rfl, rx⟩ := vals1 r
  cases rx
  rcases h with ⟨hq, q⟩ | ⟨hq, q⟩
  · obtain ⟨its, r', pl, hz⟩ := I.list hq
    have hlen := r'.length
    refine call_tuple_list pl.isList (fun h' kp => ?_) (by simp only [List.size_toArray] <;> omega)
    have I1 : Inv X pins σ H { s with heap := h' } := I.kept (t' := s.toks) kp
    have I2 : Inv X pins σ (upd H h'.objs.size (.frz { cls := .type "tuple", data := .seq its.toArray } (.tup ys))) { s with heap := h'.push { cls := .type "tuple", data := .seq its.toArray } } :=
      I1.laid (t' := s.toks) (fun b o e => Heap.get?_push_of_some _ e) (Nat.le_refl _) (show ObjOk X.prog X.w _ _ _ (.frz _ (.tup ys)) from ⟨Heap.get?_push_size _ rfl, hz, its, r', IsTup.new _ _⟩)
    exact ⟨.ref h'.objs.size, _, I2, rfl, q _ _ (I1.hok.fresh (Nat.le_refl _)) rfl⟩
  · obtain ⟨its, r', pl, hz⟩ := I.tuple hq
    exact call_tuple_same pl ⟨.ref p, H, I, rfl, q⟩
/-- a tuple that has no dict -/
def TupN (K : PySem.W.Frag) (H : Hp) (p : Addr) : Prop := (∃ o xs, H p = some (.frz o (.tup xs)) ∧ o.dict = none) ∨ ∃ o, K.lookup p = some o ∧ o.cls = .type "tuple" ∧ o.dict = none
theorem TupN.same {K : PySem.W.Frag} {H H' : Hp} {p : Addr} (e : Same H H') (h : TupN K H p) : TupN K H' p := by
  rcases h with ⟨o, xs, h1, h2⟩ | h
  · exact .inl ⟨o, xs, e _ _ h1, h2⟩
  · exact .inr h
theorem TupN.ext {K : PySem.W.Frag} {H H' : Hp} {p : Addr} (e : ExtN H H') (h : TupN K H p) : TupN K H' p := by
  rcases h with ⟨o, xs, h1, h2⟩ | h
  · exact .inl ⟨o, xs, ext_at e h1, h2⟩
  · exact .inr h
theorem tupN_ty {pins : List (Addr × Obj)} {σ : L2.St} {H : Hp} {s : Shared} {y : V} {v : Value} (I : Inv X pins σ H s) (r : RelV y v) (ty : ∃ p, y = .ref p ∧ TupN X.K H p) :
    s.TypeIs v "tuple" ∧ ∀ a, v = .ref a → ∃ ob, s.heap.get? a = some ob ∧ ob.dict = none := by
  obtain ⟨p, rfl, h⟩ := ty
  cases r
  have key : ∃ ob, s.heap.get? p = some ob ∧ ob.cls = .type "tuple" ∧ ob.dict = none := by
    rcases h with ⟨o, xs, e, d⟩ | ⟨o, e, c, d⟩
    · have h1 : ObjOk X.prog X.w H s.heap p (.frz o (.tup xs)) := I.hok p _ e
      obtain ⟨g, _, its, _, ⟨o2, g2, c2, _⟩⟩ := h1
      rw [g] at g2
      cases g2
      exact ⟨o, g, c2, d⟩
    · exact ⟨o, I.kIn _ _ e, c, d⟩
  obtain ⟨ob, g, c, d⟩ := key
  refine ⟨⟨ob, g, c⟩, fun b hb => ?_⟩
  cases hb
  exact ⟨ob, g, d⟩
def tTM (K : PySem.W.Frag) (r : V → List V → Hp → VK → Prop) (to : TE) (t : TA) : TE := fun σ H Q => to σ H fun x H1 => (∃ p, x = .ref p ∧ TupN K H1 p) ∧ t σ H1 fun xs H2 => r x xs H2 Q
variable {o e : Expr} {es : List Expr} {to : TE} {t : TA} {name : Str} {apos cpos : Pos} {id : String} {r : V → List V → Hp → VK → Prop}
/-- o.m(e, ..), o a tuple -/
theorem pe_tm (slot : Slot "tuple" name id) (hty : typeOf (.builtin id) = pure (.type "method_descriptor")) (hm : MtR X id r) (ho : PE X o to) (ha : PA X (e :: es) t)
    (hbase : attributeBase o name X.env (eval o X.env) = eval o X.env := by rfl)
    (hfew : ((backTo cpos (starEach (e :: es) X.env)).all (fun x => !x.1) && (backToKw cpos (keywordEach [] X.env)).all (fun x => x.1.isSome)
      && decide ((e :: es).length + ([] : List Keyword).length + (if ([] : List Keyword).isEmpty then 0 else 1) < 30)) = true := by rfl)
    (hline : (apos.endLine == cpos.line) = true := by rfl) (hs : starEach (e :: es) X.env = (false, eval e X.env) :: starEach es X.env := by rfl) (hplain : (backTo cpos (starEach es X.env)).any (·.1) = false := by rfl) :
    PE X (.Call (.Attribute o name apos) (e :: es) [] cpos) (tTM X.K r to t) := by
  refine ⟨fun pins s σ H Q I h => ?_⟩
  refine wpAny_Call_method_late hbase hfew hline rfl (thn (ho.run pins s σ H _ I h) fun v s1 ⟨x, H1, I1, r1, ty, q1⟩ => ?_)
  obtain ⟨h1, h2⟩ := tupN_ty I1 r1 ty
  refine ⟨"tuple", id, PySem.F.plainAttrs_tuple, slot, hty, h1, h2, ?_⟩
  have hA := ha.run cpos pins s1 σ H1 _ I1 q1
  rw [hs] at hA ⊢
  refine Calls.callWith_builtin (by show (false || (backTo cpos (starEach es X.env)).any (·.1)) = false; rw [hplain] <;> rfl) (Calls.evalArgs_plain ?_)
  exact thn hA fun us s2 ⟨vs, H2, I2, r2, q2⟩ => hm pins s2 σ H2 x vs v us Q I2 r1 r2 q2
end
section
variable {X : Cx} {CX : CXT} {k : Nat} {f C : Addr} {fd : FuncData} {ps ks : List Str} {sp : Sp} {E : XK} {o : Expr} {m : Str} {apos pos : Pos} {kws : List Keyword} {ta : TE} {tk : TA} {g : List Value → List Value → List Value} {gV : List V → List V → List V}
def tMethK (C : Addr) (m : Str) (sp : Sp) (gV : List V → List V → List V) (E : XK) (ta : TE) (tk : TA) : TE := fun σ H Q => ta σ H fun x H1 => ∃ a dx fs, x = .ref a ∧ H1 a = some (.ins C dx fs) ∧ fs.lookup m = none ∧ tk σ H1 fun zs H2 => sp (gV [x] zs) H2 Q E
/-- o.m(k = v) -/
theorem pe_methK0 {pl : Sem Bool} (he : PE X o ta) (c : Cls X.K C) (hm : Meth X.K C m f) (F : FnOk X.prog X.w X.K X.mg X.base CX k f fd ps sp) (hr : Room k X.A) (hb : KBinds X.K fd ps ks g gV) (hx : Passes CX X E) (hkw : PK X kws tk)
    (hall : (backToKw pos (keywordEach kws X.env)).all (·.1.isSome) = true := by rfl) (hks : (backToKw pos (keywordEach kws X.env)).filterMap (·.1) = ks := by rfl)
    (hpl : ((backTo pos (starEach [] X.env)).any (·.1) || (backToKw pos (keywordEach kws X.env)).any (·.1.isNone)) = false := by rfl)
    (ht : eval (.Call (.Attribute o m apos) [] kws pos) X.env = (do
      let ov ← eval o X.env
      standAt apos.atName
      let (f, first) ← holding [ov] (getMethod ov m pl)
      callWith pos f first (backTo pos (starEach [] X.env)) (backToKw pos (keywordEach kws X.env))) := by rfl) :
    PE X (.Call (.Attribute o m apos) [] kws pos) (tMethK C m sp gV E ta tk) := by
  refine ⟨fun pins s σ H Q I h => ?_⟩
  refine PySem.W.methodCall_KW (pl := pl) (thn (he.run pins s σ H _ I h) fun u s1 ⟨x, H1, I1, rx, a, dx, fs, ex, ea, l, q⟩ => ?_) ht
  subst ex
  obtain rfl : u = Value.ref a := rx
  refine getmeth_ok I1 ea c hm l ?_
  show wpAny _ _ (callWith pos (.ref f) [.ref a] (backTo pos (starEach [] X.env)) (backToKw pos (keywordEach kws X.env))) _ _ _
  refine PySem.W.callWith_KW0 (first := [.ref a]) (h₀ := X.base) I.ok.mod.kin hm.kp hall (thn (hkw.run pos pins s1 σ H1 _ I1 q) fun ws s2 ⟨zs, H2, I2, rz, q2⟩ => ⟨I2.kIn, ?_⟩) hpl
  rw [hks]
  exact run_fnk (us := [.ref a]) (vs := [.ref a]) F hr hb hx I2 (.cons rfl .nil) rz q2
end
/-- self, and one by name -/
def selfG {α : Type} (us ws : List α) : List α := match us, ws with | [s], [u] => [s, u] | _, _ => []
theorem kb_self {K : PySem.W.Frag} {x qual : Str} {st : Stmt} {f : Addr} {fd : FuncData} {a b : Str} (F : Fun K x qual st f fd)
    (h : ∀ (kV doc pm : Value) (an : Option Addr) (cdv ct : Value) (s u : Value), bindArgs (PySem.W.fnOf x qual (defArgs st) (defBody st) (defScope st) .none kV doc pm an cdv ct) ⟨[s], [(b, u)]⟩ = pure [(a, s), (b, u)]) :
    KBinds K fd [a, b] [b] selfG selfG := by
  obtain ⟨oc, od, kV, doc, pm, an, cdv, ct, osl, rfl, lk, hcd⟩ := F.ex
  refine ⟨fun s us ws X l => ?_, fun {vs us zs ws} r1 r2 => ?_⟩
  · match us, ws, l with
    | [s], [u], _ => exact .of_eq (h kV doc pm an cdv ct s u)
    | [], _, l => cases l
    | [_], [], l => cases l
    | [_], _ :: _ :: _, l => cases l
    | _ :: _ :: _, _, l => cases l
  · cases r1 with
    | nil => exact .nil
    | cons h1 r1 =>
      cases r1 with
      | cons _ _ => exact .nil
      | nil =>
        cases r2 with
        | nil => exact .nil
        | cons h2 r2 =>
          cases r2 with
          | nil => exact .cons h1 (.cons h2 .nil)
          | cons _ _ => exact .nil
/-- .. the same for the making of an instance -/
theorem kbn_self {K : PySem.W.Frag} {x qual : Str} {st : Stmt} {f : Addr} {fd : FuncData} {a b : Str} (F : Fun K x qual st f fd)
    (h : ∀ (kV doc pm : Value) (an : Option Addr) (cdv ct : Value) (s u : Value), bindArgs (PySem.W.fnOf x qual (defArgs st) (defBody st) (defScope st) .none kV doc pm an cdv ct) ⟨[s], [(b, u)]⟩ = pure [(a, s), (b, u)]) :
    KBn K fd [a, b] 1 [b] selfG selfG := by
  have kb := kb_self F h
  refine ⟨fun s us ws X l1 l2 => kb.to s us ws X ?_, kb.rel⟩
  match us, ws, l1, l2 with
  | [_], [_], _, _ => rfl
end Kx
namespace Kx
open PySem PySem.Spec PyProof.Rows L2 SX LamX
theorem sqT_put {K : PySem.W.Frag} {H : Hp} {p a C dx : Addr} {fs : List (Str × V)} {o : HO} {xs : List V} (hp : H p = some (.ins C dx fs)) (h : SqT K H a xs) : SqT K (upd H p o) a xs := by
  rcases h with (h | ⟨ob, h⟩) | h
  · exact .inl (.inl (by rw [upd_ne (ne_of_two h hp (fun z => by cases z))]; exact h))
  · exact .inl (.inr ⟨ob, by rw [upd_ne (ne_of_two h hp (fun z => by cases z))]; exact h⟩)
  · exact .inr h
theorem tupN_put {K : PySem.W.Frag} {H : Hp} {p a C dx : Addr} {fs : List (Str × V)} {o : HO} (hp : H p = some (.ins C dx fs)) (h : TupN K H a) : TupN K (upd H p o) a := by
  rcases h with ⟨ob, xs, h, d⟩ | h
  · exact .inl ⟨ob, xs, by rw [upd_ne (ne_of_two h hp (fun z => by cases z))]; exact h, d⟩
  · exact .inr h
theorem kitOne_no {K : PySem.W.Frag} {C : Addr} {n : String} (h1 : PySem.W.isClsIn K C = true) (h2 : PySem.W.typeIn K (.ref C) = some (.type "type")) (h3 : PySem.W.subIn K (.type n) (.ref C) = some false) : PySem.W.kitOne K (.type n) (.ref C) = some false := by
  unfold PySem.W.kitOne
  rw [if_neg (by simp)]
  unfold PySem.W.kitCls
  have h1' : (PySem.W.clsIn K C).isSome = true := h1
  dsimp only
  rw [h1', h2]
  exact h3
theorem kitOne_self {K : PySem.W.Frag} {C : Addr} : PySem.W.kitOne K (.ref C) (.ref C) = some true := by
  unfold PySem.W.kitOne
  simp
theorem kitOne_other {K : PySem.W.Frag} {C D : Addr} (h1 : PySem.W.isClsIn K C = true) (h2 : PySem.W.typeIn K (.ref C) = some (.type "type")) (h3 : PySem.W.subIn K (.ref D) (.ref C) = some false) (h4 : PySem.W.subIn K (.ref D) (.ref D) = some true) : PySem.W.kitOne K (.ref D) (.ref C) = some false := by
  have ne : D ≠ C := fun e => by
    rw [e] at h3 h4
    rw [h3] at h4
    cases h4
  unfold PySem.W.kitOne
  rw [if_neg (by simpa using ne)]
  unfold PySem.W.kitCls
  have h1' : (PySem.W.clsIn K C).isSome = true := h1
  dsimp only
  rw [h1', h2]
  exact h3
theorem sub_non {K : PySem.W.Frag} {C : Addr} : PySem.W.subIn K (.type "NoneType") (.ref C) = some false := HN.sub_none
theorem eqv_text (a b : List Nat) : PyData.eqv (.str (S a)) (.str (S b)) = decide (a = b) := by
  show (S a == S b) = _
  by_cases h : a = b
  · rw [h, decide_eq_true rfl]
    simp
  · rw [decide_eq_false h, beq_eq_false_iff_ne]
    intro e
    have := congrArg (fun z : Str => z.cps.toList) e
    exact h (by simpa [S] using this)
theorem eqv_texts (xs ys : List (List Nat)) : PyData.eqv (.tuple (xs.map fun l => PyData.str (S l))) (.tuple (ys.map fun l => PyData.str (S l))) = decide (xs = ys) := eqvAll_map eqv_text xs ys
theorem pl_text {l : List Nat} (h : cdC l) : Pl 0 (.str (S l)) := ⟨by
  show (S l).cps.all (· < 0x110000) = true
  have e : (S l).cps.all (· < 0x110000) = l.all (fun c => decide (c < 1114112)) := by simp [S]
  rw [e]
  exact h, Nat.le_refl _⟩
theorem low_cd {l : List Nat} (h : l.all low = true) : cdC l := by
  unfold cdC
  rw [List.all_eq_true] at h ⊢
  intro c hc
  have := low_lt (h c hc)
  exact decide_eq_true (by omega)
theorem inV_texts {v : V} (ws : List (List Nat)) : inV v (ws.map fun l => V.str (S l)) = true ↔ ∃ w ∈ ws, v = .str (S w) := by
  unfold inV
  rw [List.any_map, List.any_eq_true]
  constructor
  · rintro ⟨w, hw, h⟩
    refine ⟨w, hw, ?_⟩
    cases v with
    | str x =>
      have h' : (S w == x) = true := h
      rw [beq_iff_eq.mp h']
    | _ => cases h
  · rintro ⟨w, hw, rfl⟩
    exact ⟨w, hw, by show (S w == S w) = true; simp⟩
end Kx
namespace Kx
open PySem PySem.Spec PyProof.Rows L2 SX LamX
section
variable {X : Cx}
theorem rev_pick (z : Str) : ((Builtin.Str.strSliceIndices none none (-1) z.length).filterMap (z.cps[·]?)).toArray = z.cps.toList.reverse.toArray := by
  have e : Builtin.Str.strSliceIndices none none (-1) z.length = sliceRange ((z.cps.size : Int) - 1) (-1) (-1) := rfl
  rw [e, PySem.W.krv_sliceRange, PySem.W.krv_range, List.filterMap_reverse, PySem.W.krv_all]
/-- x[::-1], a text -/
def tRevS (te : TE) : TE := fun σ H Q => te σ H fun x H1 => ∃ l : List Nat, x = .str (S l) ∧ l.length ≤ 1000000 ∧ Q (.str (S l.reverse)) H1
theorem pe_revS {e : Expr} {te : TE} {k : Nat} {p1 p2 p3 pos : Pos} (he : PE X e te) : PE X (.Subscript e (.Slice none none (some (.UnaryOp .USub (.Constant (.int 1) k p1) p2)) p3) pos) (tRevS te) := by
  refine ⟨fun pins s σ H Q I h => ?_⟩
  refine Subscript_ (thn (he.run pins s σ H _ I h) fun v s1 ⟨x, H1, I1, r1, q1⟩ => ?_)
  obtain ⟨z, ex, hz, q⟩ := q1
  subst ex
  obtain ⟨t, rfl⟩ := r1
  have hst : PO X (some (.UnaryOp .USub (.Constant (.int 1) k p1) p2)) (tPart (tUn (rU fun i => .int (-i)) (tC (.int 1)))) := po_some (pe_un un_neg pe_int)
  refine wpAny_Slice (thn (po_none.run pins s1 σ H1 (fun o H2 => o = none ∧ H2 = H1) I1 ⟨rfl, rfl⟩) fun vl s2 ⟨l, H2, I2, pl, el, e2⟩ => ?_)
  subst el e2
  refine thn (po_none.run pins s2 σ H2 (fun o H3 => o = none ∧ H3 = H2) I2 ⟨rfl, rfl⟩) fun vu s3 ⟨u, H3, I3, pu, eu, e3⟩ => ?_
  subst eu e3
  refine thn (hst.run pins s3 σ H3 (fun o H4 => o = some (-1) ∧ H4 = H3) I3 ⟨1, rfl, -1, rfl, rfl, rfl⟩) fun vs s4 ⟨o, H4, I4, ps, eo, e4⟩ => ?_
  subst eo e4
  have I5 : Inv X pins σ H4 { s4 with heap := s4.heap.push { cls := .type "slice", data := .fields #[vl, vu, vs] } } := I4.kept (t' := s4.toks) fun b ob q => Heap.get?_push_of_some _ q
  obtain ⟨l', rfl, e1⟩ := IsPart.raw pl
  obtain ⟨u', rfl, e2⟩ := IsPart.raw pu
  obtain ⟨w', rfl, e3⟩ := IsPart.raw ps
  show wpAny (model X.prog X.w) X.A (subscriptTail e (.Slice none none (some (.UnaryOp .USub (.Constant (.int 1) k p1) p2)) p3) (.str (S z) t) (.ref s4.heap.objs.size)) (EP X pins σ Q) X.xe _
  refine tail_any (ops := [.str (S z) t, .ref s4.heap.objs.size]) (typeIs_str _ _ _) (PySem.F.slot_str_getitem.lookup) ?_ (by with_unfolding_all rfl)
  refine wpAny_getItem_str_slice (l := l') (u := u') (st := w') ⟨_, Heap.get?_push_size _ rfl, rfl, rfl⟩ (by rw [e3]; decide) ?_
  have hm : l'.map (·.1) = none := e1
  have hu : u'.map (·.1) = none := e2
  have made : sliceMade (S z) t l' u' w' = Made.str (S z.reverse) := by
    unfold sliceMade slicePicked
    rw [hm, hu, e3]
    show (if ((-1 : Int) == 1 && _) = true then _ else _) = _
    rw [if_neg (by simp)]
    have e0 : (S z).cps.toList = z := by simp [S]
    have e5 := rev_pick (S z)
    rw [e0] at e5
    exact congrArg (fun a => Made.str ⟨a⟩) e5
  rw [made]
  exact ⟨by rw [S_len, List.length_reverse]; exact Nat.le_trans hz (by decide), .str _, _, I5.tok _, ⟨_, rfl⟩, q⟩
end
end Kx
namespace Kx
open PySem PySem.Spec PyProof.Rows L2 SX LamX
theorem go_set {te : TE} {u : TS} {D : Ends} {σ : L2.St} {H : Hp} {i : Nat} (h : te σ H fun x H1 => u D (σ.set i (some x)) H1) : tSeq (tAsg te (gName i)) u D σ H := h
theorem go_next {D : Ends} {σ : L2.St} {H : Hp} (h : D.nx σ H) : tNext D σ H := h
theorem go_and2 {ta tb : TT} {σ : L2.St} {H : Hp} {Q : Bool → Hp → Prop} (h : ta σ H fun b H1 => if b = true then tb σ H1 Q else Q false H1) : tAnd ta tb σ H Q := h
end Kx
namespace Kx
open PySem PySem.Spec PyProof.Rows L2 SX LamX
/-- a test that fails -/
theorem if_same {c : TT} {t u : TS} {D : Ends} {σ : L2.St} {H : Hp} (hc : ∀ Q : Bool → Hp → Prop, (∀ H', Same H H' → Q false H') → c σ H Q) (h : ∀ H', Same H H' → u D σ H') : tIfS c t u D σ H := go_if (hc _ fun H' e => iteF (A := _) (h H' e))
theorem nodup_rev {α : Type} {l : List α} (h : l.Nodup) : l.reverse.Nodup := by
  unfold List.Nodup at h ⊢
  rw [List.pairwise_reverse]
  exact h.imp fun h e => h e.symm
end Kx
namespace Kx
open PySem PySem.Spec PyProof.Rows L2 SX LamX
open PySem.W in
/-- the goal that the head leaves, of a law in which two defs make lambdas -/
theorem walkL2 {l : OpenLaw} {n k : Nat} {q : Program} {loose : List Str} {XP : (Str → Option Value) → Heap → Prop} {YP : World → Heap → Prop} {d : DefRec} {K : Params → Frag} {x y z : Str} (sp : Frag → Addr → Addr → Sp)
    (hn : l.most = some n) (hz : n ≤ sizeLine) (h0 : d.params.defaults = []) (hr : Room k callerA) (hY : ∀ (w : World) (h : Heap), YP w h → (K w.params).In h)
    (hc : ∀ p, ((∃ r, (recsOf q).find? (fun r => r.name == y) = some r) ∧ ∃ r, (recsOf q).find? (fun r => r.name == z) = some r) ∧ ∃ c Pt c2 Pu, (tabIn (K p) y = some (c, Pt) ∧ (K p).lookup Pt = none) ∧ (tabIn (K p) z = some (c2, Pu) ∧ (K p).lookup Pu = none) ∧ Pt ≠ Pu)
    (F : ∀ (w : World) (mg : Str → Option Value) (fa : Addr) (h : Heap), (K w.params).In h → h.Ns mainGlobals mg → mg d.name = some (.ref fa) → ∃ fd : FuncData,
      (∀ (t : Shared) (u : Value), BindsTo t fd ⟨[u], []⟩ [(x, u)]) ∧ ∀ (c Pt c2 Pu : Addr), tabIn (K w.params) y = some (c, Pt) → tabIn (K w.params) z = some (c2, Pu) → Pt ≠ Pu → ∀ base : Heap, (K w.params).In base → base.Ns mainGlobals mg → TabB base mg c Pt → TabB base mg c2 Pu → FnG l.prog w (K w.params) mg base CX0 k fa fd [x] (sp (K w.params) Pt Pu))
    (pr : ∀ (K : Frag) (Pt Pu : Addr) (H : Hp) (a : Addr) (ns : List Int), ns.length ≤ n → H Pt = some (.tbl #[]) → H Pu = some (.tbl #[]) → SqL K H a (ns.map V.int) → sp K Pt Pu [.ref a] H (fun v _ => v = .bl true) fun _ _ _ => False) :
    WalkO q loose XP YP l.row.toRowW d [] (fun f us => PySem.call f us) := by
  refine walkT (x := x) (K := K) (cs := fun p => [(y, ((tabIn (K p) y).getD (0, 0))), (z, ((tabIn (K p) z).getD (0, 0)))]) (sp := fun K => sp K ((tabIn K y).getD (0, 0)).2 ((tabIn K z).getD (0, 0)).2) hn hz h0 hr hY (fun p e he => ?_) (fun w mg fa h KX G hmg => ?_) (fun p H a ns hl ht hS _ => pr _ _ _ H a ns hl (ht _ List.mem_cons_self) (ht _ (List.mem_cons_of_mem _ List.mem_cons_self)) hS)
  · obtain ⟨⟨r1, r2⟩, c, Pt, c2, Pu, ⟨h2, h3⟩, ⟨h4, h5⟩, _⟩ := hc p
    rcases List.mem_cons.mp he with rfl | he
    · refine ⟨r1, ?_, ?_⟩
      · rw [h2]
        rfl
      · rw [h2]
        exact h3
    · cases List.mem_singleton.mp he
      refine ⟨r2, ?_, ?_⟩
      · rw [h4]
        rfl
      · rw [h4]
        exact h5
  · obtain ⟨fd, hb, hF⟩ := F w mg fa h KX G hmg
    obtain ⟨_, c, Pt, c2, Pu, ⟨h2, _⟩, ⟨h4, _⟩, hne⟩ := hc w.params
    refine ⟨fd, hb, fun base hk hg ht => ?_⟩
    have hT := ht _ List.mem_cons_self
    have hU := ht _ (List.mem_cons_of_mem _ List.mem_cons_self)
    simp only [h2, h4, Option.getD_some] at hT hU ⊢
    exact hF c Pt c2 Pu h2 h4 hne base hk hg hT hU
theorem tab_at {K : PySem.W.Frag} {x : Str} {f c Pt : Addr} {oc oc2 : Value} {od od2 : Option Addr} {osl osl2 : Array (Option Value)} {fd : FuncData} {vs : Array Value} (a : PySem.W.nsIn K mainGlobals x = some (some (.ref f)))
    (l : K.lookup f = some ⟨oc, od, .func fd, osl⟩) (e : fd.code = .ref c) (l2 : K.lookup c = some ⟨oc2, od2, .fields vs, osl2⟩) (v : (vs[11]? : Option Value) = some (.ref Pt)) (n : K.lookup Pt = none) :
    PySem.W.tabIn K x = some (c, Pt) ∧ K.lookup Pt = none := by
  refine ⟨?_, n⟩
  unfold PySem.W.tabIn
  rw [a]
  simp only [l, e, l2, v]
end Kx
namespace Kx
open PySem PySem.Spec PyProof.Rows L2 SX LamX
section
variable {X : Cx} {K : PySem.W.Frag}
theorem inK_op_in_seq (e : X.K = K) : OpR X (compareOp .In) (rIn K false) := e ▸ op_in_seq
theorem inK_op_notIn_seq (e : X.K = K) : OpR X (compareOp .NotIn) (rIn K true) := e ▸ op_notIn_seq
theorem inK_call_tuple_frz (e : X.K = K) : CallR X (.type "tuple") (fun xs H Q => ∃ p ys, xs = [.ref p] ∧ ((SqL K H p ys ∧ ∀ l o, H l = none → o.dict = none → Q (.ref l) (upd H l (.frz o (.tup ys)))) ∨ (SqT K H p ys ∧ Q (.ref p) H))) := e ▸ call_tuple_frz
end
theorem sub_int {K : PySem.W.Frag} {C : Addr} : PySem.W.subIn K (.type "int") (.ref C) = some false := by
  have e : fastBuiltinMro "int" = some [.type "int", .type "object"] := by decide +kernel
  show (fastBuiltinMro "int").map (·.contains (.ref C)) = some false
  rw [e]
  first
    | rfl
    | simp
end Kx
namespace PySem
open Sem (wp)
open AutoSeq1 (wpAny_loadPart')
theorem meets_enumerate_newT (l : Addr) (items : Array Value) (n : Nat) (dct : Option Addr) (sl : Array (Option Value)) :
    Meets (Builtin.«enumerate.__new__» ⟨[.type "enumerate", .ref l], []⟩) (fun _ R s => s.heap.get? l = some { cls := .type "tuple", dict := dct, data := .seq items n, slots := sl } ∧
      R (.ok (.ret (.ref (s.heap.push { cls := .type "tuple_iterator", data := .fields #[.ref l, .int 0 0] }).objs.size)))
        { s with heap := (s.heap.push { cls := .type "tuple_iterator", data := .fields #[.ref l, .int 0 0] }).push { cls := .type "enumerate", data := .fields #[.none, .bool false, .ref s.heap.objs.size, rawInt 0, .none, .none] } }) :=
  .of_wp fun prog w A R s h => by
    obtain ⟨hp, g, d, tk, os⟩ := s
    obtain ⟨hl, h⟩ := h
    have hsub := sub_enumerate
    have hL : Heap.IsTuple (Shared.heap ⟨hp, g, d, tk, os⟩) l items := ⟨_, hl, rfl, n, rfl⟩
    wp_walk using wpAny_loadPart' hl
    refine wpAny_stack_any fun st => wpAny_pure ?_
    split
    · rename_i c _ _ _ _ _
      cases (c == Value.type "enumerate")
      · wp_walk using wpAny_loadPart' hl, wpAny_pyIter_tuple hL
        exact ⟨_, rfl, h⟩
      · wp_walk using wpAny_loadPart' hl, wpAny_pyIter_tuple hL
        exact ⟨_, rfl, h⟩
    · wp_walk using wpAny_loadPart' hl, wpAny_pyIter_tuple hL
      exact ⟨_, rfl, h⟩
section
variable {prog : Program} {w : World} {A : Around} {E : Value → Shared → Prop} {s : Shared}
theorem call_enumerate_tuple {l : Addr} {items : Array Value} {Q : Value → Shared → Prop} (hL : s.heap.IsTuple l items)
    (h : ∀ h', IsEnum h' (s.heap.objs.size + 1) s.heap.objs.size 0 .none → h'.IsTupleIter s.heap.objs.size l 0 → h'.objs.size = s.heap.objs.size + 2 →
      (∀ b o, s.heap.get? b = some o → h'.get? b = some o) → Q (.ref (s.heap.objs.size + 1)) { s with heap := h' }) :
    wpAny (model prog w) A (call (.type "enumerate") [.ref l]) Q E s := by
  obtain ⟨⟨c, dct, dt, sl⟩, hl, hc, n, hd⟩ := hL
  replace hc : c = .type "tuple" := hc
  replace hd : dt = .seq items n := hd
  subst hc hd
  refine callType_new F.called_enumerate (by decide) (F.typeCall_enumerate_1 _) (F.newCall_enumerate_1 _) (fun obj => F.args_object_init_2 obj _) F.entry_enumerate_new
    (meets_enumerate_newT l items n dct sl) ⟨hl, ?_⟩
  have hz : (s.heap.push { cls := .type "tuple_iterator", data := .fields #[.ref l, .int 0 0] }).objs.size = s.heap.objs.size + 1 := Heap.size_push ..
  show _ ∧ _
  rw [hz]
  have he : IsEnum ((s.heap.push { cls := .type "tuple_iterator", data := .fields #[.ref l, .int 0 0] }).push
      { cls := .type "enumerate", data := .fields #[.none, .bool false, .ref s.heap.objs.size, rawInt 0, .none, .none] }) (s.heap.objs.size + 1) s.heap.objs.size 0 .none := by
    have := Heap.get?_push_size (s.heap.push { cls := .type "tuple_iterator", data := .fields #[.ref l, .int 0 0] })
      (o := { cls := .type "enumerate", data := .fields #[.none, .bool false, .ref s.heap.objs.size, rawInt 0, .none, .none] }) rfl
    rw [hz] at this; exact this
  refine ⟨⟨_, he, rfl⟩, h _ he ⟨_, Heap.get?_push_of_some _ (Heap.get?_push_size _ rfl), rfl, rfl⟩ (by rw [Heap.size_push, hz]) fun b o x => Heap.get?_push_of_some _ (Heap.get?_push_of_some _ x)⟩
end
end PySem
namespace Kx
open PySem PySem.Spec PyProof.Rows L2 SX LamX
/-! ### enumerate(tuple) -/
def IteT (K : PySem.W.Frag) (a : Addr) : It :=
  ⟨fun i H => ∃ (xs : List V) (x : V), SqT K H a xs ∧ xs[i]? = some x, fun i H v H' => ∃ T x, v = .ref T ∧ H T = none ∧ H' = upd H T (.tup [.int (i : Nat), x]) ∧ ∀ xs, SqT K H a xs → xs[i]? = some x, fun i H => ∃ xs : List V, SqT K H a xs ∧ i = xs.length⟩
theorem turn_enumT {P : Program} {w : World} {K : PySem.W.Frag} {elts : List Expr} {kk : Nat} {tpos : Pos} (a e it : Addr) :
    Turn P w K (.Tuple elts kk tpos) (IteT K a) [e, it] e (fun i h => (∃ old, IsEnum h e it ((i : Nat) : Int) old) ∧ h.IsTupleIter it a i ∧ e ≠ it ∧ a ≠ it ∧ a ≠ e) where
  mem := by simp
  obj := fun i h st b hb => by
    obtain ⟨⟨old, he⟩, ⟨o, ho, hc, hd⟩, _⟩ := st
    rcases (show b = e ∨ b = it by simpa using hb) with z | z
    · rw [z]
      exact ⟨_, he, fun v q => nomatch q⟩
    · rw [z]
      exact ⟨o, ho, fun v q => by rw [hd] at q; cases q⟩
  keep := fun i h h' st k => by
    obtain ⟨⟨old, he⟩, ⟨o, ho, r⟩, hne⟩ := st
    exact ⟨⟨old, k e (by simp) _ he⟩, ⟨o, k it (by simp) _ ho, r⟩, hne⟩
  item := by
    intro X hP hw hK hc i pins s σ H E I hf st hg
    subst hP hw hK
    obtain ⟨⟨old, he⟩, hit, hne, n1, n2⟩ := st
    obtain ⟨xs, x, hq, hx⟩ := hg
    obtain ⟨its, rv, p, hz⟩ := I.tuple hq
    obtain ⟨u, hu, ru⟩ := rv.get hx
    have el : e < s.heap.objs.size := Heap.lt_size he
    have il : it < s.heap.objs.size := by
      obtain ⟨_, q, _⟩ := hit
      exact Heap.lt_size q
    have D := Draws.tuple (prog := X.prog) (w := X.w) (A := X.A.in1) (I.ok.hd hc) it a n1 its.toArray
    have hlt : i < its.toArray.size := by
      have := (List.getElem?_eq_some_iff.mp hu).1
      simpa using this
    refine wpAny_pyNext_enum_itemD D he ⟨hit, p⟩ hlt hne (by simp [hne, Ne.symm n2]) fun u' h' tk hu' ho hit' hT hz' hk => ?_
    obtain rfl : u = u' := by
      have h1 : its.toArray[i]? = some u := by simpa using hu
      rw [h1] at hu'
      exact Option.some.inj hu'
    refine ⟨_, rfl, wpAny_letOwnedTupleGo_enum (s := { s with heap := h', toks := tk + 1 }) ho fun h2 he' sb => ?_⟩
    have T2 := (sb.2 _ (Nat.ne_of_gt el)).trans hT
    have new : ObjOk X.prog X.w (upd H s.heap.objs.size (.tup [.int (i : Nat), x])) h2 s.heap.objs.size (.tup [.int (i : Nat), x]) :=
      ⟨by show 2 ≤ sizeLine; decide, [.int i tk, u], .cons ⟨_, rfl⟩ (.cons ru .nil), ⟨_, T2, rfl, _, rfl⟩⟩
    have I1 : Inv X pins σ (upd H s.heap.objs.size (.tup [.int (i : Nat), x])) { s with heap := h2, toks := tk + 1 } :=
      I.turnedNew (ch := [e, it]) (fun b ob hb q => (sb.2 b (fun z => hb (by simp [z]))).trans (hk b ob (fun z => hb (by simp [z])) (fun z => hb (by simp [z])) q)) hf (Nat.le_refl _) new
    refine ⟨.ref s.heap.objs.size, _, I1, rfl, ⟨_, x, rfl, I.hok.fresh (Nat.le_refl _), rfl, fun ys hy => by rw [I.tuple_inj hy hq]; exact hx⟩, ⟨⟨u, ?_⟩, ?_, hne, n1, n2⟩, fun b hb => ?_⟩
    · rw [show ((i + 1 : Nat) : Int) = (i : Int) + 1 by omega]
      exact he'
    · obtain ⟨⟨o, ho2, r⟩, _⟩ := hit'
      exact ⟨o, (sb.2 it (Ne.symm hne)).trans ho2, r⟩
    · have hb' : b < s.heap.objs.size := by
        rcases (show b = e ∨ b = it by simpa using hb) with z | z
        · rw [z]
          exact el
        · rw [z]
          exact il
      rw [upd_ne (Nat.ne_of_lt hb')]
      exact (hf b hb).1
  done := by
    intro X hP hw hK hc i pins s σ H E I hf st hg
    subst hP hw hK
    obtain ⟨⟨old, he⟩, hit, hne, n1, n2⟩ := st
    obtain ⟨xs, hq, hx⟩ := hg
    obtain ⟨its, rv, p, hz⟩ := I.tuple hq
    obtain ⟨f0, f1, f2, f3, f4, f5⟩ := hf it (by simp)
    have hl : i = its.toArray.size := by
      rw [hx, rv.length]
      simp
    have D := Draws.tuple (prog := X.prog) (w := X.w) (A := X.A.in1) (I.ok.hd hc) it a n1 its.toArray
    rw [hl] at hit he
    exact wpAny_pyNext_enum_endD D he ⟨hit, p⟩ fun h' eb => ⟨rfl, I.turned (t' := s.toks) (fun b o hb q => eb b o hb q) f0 f1 f3 f4 f5⟩
  self := fun A i s Q E st h => by
    obtain ⟨⟨_, he⟩, _⟩ := st
    exact wpAny_pyIter_enum he h
def iEnumT (K : PySem.W.Frag) (ta : TA) : TI := fun σ H R => ta σ H fun vs H1 => ∃ a xs, vs = [.ref a] ∧ SqT K H1 a xs ∧ R (IteT K a) H1
theorem pi_enumT {X : Cx} {e : Expr} {ta : TA} {p pos tpos : Pos} {elts : List Expr} {kk : Nat} (hg : Gl X "enumerate") (hm : X.mg "enumerate" = none) (ha : PA X [e] ta) (hs : starEach [e] X.env = [(false, eval e X.env)] := by rfl) :
    PI X (.Tuple elts kk tpos) (.Call (.Name "enumerate" p) [e] [] pos) (iEnumT X.K ta) := by
  refine ⟨fun pins s σ H R I h => ?_⟩
  refine Call_ (ld_blt I hg hm boot_enumerate (PyProof.Rows.callWith_type1 (thn (ha.run pos pins s σ H _ I h) fun us s1 hh => ?_) hs rfl))
  obtain ⟨vs, H1, I1, r1, a, xs, rfl, hq, q⟩ := hh
  obtain ⟨u, rfl, rx⟩ := vals1 r1
  cases rx
  obtain ⟨its, rv, pp, hz⟩ := I1.tuple hq
  have hla : a < s1.heap.objs.size := by
    obtain ⟨_, q, _⟩ := pp
    exact Heap.lt_size q
  refine call_enumerate_tuple pp fun h' he hit hsz hk => wpAny_pyIter_enum he ?_
  have I2 : Inv X pins σ H1 { s1 with heap := h' } := I1.kept (t' := s1.toks) hk
  refine ⟨s1.heap.objs.size + 1, [s1.heap.objs.size + 1, s1.heap.objs.size], _, _, H1, rfl, I2, turn_enumT a (s1.heap.objs.size + 1) s1.heap.objs.size, ⟨⟨.none, he⟩, hit, Nat.succ_ne_self _, Nat.ne_of_lt hla, Nat.ne_of_lt (Nat.lt_succ_of_lt hla)⟩, fun b hb => ?_, q⟩
  have hle : s1.heap.objs.size ≤ b := by
    rcases (show b = s1.heap.objs.size + 1 ∨ b = s1.heap.objs.size by simpa using hb) with z | z
    · rw [z]
      exact Nat.le_add_right _ _
    · rw [z]
      exact Nat.le_refl _
  exact I1.fpOk hle (I1.hok.fresh hle)
theorem walk_enumT {K : PySem.W.Frag} {a : Addr} {xs : List V} : Walk (IteT K a) xs.length (fun H => SqT K H a xs) (fun i H v H' => ∃ T x, v = .ref T ∧ H T = none ∧ H' = upd H T (.tup [.int (i : Nat), x]) ∧ xs[i]? = some x) :=
  ⟨fun i _ hi q => ⟨xs, xs[i], q, by simp [hi]⟩, fun _ q => ⟨xs, q, rfl⟩, fun _ _ _ _ _ q y => by
    obtain ⟨T, x, h1, h2, h3, h4⟩ := y
    exact ⟨T, x, h1, h2, h3, h4 xs q⟩⟩
section
variable {J : It} {n : Nat} {G : Hp → Prop} {Y : Nat → Hp → V → Hp → Prop}
/-- a dict comprehension over whatever walks: Pv by the turn and the heap (the new dict at D within) -/
theorem dc_it (w : Walk J n G Y) {g : TG} {tt : TT} {tk tv : TE} {vs : List Nat} {σ : L2.St} {H1 : Hp} {D : Addr} {Qd : Hp → Prop} (Pv : Nat → Hp → Prop) (h0 : Pv 0 (upd H1 D (.dK []))) (hG : ∀ i H, i ≤ n → Pv i H → G H)
    (hs : ∀ i x H H', i < n → Pv i H → Y i H x H' → g x (wipe σ vs) H' fun σ2 H2 => wipe σ2 vs = wipe σ vs ∧ tt σ2 H2 fun b H3 =>
      if b = true then tk σ2 H3 fun y H4 => tv σ2 H4 fun z H5 => ∃ kvs k, y = kV k ∧ H5 D = some (.dK kvs) ∧ kvs.length < sizeLine ∧ Pv (i + 1) (upd H5 D (.dK (putK kvs k z))) else Pv (i + 1) H3) (hd : ∀ H, Pv n H → Qd H) :
    ∃ W : Nat → Nat → Hp → Prop, (∃ m, W 0 m (upd H1 D (.dK []))) ∧ ∀ i m H, W i m H →
      (J.stop i H ∧ Qd H) ∨ (J.go i H ∧ ∃ Nx : Hp → Prop, (∀ H', Nx H' → ∃ m', m' < m ∧ W (i + 1) m' H') ∧ ∀ x H', J.yld i H x H' → g x (wipe σ vs) H' fun σ2 H2 => wipe σ2 vs = wipe σ vs ∧ tt σ2 H2 fun b H3 =>
        if b = true then tk σ2 H3 fun y H4 => tv σ2 H4 fun z H5 => ∃ kvs k, y = kV k ∧ H5 D = some (.dK kvs) ∧ kvs.length < sizeLine ∧ Nx (upd H5 D (.dK (putK kvs k z))) else Nx H3) := by
  refine ⟨fun i m H => m = n - i ∧ i ≤ n ∧ Pv i H, ⟨n, by simp, Nat.zero_le _, h0⟩, ?_⟩
  rintro i m H ⟨rfl, hi, p⟩
  have q := hG i H hi p
  by_cases hlt : i < n
  · refine .inr ⟨w.goes i H hlt q, Pv (i + 1), fun H' p' => ⟨n - (i + 1), by omega, rfl, hlt, p'⟩, fun x H' y => hs i x H H' hlt p (w.yields i H x H' hlt q y)⟩
  · have e : i = n := by omega
    subst e
    exact .inl ⟨w.stops H q, hd H p⟩
end
theorem inK_pe_fld {X : Cx} {K : PySem.W.Frag} {e : Expr} {ta : TE} {f : Str} {pos : Pos} (q : X.K = K) (he : PE X e ta) (hb : attributeBase e f X.env (eval e X.env) = eval e X.env) : PE X (.Attribute e f pos) (tFld K ta f) := q ▸ pe_fld he hb
end Kx
namespace Kx
open PySem PySem.Spec PyProof.Rows L2 SX LamX
/-- a method called by two names, the other way round -/
def selfSwapG {α : Type} (us ws : List α) : List α := match us, ws with | [s], [v, u] => [s, u, v] | _, _ => []
theorem kb_selfSwap {K : PySem.W.Frag} {x qual : Str} {st : Stmt} {f : Addr} {fd : FuncData} {a b c : Str} (F : Fun K x qual st f fd)
    (h : ∀ (kV doc pm : Value) (an : Option Addr) (cdv ct : Value) (s u v : Value), bindArgs (PySem.W.fnOf x qual (defArgs st) (defBody st) (defScope st) .none kV doc pm an cdv ct) ⟨[s], [(c, v), (b, u)]⟩ = pure [(a, s), (b, u), (c, v)]) :
    KBinds K fd [a, b, c] [c, b] selfSwapG selfSwapG := by
  obtain ⟨oc, od, kV, doc, pm, an, cdv, ct, osl, rfl, lk, hcd⟩ := F.ex
  refine ⟨fun s us ws X l => ?_, fun {vs us zs ws} r1 r2 => ?_⟩
  · match us, ws, l with
    | [s], [v, u], _ => exact .of_eq (h kV doc pm an cdv ct s u v)
    | [], _, l => cases l
    | [_], [], l => cases l
    | [_], [_], l => cases l
    | [_], _ :: _ :: _ :: _, l => cases l
    | _ :: _ :: _, _, l => cases l
  · cases r1 with
    | nil => exact .nil
    | cons h1 r1 =>
      cases r1 with
      | cons _ _ => exact .nil
      | nil =>
        cases r2 with
        | nil => exact .nil
        | cons h2 r2 =>
          cases r2 with
          | nil => exact .nil
          | cons h3 r2 =>
            cases r2 with
            | nil => exact .cons h1 (.cons h3 (.cons h2 .nil))
            | cons _ _ => exact .nil
theorem kbn_selfSwap {K : PySem.W.Frag} {x qual : Str} {st : Stmt} {f : Addr} {fd : FuncData} {a b c : Str} (F : Fun K x qual st f fd)
    (h : ∀ (kV doc pm : Value) (an : Option Addr) (cdv ct : Value) (s u v : Value), bindArgs (PySem.W.fnOf x qual (defArgs st) (defBody st) (defScope st) .none kV doc pm an cdv ct) ⟨[s], [(c, v), (b, u)]⟩ = pure [(a, s), (b, u), (c, v)]) :
    KBn K fd [a, b, c] 1 [c, b] selfSwapG selfSwapG := by
  have kb := kb_selfSwap F h
  refine ⟨fun s us ws X l1 l2 => kb.to s us ws X ?_, kb.rel⟩
  match us, ws, l1, l2 with
  | [_], [_, _], _, _ => rfl
end Kx
namespace Kx
open PySem PySem.Spec PyProof.Rows L2 SX LamX
/-! ### texts joined by blanks -/
theorem itemsA_app : ∀ (x acc r : List Nat), 32 ∉ x → itemsA acc (x ++ r) = itemsA (acc ++ x) r
  | [], acc, r, _ => by rw [List.append_nil, List.nil_append]
  | c :: x, acc, r, h => by
    have hc : c ≠ 32 := fun e => h (by rw [e]; exact List.mem_cons_self)
    show (if c = 32 then acc :: itemsA [] (x ++ r) else itemsA (acc ++ [c]) (x ++ r)) = _
    rw [if_neg hc, itemsA_app x (acc ++ [c]) r (fun m => h (List.mem_cons_of_mem _ m)), List.append_assoc]
    rfl
theorem itemsA_one {x acc : List Nat} (h : 32 ∉ x) : itemsA acc x = [acc ++ x] := by
  have := itemsA_app x acc [] h
  rw [List.append_nil] at this
  rw [this]
  rfl
theorem items_join : ∀ (its : List (List Nat)), its ≠ [] → (∀ it ∈ its, 32 ∉ it) → itemsA [] (TL.joinL [32] its) = its
  | [], h, _ => absurd rfl h
  | [x], _, h => by
    show itemsA [] x = [x]
    rw [itemsA_one (h x (List.mem_singleton.mpr rfl))]
    rfl
  | x :: y :: r, _, h => by
    show itemsA [] (x ++ (32 :: TL.joinL [32] (y :: r))) = _
    rw [itemsA_app x [] _ (h x List.mem_cons_self)]
    show (if (32 : Nat) = 32 then ([] ++ x) :: itemsA [] (TL.joinL [32] (y :: r)) else _) = _
    rw [if_pos rfl, items_join (y :: r) (List.cons_ne_nil _ _) (fun it m => h it (List.mem_cons_of_mem _ m))]
    rfl
theorem joinL_all {p : Nat → Bool} (h32 : p 32 = true) : ∀ (its : List (List Nat)), (∀ it ∈ its, it.all p = true) → (TL.joinL [32] its).all p = true
  | [], _ => rfl
  | [x], h => by
    show x.all p = true
    exact h x (List.mem_singleton.mpr rfl)
  | x :: y :: r, h => by
    show (x ++ (32 :: TL.joinL [32] (y :: r))).all p = true
    rw [List.all_append, List.all_cons, h32, joinL_all h32 (y :: r) (fun it m => h it (List.mem_cons_of_mem _ m)), h x List.mem_cons_self]
    rfl
theorem joinL_len {k : Nat} : ∀ (its : List (List Nat)), (∀ it ∈ its, it.length ≤ k) → (TL.joinL [32] its).length ≤ its.length * (k + 1)
  | [], _ => Nat.zero_le _
  | [x], h => by
    show x.length ≤ _
    have := h x (List.mem_singleton.mpr rfl)
    simp only [List.length_cons, List.length_nil]
    omega
  | x :: y :: r, h => by
    have h1 := joinL_len (y :: r) (fun it m => h it (List.mem_cons_of_mem _ m))
    have h2 := h x List.mem_cons_self
    show (x ++ (32 :: TL.joinL [32] (y :: r))).length ≤ _
    rw [List.length_append, List.length_cons]
    rw [List.length_cons (a := x), Nat.succ_mul]
    omega
/-- the length of a joined text -/
theorem joinL_sum : ∀ (its : List (List Nat)), its ≠ [] → (TL.joinL [32] its).length + 1 = (its.map fun it => it.length + 1).sum
  | [], h => absurd rfl h
  | [x], _ => by simp [TL.joinL]
  | x :: y :: r, _ => by
    have h1 := joinL_sum (y :: r) (List.cons_ne_nil _ _)
    show (x ++ (32 :: TL.joinL [32] (y :: r))).length + 1 = (x.length + 1) + ((y :: r).map fun it => it.length + 1).sum
    rw [List.length_append, List.length_cons, ← h1]
    omega
/-! ### slices of texts -/
theorem slice_S (l : List Nat) (lo hi : Option Int) : Txt.slice (S l) lo hi = S ((l.drop (HT.sIx l.length 0 lo)).take (HT.sIx l.length l.length hi - HT.sIx l.length 0 lo)) := by
  rw [← C8.cutS_slice]
  unfold cutS
  rw [S_len]
theorem slice_part {l : List Nat} {lo hi : Option Int} : ∃ m : List Nat, Txt.slice (S l) lo hi = S m ∧ m.length ≤ l.length ∧ ∀ c ∈ m, c ∈ l :=
  ⟨_, slice_S l lo hi, by rw [List.length_take, List.length_drop]; omega, fun c h => List.mem_of_mem_drop (List.mem_of_mem_take h)⟩
theorem slice_fromS (l : List Nat) (k : Nat) : Txt.slice (S l) (some (k : Int)) none = S (l.drop k) := by
  rw [slice_S, HT.sIx_none, HT.sIx_nat]
  by_cases h : k ≤ l.length
  · rw [Nat.min_eq_left h, List.take_of_length_le (by rw [List.length_drop]; omega)]
  · rw [Nat.min_eq_right (by omega), List.drop_of_length_le (Nat.le_refl _), List.drop_of_length_le (by omega), List.take_nil]
theorem slice_toS (l : List Nat) (k : Nat) : Txt.slice (S l) none (some (k : Int)) = S (l.take k) := by
  rw [slice_S, HT.sIx_none, HT.sIx_nat, List.drop_zero, Nat.sub_zero]
  by_cases h : k ≤ l.length
  · rw [Nat.min_eq_left h]
  · rw [Nat.min_eq_right (by omega), List.take_of_length_le (Nat.le_refl _), List.take_of_length_le (by omega)]
theorem sum_S_le {k : Nat} : ∀ its : List (List Nat), (∀ it ∈ its, it.length ≤ k) → ((its.map S).map (·.length)).sum ≤ its.length * k
  | [], _ => Nat.zero_le _
  | x :: r, h => by
    have h1 := sum_S_le r (fun it m => h it (List.mem_cons_of_mem _ m))
    have h2 := h x List.mem_cons_self
    have h3 : (S x).length = x.length := S_len x
    show (S x).length + ((r.map S).map (·.length)).sum ≤ (r.length + 1) * k
    rw [h3, Nat.succ_mul]
    omega
theorem inK_call_list_of {X : Cx} {K : PySem.W.Frag} (e : X.K = K) : CallR X (.type "list") (fun xs H Q => ∃ p ys, xs = [.ref p] ∧ (SqL K H p ys ∨ SqT K H p ys) ∧ ∀ l, H l = none → Q (.ref l) (upd H l (.lst ys))) := e ▸ call_list_of
end Kx
/-! ### replace of one written text, once -/
namespace Kx
open PySem PySem.Spec PyProof.Rows L2 SX LamX PySem.Builtin PySem.Builtin.Str
theorem gives_str_replace_n (x y z : Str) (t u v w : Tok) (n : Nat) (hn : n < 1000)
    (hf : ((occurrences x y 0 x.length n).isEmpty || (y.length == 0 && z.length == 0)) = false →
      (u == 0 || v == 0) = false ∧ (u == v) = false ∧ (y == z) = false ∧ tooLong (x.length + (occurrences x y 0 x.length n).length * z.length) = false) :
    Gives («str.replace» ⟨[.str x t, .str y u, .str z v, .int n w], []⟩) (if ((occurrences x y 0 x.length n).isEmpty || (y.length == 0 && z.length == 0)) = true then .val (.str x t) else .str (glued z (partsBetween x (occurrences x y 0 x.length n) y.length))) := by
  have key : «str.replace» ⟨[.str x t, .str y u, .str z v, .int n w], []⟩ = (do
      let limit ← countLimit "str.replace" (some (.int n w)) (x.length + 1)
      if ((occurrences x y 0 x.length limit).isEmpty || (y.length == 0 && z.length == 0)) = true then (do rule "str.replace.nothing"; ret (.str x t)) else
          (do let same ← isSame (.str y u) (.str z v)
              if same = true then (do rule "str.replace.old-is-new"; ret (.str x t)) else
              if tooLong (x.length + (occurrences x y 0 x.length limit).length * z.length) = true then unsupported "str.replace:memory" else
              retStr (glued z (partsBetween x (occurrences x y 0 x.length limit) y.length)))) := rfl
  have cl : countLimit "str.replace" (some (.int n w)) (x.length + 1) = pure n := by
    rw [countLimit_int _ _ _ _ (by rw [decide_eq_false (show ¬ ((n : Int) < -(2 ^ 63 : Int)) by omega), decide_eq_false (show ¬ ((n : Int) ≥ 2 ^ 63) by omega)]; rfl), if_neg (by omega)]
    rfl
  rw [key, cl]
  show Gives (if ((occurrences x y 0 x.length n).isEmpty || (y.length == 0 && z.length == 0)) = true then (do rule "str.replace.nothing"; ret (.str x t)) else
          (do let same ← isSame (.str y u) (.str z v)
              if same = true then (do rule "str.replace.old-is-new"; ret (.str x t)) else
              if tooLong (x.length + (occurrences x y 0 x.length n).length * z.length) = true then unsupported "str.replace:memory" else
              retStr (glued z (partsBetween x (occurrences x y 0 x.length n) y.length)))) _
  cases hc : ((occurrences x y 0 x.length n).isEmpty || (y.length == 0 && z.length == 0))
  · obtain ⟨h0, huv, hyz, hl⟩ := hf hc
    rw [isSame_str_other y z u v h0 huv hyz, hl]
    exact .of_eq rfl
  · exact .rule (.of_eq rfl)
/-- what is left of x when the first y is gone, of one sign -/
def repOne (x y : Str) : Str := if (occurrences x y 0 x.length 1).isEmpty = true then x else glued ⟨#[]⟩ (partsBetween x (occurrences x y 0 x.length 1) y.length)
theorem repOne_eq (x y : Str) : repOne x y = x ∨ ∃ i, repOne x y = ⟨x.cps.extract 0 i ++ #[] ++ x.cps.extract (i + y.length) x.length⟩ := by
  unfold repOne
  cases hc : (occurrences x y 0 x.length 1) with
  | nil => exact .inl rfl
  | cons i r =>
    have h1 := StrLaws.occ_length_le x y 0 x.length 1
    rw [hc] at h1
    cases r with
    | nil => exact .inr ⟨i, rfl⟩
    | cons j t => simp at h1
theorem repOne_S (l : List Nat) (y : Str) : ∃ m : List Nat, repOne (S l) y = S m ∧ m.length ≤ l.length + l.length ∧ ∀ c ∈ m, c ∈ l := by
  rcases repOne_eq (S l) y with h | ⟨i, h⟩
  · exact ⟨l, h, by omega, fun c m => m⟩
  · refine ⟨((S l).cps.extract 0 i ++ #[] ++ (S l).cps.extract (i + y.length) (S l).length).toList, ?_, ?_, fun c m => ?_⟩
    · rw [h]
    · simp [S]
      omega
    · simp [S] at m
      rcases m with m | m
      · exact List.mem_of_mem_take m
      · exact List.mem_of_mem_drop (List.mem_of_mem_take m)
theorem SC_replace1 {prog : Program} {w : World} {A : Around} {E : Value → Shared → Prop} {s : Shared} {x y : Str} {t u v w1 : Tok} {Q : Value → Shared → Prop} (hu : u ≠ 0) (hv : v ≠ 0) (huv : u ≠ v) (hyz : (y == (⟨#[]⟩ : Str)) = false) (hy : (y.length == 0) = false) (hb : x.length ≤ 1000000)
    (hq : ∀ t' k, Q (.str (repOne x y) t') { s with toks := k }) : wpAny (model prog w) A (call (.builtin "str.replace") [.str x t, .str y u, .str ⟨#[]⟩ v, .int 1 w1]) Q E s := by
  have hl : tooLong (x.length + (occurrences x y 0 x.length 1).length * Str.length ⟨#[]⟩) = false := by
    show decide (x.length + (occurrences x y 0 x.length 1).length * 0 > sizeLine) = false
    rw [Nat.mul_zero]
    exact decide_eq_false (by show ¬ (sizeLine < x.length + 0); have : (1000000 : Nat) ≤ sizeLine := by decide
                              omega)
  refine call_gives F.slot_str_replace (typeIs_str _ _ _) F.entry_str_replace (F.args_str_replace_4 _ _ _ _)
    (gives_str_replace_n x y ⟨#[]⟩ t u v w1 1 (by decide) fun _ => ⟨by simp [hu, hv], by simp [huv], hyz, hl⟩) ?_
  have hq' := hq
  unfold repOne at hq'
  cases hc : (occurrences x y 0 x.length 1).isEmpty
  · rw [hc] at hq'
    rw [hy]
    simp only [Bool.false_eq_true, if_false, Bool.false_and, Bool.or_false] at hq' ⊢
    have hr : (glued ⟨#[]⟩ (partsBetween x (occurrences x y 0 x.length 1) y.length)).length ≤ x.length + x.length := by
      have h1 := repOne_eq x y
      unfold repOne at h1
      rw [hc] at h1
      simp only [Bool.false_eq_true, if_false] at h1
      rcases h1 with h1 | ⟨i, h1⟩
      · rw [h1]
        omega
      · rw [h1]
        show (x.cps.extract 0 i ++ #[] ++ x.cps.extract (i + y.length) x.length).size ≤ _
        have hx : x.length = x.cps.size := rfl
        simp [hx]
        omega
    exact ⟨Nat.le_trans hr (by have : (2000000 : Nat) ≤ sizeLine := by decide
                               omega), hq' _ _⟩
  · rw [hc] at hq'
    simp only [if_true, Bool.true_or] at hq' ⊢
    exact hq' t s.toks
end Kx
namespace Kx
open PySem PySem.Spec PyProof.Rows L2 CwR
def tRep1 (to : TE) (y : Str) : TE := fun σ H Q => to σ H fun v H1 => ∃ x, v = .str x ∧ x.length ≤ 1000000 ∧ Q (.str (repOne x y)) H1
section
variable {X : Cx} {o : Expr} {to : TE} {y z : Str} {j k l : Nat} {c0 c1 c2 apos pos : Pos}
theorem pet_repl1 (ho : PE X o to) (hz : z = ⟨#[]⟩) (hyz : (y == (⟨#[]⟩ : Str)) = false) (hy : (y.length == 0) = false)
    (hst : starEach [.Constant (.str y) j c0, .Constant (.str z) k c1, .Constant (.int 1) l c2] X.env = [(false, eval (.Constant (.str y) j c0) X.env), (false, eval (.Constant (.str z) k c1) X.env), (false, eval (.Constant (.int 1) l c2) X.env)])
    (hbase : attributeBase o "replace" X.env (eval o X.env) = eval o X.env) (hline : (apos.endLine == pos.line) = true) :
    PET X (.Call (.Attribute o "replace" apos) [.Constant (.str y) j c0, .Constant (.str z) k c1, .Constant (.int 1) l c2] [] pos) (tRep1 to y) := by
  intro pins s σ H Q h0 I h
  refine PySem.wpAny_Call_method_lateS hbase (by rw [hst]; rfl) hline ?_
  rw [hst]
  refine (wpAny_mono (PySem.wpAny_toks (ho.run pins s σ H _ I h)) (fun v s1 q => ?_) fun _ _ z => z.2)
  obtain ⟨hk, v', H1, I1, r1, x, e1, hb, q⟩ := q
  subst e1
  obtain ⟨tx, e2⟩ := r1
  subst e2
  refine ⟨"str", _, PySem.F.plainAttrs_str, PySem.F.slot_str_replace, PySem.F.type_str_replace, typeIs_str _ _ _, (fun _ e => nomatch e), Calls.callWith_builtin rfl (Calls.evalArgs_plain (Calls.spliced_cons ?_))⟩
  refine Calls.Constant_str (k := j) (pos := c0) (Calls.spliced_cons (Calls.Constant_str (k := k) (pos := c1) (Calls.spliced_cons (PySem.wpAny_Constant_int (i := 1) (k := l) (pos := c2) (Calls.spliced_nil ?_)))))
  subst hz
  exact SC_replace1 (by show s1.toks ≠ 0; omega) (by show s1.toks + 1 ≠ 0; omega) (by show s1.toks ≠ s1.toks + 1; omega) hyz hy hb fun t' k => ⟨.str (repOne x y), H1, I1.tok k, ⟨t', rfl⟩, q⟩
end
theorem inK_ix_seq {X : Cx} {K : PySem.W.Frag} (e : X.K = K) : IxR X (rIx K) := e ▸ ix_seq
end Kx
namespace Kx
open PySem PySem.Spec PyProof.Rows L2 SX LamX
section
variable {X : Cx}
/-- repr of a text -/
def rReprS : List V → Hp → VK → Prop := fun xs H Q => ∃ (x : Str), xs = [.str x] ∧ (PyData.str x).shown.length ≤ sizeLine ∧ Q (.str (PyData.str x).shown) H
theorem call_reprS : CallR X (.builtin "repr") rReprS := by
  intro pins s σ H xs us Q I r h
  obtain ⟨x, rfl, hl, q⟩ := h
  obtain ⟨u, rfl, t, rfl⟩ := vals1 r
  exact PySem.P.repr_of_str (x := x) ⟨.str (PyData.str x).shown, H, I.tok _, ⟨_, rfl⟩, q⟩ hl
end
/-- repr(x) != repr(y), of one and the same text -/
theorem nerepr_s {σ : L2.St} {H : Hp} {ta tb : TE} (l : List Nat) (hl : cdC l) (hm : l.length ≤ 1048576) {Q : Bool → Hp → Prop}
    (ha : ∀ Q : VK, (∀ H', Same H H' → Q (.str (S l)) H') → ta σ H Q)
    (hb : ∀ H0, Same H H0 → ∀ Q : VK, (∀ H', Same H0 H' → Q (.str (S l)) H') → tb σ H0 Q)
    (h : ∀ H', Same H H' → Q false H') : tTest (tOp rNe (tCB rReprS (tCons ta tNil)) (tCB rReprS (tCons tb tNil))) σ H Q := by
  have sz := (sh_str (x := S l) rfl hl).len hm
  refine go_test (go_op (go_cb (go_cons (ha _ fun H1 e1 => go_nil ⟨S l, rfl, sz, go_cb (go_cons (hb H1 e1 _ fun H2 e2 => go_nil ⟨S l, rfl, sz, rfl, false, ?_, h H2 (e1.trans e2)⟩))⟩))))
  rw [ne_self]
def rev3G {α : Type} (us ws : List α) : List α := match us, ws with | [], [c, b, a] => [a, b, c] | _, _ => []
theorem kb_rev3 {K : PySem.W.Frag} {x qual : Str} {st : Stmt} {f : Addr} {fd : FuncData} {a b c : Str} (F : Fun K x qual st f fd)
    (h : ∀ (kV doc pm : Value) (an : Option Addr) (cdv ct : Value) (u v w : Value), bindArgs (PySem.W.fnOf x qual (defArgs st) (defBody st) (defScope st) .none kV doc pm an cdv ct) ⟨[], [(c, w), (b, v), (a, u)]⟩ = pure [(a, u), (b, v), (c, w)]) :
    KBinds K fd [a, b, c] [c, b, a] rev3G rev3G := by
  obtain ⟨oc, od, kV, doc, pm, an, cdv, ct, osl, rfl, lk, hcd⟩ := F.ex
  refine ⟨fun s us ws X l => ?_, fun {vs us zs ws} r1 r2 => ?_⟩
  · match us, ws, l with
    | [], [w, v, u], _ => exact .of_eq (h kV doc pm an cdv ct u v w)
    | [], [], l => cases l
    | [], [_], l => cases l
    | [], [_, _], l => cases l
    | [], _ :: _ :: _ :: _ :: _, l => cases l
    | _ :: _, _, l => cases l
  · cases r1 with
    | cons _ _ => exact .nil
    | nil =>
      cases r2 with
      | nil => exact .nil
      | cons h1 r2 =>
        cases r2 with
        | nil => exact .nil
        | cons h2 r2 =>
          cases r2 with
          | nil => exact .nil
          | cons h3 r2 =>
            cases r2 with
            | nil => exact .cons h3 (.cons h2 (.cons h1 .nil))
            | cons _ _ => exact .nil
end Kx
namespace Kx
open PySem PySem.Spec PyProof.Rows L2 SX LamX
/-! zip of a list with a tuple -/
def ItzM (K : PySem.W.Frag) (a b : Addr) : It where
  go i H := ∃ (xs ys : List V) (x y : V), SqL K H a xs ∧ SqT K H b ys ∧ xs[i]? = some x ∧ ys[i]? = some y
  yld i H v H' := ∃ T x y, v = .ref T ∧ H T = none ∧ H' = upd H T (.tup [x, y]) ∧ (∀ xs, SqL K H a xs → xs[i]? = some x) ∧ ∀ ys, SqT K H b ys → ys[i]? = some y
  stop i H := ∃ xs ys : List V, SqL K H a xs ∧ SqT K H b ys ∧ i = min xs.length ys.length
structure Aps (z TI TO i1 i2 a b : Addr) : Prop where
  s : ZipSep2 z TI TO i1 i2 [i1, a] [i2, b]
  a1 : a ≠ i1
  b2 : b ≠ i2
theorem aps_new {n a b : Nat} (ha : a < n) (hb : b < n) : Aps (n + 4) (n + 2) (n + 3) n (n + 1) a b := by
  have ne : ∀ {x y : Nat}, (x < y ∨ y < x) → (show Addr from x) ≠ y := fun {x y} h e => by
    have e : x = y := e
    omega
  have no : ∀ {x p q : Nat}, (x < p ∨ p < x) → (x < q ∨ q < x) → (show Addr from x) ∉ ([p, q] : List Addr) := fun h1 h2 m => by
    simp only [List.mem_cons, List.not_mem_nil, or_false] at m
    rcases m with e | e
    · exact ne h1 e
    · exact ne h2 e
  exact ⟨⟨ne (by omega), ne (by omega), ne (by omega), ne (by omega), List.mem_cons_self, no (by omega) (by omega), no (by omega) (by omega), ne (by omega), List.mem_cons_self, no (by omega) (by omega), no (by omega) (by omega), no (by omega) (by omega), no (by omega) (by omega)⟩, ne (by omega), ne (by omega)⟩
theorem turn_zipM {P : Program} {w : World} {K : PySem.W.Frag} {elts : List Expr} {kk : Nat} {tpos : Pos} {a b z TI TO i1 i2 : Addr} (D : Aps z TI TO i1 i2 a b) :
    Turn P w K (.Tuple elts kk tpos) (ItzM K a b) [z, TI, TO, i1, i2] z (fun i h => IsZip h z TI TO .none ∧ IsTupOf2 h TI (.ref i1) (.ref i2) ∧ (∃ x y, IsTupOf2 h TO x y) ∧ h.IsListIter i1 a i ∧ h.IsTupleIter i2 b i) where
  mem := List.mem_cons_self
  obj := fun i h ⟨hz, hI, ⟨x, y, hO⟩, ⟨o1, e1, _, d1⟩, ⟨o2, e2, _, d2⟩⟩ c hc => by
    simp only [List.mem_cons, List.not_mem_nil, or_false] at hc
    rcases hc with rfl | rfl | rfl | rfl | rfl
    · exact ⟨_, hz, fun v q => by cases q⟩
    · exact ⟨_, hI, fun v q => by cases q⟩
    · exact ⟨_, hO, fun v q => by cases q⟩
    · exact ⟨o1, e1, fun v q => by rw [d1] at q; cases q⟩
    · exact ⟨o2, e2, fun v q => by rw [d2] at q; cases q⟩
  keep := fun i h h' ⟨hz, hI, ⟨x, y, hO⟩, h1, h2⟩ k =>
    ⟨k z (by simp) _ hz, k TI (by simp) _ hI, ⟨x, y, k TO (by simp) _ hO⟩, h1.at fun o => k i1 (by simp) o, h2.at fun o => k i2 (by simp) o⟩
  item := by
    intro X hP hw hK hc i pins s σ H E I hf st hg
    subst hP hw hK
    obtain ⟨hz, hI, ⟨x0, y0, hO⟩, h1, h2⟩ := st
    obtain ⟨xs, ys, x, y, hqx, hqy, hx, hy⟩ := hg
    obtain ⟨us, rv, pl, _⟩ := I.list hqx
    obtain ⟨vs, rw_, pt, _⟩ := I.tuple hqy
    obtain ⟨u, hu, ru⟩ := rv.get hx
    obtain ⟨v, hv, rv'⟩ := rw_.get hy
    have lz : z < s.heap.objs.size := Heap.lt_size hz
    have hd : X.A.in1.handled = none := I.ok.hd hc
    have iu := (List.getElem?_eq_some_iff.mp hu).1
    have iv := (List.getElem?_eq_some_iff.mp hv).1
    refine wpAny_pyNext_zipD2_item D.s (Draws.list hd i1 a D.a1 us.toArray) (Draws.tuple hd i2 b D.b2 vs.toArray) hz hI hO ⟨h1, pl.isList⟩ ⟨h2, pt⟩ (by simpa using iu) (by simpa using iv) fun x1 x2 g tk e1 e2 g1 g2 g3 g4 g5 g6 gk => ?_
    have hu' : us.toArray[i]? = some u := by simpa using hu
    have hv' : vs.toArray[i]? = some v := by simpa using hv
    rw [hu'] at e1
    rw [hv'] at e2
    cases e1
    cases e2
    refine ⟨_, rfl, wpAny_letOwnedTupleGo_zip (s := { s with heap := g, toks := tk }) g1 fun k k1 sb => ?_⟩
    have kT : k.get? s.heap.objs.size = some { cls := .type "tuple", data := .seq #[u, v] } := (sb.2 _ (Nat.ne_of_gt lz)).trans g5
    have lt : ∀ c ∈ [z, TI, TO, i1, i2], c < s.heap.objs.size := fun c hc => by
      simp only [List.mem_cons, List.not_mem_nil, or_false] at hc
      rcases hc with rfl | rfl | rfl | rfl | rfl
      · exact lz
      · exact Heap.lt_size hI
      · exact Heap.lt_size hO
      · obtain ⟨_, e, _⟩ := h1
        exact Heap.lt_size e
      · obtain ⟨_, e, _⟩ := h2
        exact Heap.lt_size e
    have J : Inv X pins σ (upd H s.heap.objs.size (.tup [x, y])) { s with heap := k, toks := tk } :=
      I.turnedNew (t' := tk) (ch := [z, TI, TO, i1, i2]) (fun c o hb q => by
        simp only [List.mem_cons, List.not_mem_nil, or_false, not_or] at hb
        exact (sb.2 c hb.1).trans (gk c o hb.1 hb.2.2.1 hb.2.2.2.1 hb.2.2.2.2 q)) hf (Nat.le_refl _) ⟨by show 2 ≤ sizeLine; decide, [u, v], .cons ru (.cons rv' .nil), ⟨_, kT, rfl, _, rfl⟩⟩
    refine ⟨.ref s.heap.objs.size, _, J, rfl, ⟨_, x, y, rfl, I.hok.fresh (Nat.le_refl _), rfl, fun l hl => by rw [I.list_inj hl hqx]; exact hx, fun l hl => by rw [I.tuple_inj hl hqy]; exact hy⟩,
      ⟨k1, (sb.2 _ D.s.TIz).trans (gk _ _ D.s.TIz D.s.TITO D.s.TIi1 D.s.TIi2 hI), ⟨u, v, (sb.2 _ D.s.TOz).trans g2⟩, g3.1.at fun o q => (sb.2 _ D.s.zi1.symm).trans q, g4.1.at fun o q => (sb.2 _ D.s.zi2.symm).trans q⟩, fun c hc => ?_⟩
    rw [upd_ne (Nat.ne_of_lt (lt c hc))]
    exact (hf c hc).1
  done := by
    intro X hP hw hK hc i pins s σ H E I hf st hg
    subst hP hw hK
    obtain ⟨hz, hI, ⟨x0, y0, hO⟩, h1, h2⟩ := st
    obtain ⟨xs, ys, hqx, hqy, hend⟩ := hg
    obtain ⟨us, rv, pl, _⟩ := I.list hqx
    obtain ⟨vs, rw_, pt, _⟩ := I.tuple hqy
    have l1 := rv.length
    have l2 := rw_.length
    have hd : X.A.in1.handled = none := I.ok.hd hc
    exact wpAny_pyNext_zipD2_end D.s (Draws.list hd i1 a D.a1 us.toArray) (Draws.tuple hd i2 b D.b2 vs.toArray) hz hI hO ⟨h1, pl.isList⟩ ⟨h2, pt⟩ (by simp; omega) (by simp; omega) (by simp; omega) fun g tk gk =>
      ⟨rfl, I.turnedL (t' := tk) (ch := [z, TI, TO, i1, i2]) (fun c o hb q => by
        simp only [List.mem_cons, List.not_mem_nil, or_false, not_or] at hb
        exact gk c o hb.1 hb.2.2.1 hb.2.2.2.1 hb.2.2.2.2 q) hf⟩
  self := fun A i s Q E st h => wpAny_pyIter_zip st.1 h
/-- zip(LIST, LIST OR TUPLE) -/
def iZipM (K : PySem.W.Frag) (ta : TA) : TI := fun σ H R => ta σ H fun vs H1 => ∃ a b xs ys, vs = [.ref a, .ref b] ∧ SqL K H1 a xs ∧ ((SqL K H1 b ys ∧ R (Itz K a b) H1) ∨ (SqT K H1 b ys ∧ R (ItzM K a b) H1))
theorem pi_zipM {X : Cx} {e e2 : Expr} {ta : TA} {p pos tpos : Pos} {elts : List Expr} {kk : Nat} (hg : Gl X "zip") (hm : X.mg "zip" = none) (ha : PA X [e, e2] ta)
    (st : starEach [e, e2] X.env = (false, eval e X.env) :: starEach [e2] X.env := by rfl) (pl : (backTo pos (starEach [e2] X.env)).any (·.1) = false := by rfl) :
    PI X (.Tuple elts kk tpos) (.Call (.Name "zip" p) [e, e2] [] pos) (iZipM X.K ta) := by
  constructor
  intro pins s σ H R I h
  refine Call_ (ld_blt I hg hm PyProof.Rows.boot_zip (PyProof.Rows.callWith_type1 (thn (ha.run pos pins s σ H _ I h) fun us s1 hq => ?_) st pl))
  obtain ⟨vs, H1, I1, r1, a, b, xs, ys, rfl, hx, q⟩ := hq
  obtain ⟨ua, ub, rfl, ra, rb⟩ : ∃ x y, us = [x, y] ∧ RelV (.ref a) x ∧ RelV (.ref b) y := by
    match us, r1 with
    | [x, y], .cons h1 (.cons h2 .nil) => exact ⟨x, y, rfl, h1, h2⟩
  cases ra
  cases rb
  have up : ∀ c, s1.heap.objs.size ≤ c → FpOk X pins H1 c := fun c l => I1.fpOk l (I1.hok.fresh l)
  have ups : ∀ c ∈ [s1.heap.objs.size + 4, s1.heap.objs.size + 2, s1.heap.objs.size + 3, s1.heap.objs.size, s1.heap.objs.size + 1], FpOk X pins H1 c := fun c m => up c (by
    simp only [List.mem_cons, List.not_mem_nil, or_false] at m
    rcases m with e | e | e | e | e <;> rw [e] <;> first | exact Nat.le_refl _ | exact Nat.le_add_right _ _)
  obtain ⟨us, rv, pa, _⟩ := I1.list hx
  rcases q with ⟨hy, q⟩ | ⟨hy, q⟩
  · obtain ⟨vs, rw_, pb, _⟩ := I1.list hy
    refine call_zip_2 pa.isList pb.isList fun g g1 g2 g3 g4 g5 _ gk => wpAny_pyIter_zip g1 ?_
    exact ⟨_, [s1.heap.objs.size + 4, s1.heap.objs.size + 2, s1.heap.objs.size + 3, s1.heap.objs.size, s1.heap.objs.size + 1], _, _, H1, rfl, I1.kept (t' := s1.toks) gk, turn_zip (PySem.W.ktu_apart _ a b pa.lt pb.lt), ⟨g1, g2, ⟨_, _, g3⟩, g4, g5⟩, ups, q⟩
  · obtain ⟨vs, rw_, pb, _⟩ := I1.tuple hy
    have lb : b < s1.heap.objs.size := by
      obtain ⟨_, e, _⟩ := id pb
      exact Heap.lt_size e
    refine zip_begins2 (begins_list a us.toArray) (begins_tuple b vs.toArray) pa.isList pb fun g g1 g2 g3 g4 g5 _ gk => wpAny_pyIter_zip g1 ?_
    exact ⟨_, [s1.heap.objs.size + 4, s1.heap.objs.size + 2, s1.heap.objs.size + 3, s1.heap.objs.size, s1.heap.objs.size + 1], _, _, H1, rfl, I1.kept (t' := s1.toks) gk, turn_zipM (aps_new pa.lt lb), ⟨g1, g2, ⟨_, _, g3⟩, ⟨_, g4, rfl, rfl⟩, ⟨_, g5, rfl, rfl⟩⟩, ups, q⟩
theorem walk_zipM {K : PySem.W.Frag} {a b : Addr} {xs ys : List V} {n : Nat} (hn : n = min xs.length ys.length) : Walk (ItzM K a b) n (fun H => SqL K H a xs ∧ SqT K H b ys) (YPair (fun i => xs[i]?) (fun i => ys[i]?)) where
  goes i H hi q := ⟨xs, ys, xs[i]'(by omega), ys[i]'(by omega), q.1, q.2, List.getElem?_eq_getElem (by omega), List.getElem?_eq_getElem (by omega)⟩
  stops H q := ⟨xs, ys, q.1, q.2, hn⟩
  yields i H v H' _ q y := by
    obtain ⟨T, x, z, h1, h2, h3, h4, h5⟩ := y
    exact ⟨T, x, z, h1, h2, h3, h4 xs q.1, h5 ys q.2⟩
section
variable {K : PySem.W.Frag} {a b : Addr} {xs ys : List V} {g : TG} {tt : TT} {te : TE} {vs : List Nat} {σ : L2.St} {H : Hp} {k l : Nat} {Q : VK}
/-- [e for x, y in zip(LIST NAME, SEQUENCE NAME)]: by the turn and the heap -/
theorem lc_zipM (hi : σ[k]? = some (some (.ref a))) (hj : σ[l]? = some (some (.ref b))) (hq : SqL K H a xs) (hp : SqQ K H b ys)
    (Pv : Addr → Nat → Hp → Prop) (h0 : ∀ D, H D = none → Pv D 0 (upd H D (.lst []))) (hG : ∀ D i H', Pv D i H' → Same H H')
    (hs : ∀ D i x y t H', H D = none → xs[i]? = some x → ys[i]? = some y → Pv D i H' → H' t = none → g (.ref t) (wipe σ vs) (upd H' t (.tup [x, y])) fun σ2 H2 => wipe σ2 vs = wipe σ vs ∧ tt σ2 H2 fun b H3 => if b = true then te σ2 H3 fun y H4 => ∃ acc, H4 D = some (.lst acc) ∧ acc.length < sizeLine ∧ Pv D (i + 1) (upd H4 D (.lst (acc ++ [y]))) else Pv D (i + 1) H3)
    (hd : ∀ D H', H D = none → Pv D (min xs.length ys.length) H' → Q (.ref D) H') : tLc (iZipM K (tCons (tVar k) (tCons (tVar l) tNil))) g tt te vs σ H Q := by
  rcases hp with hp | hp
  · exact ⟨_, hi, _, hj, a, b, xs, ys, rfl, hq, .inl ⟨hp, fun D nD => lc_it (walk_zip rfl) (Pv D) (h0 D nD) (fun i H' _ p => ⟨(hG D i H' p).seq hq, (hG D i H' p).seq hp⟩) (fun i x Hc Hx hi p y => by
      obtain ⟨t, x', y', rfl, nt, rfl, e1, e2⟩ := y
      exact hs D i x' y' t _ nD e1 e2 p nt) (fun H' p => hd D H' nD p)⟩⟩
  · exact ⟨_, hi, _, hj, a, b, xs, ys, rfl, hq, .inr ⟨hp, fun D nD => lc_it (walk_zipM rfl) (Pv D) (h0 D nD) (fun i H' _ p => ⟨(hG D i H' p).seq hq, Same.t (hG D i H' p) hp⟩) (fun i x Hc Hx hi p y => by
      obtain ⟨t, x', y', rfl, nt, rfl, e1, e2⟩ := y
      exact hs D i x' y' t _ nD e1 e2 p nt) (fun H' p => hd D H' nD p)⟩⟩
end
end Kx
namespace Kx
open PySem PySem.Spec PyProof.Rows L2 SX LamX
/-! ### a call of a name that holds one of some functions -/
/-- f, called with what sp wishes, gives what is promised -/
def RunF (X : Cx) (f : Addr) (sp : Sp) (E : XK) : Prop := PySem.W.keepIn X.K (.ref f) = true ∧ ∀ (pins : List (Addr × Obj)) (σ : L2.St) (H : Hp) (s : Shared) (Q : VK) (us : List Value) (vs : List V),
  Inv X pins σ H s → Vals vs us → sp vs H Q E → wpAny (model X.prog X.w) X.A (call (.ref f) us) (EP X pins σ Q) X.xe s
section
variable {X : Cx} {CX : CXT} {k i : Nat} {f : Addr} {fd : FuncData} {ps : List Str} {sp sp2 : Sp} {E : XK} {x : Str} {p pos : Pos} {e : Expr} {es : List Expr} {t : TA}
theorem RunF.of (F : FnOk X.prog X.w X.K X.mg X.base CX k f fd ps sp) (hr : Room k X.A) (hk : PySem.W.keepIn X.K (.ref f) = true) (hb : Binds X.K fd ps []) (hx : Passes CX X E) : RunF X f sp E :=
  ⟨hk, fun pins σ H s Q us vs I r h => run_fn F hr hb .nil hx I r (by rw [List.append_nil]; exact h)⟩
theorem RunF.mono (R : RunF X f sp E) (h : ∀ vs H Q, sp2 vs H Q E → sp vs H Q E) : RunF X f sp2 E := ⟨R.1, fun pins σ H s Q us vs I r q => R.2 pins σ H s Q us vs I r (h vs H Q q)⟩
theorem pe_callV {fs : List Addr} (hN : X.N[i]? = some x) (hv : Vis X.env.scope x) (hF : ∀ f ∈ fs, RunF X f sp E) (ha : PA X (e :: es) t) (hd : (x == ("__debug__" : Str)) = false := by decide) (hcd : (x == ("__classdict__" : Str)) = false := by decide)
    (he : starEach (e :: es) X.env = (false, eval e X.env) :: starEach es X.env := by rfl) (hpl : (backTo pos (starEach es X.env)).any (·.1) = false := by rfl) :
    PE X (.Call (.Name x p) (e :: es) [] pos) (fun σ H Q => ∃ f, f ∈ fs ∧ σ[i]? = some (some (.ref f)) ∧ t σ H fun vs H1 => sp vs H1 Q E) := by
  refine ⟨fun pins s σ H Q I h => ?_⟩
  obtain ⟨f, hf, hs, hq⟩ := h
  refine wpAny_Call_Name_kw (thn ((pe_var (pos := p) (i := i) hN hv hd hcd).run pins s σ H (fun v H1 => v = .ref f ∧ H1 = H) I ⟨.ref f, hs, rfl, rfl⟩) fun u s1 hh => ?_)
  obtain ⟨v, H1, I1, r1, rfl, rfl⟩ := hh
  obtain rfl : u = Value.ref f := r1
  refine PySem.W.callWith_K (h₀ := X.base) I1.ok.mod.kin (hF f hf).1 (thn (ha.run pos pins s1 σ H1 _ I1 hq) fun us s2 ⟨vs, H2, I2, r, q⟩ => ⟨I2.kIn, ?_⟩) he hpl
  exact (hF f hf).2 pins σ H2 s2 Q us vs I2 r q
end
end Kx
namespace K05
open PySem PySem.Spec PyProof.Rows L2 Kx SX LamX
def topS (i : Nat) : Stmt := PySem.Challenge.pw_anyletter_k05_what_is_no_damage.main.body.getD i (.Pass ⟨0, 0, 0, 0⟩)
abbrev s_is_list : Stmt := topS 2
theorem sc_is_list : FnScope ["value"] ["value"] (defScope s_is_list) := ⟨rfl, rfl, rfl, by decide +kernel, rfl, by decide +kernel, by decide +kernel⟩
abbrev s_is_integer : Stmt := topS 3
theorem sc_is_integer : FnScope ["value"] ["value"] (defScope s_is_integer) := ⟨rfl, rfl, rfl, by decide +kernel, rfl, by decide +kernel, by decide +kernel⟩
abbrev s_is_within : Stmt := topS 4
theorem sc_is_within : FnScope ["value", "least", "most"] ["value", "least", "most"] (defScope s_is_within) := ⟨rfl, rfl, rfl, by decide +kernel, rfl, by decide +kernel, by decide +kernel⟩
abbrev s_are_letters : Stmt := topS 5
theorem sc_are_letters : FnScope ["text"] ["text"] (defScope s_are_letters) := ⟨rfl, rfl, rfl, by decide +kernel, rfl, by decide +kernel, by decide +kernel⟩
abbrev s_is_sign : Stmt := topS 6
theorem sc_is_sign : FnScope ["value"] ["value"] (defScope s_is_sign) := ⟨rfl, rfl, rfl, by decide +kernel, rfl, by decide +kernel, by decide +kernel⟩
abbrev s_is_text : Stmt := topS 7
theorem sc_is_text : FnScope ["value", "letters"] ["value"] (defScope s_is_text) := ⟨rfl, rfl, rfl, by decide +kernel, rfl, by decide +kernel, by decide +kernel⟩
abbrev s_is_edit : Stmt := topS 20
theorem sc_is_edit : FnScope ["value"] ["value"] (defScope s_is_edit) := ⟨rfl, rfl, rfl, by decide +kernel, rfl, by decide +kernel, by decide +kernel⟩
abbrev s_left_by_edit : Stmt := topS 21
theorem sc_left_by_edit : FnScope ["text", "edit", "at"] ["text", "edit"] (defScope s_left_by_edit) := ⟨rfl, rfl, rfl, by decide +kernel, rfl, by decide +kernel, by decide +kernel⟩
abbrev s_texts_behind : Stmt := topS 22
theorem sc_texts_behind : FnScope ["text", "edits", "texts", "edit", "left"] ["text", "edits"] (defScope s_texts_behind) := ⟨rfl, rfl, rfl, by decide +kernel, rfl, by decide +kernel, by decide +kernel⟩
abbrev s_checked_texts : Stmt := topS 23
theorem sc_checked_texts : FnScope ["text", "edits", "texts"] ["text", "edits"] (defScope s_checked_texts) := ⟨rfl, rfl, rfl, by decide +kernel, rfl, by decide +kernel, by decide +kernel⟩
abbrev s_damaged : Stmt := topS 24
theorem sc_damaged : FnScope ["text", "edits"] ["text", "edits"] (defScope s_damaged) := ⟨rfl, rfl, rfl, by decide +kernel, rfl, by decide +kernel, by decide +kernel⟩
abbrev s_undone_edit : Stmt := topS 25
theorem sc_undone_edit : FnScope ["text", "edit", "kind", "at"] ["text", "edit"] (defScope s_undone_edit) := ⟨rfl, rfl, rfl, by decide +kernel, rfl, by decide +kernel, by decide +kernel⟩
abbrev s_undone : Stmt := topS 26
theorem sc_undone : FnScope ["text", "edits", "texts", "ahead", "edit", "back"] ["text", "edits"] (defScope s_undone) := ⟨rfl, rfl, rfl, by decide +kernel, rfl, by decide +kernel, by decide +kernel⟩
abbrev s_owners_at_put_blank : Stmt := topS 27
theorem sc_owners_at_put_blank : FnScope ["text", "at", "owner"] ["text", "at", "owner"] (defScope s_owners_at_put_blank) := ⟨rfl, rfl, rfl, by decide +kernel, rfl, by decide +kernel, by decide +kernel⟩
abbrev s_owners_behind : Stmt := topS 28
theorem sc_owners_behind : FnScope ["owners", "text", "edit", "kind", "at", "number", "parts"] ["owners", "text", "edit"] (defScope s_owners_behind) := ⟨rfl, rfl, rfl, by decide +kernel, rfl, by decide +kernel, by decide +kernel⟩
abbrev s_untouched : Stmt := topS 29
theorem sc_untouched : FnScope ["text", "edits", "texts", "owners", "ahead", "edit", "owner"] ["text", "edits"] (defScope s_untouched) := ⟨rfl, rfl, rfl, by decide +kernel, rfl, by decide +kernel, by decide +kernel⟩
abbrev s_law_sluice : Stmt := topS 31
theorem sc_law_sluice : FnScope ["script", "cell"] ["script"] (defScope s_law_sluice) := ⟨rfl, rfl, rfl, by decide +kernel, rfl, by decide +kernel, by decide +kernel⟩
abbrev s_law_gate : Stmt := topS 32
theorem sc_law_gate : FnScope ["sluice", "many", "rest", "turn", "cell", "mixed"] ["sluice", "many"] (defScope s_law_gate) := ⟨rfl, rfl, rfl, by decide +kernel, rfl, by decide +kernel, by decide +kernel⟩
abbrev s_law_one : Stmt := topS 33
theorem sc_law_one : FnScope ["sluice", "some"] ["sluice", "some"] (defScope s_law_one) := ⟨rfl, rfl, rfl, by decide +kernel, rfl, by decide +kernel, by decide +kernel⟩
abbrev s_law_done : Stmt := topS 34
theorem sc_law_done : FnScope ["text", "edit", "at"] ["text", "edit"] (defScope s_law_done) := ⟨rfl, rfl, rfl, by decide +kernel, rfl, by decide +kernel, by decide +kernel⟩
abbrev s_law_edit : Stmt := topS 35
theorem sc_law_edit : FnScope ["sluice", "text", "signs", "way", "sign", "at"] ["sluice", "text", "signs"] (defScope s_law_edit) := ⟨rfl, rfl, rfl, by decide +kernel, rfl, by decide +kernel, by decide +kernel⟩
abbrev s_law_damage : Stmt := topS 36
theorem sc_law_damage : FnScope ["sluice", "text", "many", "signs", "found", "turn", "edit"] ["sluice", "text", "many", "signs"] (defScope s_law_damage) := ⟨rfl, rfl, rfl, by decide +kernel, rfl, by decide +kernel, by decide +kernel⟩
abbrev s_law_text : Stmt := topS 37
theorem sc_law_text : FnScope ["sluice", "most", "signs", "turn"] ["sluice", "most"] (defScope s_law_text) := ⟨rfl, rfl, rfl, by decide +kernel, rfl, by decide +kernel, by decide +kernel⟩
abbrev s_law_heard : Stmt := topS 38
theorem sc_law_heard : FnScope ["ask", "caught", "error", "kinds"] ["ask"] (defScope s_law_heard) := ⟨rfl, rfl, rfl, by decide +kernel, rfl, by decide +kernel, by decide +kernel⟩
abbrev s_law_odd : Stmt := topS 39
theorem sc_law_odd : FnScope ["sluice", "text", "far", "low", "found", "at"] ["sluice", "text"] (defScope s_law_odd) := ⟨rfl, rfl, rfl, by decide +kernel, rfl, by decide +kernel, by decide +kernel⟩
abbrev s_law : Stmt := topS 40
theorem sc_law : FnScope ["script", "sluice", "turn", "text", "many", "edits", "behind", "at", "now", "edit", "bent", "wrong", "none", "ask", "heard", "full"] ["script"] (defScope s_law) := ⟨rfl, rfl, rfl, by decide +kernel, rfl, by decide +kernel, by decide +kernel⟩
abbrev s_BadText_init : Stmt := inClass (topS 11) 0
theorem sc_BadText_init : FnScope ["self", "part"] ["self", "part"] (defScope s_BadText_init) := ⟨rfl, rfl, rfl, by decide +kernel, rfl, by decide +kernel, by decide +kernel⟩
theorem in_BadText : IsInit s_BadText_init := ⟨_, _, _, _, rfl, sc_BadText_init, rfl, rfl⟩
abbrev s_BadEdits_init : Stmt := inClass (topS 14) 0
theorem sc_BadEdits_init : FnScope ["self", "part"] ["self", "part"] (defScope s_BadEdits_init) := ⟨rfl, rfl, rfl, by decide +kernel, rfl, by decide +kernel, by decide +kernel⟩
theorem in_BadEdits : IsInit s_BadEdits_init := ⟨_, _, _, _, rfl, sc_BadEdits_init, rfl, rfl⟩
structure Tx (K : PySem.W.Frag) (mg : Str → Option Value) where
  f_is_list : Addr
  fd_is_list : FuncData
  F_is_list : Fun K "is_list" "is_list" s_is_list f_is_list fd_is_list
  g_is_list : mg "is_list" = some (.ref f_is_list)
  b_is_list : Binds K fd_is_list ["value"] []
  f_is_integer : Addr
  fd_is_integer : FuncData
  F_is_integer : Fun K "is_integer" "is_integer" s_is_integer f_is_integer fd_is_integer
  g_is_integer : mg "is_integer" = some (.ref f_is_integer)
  b_is_integer : Binds K fd_is_integer ["value"] []
  f_is_within : Addr
  fd_is_within : FuncData
  F_is_within : Fun K "is_within" "is_within" s_is_within f_is_within fd_is_within
  g_is_within : mg "is_within" = some (.ref f_is_within)
  b_is_within : Binds K fd_is_within ["value", "least", "most"] []
  f_are_letters : Addr
  fd_are_letters : FuncData
  F_are_letters : Fun K "are_letters" "are_letters" s_are_letters f_are_letters fd_are_letters
  g_are_letters : mg "are_letters" = some (.ref f_are_letters)
  b_are_letters : Binds K fd_are_letters ["text"] []
  f_is_sign : Addr
  fd_is_sign : FuncData
  F_is_sign : Fun K "is_sign" "is_sign" s_is_sign f_is_sign fd_is_sign
  g_is_sign : mg "is_sign" = some (.ref f_is_sign)
  b_is_sign : Binds K fd_is_sign ["value"] []
  f_is_text : Addr
  fd_is_text : FuncData
  F_is_text : Fun K "is_text" "is_text" s_is_text f_is_text fd_is_text
  g_is_text : mg "is_text" = some (.ref f_is_text)
  b_is_text : Binds K fd_is_text ["value"] []
  f_is_edit : Addr
  fd_is_edit : FuncData
  F_is_edit : Fun K "is_edit" "is_edit" s_is_edit f_is_edit fd_is_edit
  g_is_edit : mg "is_edit" = some (.ref f_is_edit)
  b_is_edit : Binds K fd_is_edit ["value"] []
  f_left_by_edit : Addr
  fd_left_by_edit : FuncData
  F_left_by_edit : Fun K "left_by_edit" "left_by_edit" s_left_by_edit f_left_by_edit fd_left_by_edit
  g_left_by_edit : mg "left_by_edit" = some (.ref f_left_by_edit)
  b_left_by_edit : Binds K fd_left_by_edit ["text", "edit"] []
  f_texts_behind : Addr
  fd_texts_behind : FuncData
  F_texts_behind : Fun K "texts_behind" "texts_behind" s_texts_behind f_texts_behind fd_texts_behind
  g_texts_behind : mg "texts_behind" = some (.ref f_texts_behind)
  b_texts_behind : Binds K fd_texts_behind ["text", "edits"] []
  f_checked_texts : Addr
  fd_checked_texts : FuncData
  F_checked_texts : Fun K "checked_texts" "checked_texts" s_checked_texts f_checked_texts fd_checked_texts
  g_checked_texts : mg "checked_texts" = some (.ref f_checked_texts)
  b_checked_texts : Binds K fd_checked_texts ["text", "edits"] []
  f_damaged : Addr
  fd_damaged : FuncData
  F_damaged : Fun K "damaged" "damaged" s_damaged f_damaged fd_damaged
  g_damaged : mg "damaged" = some (.ref f_damaged)
  b_damaged : Binds K fd_damaged ["text", "edits"] []
  f_undone_edit : Addr
  fd_undone_edit : FuncData
  F_undone_edit : Fun K "undone_edit" "undone_edit" s_undone_edit f_undone_edit fd_undone_edit
  g_undone_edit : mg "undone_edit" = some (.ref f_undone_edit)
  b_undone_edit : Binds K fd_undone_edit ["text", "edit"] []
  f_undone : Addr
  fd_undone : FuncData
  F_undone : Fun K "undone" "undone" s_undone f_undone fd_undone
  g_undone : mg "undone" = some (.ref f_undone)
  b_undone : Binds K fd_undone ["text", "edits"] []
  f_owners_at_put_blank : Addr
  fd_owners_at_put_blank : FuncData
  F_owners_at_put_blank : Fun K "owners_at_put_blank" "owners_at_put_blank" s_owners_at_put_blank f_owners_at_put_blank fd_owners_at_put_blank
  g_owners_at_put_blank : mg "owners_at_put_blank" = some (.ref f_owners_at_put_blank)
  b_owners_at_put_blank : Binds K fd_owners_at_put_blank ["text", "at", "owner"] []
  f_owners_behind : Addr
  fd_owners_behind : FuncData
  F_owners_behind : Fun K "owners_behind" "owners_behind" s_owners_behind f_owners_behind fd_owners_behind
  g_owners_behind : mg "owners_behind" = some (.ref f_owners_behind)
  b_owners_behind : Binds K fd_owners_behind ["owners", "text", "edit"] []
  f_untouched : Addr
  fd_untouched : FuncData
  F_untouched : Fun K "untouched" "untouched" s_untouched f_untouched fd_untouched
  g_untouched : mg "untouched" = some (.ref f_untouched)
  b_untouched : Binds K fd_untouched ["text", "edits"] []
  f_law_sluice : Addr
  fd_law_sluice : FuncData
  F_law_sluice : Fun K "_law_sluice" "_law_sluice" s_law_sluice f_law_sluice fd_law_sluice
  g_law_sluice : mg "_law_sluice" = some (.ref f_law_sluice)
  b_law_sluice : Binds K fd_law_sluice ["script"] []
  f_law_gate : Addr
  fd_law_gate : FuncData
  F_law_gate : Fun K "_law_gate" "_law_gate" s_law_gate f_law_gate fd_law_gate
  g_law_gate : mg "_law_gate" = some (.ref f_law_gate)
  b_law_gate : Binds K fd_law_gate ["sluice", "many"] []
  f_law_one : Addr
  fd_law_one : FuncData
  F_law_one : Fun K "_law_one" "_law_one" s_law_one f_law_one fd_law_one
  g_law_one : mg "_law_one" = some (.ref f_law_one)
  b_law_one : Binds K fd_law_one ["sluice", "some"] []
  f_law_done : Addr
  fd_law_done : FuncData
  F_law_done : Fun K "_law_done" "_law_done" s_law_done f_law_done fd_law_done
  g_law_done : mg "_law_done" = some (.ref f_law_done)
  b_law_done : Binds K fd_law_done ["text", "edit"] []
  f_law_edit : Addr
  fd_law_edit : FuncData
  F_law_edit : Fun K "_law_edit" "_law_edit" s_law_edit f_law_edit fd_law_edit
  g_law_edit : mg "_law_edit" = some (.ref f_law_edit)
  b_law_edit : Binds K fd_law_edit ["sluice", "text", "signs"] []
  f_law_damage : Addr
  fd_law_damage : FuncData
  F_law_damage : Fun K "_law_damage" "_law_damage" s_law_damage f_law_damage fd_law_damage
  g_law_damage : mg "_law_damage" = some (.ref f_law_damage)
  b_law_damage : Binds K fd_law_damage ["sluice", "text", "many", "signs"] []
  f_law_text : Addr
  fd_law_text : FuncData
  F_law_text : Fun K "_law_text" "_law_text" s_law_text f_law_text fd_law_text
  g_law_text : mg "_law_text" = some (.ref f_law_text)
  b_law_text : Binds K fd_law_text ["sluice", "most"] []
  f_law_heard : Addr
  fd_law_heard : FuncData
  F_law_heard : Fun K "_law_heard" "_law_heard" s_law_heard f_law_heard fd_law_heard
  g_law_heard : mg "_law_heard" = some (.ref f_law_heard)
  b_law_heard : Binds K fd_law_heard ["ask"] []
  f_law_odd : Addr
  fd_law_odd : FuncData
  F_law_odd : Fun K "_law_odd" "_law_odd" s_law_odd f_law_odd fd_law_odd
  g_law_odd : mg "_law_odd" = some (.ref f_law_odd)
  b_law_odd : Binds K fd_law_odd ["sluice", "text"] []
  f_law : Addr
  fd_law : FuncData
  F_law : Fun K "law" "law" s_law f_law fd_law
  g_law : mg "law" = some (.ref f_law)
  b_law : Binds K fd_law ["script"] []
  n_law : PySem.W.nsIn K mainGlobals "law" = some (some (.ref f_law))
  k_TooMany : Addr
  gk_TooMany : mg "TooMany" = some (.ref k_TooMany)
  kc_TooMany : PySem.W.isClsIn K k_TooMany = true
  kt_TooMany : PySem.W.typeIn K (.ref k_TooMany) = some (.type "type")
  k_BadText : Addr
  gk_BadText : mg "BadText" = some (.ref k_BadText)
  kc_BadText : PySem.W.isClsIn K k_BadText = true
  kt_BadText : PySem.W.typeIn K (.ref k_BadText) = some (.type "type")
  k_BadEdits : Addr
  gk_BadEdits : mg "BadEdits" = some (.ref k_BadEdits)
  kc_BadEdits : PySem.W.isClsIn K k_BadEdits = true
  kt_BadEdits : PySem.W.typeIn K (.ref k_BadEdits) = some (.type "type")
  k_BadNumber : Addr
  gk_BadNumber : mg "BadNumber" = some (.ref k_BadNumber)
  kc_BadNumber : PySem.W.isClsIn K k_BadNumber = true
  kt_BadNumber : PySem.W.typeIn K (.ref k_BadNumber) = some (.type "type")
  k_BadBook : Addr
  gk_BadBook : mg "BadBook" = some (.ref k_BadBook)
  kc_BadBook : PySem.W.isClsIn K k_BadBook = true
  kt_BadBook : PySem.W.typeIn K (.ref k_BadBook) = some (.type "type")
  k_BadMachine : Addr
  gk_BadMachine : mg "BadMachine" = some (.ref k_BadMachine)
  kc_BadMachine : PySem.W.isClsIn K k_BadMachine = true
  kt_BadMachine : PySem.W.typeIn K (.ref k_BadMachine) = some (.type "type")
  k_BadRow : Addr
  gk_BadRow : mg "BadRow" = some (.ref k_BadRow)
  kc_BadRow : PySem.W.isClsIn K k_BadRow = true
  kt_BadRow : PySem.W.typeIn K (.ref k_BadRow) = some (.type "type")
  k_Misfit : Addr
  gk_Misfit : mg "Misfit" = some (.ref k_Misfit)
  kc_Misfit : PySem.W.isClsIn K k_Misfit = true
  kt_Misfit : PySem.W.typeIn K (.ref k_Misfit) = some (.type "type")
  su_BadText_TooMany : PySem.W.subIn K (.ref k_BadText) (.ref k_TooMany) = some false
  su_BadText_BadText : PySem.W.subIn K (.ref k_BadText) (.ref k_BadText) = some true
  su_BadText_BadEdits : PySem.W.subIn K (.ref k_BadText) (.ref k_BadEdits) = some false
  su_BadText_BadNumber : PySem.W.subIn K (.ref k_BadText) (.ref k_BadNumber) = some false
  su_BadText_BadBook : PySem.W.subIn K (.ref k_BadText) (.ref k_BadBook) = some false
  su_BadText_BadMachine : PySem.W.subIn K (.ref k_BadText) (.ref k_BadMachine) = some false
  su_BadText_BadRow : PySem.W.subIn K (.ref k_BadText) (.ref k_BadRow) = some false
  su_BadText_Misfit : PySem.W.subIn K (.ref k_BadText) (.ref k_Misfit) = some false
  su_BadEdits_TooMany : PySem.W.subIn K (.ref k_BadEdits) (.ref k_TooMany) = some false
  su_BadEdits_BadText : PySem.W.subIn K (.ref k_BadEdits) (.ref k_BadText) = some false
  su_BadEdits_BadEdits : PySem.W.subIn K (.ref k_BadEdits) (.ref k_BadEdits) = some true
  su_BadEdits_BadNumber : PySem.W.subIn K (.ref k_BadEdits) (.ref k_BadNumber) = some false
  su_BadEdits_BadBook : PySem.W.subIn K (.ref k_BadEdits) (.ref k_BadBook) = some false
  su_BadEdits_BadMachine : PySem.W.subIn K (.ref k_BadEdits) (.ref k_BadMachine) = some false
  su_BadEdits_BadRow : PySem.W.subIn K (.ref k_BadEdits) (.ref k_BadRow) = some false
  su_BadEdits_Misfit : PySem.W.subIn K (.ref k_BadEdits) (.ref k_Misfit) = some false
  m_isinstance : mg "isinstance" = none
  m_list : mg "list" = none
  m_tuple : mg "tuple" = none
  m_int : mg "int" = none
  m_bool : mg "bool" = none
  m_str : mg "str" = none
  m_len : mg "len" = none
  m_zip : mg "zip" = none
  m_range : mg "range" = none
  m_abs : mg "abs" = none
  e_BadText : Er K mg "BadText" "BadText.__init__" s_BadText_init "LetterError"
  e_BadEdits : Er K mg "BadEdits" "BadEdits.__init__" s_BadEdits_init "LetterError"
  t_MOST_SIGNS : Tok
  c_MOST_SIGNS : mg "MOST_SIGNS" = some (.int 200000 t_MOST_SIGNS)
  t_MOST_EDITS : Tok
  c_MOST_EDITS : mg "MOST_EDITS" = some (.int 12 t_MOST_EDITS)
section
variable {P : Program} {w : World} {K : PySem.W.Frag} {mg : Str → Option Value} {base : Heap} (T : Tx K mg)
/-! ### checks -/
def sp_is_list (K : PySem.W.Frag) : Sp := fun vs H Q _ => ∃ (x : V) (n : String) (b : Bool), vs = [x] ∧ TyX K H x (.type n) ∧ PySem.W.kitAny K (.type n) [.type "list", .type "tuple"] = some b ∧ ∀ H', Same H H' → Q (.bl b) H'
theorem ok_is_list : FnOk P w K mg base CX0 1 T.f_is_list T.fd_is_list ["value"] (sp_is_list K) := by
  refine T.F_is_list.ok sc_is_list (fun vs H Q E h => ?_) (fun cdv A outer s H vs Q E hr h => ?_)
  · obtain ⟨x, n, b, rfl, _⟩ := h
    rfl
  · obtain ⟨x, n, b, rfl, ht, hk, q⟩ := h
    refine ⟨_, (pss_one (ps_ret (pe_callB call_isiT (by rfl) T.m_isinstance (by decide +kernel) (pa_cons (pv 0) (pa_cons (pe_tup (pa_cons (pe_bltn (v := .ty "list") (by rfl) T.m_list (by decide +kernel) rfl) (pa_cons (pe_bltn (v := .ty "tuple") (by rfl) T.m_tuple (by decide +kernel) rfl) pa_nil))) pa_nil))))), ?_⟩
    refine ⟨x, rfl, by show 2 ≤ sizeLine; decide, fun p np => ?_⟩
    exact ⟨x, p, _, _, _, b, rfl, upd_same, .cons (.ty _) (.cons (.ty _) .nil), tyx_same (same_new np) ht, hk, q _ (same_new np)⟩
def sp_is_integer (K : PySem.W.Frag) : Sp := fun vs H Q _ => ∃ (x : V) (n : String) (a b : Bool), vs = [x] ∧ TyX K H x (.type n) ∧ kitB n "int" = some a ∧ kitB n "bool" = some b ∧ Q (.bl (a && !b)) H
theorem ok_is_integer : FnOk P w K mg base CX0 1 T.f_is_integer T.fd_is_integer ["value"] (sp_is_integer K) := by
  refine T.F_is_integer.ok sc_is_integer (fun vs H Q E h => ?_) (fun cdv A outer s H vs Q E hr h => ?_)
  · obtain ⟨x, n, a, b, rfl, _⟩ := h
    rfl
  · obtain ⟨x, n, a, b, rfl, ht, h1, h2, q⟩ := h
    refine ⟨_, (pss_one (ps_ret (pe_and (pe_callB call_isi (by rfl) T.m_isinstance (by decide +kernel) (pa_cons (pv 0) (pa_cons (pe_bltn (v := .ty "int") (by rfl) T.m_int (by decide +kernel) rfl) pa_nil))) (pe_one (pe_not (pe_callB call_isi (by rfl) T.m_isinstance (by decide +kernel) (pa_cons (pv 0) (pa_cons (pe_bltn (v := .ty "bool") (by rfl) T.m_bool (by decide +kernel) rfl) pa_nil)))))))), ?_⟩
    refine ⟨x, rfl, x, _, _, _, a, rfl, .ty _, ht, kit_ty h1, a, rfl, iteC (fun e => ?_) (fun e => ?_)⟩
    · refine ⟨x, rfl, x, _, _, _, b, rfl, .ty _, ht, kit_ty h2, b, rfl, ?_⟩
      rw [e] at q
      exact q
    · rw [e] at q
      exact q
def sp_is_within (K : PySem.W.Frag) : Sp := fun vs H Q _ => ∃ (x : V) (lo hi : Option Int), vs = [x, bdV lo, bdV hi] ∧ HasInt K H x ∧ Q (.bl (withinV x lo hi)) H
theorem ok_is_within : FnOk P w K mg base CX0 2 T.f_is_within T.fd_is_within ["value", "least", "most"] (sp_is_within K) := by
  refine T.F_is_within.ok sc_is_within (fun vs H Q E h => ?_) (fun cdv A outer s H vs Q E hr h => ?_)
  · obtain ⟨i, lo, hi, rfl, _⟩ := h
    rfl
  · obtain ⟨x, lo, hi, rfl, ⟨n, a, b, ht, k1, k2, e⟩, q⟩ := h
    refine ⟨_, (pss_cons (ps_if (pt_not (pt_val (pe_call (ok_is_integer T) (hr.mono (by decide)) (by rfl) T.g_is_integer T.F_is_integer.kp T.b_is_integer .nil pass0 (pa_cons (pv 0) pa_nil))))
      (pss_one (ps_ret pe_bl))
      pss_nil)
    (pss_one (ps_ret (pe_and (pe_or (pe_cmpR op_isN (pv 1) pe_non (nomark _)) (pe_one (pe_cmpR op_ge (pv 0) (pv 1) (nomark _)))) (pe_one (pe_or (pe_cmpR op_isN (pv 2) pe_non (nomark _)) (pe_one (pe_cmpR op_le (pv 0) (pv 2) (nomark _))))))))), ?_⟩
    refine ⟨_, rfl, x, n, a, b, rfl, ht, k1, k2, _, rfl, ?_⟩
    rw [e]
    cases x with
    | int i =>
      refine iteF ⟨_, rfl, rfl, _, rfl, ?_⟩
      cases lo with
      | none =>
        refine iteT ⟨_, rfl, iteT ⟨_, rfl, rfl, _, rfl, ?_⟩⟩
        cases hi with
        | none => exact iteT q
        | some h => exact iteF ⟨_, rfl, _, rfl, _, _, rfl, rfl, q⟩
      | some l =>
        have q' : Q (.bl (decide (l ≤ i) && hiB i hi)) H := q
        refine iteF ⟨_, rfl, _, rfl, _, _, rfl, rfl, _, rfl, iteC (fun e => ?_) (fun e => ?_)⟩
        · rw [e] at q'
          refine ⟨_, rfl, rfl, _, rfl, ?_⟩
          cases hi with
          | none => exact iteT q'
          | some h => exact iteF ⟨_, rfl, _, rfl, _, _, rfl, rfl, q'⟩
        · rw [e] at q'
          exact q'
    | _ => exact iteT q
/-! ### words, signs, texts -/
def sp_are_letters (K : PySem.W.Frag) : Sp := fun vs H Q _ => ∃ (l : List Nat), vs = [.str (S l)] ∧ Q (.bl (lowB l)) H
theorem ok_are_letters : FnOk P w K mg base CX0 1 T.f_are_letters T.fd_are_letters ["text"] (sp_are_letters K) := by
  refine T.F_are_letters.ok sc_are_letters (fun vs H Q E h => ?_) (fun cdv A outer s H vs Q E hr h => ?_)
  · obtain ⟨l, rfl, _⟩ := h
    rfl
  · obtain ⟨l, rfl, q⟩ := h
    rw [← letters_S] at q
    refine ⟨_, (pss_one (ps_ret (pe_and (pe_m0 PySem.F.slot_str_isascii PySem.F.type_str_isascii mt_isascii (pv 0)) (pe_and (pe_m0 PySem.F.slot_str_isalpha PySem.F.type_str_isalpha mt_isalpha (pv 0)) (pe_one (pe_m0 PySem.F.slot_str_islower PySem.F.type_str_islower mt_islower (pv 0))))))), ?_⟩
    refine ⟨_, rfl, ⟨_, rfl⟩, S l, rfl, rfl, trivial, _, rfl, iteC (fun e => ?_) (fun e => ?_)⟩
    · rw [e] at q
      refine ⟨_, rfl, ⟨_, rfl⟩, S l, rfl, rfl, trivial, _, rfl, iteC (fun e => ?_) (fun e => ?_)⟩
      · rw [e] at q
        exact ⟨_, rfl, ⟨_, rfl⟩, S l, rfl, rfl, trivial, q⟩
      · rw [e] at q
        exact q
    · rw [e] at q
      exact q
/-- a text, or what is none -/
def StrIs (K : PySem.W.Frag) (H : Hp) (x : V) (o : Option (List Nat)) : Prop := match o with
  | some l => x = .str (S l) ∧ l.length ≤ 1000000
  | none => ∃ n, TyX K H x (.type n) ∧ kitB n "str" = some false
theorem StrIs.same {K : PySem.W.Frag} {H H' : Hp} {x : V} {o : Option (List Nat)} (e : Same H H') (h : StrIs K H x o) : StrIs K H' x o := by
  cases o with
  | some l => exact h
  | none =>
    obtain ⟨n, h1, h2⟩ := h
    exact ⟨n, tyx_same e h1, h2⟩
theorem kit_str : kitB "str" "str" = some true := by decide +kernel
def signB (l : List Nat) : Bool := decide (l.length = 1) && l.all sg
def sp_is_sign (K : PySem.W.Frag) : Sp := fun vs H Q _ => ∃ (x : V) (o : Option (List Nat)), vs = [x] ∧ StrIs K H x o ∧ Q (.bl (o.elim false signB)) H
theorem ok_is_sign : FnOk P w K mg base CX0 2 T.f_is_sign T.fd_is_sign ["value"] (sp_is_sign K) := by
  refine T.F_is_sign.ok sc_is_sign (fun vs H Q E h => ?_) (fun cdv A outer s H vs Q E hr h => ?_)
  · obtain ⟨x, o, rfl, _⟩ := h
    rfl
  · obtain ⟨x, o, rfl, hx, q⟩ := h
    refine ⟨_, (pss_one (ps_ret (pe_and (pe_callB call_isi (by rfl) T.m_isinstance (by decide +kernel) (pa_cons (pv 0) (pa_cons (pe_bltn (v := .ty "str") (by rfl) T.m_str (by decide +kernel) rfl) pa_nil))) (pe_and (pe_cmpR op_eq (pe_callB call_len_str (by rfl) T.m_len PySem.boot_len (pa_cons (pv 0) pa_nil)) pe_int (nomark _)) (pe_one (pe_or (pe_cmpR op_eq (pv 0) pe_str (nomark _)) (pe_one (pe_call (ok_are_letters T) (hr.mono (by decide)) (by rfl) T.g_are_letters T.F_are_letters.kp T.b_are_letters .nil pass0 (pa_cons (pv 0) pa_nil))))))))), ?_⟩
    cases o with
    | none =>
      obtain ⟨n, h1, h2⟩ := hx
      exact ⟨x, rfl, x, _, _, _, false, rfl, .ty _, h1, kit_ty h2, _, rfl, iteF q⟩
    | some l =>
      obtain ⟨rfl, hl⟩ := hx
      refine ⟨_, rfl, _, _, _, _, true, rfl, .ty _, .base (.str (S l)), kit_ty kit_str, _, rfl, ?_⟩
      refine iteT (B := _) ?_
      have q' : Q (.bl (decide (l.length = 1) && l.all sg)) H := q
      have e1 : decide (V.int ((S l).length : Int) = V.int 1) = decide (l.length = 1) := by
        rw [S_len]
        by_cases h : l.length = 1
        · rw [decide_eq_true h, decide_eq_true (by rw [h]; rfl)]
        · rw [decide_eq_false h, decide_eq_false (fun e => h (by injection e with e; omega))]
      refine ⟨_, rfl, S l, rfl, by rw [S_len]; exact Nat.le_trans hl (by decide), rfl, _, rfl, ?_⟩
      rw [e1]
      cases h : decide (l.length = 1) with
      | false =>
        rw [h] at q'
        exact iteF q'
      | true =>
        rw [h] at q'
        refine iteT (B := _) ?_
        obtain ⟨c, rfl⟩ : ∃ c, l = [c] := List.length_eq_one_iff.mp (of_decide_eq_true h)
        have e2 : decide (V.str (S [c]) = V.str " ") = decide (c = 32) := by
          by_cases hc : c = 32
          · subst hc
            rfl
          · rw [decide_eq_false hc, decide_eq_false]
            intro e
            injection e with e
            have := congrArg (fun z : Str => z.cps.toList) e
            simp [S] at this
            exact hc (by have h2 : (Str.ofString " ").cps.toList = [32] := rfl; rw [h2] at this; simpa using this)
        refine ⟨_, rfl, rfl, _, rfl, ?_⟩
        rw [e2]
        cases hc : decide (c = 32) with
        | true =>
          refine iteT (B := _) ?_
          have : (true && [c].all sg) = true := by simp [sg, of_decide_eq_true hc]
          rw [this] at q'
          exact q'
        | false =>
          refine iteF (A := _) ?_
          refine ⟨_, rfl, [c], rfl, ?_⟩
          have : (true && [c].all sg) = lowB [c] := by
            unfold lowB
            simp [sg, of_decide_eq_false hc]
          rw [← this]
          exact q'
def sp_is_text (K : PySem.W.Frag) : Sp := fun vs H Q _ => ∃ (x : V) (o : Option (List Nat)), vs = [x] ∧ StrIs K H x o ∧ Q (.bl (o.elim false textB)) H
theorem ok_is_text : FnOk P w K mg base CX0 2 T.f_is_text T.fd_is_text ["value"] (sp_is_text K) := by
  refine okT T.F_is_text sc_is_text (by decide +kernel) (by decide) (fun vs H Q E h => ?_) (fun cdv A outer s H vs Q E hr h => ?_)
  · obtain ⟨x, o, rfl, _⟩ := h
    rfl
  · obtain ⟨x, o, rfl, hx, q⟩ := h
    refine ⟨_, (psst_cons (PST.of (ps_if (PW.pt (pw_or (pt_not (pt_val (pe_callB call_isi (by rfl) T.m_isinstance (by decide +kernel) (pa_cons (pv 0) (pa_cons (pe_bltn (v := .ty "str") (by rfl) T.m_str (by decide +kernel) rfl) pa_nil))))) (pw_or1 (pt_cmpR op_gt (pe_callB call_len_str (by rfl) T.m_len PySem.boot_len (pa_cons (pv 0) pa_nil)) (pe_glob (v := .int 200000) (by rfl) T.c_MOST_SIGNS ⟨_, rfl⟩) (nomark _)))))
      (pss_one (ps_ret pe_bl))
      pss_nil))
    (psst_cons (pst_set (i := 1) sc_is_text.nd rfl (.inl rfl) (CwR.pet_replC (pv 0)))
    (PSsT.of (pss_one (ps_ret (pe_or (pe_cmpR op_eq (pv 1) pe_str (nomark _)) (pe_one (pe_call (ok_are_letters T) (hr.mono (by decide)) (by rfl) T.g_are_letters T.F_are_letters.kp T.b_are_letters .nil pass0 (pa_cons (pv 1) pa_nil))))))))), ?_⟩
    cases o with
    | none =>
      obtain ⟨n, h1, h2⟩ := hx
      refine ⟨x, rfl, x, _, _, _, false, rfl, .ty _, h1, kit_ty h2, _, rfl, ?_⟩
      refine iteT (B := _) ?_
      refine iteT (B := _) ?_
      exact q
    | some l =>
      obtain ⟨rfl, hl⟩ := hx
      refine ⟨_, rfl, _, _, _, _, true, rfl, .ty _, .base (.str (S l)), kit_ty kit_str, _, rfl, ?_⟩
      refine iteF (A := _) ?_
      have q' : Q (.bl (decide (l.length ≤ 200000) && l.all sg)) H := q
      have e1 : decide ((200000 : Int) < ((S l).length : Int)) = !decide (l.length ≤ 200000) := by
        rw [S_len]
        by_cases h : l.length ≤ 200000
        · rw [decide_eq_true h, decide_eq_false (by omega)]
          rfl
        · rw [decide_eq_false h, decide_eq_true (by omega)]
          rfl
      refine ⟨_, rfl, S l, rfl, by rw [S_len]; exact Nat.le_trans hl (by decide), _, _, rfl, rfl, _, rfl, ?_⟩
      rw [e1]
      cases h : decide (l.length ≤ 200000) with
      | false =>
        rw [h] at q'
        refine iteT (B := _) ?_
        exact q'
      | true =>
        rw [h] at q'
        have h' : l.length ≤ 200000 := of_decide_eq_true h
        refine iteF (A := _) ?_
        refine ⟨_, rfl, S l, rfl, by rw [S_len]; show l.length + (l.length + 1) * 0 ≤ 16777216; omega, ?_⟩
        have eR : Txt.replace (S l) " " "" = S (l.filter (· != 32)) := replace_S l
        rw [eR]
        have q2 : Q (.bl ((l.filter (· != 32)).isEmpty || lowB (l.filter (· != 32)))) H := by
          rw [text_filter]
          exact q'
        refine ⟨_, rfl, rfl, _, rfl, ?_⟩
        rw [S_nil]
        cases hE : (l.filter (· != 32)).isEmpty with
        | true =>
          rw [hE] at q2
          refine iteT (B := _) ?_
          exact q2
        | false =>
          rw [hE] at q2
          refine iteF (A := _) ?_
          exact ⟨_, rfl, _, rfl, q2⟩
end
end K05
namespace K05
open PySem PySem.Spec PyProof.Rows L2 Kx SX LamX
section
variable {P : Program} {w : World} {K : PySem.W.Frag} {mg : Str → Option Value} {base : Heap} (T : Tx K mg)
theorem go_tup {σ : L2.St} {H : Hp} {t : TA} {Q : VK} (h : t σ H fun xs H1 => xs.length ≤ sizeLine ∧ ∀ p, H1 p = none → Q (.ref p) (upd H1 p (.tup xs))) : tTup t σ H Q := h
theorem ix_q {p : Addr} {xs : List V} {i : Int} {v : V} {H : Hp} {Q : VK} (h : SqQ K H p xs) (at' : atI xs i = some v) (q : Q v H) : rIx K (.ref p) (.int i) H Q := by
  rcases h with h | h
  · exact .inl ⟨p, xs, i, v, rfl, rfl, h, at', q⟩
  · exact .inr (.inl ⟨p, xs, i, v, rfl, rfl, h, at', q⟩)
/-- an edit -/
inductive Ed where
  | put (a c : Nat)
  | lost (a : Nat)
  | chg (a c : Nat)
deriving DecidableEq
def Ed.vs : Ed → List V
  | .put a c => [.str "put", .int (a : Nat), .str (S [c])]
  | .lost a => [.str "lost", .int (a : Nat)]
  | .chg a c => [.str "changed", .int (a : Nat), .str (S [c])]
def Ed.ok : Ed → Bool
  | .put _ c => sg c
  | .lost _ => true
  | .chg _ c => sg c
/-- the text behind an edit -/
def doE (t : List Nat) : Ed → Option (List Nat)
  | .put a c => if a ≤ t.length ∧ t.length < 200000 then some (t.take a ++ [c] ++ t.drop a) else none
  | .lost a => if a < t.length then some (t.take a ++ t.drop (a + 1)) else none
  | .chg a c => if a < t.length ∧ t.getD a 0 ≠ c then some (t.take a ++ [c] ++ t.drop (a + 1)) else none
def optS : Option (List Nat) → V
  | some l => .str (S l)
  | none => .non
theorem within0 (a : Nat) : withinV (.int (a : Nat)) (some 0) none = true := by
  show (decide ((0 : Int) ≤ (a : Int)) && true) = true
  rw [decide_eq_true (by omega)]
  rfl
/-- what is no edit -/
inductive BadE (K : PySem.W.Frag) (H : Hp) : V → Prop
  | kind {v : V} {n : String} : TyX K H v (.type n) → PySem.W.kitAny K (.type n) [.type "list", .type "tuple"] = some false → BadE K H v
  | size {p : Addr} {xs : List V} : SqQ K H p xs → xs.length ≠ 2 → xs.length ≠ 3 → BadE K H (.ref p)
  | word {p : Addr} {i : Int} {v : V} {r : List V} : SqQ K H p (.int i :: v :: r) → r.length ≤ 1 → BadE K H (.ref p)
  | place {p : Addr} {s : Str} {v : V} {r : List V} : SqQ K H p (.str s :: v :: r) → r.length ≤ 1 → HasInt K H v → withinV v (some 0) none = false → BadE K H (.ref p)
  | three {p : Addr} {a : Nat} {z : V} : SqQ K H p [.str "lost", .int (a : Nat), z] → BadE K H (.ref p)
  | two {p : Addr} {s : Str} {a : Nat} : SqQ K H p [.str s, .int (a : Nat)] → (s = "put" ∨ s = "changed" ∨ s = "gone") → BadE K H (.ref p)
  | other {p : Addr} {a : Nat} {z : V} : SqQ K H p [.str "Put", .int (a : Nat), z] → BadE K H (.ref p)
  | sign {p : Addr} {s : Str} {a : Nat} {z : V} {o : Option (List Nat)} : SqQ K H p [.str s, .int (a : Nat), z] → (s = "put" ∨ s = "changed") → StrIs K H z o → o.elim false signB = false → BadE K H (.ref p)
theorem BadE.same {H H' : Hp} {v : V} (e : Same H H') (h : BadE K H v) : BadE K H' v := by
  cases h with
  | kind h1 h2 => exact .kind (tyx_same e h1) h2
  | size h1 h2 h3 => exact .size (Same.q e h1) h2 h3
  | word h1 h2 => exact .word (Same.q e h1) h2
  | place h1 h2 h3 h4 => exact .place (Same.q e h1) h2 (h3.same e) h4
  | three h1 => exact .three (Same.q e h1)
  | two h1 h2 => exact .two (Same.q e h1) h2
  | other h1 => exact .other (Same.q e h1)
  | sign h1 h2 h3 h4 => exact .sign (Same.q e h1) h2 (h3.same e) h4
theorem cutTr {b : Bool} {A B : Prop} (h : b = true) (k : A) : if b = true then A else B := by
  rw [h]
  exact iteT (B := _) k
theorem kit_int_str : kitB "int" "str" = some false := by decide +kernel
def sp_is_edit (K : PySem.W.Frag) : Sp := fun vs H Q _ => ∃ v : V, vs = [v] ∧ ((∃ (p : Addr) (e : Ed), v = .ref p ∧ SqQ K H p e.vs ∧ e.ok = true ∧ ∀ H', Same H H' → Q (.bl true) H') ∨ (BadE K H v ∧ ∀ H', Same H H' → Q (.bl false) H'))
theorem ok_is_edit : FnOk P w K mg base CX0 3 T.f_is_edit T.fd_is_edit ["value"] (sp_is_edit K) := by
  refine T.F_is_edit.ok sc_is_edit (fun vs H Q E h => ?_) (fun cdv A outer s H vs Q E hr h => ?_)
  · obtain ⟨v, rfl, _⟩ := h
    rfl
  · obtain ⟨v, rfl, h⟩ := h
    refine ⟨_, (pss_cons (ps_if (PW.pt (pw_or (pt_not (pt_val (pe_call (ok_is_list T) (hr.mono (by decide)) (by rfl) T.g_is_list T.F_is_list.kp T.b_is_list .nil pass0 (pa_cons (pv 0) pa_nil)))) (pw_or1 (pt_cmpR op_notIn_seq (pe_callB call_len_seq (by rfl) T.m_len PySem.boot_len (pa_cons (pv 0) pa_nil)) (pe_tup (pa_cons pe_int (pa_cons pe_int pa_nil))) rfl))))
      (pss_one (ps_ret pe_bl))
      pss_nil)
    (pss_cons (ps_if (PW.pt (pw_or (pt_not (pt_val (pe_callB call_isi (by rfl) T.m_isinstance (by decide +kernel) (pa_cons (pe_ix ix_seq (pv 0) pe_int (fun _ _ => rfl)) (pa_cons (pe_bltn (v := .ty "str") (by rfl) T.m_str (by decide +kernel) rfl) pa_nil))))) (pw_or1 (pt_not (pt_val (pe_call (ok_is_within T) (hr.mono (by decide)) (by rfl) T.g_is_within T.F_is_within.kp T.b_is_within .nil pass0 (pa_cons (pe_ix ix_seq (pv 0) pe_int (fun _ _ => rfl)) (pa_cons pe_int (pa_cons pe_non pa_nil)))))))))
      (pss_one (ps_ret pe_bl))
      pss_nil)
    (pss_cons (ps_if (pt_cmpR op_eq (pe_ix ix_seq (pv 0) pe_int (fun _ _ => rfl)) pe_str (nomark _))
      (pss_one (ps_ret (pe_cmpR op_eq (pe_callB call_len_seq (by rfl) T.m_len PySem.boot_len (pa_cons (pv 0) pa_nil)) pe_int (nomark _))))
      pss_nil)
    (pss_one (ps_ret (pe_and (pe_cmpR op_in_seq (pe_ix ix_seq (pv 0) pe_int (fun _ _ => rfl)) (pe_tup (pa_cons pe_str (pa_cons pe_str pa_nil))) rfl) (pe_and (pe_cmpR op_eq (pe_callB call_len_seq (by rfl) T.m_len PySem.boot_len (pa_cons (pv 0) pa_nil)) pe_int (nomark _)) (pe_one (pe_call (ok_is_sign T) (hr.mono (by decide)) (by rfl) T.g_is_sign T.F_is_sign.kp T.b_is_sign .nil pass0 (pa_cons (pe_ix ix_seq (pv 0) pe_int (fun _ _ => rfl)) pa_nil)))))))))), ?_⟩
    rcases h with ⟨p, e, rfl, hq, ho, q⟩ | ⟨hb, q⟩
    ·
      obtain ⟨n, ht, hk⟩ := isl_q hq
      refine go_seq (go_if (go_or2 (go_not (go_b ⟨_, rfl, _, n, true, rfl, ht, hk, fun H1 e1 => ⟨_, rfl, iteF (A := _) ?_⟩⟩))))
      have hq1 := Same.q e1 hq
      refine go_test (go_op (go_cb (go_cons (go_var rfl (go_nil ⟨p, _, rfl, hq1, ?_⟩)))))
      refine go_tup (go_cons (go_c (go_cons (go_c (go_nil ⟨sz2, fun u nu => ?_⟩)))))
      have x1 := same_new (o := HO.tup [V.int 2, V.int 3]) nu
      have e2 := e1.trans x1
      have hu : upd H1 u (HO.tup [V.int 2, V.int 3]) u = some (.tup [V.int 2, V.int 3]) := upd_same
      have hq2 := Same.q x1 hq1
      generalize upd H1 u (HO.tup [V.int 2, V.int 3]) = H2 at e2 hu hq2 ⊢
      clear x1 hq1 hq ht hk e1 nu
      cases e with
      | put a c =>
        refine ⟨u, _, rfl, .inr (.inl (.inl hu)), rfl, rfl, _, rfl, iteF (A := _) ?_⟩
        dsimp only [tNext]
        refine go_seq (go_if (go_or2 (go_not (go_b ⟨_, rfl, ix_q hq2 (v := .str "put") rfl ⟨_, _, _, _, true, rfl, .ty _, .base (.str _), kit_ty kit_str, _, rfl, iteF (A := _) ?_⟩⟩))))
        refine go_not (go_b ⟨_, rfl, ix_q hq2 (v := .int (a : Nat)) rfl ⟨_, some 0, none, rfl, hasInt_int _, ?_⟩⟩)
        rw [within0]
        refine ⟨_, rfl, iteF (A := _) ?_⟩
        dsimp only [tNext]
        refine go_seq (go_if (go_test ⟨_, rfl, ix_q hq2 (v := .str "put") rfl ⟨rfl, _, rfl, iteF (A := _) ?_⟩⟩))
        dsimp only [tNext]
        refine go_ret (go_and (go_op ⟨_, rfl, ix_q hq2 (v := .str "put") rfl (go_tup (go_cons (go_c (go_cons (go_c (go_nil ⟨sz2, fun u2 nu2 => ?_⟩))))))⟩))
        have x2 := same_new (o := HO.tup [V.str "put", V.str "changed"]) nu2
        refine ⟨u2, _, rfl, .inr (.inl (.inl upd_same)), rfl, rfl, _, rfl, iteT (B := _) ?_⟩
        refine go_and (go_op (go_cb (go_cons (go_var rfl (go_nil ⟨p, _, rfl, Same.q x2 hq2, go_c ⟨rfl, _, rfl, iteT (B := _) ?_⟩⟩)))))
        refine ⟨_, rfl, ix_q (Same.q x2 hq2) (v := .str (S [c])) rfl ⟨_, some [c], rfl, ⟨rfl, show 1 ≤ 1000000 by decide⟩, ?_⟩⟩
        have : (some [c]).elim false signB = true := by
          show (decide (1 = 1) && ([c].all sg)) = true
          have : sg c = true := ho
          simp [this]
        rw [this]
        exact q _ (e2.trans x2)
      | lost a =>
        refine ⟨u, _, rfl, .inr (.inl (.inl hu)), rfl, rfl, _, rfl, iteF (A := _) ?_⟩
        dsimp only [tNext]
        refine go_seq (go_if (go_or2 (go_not (go_b ⟨_, rfl, ix_q hq2 (v := .str "lost") rfl ⟨_, _, _, _, true, rfl, .ty _, .base (.str _), kit_ty kit_str, _, rfl, iteF (A := _) ?_⟩⟩))))
        refine go_not (go_b ⟨_, rfl, ix_q hq2 (v := .int (a : Nat)) rfl ⟨_, some 0, none, rfl, hasInt_int _, ?_⟩⟩)
        rw [within0]
        refine ⟨_, rfl, iteF (A := _) ?_⟩
        dsimp only [tNext]
        refine go_seq (go_if (go_test ⟨_, rfl, ix_q hq2 (v := .str "lost") rfl ⟨rfl, _, rfl, iteT (B := _) ?_⟩⟩))
        refine go_ret (go_op (go_cb (go_cons (go_var rfl (go_nil ⟨p, _, rfl, hq2, go_c ⟨rfl, ?_⟩⟩)))))
        exact q _ e2
      | chg a c =>
        refine ⟨u, _, rfl, .inr (.inl (.inl hu)), rfl, rfl, _, rfl, iteF (A := _) ?_⟩
        dsimp only [tNext]
        refine go_seq (go_if (go_or2 (go_not (go_b ⟨_, rfl, ix_q hq2 (v := .str "changed") rfl ⟨_, _, _, _, true, rfl, .ty _, .base (.str _), kit_ty kit_str, _, rfl, iteF (A := _) ?_⟩⟩))))
        refine go_not (go_b ⟨_, rfl, ix_q hq2 (v := .int (a : Nat)) rfl ⟨_, some 0, none, rfl, hasInt_int _, ?_⟩⟩)
        rw [within0]
        refine ⟨_, rfl, iteF (A := _) ?_⟩
        dsimp only [tNext]
        refine go_seq (go_if (go_test ⟨_, rfl, ix_q hq2 (v := .str "changed") rfl ⟨rfl, _, rfl, iteF (A := _) ?_⟩⟩))
        dsimp only [tNext]
        refine go_ret (go_and (go_op ⟨_, rfl, ix_q hq2 (v := .str "changed") rfl (go_tup (go_cons (go_c (go_cons (go_c (go_nil ⟨sz2, fun u2 nu2 => ?_⟩))))))⟩))
        have x2 := same_new (o := HO.tup [V.str "put", V.str "changed"]) nu2
        refine ⟨u2, _, rfl, .inr (.inl (.inl upd_same)), rfl, rfl, _, rfl, iteT (B := _) ?_⟩
        refine go_and (go_op (go_cb (go_cons (go_var rfl (go_nil ⟨p, _, rfl, Same.q x2 hq2, go_c ⟨rfl, _, rfl, iteT (B := _) ?_⟩⟩)))))
        refine ⟨_, rfl, ix_q (Same.q x2 hq2) (v := .str (S [c])) rfl ⟨_, some [c], rfl, ⟨rfl, show 1 ≤ 1000000 by decide⟩, ?_⟩⟩
        have : (some [c]).elim false signB = true := by
          show (decide (1 = 1) && ([c].all sg)) = true
          have : sg c = true := ho
          simp [this]
        rw [this]
        exact q _ (e2.trans x2)
    · cases hb with
      | kind ht hk =>
        exact go_seq (go_if (go_or2 (go_not (go_b ⟨_, rfl, _, _, false, rfl, ht, hk, fun H1 e1 => ⟨_, rfl, iteT (B := _) (iteT (B := _) (go_ret (q H1 e1)))⟩⟩))))
      | @size p xs hq l2 l3 =>
      obtain ⟨n, ht, hk⟩ := isl_q hq
      refine go_seq (go_if (go_or2 (go_not (go_b ⟨_, rfl, _, n, true, rfl, ht, hk, fun H1 e1 => ⟨_, rfl, iteF (A := _) ?_⟩⟩))))
      have hq1 := Same.q e1 hq
      refine go_test (go_op (go_cb (go_cons (go_var rfl (go_nil ⟨_, _, rfl, hq1, ?_⟩)))))
      refine go_tup (go_cons (go_c (go_cons (go_c (go_nil ⟨sz2, fun u nu => ?_⟩)))))
      have x1 := same_new (o := HO.tup [V.int 2, V.int 3]) nu
      have e2 := e1.trans x1
      have hu : upd H1 u (HO.tup [V.int 2, V.int 3]) u = some (.tup [V.int 2, V.int 3]) := upd_same
      have hq2 := Same.q x1 hq1
      generalize upd H1 u (HO.tup [V.int 2, V.int 3]) = H2 at e2 hu hq2 ⊢
      have q2 := q H2 e2
      clear x1 hq1 hq ht hk e1 nu
      refine ⟨u, _, rfl, .inr (.inl (.inl hu)), rfl, rfl, _, rfl, ?_⟩
      have : (!inV (V.int (xs.length : Nat)) [V.int 2, V.int 3]) = true := by
        have h2 : eqV (V.int 2) (V.int (xs.length : Nat)) = false := by
          show ((2 : Int) == (xs.length : Int)) = false
          simp
          omega
        have h3 : eqV (V.int 3) (V.int (xs.length : Nat)) = false := by
          show ((3 : Int) == (xs.length : Int)) = false
          simp
          omega
        show (!(eqV (V.int 2) (V.int (xs.length : Nat)) || (eqV (V.int 3) (V.int (xs.length : Nat)) || false))) = true
        rw [h2, h3]
        rfl
      exact cutTr this (go_ret q2)
      | @word p i v r hq lr =>
      obtain ⟨n, ht, hk⟩ := isl_q hq
      refine go_seq (go_if (go_or2 (go_not (go_b ⟨_, rfl, _, n, true, rfl, ht, hk, fun H1 e1 => ⟨_, rfl, iteF (A := _) ?_⟩⟩))))
      have hq1 := Same.q e1 hq
      refine go_test (go_op (go_cb (go_cons (go_var rfl (go_nil ⟨_, _, rfl, hq1, ?_⟩)))))
      refine go_tup (go_cons (go_c (go_cons (go_c (go_nil ⟨sz2, fun u nu => ?_⟩)))))
      have x1 := same_new (o := HO.tup [V.int 2, V.int 3]) nu
      have e2 := e1.trans x1
      have hu : upd H1 u (HO.tup [V.int 2, V.int 3]) u = some (.tup [V.int 2, V.int 3]) := upd_same
      have hq2 := Same.q x1 hq1
      generalize upd H1 u (HO.tup [V.int 2, V.int 3]) = H2 at e2 hu hq2 ⊢
      have q2 := q H2 e2
      clear x1 hq1 hq ht hk e1 nu
      rcases r with _ | ⟨z, _ | ⟨z2, r2⟩⟩
      ·
        refine ⟨u, _, rfl, .inr (.inl (.inl hu)), rfl, rfl, _, rfl, iteF (A := _) ?_⟩
        dsimp only [tNext]
        exact go_seq (go_if (go_or2 (go_not (go_b ⟨_, rfl, ix_q hq2 (v := .int _) rfl ⟨_, _, _, _, false, rfl, .ty _, .base (.int _), kit_ty kit_int_str, _, rfl, iteT (B := _) (iteT (B := _) (go_ret q2))⟩⟩))))
      ·
        refine ⟨u, _, rfl, .inr (.inl (.inl hu)), rfl, rfl, _, rfl, iteF (A := _) ?_⟩
        dsimp only [tNext]
        exact go_seq (go_if (go_or2 (go_not (go_b ⟨_, rfl, ix_q hq2 (v := .int _) rfl ⟨_, _, _, _, false, rfl, .ty _, .base (.int _), kit_ty kit_int_str, _, rfl, iteT (B := _) (iteT (B := _) (go_ret q2))⟩⟩))))
      · simp at lr
      | @place p s v r hq lr hi hw =>
      obtain ⟨n, ht, hk⟩ := isl_q hq
      refine go_seq (go_if (go_or2 (go_not (go_b ⟨_, rfl, _, n, true, rfl, ht, hk, fun H1 e1 => ⟨_, rfl, iteF (A := _) ?_⟩⟩))))
      have hq1 := Same.q e1 hq
      refine go_test (go_op (go_cb (go_cons (go_var rfl (go_nil ⟨_, _, rfl, hq1, ?_⟩)))))
      refine go_tup (go_cons (go_c (go_cons (go_c (go_nil ⟨sz2, fun u nu => ?_⟩)))))
      have x1 := same_new (o := HO.tup [V.int 2, V.int 3]) nu
      have e2 := e1.trans x1
      have hu : upd H1 u (HO.tup [V.int 2, V.int 3]) u = some (.tup [V.int 2, V.int 3]) := upd_same
      have hq2 := Same.q x1 hq1
      generalize upd H1 u (HO.tup [V.int 2, V.int 3]) = H2 at e2 hu hq2 ⊢
      have hi := hi.same e2
      have q2 := q H2 e2
      clear x1 hq1 hq ht hk e1 nu
      rcases r with _ | ⟨z, _ | ⟨z2, r2⟩⟩
      ·
        refine ⟨u, _, rfl, .inr (.inl (.inl hu)), rfl, rfl, _, rfl, iteF (A := _) ?_⟩
        dsimp only [tNext]
        refine go_seq (go_if (go_or2 (go_not (go_b ⟨_, rfl, ix_q hq2 (v := .str s) rfl ⟨_, _, _, _, true, rfl, .ty _, .base (.str _), kit_ty kit_str, _, rfl, iteF (A := _) ?_⟩⟩))))
        refine go_not (go_b ⟨_, rfl, ix_q hq2 (v := v) rfl ⟨_, some 0, none, rfl, hi, ?_⟩⟩)
        rw [hw]
        exact ⟨_, rfl, iteT (B := _) (go_ret q2)⟩
      ·
        refine ⟨u, _, rfl, .inr (.inl (.inl hu)), rfl, rfl, _, rfl, iteF (A := _) ?_⟩
        dsimp only [tNext]
        refine go_seq (go_if (go_or2 (go_not (go_b ⟨_, rfl, ix_q hq2 (v := .str s) rfl ⟨_, _, _, _, true, rfl, .ty _, .base (.str _), kit_ty kit_str, _, rfl, iteF (A := _) ?_⟩⟩))))
        refine go_not (go_b ⟨_, rfl, ix_q hq2 (v := v) rfl ⟨_, some 0, none, rfl, hi, ?_⟩⟩)
        rw [hw]
        exact ⟨_, rfl, iteT (B := _) (go_ret q2)⟩
      · simp at lr
      | @three p a z hq =>
      obtain ⟨n, ht, hk⟩ := isl_q hq
      refine go_seq (go_if (go_or2 (go_not (go_b ⟨_, rfl, _, n, true, rfl, ht, hk, fun H1 e1 => ⟨_, rfl, iteF (A := _) ?_⟩⟩))))
      have hq1 := Same.q e1 hq
      refine go_test (go_op (go_cb (go_cons (go_var rfl (go_nil ⟨_, _, rfl, hq1, ?_⟩)))))
      refine go_tup (go_cons (go_c (go_cons (go_c (go_nil ⟨sz2, fun u nu => ?_⟩)))))
      have x1 := same_new (o := HO.tup [V.int 2, V.int 3]) nu
      have e2 := e1.trans x1
      have hu : upd H1 u (HO.tup [V.int 2, V.int 3]) u = some (.tup [V.int 2, V.int 3]) := upd_same
      have hq2 := Same.q x1 hq1
      generalize upd H1 u (HO.tup [V.int 2, V.int 3]) = H2 at e2 hu hq2 ⊢
      have q2 := q H2 e2
      clear x1 hq1 hq ht hk e1 nu
      refine ⟨u, _, rfl, .inr (.inl (.inl hu)), rfl, rfl, _, rfl, iteF (A := _) ?_⟩
      dsimp only [tNext]
      refine go_seq (go_if (go_or2 (go_not (go_b ⟨_, rfl, ix_q hq2 (v := .str "lost") rfl ⟨_, _, _, _, true, rfl, .ty _, .base (.str _), kit_ty kit_str, _, rfl, iteF (A := _) ?_⟩⟩))))
      refine go_not (go_b ⟨_, rfl, ix_q hq2 (v := .int (a : Nat)) rfl ⟨_, some 0, none, rfl, hasInt_int _, ?_⟩⟩)
      rw [within0]
      refine ⟨_, rfl, iteF (A := _) ?_⟩
      dsimp only [tNext]
      refine go_seq (go_if (go_test ⟨_, rfl, ix_q hq2 (v := .str "lost") rfl ⟨rfl, _, rfl, iteT (B := _) ?_⟩⟩))
      refine go_ret (go_op (go_cb (go_cons (go_var rfl (go_nil ⟨_, _, rfl, hq2, go_c ⟨rfl, ?_⟩⟩)))))
      exact q2
      | @two p s a hq hs =>
      obtain ⟨n, ht, hk⟩ := isl_q hq
      refine go_seq (go_if (go_or2 (go_not (go_b ⟨_, rfl, _, n, true, rfl, ht, hk, fun H1 e1 => ⟨_, rfl, iteF (A := _) ?_⟩⟩))))
      have hq1 := Same.q e1 hq
      refine go_test (go_op (go_cb (go_cons (go_var rfl (go_nil ⟨_, _, rfl, hq1, ?_⟩)))))
      refine go_tup (go_cons (go_c (go_cons (go_c (go_nil ⟨sz2, fun u nu => ?_⟩)))))
      have x1 := same_new (o := HO.tup [V.int 2, V.int 3]) nu
      have e2 := e1.trans x1
      have hu : upd H1 u (HO.tup [V.int 2, V.int 3]) u = some (.tup [V.int 2, V.int 3]) := upd_same
      have hq2 := Same.q x1 hq1
      generalize upd H1 u (HO.tup [V.int 2, V.int 3]) = H2 at e2 hu hq2 ⊢
      have q2 := q H2 e2
      clear x1 hq1 hq ht hk e1 nu
      refine ⟨u, _, rfl, .inr (.inl (.inl hu)), rfl, rfl, _, rfl, iteF (A := _) ?_⟩
      dsimp only [tNext]
      rcases hs with rfl | rfl | rfl
      ·
        refine go_seq (go_if (go_or2 (go_not (go_b ⟨_, rfl, ix_q hq2 (v := .str "put") rfl ⟨_, _, _, _, true, rfl, .ty _, .base (.str _), kit_ty kit_str, _, rfl, iteF (A := _) ?_⟩⟩))))
        refine go_not (go_b ⟨_, rfl, ix_q hq2 (v := .int (a : Nat)) rfl ⟨_, some 0, none, rfl, hasInt_int _, ?_⟩⟩)
        rw [within0]
        refine ⟨_, rfl, iteF (A := _) ?_⟩
        dsimp only [tNext]
        refine go_seq (go_if (go_test ⟨_, rfl, ix_q hq2 (v := .str "put") rfl ⟨rfl, _, rfl, iteF (A := _) ?_⟩⟩))
        dsimp only [tNext]
        refine go_ret (go_and (go_op ⟨_, rfl, ix_q hq2 (v := .str "put") rfl (go_tup (go_cons (go_c (go_cons (go_c (go_nil ⟨sz2, fun u2 nu2 => ?_⟩))))))⟩))
        have x2 := same_new (o := HO.tup [V.str "put", V.str "changed"]) nu2
        refine ⟨u2, _, rfl, .inr (.inl (.inl upd_same)), rfl, rfl, _, rfl, iteT (B := _) ?_⟩
        refine go_and (go_op (go_cb (go_cons (go_var rfl (go_nil ⟨_, _, rfl, Same.q x2 hq2, go_c ⟨rfl, _, rfl, iteF (A := _) ?_⟩⟩)))))
        exact q _ (e2.trans x2)
      ·
        refine go_seq (go_if (go_or2 (go_not (go_b ⟨_, rfl, ix_q hq2 (v := .str "changed") rfl ⟨_, _, _, _, true, rfl, .ty _, .base (.str _), kit_ty kit_str, _, rfl, iteF (A := _) ?_⟩⟩))))
        refine go_not (go_b ⟨_, rfl, ix_q hq2 (v := .int (a : Nat)) rfl ⟨_, some 0, none, rfl, hasInt_int _, ?_⟩⟩)
        rw [within0]
        refine ⟨_, rfl, iteF (A := _) ?_⟩
        dsimp only [tNext]
        refine go_seq (go_if (go_test ⟨_, rfl, ix_q hq2 (v := .str "changed") rfl ⟨rfl, _, rfl, iteF (A := _) ?_⟩⟩))
        dsimp only [tNext]
        refine go_ret (go_and (go_op ⟨_, rfl, ix_q hq2 (v := .str "changed") rfl (go_tup (go_cons (go_c (go_cons (go_c (go_nil ⟨sz2, fun u2 nu2 => ?_⟩))))))⟩))
        have x2 := same_new (o := HO.tup [V.str "put", V.str "changed"]) nu2
        refine ⟨u2, _, rfl, .inr (.inl (.inl upd_same)), rfl, rfl, _, rfl, iteT (B := _) ?_⟩
        refine go_and (go_op (go_cb (go_cons (go_var rfl (go_nil ⟨_, _, rfl, Same.q x2 hq2, go_c ⟨rfl, _, rfl, iteF (A := _) ?_⟩⟩)))))
        exact q _ (e2.trans x2)
      ·
        refine go_seq (go_if (go_or2 (go_not (go_b ⟨_, rfl, ix_q hq2 (v := .str "gone") rfl ⟨_, _, _, _, true, rfl, .ty _, .base (.str _), kit_ty kit_str, _, rfl, iteF (A := _) ?_⟩⟩))))
        refine go_not (go_b ⟨_, rfl, ix_q hq2 (v := .int (a : Nat)) rfl ⟨_, some 0, none, rfl, hasInt_int _, ?_⟩⟩)
        rw [within0]
        refine ⟨_, rfl, iteF (A := _) ?_⟩
        dsimp only [tNext]
        refine go_seq (go_if (go_test ⟨_, rfl, ix_q hq2 (v := .str "gone") rfl ⟨rfl, _, rfl, iteF (A := _) ?_⟩⟩))
        dsimp only [tNext]
        refine go_ret (go_and (go_op ⟨_, rfl, ix_q hq2 (v := .str "gone") rfl (go_tup (go_cons (go_c (go_cons (go_c (go_nil ⟨sz2, fun u2 nu2 => ?_⟩))))))⟩))
        have x2 := same_new (o := HO.tup [V.str "put", V.str "changed"]) nu2
        refine ⟨u2, _, rfl, .inr (.inl (.inl upd_same)), rfl, rfl, _, rfl, iteF (A := _) ?_⟩
        exact q _ (e2.trans x2)
      | @other p a z hq =>
      obtain ⟨n, ht, hk⟩ := isl_q hq
      refine go_seq (go_if (go_or2 (go_not (go_b ⟨_, rfl, _, n, true, rfl, ht, hk, fun H1 e1 => ⟨_, rfl, iteF (A := _) ?_⟩⟩))))
      have hq1 := Same.q e1 hq
      refine go_test (go_op (go_cb (go_cons (go_var rfl (go_nil ⟨_, _, rfl, hq1, ?_⟩)))))
      refine go_tup (go_cons (go_c (go_cons (go_c (go_nil ⟨sz2, fun u nu => ?_⟩)))))
      have x1 := same_new (o := HO.tup [V.int 2, V.int 3]) nu
      have e2 := e1.trans x1
      have hu : upd H1 u (HO.tup [V.int 2, V.int 3]) u = some (.tup [V.int 2, V.int 3]) := upd_same
      have hq2 := Same.q x1 hq1
      generalize upd H1 u (HO.tup [V.int 2, V.int 3]) = H2 at e2 hu hq2 ⊢
      have q2 := q H2 e2
      clear x1 hq1 hq ht hk e1 nu
      refine ⟨u, _, rfl, .inr (.inl (.inl hu)), rfl, rfl, _, rfl, iteF (A := _) ?_⟩
      dsimp only [tNext]
      refine go_seq (go_if (go_or2 (go_not (go_b ⟨_, rfl, ix_q hq2 (v := .str "Put") rfl ⟨_, _, _, _, true, rfl, .ty _, .base (.str _), kit_ty kit_str, _, rfl, iteF (A := _) ?_⟩⟩))))
      refine go_not (go_b ⟨_, rfl, ix_q hq2 (v := .int (a : Nat)) rfl ⟨_, some 0, none, rfl, hasInt_int _, ?_⟩⟩)
      rw [within0]
      refine ⟨_, rfl, iteF (A := _) ?_⟩
      dsimp only [tNext]
      refine go_seq (go_if (go_test ⟨_, rfl, ix_q hq2 (v := .str "Put") rfl ⟨rfl, _, rfl, iteF (A := _) ?_⟩⟩))
      dsimp only [tNext]
      refine go_ret (go_and (go_op ⟨_, rfl, ix_q hq2 (v := .str "Put") rfl (go_tup (go_cons (go_c (go_cons (go_c (go_nil ⟨sz2, fun u2 nu2 => ?_⟩))))))⟩))
      have x2 := same_new (o := HO.tup [V.str "put", V.str "changed"]) nu2
      refine ⟨u2, _, rfl, .inr (.inl (.inl upd_same)), rfl, rfl, _, rfl, iteF (A := _) ?_⟩
      exact q _ (e2.trans x2)
      | @sign p s a z o hq hs hz ho =>
      obtain ⟨n, ht, hk⟩ := isl_q hq
      refine go_seq (go_if (go_or2 (go_not (go_b ⟨_, rfl, _, n, true, rfl, ht, hk, fun H1 e1 => ⟨_, rfl, iteF (A := _) ?_⟩⟩))))
      have hq1 := Same.q e1 hq
      refine go_test (go_op (go_cb (go_cons (go_var rfl (go_nil ⟨_, _, rfl, hq1, ?_⟩)))))
      refine go_tup (go_cons (go_c (go_cons (go_c (go_nil ⟨sz2, fun u nu => ?_⟩)))))
      have x1 := same_new (o := HO.tup [V.int 2, V.int 3]) nu
      have e2 := e1.trans x1
      have hu : upd H1 u (HO.tup [V.int 2, V.int 3]) u = some (.tup [V.int 2, V.int 3]) := upd_same
      have hq2 := Same.q x1 hq1
      generalize upd H1 u (HO.tup [V.int 2, V.int 3]) = H2 at e2 hu hq2 ⊢
      have hz := hz.same e2
      have q2 := q H2 e2
      clear x1 hq1 hq ht hk e1 nu
      refine ⟨u, _, rfl, .inr (.inl (.inl hu)), rfl, rfl, _, rfl, iteF (A := _) ?_⟩
      dsimp only [tNext]
      rcases hs with rfl | rfl
      ·
        refine go_seq (go_if (go_or2 (go_not (go_b ⟨_, rfl, ix_q hq2 (v := .str "put") rfl ⟨_, _, _, _, true, rfl, .ty _, .base (.str _), kit_ty kit_str, _, rfl, iteF (A := _) ?_⟩⟩))))
        refine go_not (go_b ⟨_, rfl, ix_q hq2 (v := .int (a : Nat)) rfl ⟨_, some 0, none, rfl, hasInt_int _, ?_⟩⟩)
        rw [within0]
        refine ⟨_, rfl, iteF (A := _) ?_⟩
        dsimp only [tNext]
        refine go_seq (go_if (go_test ⟨_, rfl, ix_q hq2 (v := .str "put") rfl ⟨rfl, _, rfl, iteF (A := _) ?_⟩⟩))
        dsimp only [tNext]
        refine go_ret (go_and (go_op ⟨_, rfl, ix_q hq2 (v := .str "put") rfl (go_tup (go_cons (go_c (go_cons (go_c (go_nil ⟨sz2, fun u2 nu2 => ?_⟩))))))⟩))
        have x2 := same_new (o := HO.tup [V.str "put", V.str "changed"]) nu2
        refine ⟨u2, _, rfl, .inr (.inl (.inl upd_same)), rfl, rfl, _, rfl, iteT (B := _) ?_⟩
        refine go_and (go_op (go_cb (go_cons (go_var rfl (go_nil ⟨_, _, rfl, Same.q x2 hq2, go_c ⟨rfl, _, rfl, iteT (B := _) ?_⟩⟩)))))
        refine ⟨_, rfl, ix_q (Same.q x2 hq2) (v := z) rfl ⟨_, o, rfl, hz.same x2, ?_⟩⟩
        rw [ho]
        exact q _ (e2.trans x2)
      ·
        refine go_seq (go_if (go_or2 (go_not (go_b ⟨_, rfl, ix_q hq2 (v := .str "changed") rfl ⟨_, _, _, _, true, rfl, .ty _, .base (.str _), kit_ty kit_str, _, rfl, iteF (A := _) ?_⟩⟩))))
        refine go_not (go_b ⟨_, rfl, ix_q hq2 (v := .int (a : Nat)) rfl ⟨_, some 0, none, rfl, hasInt_int _, ?_⟩⟩)
        rw [within0]
        refine ⟨_, rfl, iteF (A := _) ?_⟩
        dsimp only [tNext]
        refine go_seq (go_if (go_test ⟨_, rfl, ix_q hq2 (v := .str "changed") rfl ⟨rfl, _, rfl, iteF (A := _) ?_⟩⟩))
        dsimp only [tNext]
        refine go_ret (go_and (go_op ⟨_, rfl, ix_q hq2 (v := .str "changed") rfl (go_tup (go_cons (go_c (go_cons (go_c (go_nil ⟨sz2, fun u2 nu2 => ?_⟩))))))⟩))
        have x2 := same_new (o := HO.tup [V.str "put", V.str "changed"]) nu2
        refine ⟨u2, _, rfl, .inr (.inl (.inl upd_same)), rfl, rfl, _, rfl, iteT (B := _) ?_⟩
        refine go_and (go_op (go_cb (go_cons (go_var rfl (go_nil ⟨_, _, rfl, Same.q x2 hq2, go_c ⟨rfl, _, rfl, iteT (B := _) ?_⟩⟩)))))
        refine ⟨_, rfl, ix_q (Same.q x2 hq2) (v := z) rfl ⟨_, o, rfl, hz.same x2, ?_⟩⟩
        rw [ho]
        exact q _ (e2.trans x2)
theorem S_app (a b : List Nat) : (S a ++ S b : Str) = S (a ++ b) := by
  show (⟨_⟩ : Str) = _
  simp [S]
theorem cut2 {a b c : List Nat} {r : Str} (h : r = S (a ++ b ++ c)) : r = S (a ++ b ++ c) := h
theorem sgetD {l : List Nat} {a : Nat} (h : a < l.length) : atI (S l).cps.toList (a : Int) = some (l.getD a 0) := by
  have e0 : (S l).cps.toList = l := by simp [S]
  rw [e0, at_nat h, List.getD_eq_getElem?_getD, List.getElem?_eq_getElem h]
  rfl
theorem len_le {l : List Nat} (h : l.length ≤ 200000) : (S l).length ≤ sizeLine := by
  rw [S_len]
  exact Nat.le_trans h (by decide)
theorem app_le {a b : List Nat} (h : a.length + b.length ≤ 400000) : (S a).length + (S b).length ≤ sizeLine := by
  rw [S_len, S_len]
  exact Nat.le_trans h (by decide)
theorem cut_toN (l : List Nat) (a : Nat) : Txt.slice (S l) none (some (a : Int)) = S (l.take a) := slice_toS l a
theorem cut_fromN (l : List Nat) (a : Nat) : Txt.slice (S l) (some (a : Int)) none = S (l.drop a) := slice_fromS l a
theorem cut_fromN1 (l : List Nat) (a : Nat) : Txt.slice (S l) (some ((a : Int) + 1)) none = S (l.drop (a + 1)) := slice_fromS l (a + 1)
def sp_left_by_edit (K : PySem.W.Frag) : Sp := fun vs H Q _ => ∃ (t : List Nat) (v : V), vs = [.str (S t), v] ∧ t.length ≤ 200000 ∧ ((∃ (p : Addr) (e : Ed), v = .ref p ∧ SqQ K H p e.vs ∧ e.ok = true ∧ ∀ H', Same H H' → Q (optS (doE t e)) H') ∨ (BadE K H v ∧ ∀ H', Same H H' → Q .non H'))
theorem ok_left_by_edit : FnOk P w K mg base CX0 4 T.f_left_by_edit T.fd_left_by_edit ["text", "edit"] (sp_left_by_edit K) := by
  refine T.F_left_by_edit.ok sc_left_by_edit (fun vs H Q E h => ?_) (fun cdv A outer s H vs Q E hr h => ?_)
  · obtain ⟨t, v, rfl, _⟩ := h
    rfl
  · obtain ⟨t, v, rfl, hl, h⟩ := h
    refine ⟨_, (pss_cons (ps_if (pt_not (pt_val (pe_call (ok_is_edit T) (hr.mono (by decide)) (by rfl) T.g_is_edit T.F_is_edit.kp T.b_is_edit .nil pass0 (pa_cons (pv 1) pa_nil))))
      (pss_one (ps_ret pe_non))
      pss_nil)
    (pss_cons (ps_set (i := 2) sc_left_by_edit.nd rfl (.inl rfl) (pe_ix ix_seq (pv 1) pe_int (fun _ _ => rfl)))
    (pss_cons (ps_if (pt_cmpR op_eq (pe_ix ix_seq (pv 1) pe_int (fun _ _ => rfl)) pe_str (nomark _))
      (pss_cons (ps_if (PW.pt (pw_or (pt_cmpR op_gt (pv 2) (pe_callB call_len_str (by rfl) T.m_len PySem.boot_len (pa_cons (pv 0) pa_nil)) (nomark _)) (pw_or1 (pt_cmpR op_ge (pe_callB call_len_str (by rfl) T.m_len PySem.boot_len (pa_cons (pv 0) pa_nil)) (pe_glob (v := .int 200000) (by rfl) T.c_MOST_SIGNS ⟨_, rfl⟩) (nomark _)))))
        (pss_one (ps_ret pe_non))
        pss_nil)
      (pss_one (ps_ret (pe_op op_add_str (pe_op op_add_str (pe_slice C8.sl_txt (pv 0) po_none (po_some (pv 2))) (pe_ix ix_seq (pv 1) pe_int (fun _ _ => rfl))) (pe_slice C8.sl_txt (pv 0) (po_some (pv 2)) po_none)))))
      pss_nil)
    (pss_cons (ps_if (pt_cmpR op_ge (pv 2) (pe_callB call_len_str (by rfl) T.m_len PySem.boot_len (pa_cons (pv 0) pa_nil)) (nomark _))
      (pss_one (ps_ret pe_non))
      pss_nil)
    (pss_cons (ps_if (pt_cmpR op_eq (pe_ix ix_seq (pv 1) pe_int (fun _ _ => rfl)) pe_str (nomark _))
      (pss_one (ps_ret (pe_op op_add_str (pe_slice C8.sl_txt (pv 0) po_none (po_some (pv 2))) (pe_slice C8.sl_txt (pv 0) (po_some (pe_op op_add (pv 2) pe_int)) po_none))))
      pss_nil)
    (pss_cons (ps_if (pt_cmpR op_eq (pe_ix ix_str (pv 0) (pv 2) (fun _ _ => rfl)) (pe_ix ix_seq (pv 1) pe_int (fun _ _ => rfl)) (nomark _))
      (pss_one (ps_ret pe_non))
      pss_nil)
    (pss_one (ps_ret (pe_op op_add_str (pe_op op_add_str (pe_slice C8.sl_txt (pv 0) po_none (po_some (pv 2))) (pe_ix ix_seq (pv 1) pe_int (fun _ _ => rfl))) (pe_slice C8.sl_txt (pv 0) (po_some (pe_op op_add (pv 2) pe_int)) po_none)))))))))), ?_⟩
    rcases h with ⟨p, e, rfl, hq, ho, q⟩ | ⟨hb, q⟩
    case inr => exact go_seq (go_if (go_not (go_b ⟨_, rfl, v, rfl, .inr ⟨hb, fun H1 e1 => ⟨_, rfl, iteT (B := _) (go_ret (q H1 e1))⟩⟩⟩)))
    refine go_seq (go_if (go_not (go_b ⟨_, rfl, _, rfl, .inl ⟨p, e, rfl, hq, ho, fun H1 e1 => ⟨_, rfl, iteF (A := _) ?_⟩⟩⟩)))
    have hq1 := Same.q e1 hq
    have q1 := q H1 e1
    clear hq q
    dsimp only [tNext]
    cases e with
    | put a c =>
      refine go_seq (go_asg ⟨_, rfl, ix_q hq1 (v := .int (a : Nat)) rfl ?_⟩)
      dsimp only [gName]
      refine go_seq (go_if (go_test ⟨_, rfl, ix_q hq1 (v := .str "put") rfl ⟨rfl, _, rfl, iteT (B := _) ?_⟩⟩))
      have e1' : decide (((S t).length : Int) < (a : Int)) = !decide (a ≤ t.length) := by
        rw [S_len]
        by_cases h : a ≤ t.length
        · rw [decide_eq_true h, decide_eq_false (by omega)]
          rfl
        · rw [decide_eq_false h, decide_eq_true (by omega)]
          rfl
      refine go_seq (go_if (go_or2 (go_test (go_op (go_var rfl (go_cb (go_cons (go_var rfl (go_nil ⟨S t, rfl, len_le hl, _, _, rfl, rfl, _, rfl, ?_⟩)))))))))
      rw [e1']
      cases h : decide (a ≤ t.length) with
      | false =>
        have d : doE t (.put a c) = none := if_neg (fun z => of_decide_eq_false h z.1)
        rw [d] at q1
        exact iteT (B := _) (iteT (B := _) (go_ret q1))
      | true =>
        have h' := of_decide_eq_true h
        refine iteF (A := _) ?_
        refine go_test (go_op (go_cb (go_cons (go_var rfl (go_nil ⟨S t, rfl, len_le hl, _, _, rfl, rfl, _, rfl, ?_⟩)))))
        have e2' : decide ((200000 : Int) ≤ ((S t).length : Int)) = !decide (t.length < 200000) := by
          rw [S_len]
          by_cases h : t.length < 200000
          · rw [decide_eq_true h, decide_eq_false (by omega)]
            rfl
          · rw [decide_eq_false h, decide_eq_true (by omega)]
            rfl
        show if decide ((200000 : Int) ≤ ((S t).length : Int)) = true then _ else _
        rw [e2']
        cases h2 : decide (t.length < 200000) with
        | false =>
          have d : doE t (.put a c) = none := if_neg (fun z => of_decide_eq_false h2 z.2)
          rw [d] at q1
          exact iteT (B := _) (go_ret q1)
        | true =>
          have h2' := of_decide_eq_true h2
          have d : doE t (.put a c) = some (t.take a ++ [c] ++ t.drop a) := if_pos ⟨h', h2'⟩
          rw [d] at q1
          refine iteF (A := _) ?_
          dsimp only [tNext]
          refine go_ret (go_op (go_op ⟨_, rfl, _, rfl, (a : Int), rfl, S t, rfl, len_le hl, ?_⟩))
          rw [cut_toN]
          refine ⟨_, rfl, ix_q hq1 (v := .str (S [c])) rfl ⟨_, _, rfl, rfl, app_le (by rw [List.length_take]; show _ + 1 ≤ _; omega), ?_⟩⟩
          rw [S_app]
          refine ⟨_, rfl, _, rfl, (a : Int), rfl, S t, rfl, len_le hl, ?_⟩
          rw [cut_fromN]
          refine ⟨_, _, rfl, rfl, app_le (by rw [List.length_append, List.length_take, List.length_drop]; show _ + 1 + _ ≤ _; omega), ?_⟩
          rw [S_app]
          exact q1
    | lost a =>
      refine go_seq (go_asg ⟨_, rfl, ix_q hq1 (v := .int (a : Nat)) rfl ?_⟩)
      dsimp only [gName]
      refine go_seq (go_if (go_test ⟨_, rfl, ix_q hq1 (v := .str "lost") rfl ⟨rfl, _, rfl, iteF (A := _) ?_⟩⟩))
      dsimp only [tNext]
      have e1' : decide (((S t).length : Int) ≤ (a : Int)) = !decide (a < t.length) := by
        rw [S_len]
        by_cases h : a < t.length
        · rw [decide_eq_true h, decide_eq_false (by omega)]
          rfl
        · rw [decide_eq_false h, decide_eq_true (by omega)]
          rfl
      refine go_seq (go_if (go_test (go_op (go_var rfl (go_cb (go_cons (go_var rfl (go_nil ⟨S t, rfl, len_le hl, _, _, rfl, rfl, _, rfl, ?_⟩))))))))
      rw [e1']
      cases h : decide (a < t.length) with
      | false =>
        have d : doE t (.lost a) = none := if_neg (of_decide_eq_false h)
        rw [d] at q1
        exact iteT (B := _) (go_ret q1)
      | true =>
        have h' := of_decide_eq_true h
        have d : doE t (.lost a) = some (t.take a ++ t.drop (a + 1)) := if_pos h'
        rw [d] at q1
        refine iteF (A := _) ?_
        dsimp only [tNext]
        refine go_seq (go_if (go_test ⟨_, rfl, ix_q hq1 (v := .str "lost") rfl ⟨rfl, _, rfl, iteT (B := _) ?_⟩⟩))
        refine go_ret (go_op ⟨_, rfl, _, rfl, (a : Int), rfl, S t, rfl, len_le hl, ?_⟩)
        rw [cut_toN]
        refine ⟨_, rfl, _, rfl, (a : Int), 1, rfl, rfl, (a : Int) + 1, rfl, S t, rfl, len_le hl, ?_⟩
        rw [cut_fromN1]
        refine ⟨_, _, rfl, rfl, app_le (by rw [List.length_take, List.length_drop]; omega), ?_⟩
        rw [S_app]
        exact q1
    | chg a c =>
      refine go_seq (go_asg ⟨_, rfl, ix_q hq1 (v := .int (a : Nat)) rfl ?_⟩)
      dsimp only [gName]
      refine go_seq (go_if (go_test ⟨_, rfl, ix_q hq1 (v := .str "changed") rfl ⟨rfl, _, rfl, iteF (A := _) ?_⟩⟩))
      dsimp only [tNext]
      have e1' : decide (((S t).length : Int) ≤ (a : Int)) = !decide (a < t.length) := by
        rw [S_len]
        by_cases h : a < t.length
        · rw [decide_eq_true h, decide_eq_false (by omega)]
          rfl
        · rw [decide_eq_false h, decide_eq_true (by omega)]
          rfl
      refine go_seq (go_if (go_test (go_op (go_var rfl (go_cb (go_cons (go_var rfl (go_nil ⟨S t, rfl, len_le hl, _, _, rfl, rfl, _, rfl, ?_⟩))))))))
      rw [e1']
      cases h : decide (a < t.length) with
      | false =>
        have d : doE t (.chg a c) = none := if_neg (fun z => of_decide_eq_false h z.1)
        rw [d] at q1
        exact iteT (B := _) (go_ret q1)
      | true =>
        have h' := of_decide_eq_true h
        refine iteF (A := _) ?_
        dsimp only [tNext]
        refine go_seq (go_if (go_test ⟨_, rfl, ix_q hq1 (v := .str "changed") rfl ⟨rfl, _, rfl, iteF (A := _) ?_⟩⟩))
        dsimp only [tNext]
        refine go_seq (go_if (go_test ⟨_, rfl, _, rfl, S t, (a : Int), t.getD a 0, rfl, rfl, len_le hl, sgetD h', _, rfl, ix_q hq1 (v := .str (S [c])) rfl ⟨rfl, _, rfl, ?_⟩⟩))
        have e3 : decide (V.str ⟨#[t.getD a 0]⟩ = V.str (S [c])) = decide (t.getD a 0 = c) := by
          by_cases h : t.getD a 0 = c
          · rw [decide_eq_true h, decide_eq_true (by rw [h])]
          · rw [decide_eq_false h, decide_eq_false]
            intro z
            injection z with z
            have := congrArg (fun x : Str => x.cps.toList) z
            exact h (by simpa using this)
        rw [e3]
        by_cases h3 : t.getD a 0 = c
        · have d : doE t (.chg a c) = none := if_neg (fun z => z.2 h3)
          rw [d] at q1
          rw [decide_eq_true h3]
          exact iteT (B := _) (go_ret q1)
        · have d : doE t (.chg a c) = some (t.take a ++ [c] ++ t.drop (a + 1)) := if_pos ⟨h', h3⟩
          rw [d] at q1
          rw [decide_eq_false h3]
          refine iteF (A := _) ?_
          dsimp only [tNext]
          refine go_ret (go_op (go_op ⟨_, rfl, _, rfl, (a : Int), rfl, S t, rfl, len_le hl, ?_⟩))
          rw [cut_toN]
          refine ⟨_, rfl, ix_q hq1 (v := .str (S [c])) rfl ⟨_, _, rfl, rfl, app_le (by rw [List.length_take]; show _ + 1 ≤ _; omega), ?_⟩⟩
          rw [S_app]
          refine ⟨_, rfl, _, rfl, (a : Int), 1, rfl, rfl, (a : Int) + 1, rfl, S t, rfl, len_le hl, ?_⟩
          rw [cut_fromN1]
          refine ⟨_, _, rfl, rfl, app_le (by rw [List.length_append, List.length_take, List.length_drop]; show _ + 1 + _ ≤ _; omega), ?_⟩
          rw [S_app]
          exact q1
end
end K05
namespace K05
open PySem PySem.Spec PyProof.Rows L2 Kx SX LamX
def tx (l : List Nat) : V := .str (S l)
/-- edits done one behind another -/
inductive Path : List Nat → List Ed → List Nat → Prop
  | nil (t : List Nat) : Path t [] t
  | cons {t t' u : List Nat} {e : Ed} {r : List Ed} : doE t e = some t' → Path t' r u → Path t (e :: r) u
theorem Path.app {t c u : List Nat} {a b : List Ed} (h : Path t a c) (k : Path c b u) : Path t (a ++ b) u := by
  induction h with
  | nil => exact k
  | cons d _ ih => exact .cons d (ih k)
theorem Path.snoc {t c u : List Nat} {a : List Ed} {e : Ed} (h : Path t a c) (d : doE c e = some u) : Path t (a ++ [e]) u := h.app (.cons d (.nil u))
theorem Path.split {t u : List Nat} {es : List Ed} (i : Nat) (h : Path t es u) : ∃ c, Path t (es.take i) c ∧ Path c (es.drop i) u := by
  induction h generalizing i with
  | nil t => exact ⟨t, by rw [List.take_nil]; exact .nil t, by rw [List.drop_nil]; exact .nil t⟩
  | @cons t t' u e r d k ih =>
    cases i with
    | zero => exact ⟨t, .nil t, .cons d k⟩
    | succ i =>
      obtain ⟨c, h1, h2⟩ := ih i
      exact ⟨c, .cons d h1, h2⟩
theorem Path.det {t u v : List Nat} {es : List Ed} (h : Path t es u) (k : Path t es v) : u = v := by
  induction h with
  | nil =>
    cases k
    rfl
  | cons d _ ih =>
    cases k with
    | cons d' k' =>
      rw [d] at d'
      cases d'
      exact ih k'
theorem inv_put {t u : List Nat} {a c : Nat} (d : doE t (.put a c) = some u) : (a ≤ t.length ∧ t.length < 200000) ∧ u = t.take a ++ [c] ++ t.drop a := by
  by_cases h : a ≤ t.length ∧ t.length < 200000
  · have e : doE t (.put a c) = some _ := if_pos h
    rw [e] at d
    exact ⟨h, (Option.some.inj d).symm⟩
  · have e : doE t (.put a c) = none := if_neg h
    rw [e] at d
    cases d
theorem inv_lost {t u : List Nat} {a : Nat} (d : doE t (.lost a) = some u) : a < t.length ∧ u = t.take a ++ t.drop (a + 1) := by
  by_cases h : a < t.length
  · have e : doE t (.lost a) = some _ := if_pos h
    rw [e] at d
    exact ⟨h, (Option.some.inj d).symm⟩
  · have e : doE t (.lost a) = none := if_neg h
    rw [e] at d
    cases d
theorem inv_chg {t u : List Nat} {a c : Nat} (d : doE t (.chg a c) = some u) : (a < t.length ∧ t.getD a 0 ≠ c) ∧ u = t.take a ++ [c] ++ t.drop (a + 1) := by
  by_cases h : a < t.length ∧ t.getD a 0 ≠ c
  · have e : doE t (.chg a c) = some _ := if_pos h
    rw [e] at d
    exact ⟨h, (Option.some.inj d).symm⟩
  · have e : doE t (.chg a c) = none := if_neg h
    rw [e] at d
    cases d
theorem doE_len {t u : List Nat} {e : Ed} (d : doE t e = some u) : u.length ≤ t.length + 1 ∧ (t.length ≤ 200000 → u.length ≤ 200000) := by
  cases e with
  | put a c =>
    obtain ⟨h, rfl⟩ := inv_put d
    have : (t.take a ++ [c] ++ t.drop a).length = t.length + 1 := by simp; omega
    omega
  | lost a =>
    obtain ⟨h, rfl⟩ := inv_lost d
    have : (t.take a ++ t.drop (a + 1)).length = t.length - 1 := by simp; omega
    omega
  | chg a c =>
    obtain ⟨h, rfl⟩ := inv_chg d
    have : (t.take a ++ [c] ++ t.drop (a + 1)).length = t.length := by simp; omega
    omega
theorem Path.len {t u : List Nat} {es : List Ed} (h : Path t es u) : u.length ≤ t.length + es.length ∧ (t.length ≤ 200000 → u.length ≤ 200000) := by
  induction h with
  | nil t => exact ⟨Nat.le_refl _, fun h => h⟩
  | cons d _ ih =>
    have := doE_len d
    rw [List.length_cons]
    omega
def nxt (t : List Nat) (e : Ed) : List Nat := (doE t e).getD t
/-- the text and what each edit leaves -/
def trail (t : List Nat) : List Ed → List (List Nat)
  | [] => [t]
  | e :: r => t :: trail (nxt t e) r
theorem trail_len (t : List Nat) (es : List Ed) : (trail t es).length = es.length + 1 := by
  induction es generalizing t with
  | nil => rfl
  | cons e r ih =>
    show (trail (nxt t e) r).length + 1 = _
    rw [ih]
    rfl
theorem trail_snoc {t c : List Nat} {es : List Ed} (e : Ed) (h : Path t es c) : trail t (es ++ [e]) = trail t es ++ [nxt c e] := by
  induction h with
  | nil t => rfl
  | @cons t t' u f r d _ ih =>
    have : nxt t f = t' := by unfold nxt; rw [d]; rfl
    show t :: trail (nxt t f) (r ++ [e]) = t :: trail (nxt t f) r ++ [nxt u e]
    rw [this, ih]
    rfl
theorem trail_last {t c : List Nat} {es : List Ed} (h : Path t es c) : ∃ ini, trail t es = ini ++ [c] := by
  induction h with
  | nil t => exact ⟨[], rfl⟩
  | @cons t t' u f r d _ ih =>
    obtain ⟨ini, hi⟩ := ih
    have : nxt t f = t' := by unfold nxt; rw [d]; rfl
    exact ⟨t :: ini, by show t :: trail (nxt t f) r = _; rw [this, hi]; rfl⟩
theorem trail_at {t u : List Nat} {es : List Ed} {i : Nat} (hi : i ≤ es.length) (h : Path t es u) : ∃ c, (trail t es)[i]? = some c ∧ Path t (es.take i) c := by
  induction h generalizing i with
  | nil t =>
    obtain rfl : i = 0 := by simpa using hi
    exact ⟨t, rfl, .nil t⟩
  | @cons t t' u f r d _ ih =>
    cases i with
    | zero => exact ⟨t, rfl, .nil t⟩
    | succ i =>
      obtain ⟨c, h1, h2⟩ := ih (i := i) (by simpa using hi)
      have : nxt t f = t' := by unfold nxt; rw [d]; rfl
      refine ⟨c, ?_, .cons d h2⟩
      show (trail (nxt t f) r)[i]? = _
      rw [this]
      exact h1
def Stuck (t : List Nat) (es : List Ed) : Prop := ∃ i e c, es[i]? = some e ∧ Path t (es.take i) c ∧ doE c e = none
theorem Path.not {t u : List Nat} {es : List Ed} (h : Path t es u) (k : Stuck t es) : False := by
  obtain ⟨i, e, c, he, hp, hd⟩ := k
  obtain ⟨c', h1, h2⟩ := h.split i
  have hi := (List.getElem?_eq_some_iff.mp he).1
  rw [List.drop_eq_getElem_cons hi] at h2
  have : es[i] = e := (List.getElem?_eq_some_iff.mp he).2
  rw [this, ← hp.det h1] at h2
  cases h2 with
  | cons d _ =>
    rw [hd] at d
    cases d
def un (t : List Nat) : Ed → Ed
  | .put a _ => .lost a
  | .lost a => .put a (t.getD a 0)
  | .chg a _ => .chg a (t.getD a 0)
/-- the edits that lead back, the first one first -/
def backs (t : List Nat) : List Ed → List Ed
  | [] => []
  | e :: r => un t e :: backs (nxt t e) r
theorem backs_len (t : List Nat) (es : List Ed) : (backs t es).length = es.length := by
  induction es generalizing t with
  | nil => rfl
  | cons e r ih =>
    show (backs (nxt t e) r).length + 1 = _
    rw [ih]
    rfl
theorem backs_snoc {t c : List Nat} {es : List Ed} (e : Ed) (h : Path t es c) : backs t (es ++ [e]) = backs t es ++ [un c e] := by
  induction h with
  | nil t => rfl
  | @cons t t' u f r d _ ih =>
    have : nxt t f = t' := by unfold nxt; rw [d]; rfl
    show un t f :: backs (nxt t f) (r ++ [e]) = un t f :: backs (nxt t f) r ++ [un u e]
    rw [this, ih]
    rfl
theorem backs_at {t u c : List Nat} {es : List Ed} {i : Nat} {e : Ed} (h : Path t es u) (he : es[i]? = some e) (hc : Path t (es.take i) c) : (backs t es)[i]? = some (un c e) := by
  induction h generalizing i with
  | nil t => cases he
  | @cons t t' u f r d _ ih =>
    cases i with
    | zero =>
      cases he
      cases hc
      rfl
    | succ i =>
      have : nxt t f = t' := by unfold nxt; rw [d]; rfl
      cases hc with
      | cons d' hc' =>
        rw [d] at d'
        cases d'
        show (backs (nxt t f) r)[i]? = _
        rw [this]
        exact ih he hc'
/-- what is undone is there again -/
theorem undo_one {t u : List Nat} {e : Ed} (hl : t.length ≤ 200000) (d : doE t e = some u) : doE u (un t e) = some t ∧ un u (un t e) = e := by
  cases e with
  | put a c =>
    obtain ⟨h, rfl⟩ := inv_put d
    have h1 : (t.take a).length = a := by rw [List.length_take]; omega
    have e1 : (t.take a ++ [c] ++ t.drop a).take a = t.take a := by
      rw [List.append_assoc, List.take_append_of_le_length (by omega), List.take_of_length_le (by omega)]
    have e2 : (t.take a ++ [c] ++ t.drop a).drop (a + 1) = t.drop a := by
      rw [List.drop_append_of_le_length (by simp; omega)]
      rw [List.drop_of_length_le (by simp; omega)]
      rfl
    have e3 : (t.take a ++ [c] ++ t.drop a).getD a 0 = c := by
      rw [List.getD_eq_getElem?_getD, List.append_assoc, List.getElem?_append_right (by omega), h1, Nat.sub_self]
      rfl
    constructor
    · show (if a < (t.take a ++ [c] ++ t.drop a).length then _ else _) = _
      rw [if_pos (by simp; omega), e1, e2, List.take_append_drop]
    · show Ed.put a _ = _
      rw [e3]
  | lost a =>
    obtain ⟨h, rfl⟩ := inv_lost d
    have h1 : (t.take a).length = a := by rw [List.length_take]; omega
    have e1 : (t.take a ++ t.drop (a + 1)).take a = t.take a := by
      rw [List.take_append_of_le_length (by omega), List.take_of_length_le (by omega)]
    have e2 : (t.take a ++ t.drop (a + 1)).drop a = t.drop (a + 1) := by
      rw [List.drop_append_of_le_length (by omega), List.drop_of_length_le (by omega)]
      rfl
    have e3 : t.take a ++ [t.getD a 0] ++ t.drop (a + 1) = t := by
      have : t.getD a 0 = t[a] := by rw [List.getD_eq_getElem?_getD, List.getElem?_eq_getElem h]; rfl
      rw [this, List.append_assoc]
      show t.take a ++ (t[a] :: t.drop (a + 1)) = t
      rw [← List.drop_eq_getElem_cons h, List.take_append_drop]
    constructor
    · show (if a ≤ (t.take a ++ t.drop (a + 1)).length ∧ (t.take a ++ t.drop (a + 1)).length < 200000 then _ else _) = _
      rw [if_pos (by simp; omega), e1, e2, e3]
    · rfl
  | chg a c =>
    obtain ⟨h, rfl⟩ := inv_chg d
    have h1 : (t.take a).length = a := by rw [List.length_take]; omega
    have e1 : (t.take a ++ [c] ++ t.drop (a + 1)).take a = t.take a := by
      rw [List.append_assoc, List.take_append_of_le_length (by omega), List.take_of_length_le (by omega)]
    have e2 : (t.take a ++ [c] ++ t.drop (a + 1)).drop (a + 1) = t.drop (a + 1) := by
      rw [List.drop_append_of_le_length (by simp; omega)]
      rw [List.drop_of_length_le (by simp; omega)]
      rfl
    have e4 : (t.take a ++ [c] ++ t.drop (a + 1)).getD a 0 = c := by
      rw [List.getD_eq_getElem?_getD, List.append_assoc, List.getElem?_append_right (by omega), h1, Nat.sub_self]
      rfl
    have e3 : t.take a ++ [t.getD a 0] ++ t.drop (a + 1) = t := by
      have : t.getD a 0 = t[a] := by rw [List.getD_eq_getElem?_getD, List.getElem?_eq_getElem h.1]; rfl
      rw [this, List.append_assoc]
      show t.take a ++ (t[a] :: t.drop (a + 1)) = t
      rw [← List.drop_eq_getElem_cons h.1, List.take_append_drop]
    constructor
    · show (if a < (t.take a ++ [c] ++ t.drop (a + 1)).length ∧ (t.take a ++ [c] ++ t.drop (a + 1)).getD a 0 ≠ t.getD a 0 then _ else _) = _
      rw [e4, if_pos ⟨by simp; omega, fun z => h.2 z.symm⟩, e1, e2, e3]
    · show Ed.chg a _ = _
      rw [e4]
theorem undo_all {t u : List Nat} {es : List Ed} (hl : t.length ≤ 200000) (h : Path t es u) : Path u (backs t es).reverse t ∧ (backs u (backs t es).reverse).reverse = es := by
  induction h with
  | nil t => exact ⟨.nil t, rfl⟩
  | @cons t t' u f r d k ih =>
    have hl' := (doE_len d).2 hl
    obtain ⟨h1, h2⟩ := ih hl'
    obtain ⟨g1, g2⟩ := undo_one hl d
    have : nxt t f = t' := by unfold nxt; rw [d]; rfl
    have eb : (backs t (f :: r)).reverse = (backs t' r).reverse ++ [un t f] := by
      show (un t f :: backs (nxt t f) r).reverse = _
      rw [this, List.reverse_cons]
    rw [eb]
    refine ⟨h1.snoc g1, ?_⟩
    rw [backs_snoc _ h1, List.reverse_append, h2, g2]
    rfl
theorem doE_sg {t u : List Nat} {e : Ed} (hs : ∀ c ∈ t, sg c = true) (he : e.ok = true) (d : doE t e = some u) : (∀ c ∈ u, sg c = true) ∧ (un t e).ok = true := by
  have hg : ∀ a, a < t.length → sg (t.getD a 0) = true := fun a ha => by
    rw [List.getD_eq_getElem?_getD, List.getElem?_eq_getElem ha]
    exact hs _ (List.getElem_mem ..)
  cases e with
  | put a c =>
    obtain ⟨h, rfl⟩ := inv_put d
    refine ⟨fun x hx => ?_, rfl⟩
    simp only [List.mem_append, List.mem_singleton] at hx
    rcases hx with (hx | rfl) | hx
    · exact hs _ (List.mem_of_mem_take hx)
    · exact he
    · exact hs _ (List.mem_of_mem_drop hx)
  | lost a =>
    obtain ⟨h, rfl⟩ := inv_lost d
    refine ⟨fun x hx => ?_, hg a h⟩
    simp only [List.mem_append] at hx
    rcases hx with hx | hx
    · exact hs _ (List.mem_of_mem_take hx)
    · exact hs _ (List.mem_of_mem_drop hx)
  | chg a c =>
    obtain ⟨h, rfl⟩ := inv_chg d
    refine ⟨fun x hx => ?_, hg a h.1⟩
    simp only [List.mem_append, List.mem_singleton] at hx
    rcases hx with (hx | rfl) | hx
    · exact hs _ (List.mem_of_mem_take hx)
    · exact he
    · exact hs _ (List.mem_of_mem_drop hx)
theorem path_sg {t u : List Nat} {es : List Ed} (hs : ∀ c ∈ t, sg c = true) (he : ∀ e ∈ es, e.ok = true) (h : Path t es u) : (∀ c ∈ u, sg c = true) ∧ ∀ e ∈ backs t es, e.ok = true := by
  induction h with
  | nil t => exact ⟨hs, fun e m => by cases m⟩
  | @cons t t' u f r d k ih =>
    obtain ⟨g1, g2⟩ := doE_sg hs (he f List.mem_cons_self) d
    obtain ⟨h1, h2⟩ := ih g1 (fun e m => he e (List.mem_cons_of_mem _ m))
    have : nxt t f = t' := by unfold nxt; rw [d]; rfl
    refine ⟨h1, fun e m => ?_⟩
    rcases List.mem_cons.mp m with rfl | m
    · exact g2
    · rw [this] at m
      exact h2 e m
end K05
namespace K05
open PySem PySem.Spec PyProof.Rows L2 Kx SX LamX
section
variable {P : Program} {w : World} {K : PySem.W.Frag} {mg : Str → Option Value} {base : Heap} (T : Tx K mg)
theorem cutIf {b : Bool} {A B : Prop} (h : b = false) (k : B) : if b = true then A else B := by
  rw [h]
  exact iteF (A := _) k
theorem same_none {H H1 : Hp} {D : Addr} (e : Same H H1) (n : H1 D = none) : H D = none := by
  cases h : H D with
  | none => rfl
  | some o =>
    rw [e _ _ h] at n
    cases n
/-- edits as they may be told: a list or a tuple of lists or tuples -/
def EdsQ (K : PySem.W.Frag) (H : Hp) (p : Addr) (es : List Ed) : Prop := ∃ ps : List Addr, SqQ K H p (ps.map V.ref) ∧ ps.length = es.length ∧ ∀ (i : Nat) (q : Addr) (e : Ed), ps[i]? = some q → es[i]? = some e → SqQ K H q e.vs
theorem EdsQ.same {H H' : Hp} {p : Addr} {es : List Ed} (e : Same H H') (h : EdsQ K H p es) : EdsQ K H' p es := by
  obtain ⟨ps, h1, h2, h3⟩ := h
  exact ⟨ps, Same.q e h1, h2, fun i q d a b => Same.q e (h3 i q d a b)⟩
theorem ref_get {ps : List Addr} {i : Nat} {x : V} (h : (ps.map V.ref)[i]? = some x) : ∃ q, ps[i]? = some q ∧ x = .ref q := by
  obtain ⟨q, h1, h2⟩ := map_at h
  exact ⟨q, h1, h2⟩
theorem ed_of {ps : List Addr} {es : List Ed} {i : Nat} {q : Addr} (l : ps.length = es.length) (h : ps[i]? = some q) : ∃ e, es[i]? = some e := by
  have := (List.getElem?_eq_some_iff.mp h).1
  exact ⟨_, List.getElem?_eq_getElem (by omega)⟩
theorem take_snoc {es : List Ed} {i : Nat} {e : Ed} (h : es[i]? = some e) : es.take (i + 1) = es.take i ++ [e] := by
  rw [List.take_add_one, h]
  rfl
/-- what cannot be done to c: no edit, or one that leads nowhere -/
def OddAt (K : PySem.W.Frag) (H : Hp) (c : List Nat) (v : V) : Prop := BadE K H v ∨ ∃ (p : Addr) (e : Ed), v = .ref p ∧ SqQ K H p e.vs ∧ e.ok = true ∧ doE c e = none
theorem OddAt.same {H H' : Hp} {c : List Nat} {v : V} (e : Same H H') (h : OddAt K H c v) : OddAt K H' c v := by
  rcases h with h | ⟨p, d, h1, h2, h3, h4⟩
  · exact .inl (h.same e)
  · exact .inr ⟨p, d, h1, Same.q e h2, h3, h4⟩
/-- edits, then what cannot be done, then whatever -/
def BadAt (K : PySem.W.Frag) (H : Hp) (t : List Nat) (xs : List V) : Prop := ∃ (qs : List Addr) (es : List Ed) (c : List Nat) (v : V) (r : List V), qs.length = es.length ∧ (∀ (i : Nat) (q : Addr) (e : Ed), qs[i]? = some q → es[i]? = some e → SqQ K H q e.vs) ∧ (∀ e ∈ es, e.ok = true) ∧ Path t es c ∧ xs = qs.map V.ref ++ v :: r ∧ OddAt K H c v
theorem BadAt.same {H H' : Hp} {t : List Nat} {xs : List V} (e : Same H H') (h : BadAt K H t xs) : BadAt K H' t xs := by
  obtain ⟨qs, es, c, v, r, h1, h2, h3, h4, h5, h6⟩ := h
  exact ⟨qs, es, c, v, r, h1, fun i q d a b => Same.q e (h2 i q d a b), h3, h4, h5, h6.same e⟩
def sp_texts_behind (K : PySem.W.Frag) : Sp := fun vs H Q _ => ∃ (t : List Nat) (p : Addr), vs = [.str (S t), .ref p] ∧ t.length ≤ 200000 ∧ ((∃ es : List Ed, EdsQ K H p es ∧ (∀ e ∈ es, e.ok = true) ∧ es.length ≤ 1000 ∧
  (∀ (u : List Nat) (D : Addr) (H' : Hp), Path t es u → Same H H' → H' D = some (.lst ((trail t es).map tx)) → Q (.ref D) H') ∧ (∀ H', Stuck t es → Same H H' → Q .non H')) ∨
  (∃ xs, SqQ K H p xs ∧ xs.length ≤ 1000 ∧ BadAt K H t xs ∧ ∀ H', Same H H' → Q .non H'))
theorem ok_texts_behind : FnOk P w K mg base CX0 5 T.f_texts_behind T.fd_texts_behind ["text", "edits"] (sp_texts_behind K) := by
  refine T.F_texts_behind.ok sc_texts_behind (fun vs H Q E h => ?_) (fun cdv A outer s H vs Q E hr h => ?_)
  · obtain ⟨t, p, rfl, _⟩ := h
    rfl
  · obtain ⟨t, p, rfl, hl, h⟩ := h
    refine ⟨_, (pss_cons (ps_if (pt_not (pt_val (pe_call (ok_is_list T) (hr.mono (by decide)) (by rfl) T.g_is_list T.F_is_list.kp T.b_is_list .nil pass0 (pa_cons (pv 1) pa_nil))))
      (pss_one (ps_ret pe_non))
      pss_nil)
    (pss_cons (ps_set (i := 2) sc_texts_behind.nd rfl (.inl rfl) (pe_lst (pa_cons (pv 0) pa_nil)))
    (pss_cons (ps_for PassesOwn.never rfl (pi_seq (pv 1)) (pg_name (i := 3) sc_texts_behind.nd rfl (.inl rfl))
      (pss_cons (ps_set (i := 4) sc_texts_behind.nd rfl (.inl rfl) (pe_call (ok_left_by_edit T) (hr.mono (by decide)) (by rfl) T.g_left_by_edit T.F_left_by_edit.kp T.b_left_by_edit .nil pass0 (pa_cons (pe_ix ix_list (pv 2) (pe_un un_neg pe_int) (fun _ _ => rfl)) (pa_cons (pv 3) pa_nil))))
      (pss_cons (ps_if (pt_cmpR op_isN (pv 4) pe_non (nomark _))
        (pss_one (ps_ret pe_non))
        pss_nil)
      (pss_one (ps_expr (pe_bm PySem.F.plainAttrs_list PySem.F.slot_list_append PySem.F.type_list_append mt_append (pv 2) (pa_cons (pv 4) pa_nil)))))))
    (pss_one (ps_ret (pv 2)))))), ?_⟩
    rcases h with ⟨es, ⟨ps, hq, lp, hp⟩, ho, le, q1, q2⟩ | ⟨xs, hq, lx, hb, q⟩
    ·
      obtain ⟨n, ht, hk⟩ := isl_q hq
      refine go_seq (go_if (go_not (go_b ⟨_, rfl, _, n, true, rfl, ht, hk, fun H1 e1 => ⟨_, rfl, iteF (A := _) ?_⟩⟩)))
      dsimp only [tNext]
      refine go_seq (go_asg (go_lst (go_cons (go_var rfl (go_nil ⟨sz1, fun D nD => ?_⟩)))))
      have e2 := e1.trans (same_new (o := HO.lst [V.str (S t)]) nD)
      have nD0 : H D = none := same_none e1 nD
      have hD : upd H1 D (HO.lst [V.str (S t)]) D = some (.lst [V.str (S t)]) := upd_same
      generalize upd H1 D (HO.lst [V.str (S t)]) = H2 at e2 hD ⊢
      clear ht hk e1 nD
      dsimp only [gName]
      refine go_seq (for_seq (a := p) (xs := ps.map V.ref) (by exact rfl) hq e2 (fun i σ H' => ∃ (o3 o4 : Option V) (c : List Nat), σ = [some (.str (S t)), some (.ref p), some (.ref D), o3, o4] ∧ Path t (es.take i) c ∧ H' D = some (.lst ((trail t (es.take i)).map tx)) ∧ Same H H')
        ⟨none, none, t, rfl, .nil t, hD, e2⟩ (fun i σ' H' _ h => ?_) (fun i v σ' Hd hv h => ?_) (fun σ' Hd h => ?_))
      · obtain ⟨_, _, _, _, _, _, e⟩ := h
        exact e
      · obtain ⟨o3, o4, c, rfl, hc, hDd, ed⟩ := h
        obtain ⟨y, hy, rfl⟩ := ref_get hv
        obtain ⟨e, he⟩ := ed_of lp hy
        have hye := Same.q ed (hp i y e hy he)
        obtain ⟨ini, hini⟩ := trail_last hc
        have lc : c.length ≤ 200000 := (Path.len hc).2 hl
        have hi : i < es.length := (List.getElem?_eq_some_iff.mp he).1
        dsimp only [gName]
        refine go_seq (go_asg ⟨_, rfl, 1, rfl, D, _, -1, tx c, rfl, rfl, .inl (.inl hDd), by rw [hini, List.map_append]; exact at_last, _, rfl, c, _, rfl, lc, .inl ⟨y, e, rfl, hye, ho e (List.mem_of_getElem? he), fun H3 e3 => ?_⟩⟩)
        dsimp only [gName]
        cases hd : doE c e with
        | none => exact go_seq (go_if (go_test ⟨_, rfl, rfl, _, rfl, iteT (B := _) (go_ret (q2 H3 ⟨i, e, c, he, hc, hd⟩ (ed.trans e3)))⟩))
        | some u =>
          refine go_seq (go_if (go_test ⟨_, rfl, rfl, _, rfl, iteF (A := _) ?_⟩))
          dsimp only [tNext]
          have hD3 := e3 _ _ hDd
          refine ⟨_, rfl, .inl ⟨rfl, _, .inl (.inl hD3)⟩, _, rfl, D, _, _, rfl, rfl, hD3, ?_, ?_⟩
          · rw [List.length_map, trail_len, List.length_take]
            exact Nat.lt_of_lt_of_le (show min i es.length + 1 < 1002 by omega) (by decide)
          · have et : trail t (es.take (i + 1)) = trail t (es.take i) ++ [u] := by
              rw [take_snoc he, trail_snoc e hc]
              unfold nxt
              rw [hd]
              rfl
            refine ⟨_, _, u, rfl, by rw [take_snoc he]; exact hc.snoc hd, ?_, same_set (ed.trans e3) nD0⟩
            rw [upd_same, et, List.map_append]
            rfl
      · obtain ⟨o3, o4, c, rfl, hc, hDd, ed⟩ := h
        rw [List.length_map, lp, List.take_length] at hc hDd
        exact go_ret (go_var rfl (q1 c D Hd hc ed hDd))
    · obtain ⟨qs, es, c, v, r, lq, hp, ho, hP, ex, hO⟩ := hb
      have lxs : es.length < xs.length := by
        rw [ex, List.length_append, List.length_map, List.length_cons]
        omega
      obtain ⟨n, ht, hk⟩ := isl_q hq
      refine go_seq (go_if (go_not (go_b ⟨_, rfl, _, n, true, rfl, ht, hk, fun H1 e1 => ⟨_, rfl, iteF (A := _) ?_⟩⟩)))
      dsimp only [tNext]
      refine go_seq (go_asg (go_lst (go_cons (go_var rfl (go_nil ⟨sz1, fun D nD => ?_⟩)))))
      have e2 := e1.trans (same_new (o := HO.lst [V.str (S t)]) nD)
      have nD0 : H D = none := same_none e1 nD
      have hD : upd H1 D (HO.lst [V.str (S t)]) D = some (.lst [V.str (S t)]) := upd_same
      generalize upd H1 D (HO.lst [V.str (S t)]) = H2 at e2 hD ⊢
      clear ht hk e1 nD
      dsimp only [gName]
      refine go_seq (for_seq (a := p) (xs := xs) (by exact rfl) hq e2 (fun i σ H' => ∃ (o3 o4 : Option V) (c : List Nat), σ = [some (.str (S t)), some (.ref p), some (.ref D), o3, o4] ∧ i ≤ es.length ∧ Path t (es.take i) c ∧ H' D = some (.lst ((trail t (es.take i)).map tx)) ∧ Same H H')
        ⟨none, none, t, rfl, Nat.zero_le _, .nil t, hD, e2⟩ (fun i σ' H' _ h => ?_) (fun i w σ' Hd hv h => ?_) (fun σ' Hd h => ?_))
      · obtain ⟨_, _, _, _, _, _, _, e⟩ := h
        exact e
      · obtain ⟨o3, o4, c', rfl, hi, hc, hDd, ed⟩ := h
        obtain ⟨ini, hini⟩ := trail_last hc
        have lc : c'.length ≤ 200000 := (Path.len hc).2 hl
        dsimp only [gName]
        rcases Nat.lt_or_ge i es.length with hlt | hge
        · have hw : ∃ y, qs[i]? = some y ∧ w = .ref y := by
            rw [ex, List.getElem?_append_left (by rw [List.length_map]; omega)] at hv
            obtain ⟨y, h1, h2⟩ := ref_get hv
            exact ⟨y, h1, h2⟩
          obtain ⟨y, hy, rfl⟩ := hw
          obtain ⟨e, he⟩ : ∃ e, es[i]? = some e := ⟨_, List.getElem?_eq_getElem hlt⟩
          have hye := Same.q ed (hp i y e hy he)
          refine go_seq (go_asg ⟨_, rfl, 1, rfl, D, _, -1, tx c', rfl, rfl, .inl (.inl hDd), by rw [hini, List.map_append]; exact at_last, _, rfl, c', _, rfl, lc, .inl ⟨y, e, rfl, hye, ho e (List.mem_of_getElem? he), fun H3 e3 => ?_⟩⟩)
          dsimp only [gName]
          cases hd : doE c' e with
          | none => exact (hP.not ⟨i, e, c', he, hc, hd⟩).elim
          | some u =>
            refine go_seq (go_if (go_test ⟨_, rfl, rfl, _, rfl, iteF (A := _) ?_⟩))
            dsimp only [tNext]
            have hD3 := e3 _ _ hDd
            refine ⟨_, rfl, .inl ⟨rfl, _, .inl (.inl hD3)⟩, _, rfl, D, _, _, rfl, rfl, hD3, ?_, ?_⟩
            · rw [List.length_map, trail_len, List.length_take]
              exact Nat.lt_of_lt_of_le (show min i es.length + 1 < 1002 by omega) (by decide)
            · have et : trail t (es.take (i + 1)) = trail t (es.take i) ++ [u] := by
                rw [take_snoc he, trail_snoc e hc]
                unfold nxt
                rw [hd]
                rfl
              refine ⟨_, _, u, rfl, hlt, by rw [take_snoc he]; exact hc.snoc hd, ?_, same_set (ed.trans e3) nD0⟩
              rw [upd_same, et, List.map_append]
              rfl
        · obtain rfl : i = es.length := by omega
          have hw : w = v := by
            rw [ex, List.getElem?_append_right (by rw [List.length_map]; omega), List.length_map, lq, Nat.sub_self] at hv
            exact (Option.some.inj hv).symm
          subst hw
          rw [List.take_length] at hc
          obtain rfl : c = c' := hP.det hc
          rcases hO.same ed with hB | ⟨y, e, rfl, hye, hoe, hd⟩
          · refine go_seq (go_asg ⟨_, rfl, 1, rfl, D, _, -1, tx c, rfl, rfl, .inl (.inl hDd), by rw [hini, List.map_append]; exact at_last, _, rfl, c, _, rfl, lc, .inr ⟨hB, fun H3 e3 => ?_⟩⟩)
            dsimp only [gName]
            exact go_seq (go_if (go_test ⟨_, rfl, rfl, _, rfl, iteT (B := _) (go_ret (q H3 (ed.trans e3)))⟩))
          · refine go_seq (go_asg ⟨_, rfl, 1, rfl, D, _, -1, tx c, rfl, rfl, .inl (.inl hDd), by rw [hini, List.map_append]; exact at_last, _, rfl, c, _, rfl, lc, .inl ⟨y, e, rfl, hye, hoe, fun H3 e3 => ?_⟩⟩)
            rw [hd]
            dsimp only [gName]
            exact go_seq (go_if (go_test ⟨_, rfl, rfl, _, rfl, iteT (B := _) (go_ret (q H3 (ed.trans e3)))⟩))
      · obtain ⟨_, _, _, _, hi, _⟩ := h
        omega
/-- what are no edits of t -/
def NoEds (K : PySem.W.Frag) (H : Hp) (t : List Nat) (y : V) : Prop := (∃ n : String, TyX K H y (.type n) ∧ PySem.W.kitAny K (.type n) [.type "list", .type "tuple"] = some false) ∨ (∃ p xs, y = .ref p ∧ SqQ K H p xs ∧ xs.length ≤ 1000 ∧ (12 < xs.length ∨ BadAt K H t xs))
theorem NoEds.same {H H' : Hp} {t : List Nat} {y : V} (e : Same H H') (h : NoEds K H t y) : NoEds K H' t y := by
  rcases h with ⟨n, h1, h2⟩ | ⟨p, xs, h1, h2, h3, h4⟩
  · exact .inl ⟨n, tyx_same e h1, h2⟩
  · exact .inr ⟨p, xs, h1, Same.q e h2, h3, h4.imp id fun h => h.same e⟩
/-- what a call with a text and edits gives -/
def AskS (K : PySem.W.Frag) (CT CE : Addr) (R : List Nat → List Nat → List Ed → V → Hp → Prop) : Sp := fun vs H Q E => ∃ x y : V, vs = [x, y] ∧
  ((∃ o, StrIs K H x o ∧ o.elim false textB = false ∧ RaisedPart E CT H "text") ∨ (∃ t, x = .str (S t) ∧ textB t = true ∧ NoEds K H t y ∧ RaisedPart E CE H "edits") ∨
   (∃ (t u : List Nat) (p : Addr) (es : List Ed), x = .str (S t) ∧ y = .ref p ∧ textB t = true ∧ EdsQ K H p es ∧ (∀ e ∈ es, e.ok = true) ∧ es.length ≤ 12 ∧ t.length ≤ 1000 ∧ Path t es u ∧ ∀ r H', Same H H' → R t u es r H' → Q r H'))
def RTexts : List Nat → List Nat → List Ed → V → Hp → Prop := fun t u es r H' => ∃ D, r = .ref D ∧ H' D = some (.lst ((trail t es).map tx))
theorem ok_checked_texts : FnOk P w K mg base (L2.CX P w) 9 T.f_checked_texts T.fd_checked_texts ["text", "edits"] (AskS K T.e_BadText.C T.e_BadEdits.C RTexts) := by
  refine T.F_checked_texts.okX sc_checked_texts (fun vs H Q E h => ?_) (fun cdv A outer s H vs Q E hr h => ?_)
  · obtain ⟨x, y, rfl, _⟩ := h
    rfl
  · obtain ⟨x, y, rfl, h⟩ := h
    refine ⟨_, (pss_cons (ps_if (pt_not (pt_val (pe_call (ok_is_text T) (hr.mono (by decide)) (by rfl) T.g_is_text T.F_is_text.kp T.b_is_text .nil pass0 (pa_cons (pv 0) pa_nil))))
      (pss_one (ps_raise rfl (takes_of rfl rfl rfl rfl) (pmk_oex T.e_BadText.oex T.e_BadText.iC T.e_BadText.tI (ok_init T.e_BadText in_BadText) (hr.mono (by decide)) T.e_BadText.b .nil pass0 (by rfl) T.e_BadText.gC (pa_cons pe_str pa_nil))))
      pss_nil)
    (pss_cons (ps_if (PW.pt (pw_or (pt_not (pt_val (pe_call (ok_is_list T) (hr.mono (by decide)) (by rfl) T.g_is_list T.F_is_list.kp T.b_is_list .nil pass0 (pa_cons (pv 1) pa_nil)))) (pw_or1 (pt_cmpR op_gt (pe_callB call_len_seq (by rfl) T.m_len PySem.boot_len (pa_cons (pv 1) pa_nil)) (pe_glob (v := .int 12) (by rfl) T.c_MOST_EDITS ⟨_, rfl⟩) (nomark _)))))
      (pss_one (ps_raise rfl (takes_of rfl rfl rfl rfl) (pmk_oex T.e_BadEdits.oex T.e_BadEdits.iC T.e_BadEdits.tI (ok_init T.e_BadEdits in_BadEdits) (hr.mono (by decide)) T.e_BadEdits.b .nil pass0 (by rfl) T.e_BadEdits.gC (pa_cons pe_str pa_nil))))
      pss_nil)
    (pss_cons (ps_set (i := 2) sc_checked_texts.nd rfl (.inl rfl) (pe_call (ok_texts_behind T) (hr.mono (by decide)) (by rfl) T.g_texts_behind T.F_texts_behind.kp T.b_texts_behind .nil pass0 (pa_cons (pv 0) (pa_cons (pv 1) pa_nil))))
    (pss_cons (ps_if (pt_cmpR op_isN (pv 2) pe_non (nomark _))
      (pss_one (ps_raise rfl (takes_of rfl rfl rfl rfl) (pmk_oex T.e_BadEdits.oex T.e_BadEdits.iC T.e_BadEdits.tI (ok_init T.e_BadEdits in_BadEdits) (hr.mono (by decide)) T.e_BadEdits.b .nil pass0 (by rfl) T.e_BadEdits.gC (pa_cons pe_str pa_nil))))
      pss_nil)
    (pss_one (ps_ret (pv 2))))))), ?_⟩
    rcases h with ⟨o, ho, hB, hR⟩ | ⟨t, rfl, htx, hN, hR⟩ | ⟨t, u, p, es, rfl, rfl, htx, hE, ho, le, lt, hu, q⟩
    · refine go_seq (go_if (go_not (go_b ⟨_, rfl, _, o, rfl, ho, ?_⟩)))
      rw [hB]
      refine ⟨_, rfl, iteT (B := _) ?_⟩
      exact mk_part T.e_BadText.oex T.e_BadText.np fun d H' e3 hd => hR d H' e3 hd
    · have hl : t.length ≤ 200000 := by
        unfold textB at htx
        rw [Bool.and_eq_true] at htx
        exact of_decide_eq_true htx.1
      refine go_seq (go_if (go_not (go_b ⟨_, rfl, _, some t, rfl, ⟨rfl, Nat.le_trans hl (by decide)⟩, ?_⟩)))
      have : (some t).elim false textB = true := htx
      rw [this]
      refine ⟨_, rfl, iteF (A := _) ?_⟩
      dsimp only [tNext]
      rcases hN with ⟨n, ht, hk⟩ | ⟨p, xs, rfl, hq, lx, hx⟩
      · exact go_seq (go_if (go_or2 (go_not (go_b ⟨_, rfl, _, n, false, rfl, ht, hk, fun H1 e1 => ⟨_, rfl, iteT (B := _) (iteT (B := _) (mk_part T.e_BadEdits.oex T.e_BadEdits.np fun d H' e3 hd => hR d H' (e1.trans e3) hd))⟩⟩))))
      obtain ⟨n, ht, hk⟩ := isl_q hq
      refine go_seq (go_if (go_or2 (go_not (go_b ⟨_, rfl, _, n, true, rfl, ht, hk, fun H1 e1 => ⟨_, rfl, iteF (A := _) ?_⟩⟩))))
      refine go_test (go_op (go_cb (go_cons (go_var rfl (go_nil ⟨p, _, rfl, Same.q e1 hq, _, _, rfl, rfl, _, rfl, iteC (fun h => ?_) (fun h => ?_)⟩)))))
      · exact mk_part T.e_BadEdits.oex T.e_BadEdits.np fun d H' e3 hd => hR d H' (e1.trans e3) hd
      have h : ¬ 12 < xs.length := fun z => of_decide_eq_false h (by omega)
      rcases hx with hx | hx
      · exact (h hx).elim
      dsimp only [tNext]
      refine go_seq (go_asg ⟨_, rfl, _, rfl, t, p, rfl, hl, .inr ⟨xs, Same.q e1 hq, lx, hx.same e1, fun H2 e2 => ?_⟩⟩)
      dsimp only [gName]
      refine go_seq (go_if (go_test ⟨_, rfl, rfl, _, rfl, iteT (B := _) ?_⟩))
      exact mk_part T.e_BadEdits.oex T.e_BadEdits.np fun d H' e3 hd => hR d H' ((e1.trans e2).trans e3) hd
    · have hl : t.length ≤ 200000 := by omega
      refine go_seq (go_if (go_not (go_b ⟨_, rfl, _, some t, rfl, ⟨rfl, Nat.le_trans hl (by decide)⟩, ?_⟩)))
      have : (some t).elim false textB = true := htx
      rw [this]
      refine ⟨_, rfl, iteF (A := _) ?_⟩
      dsimp only [tNext]
      obtain ⟨ps, hq, lp, hp⟩ := id hE
      obtain ⟨n, ht, hk⟩ := isl_q hq
      refine go_seq (go_if (go_or2 (go_not (go_b ⟨_, rfl, _, n, true, rfl, ht, hk, fun H1 e1 => ⟨_, rfl, iteF (A := _) ?_⟩⟩))))
      refine go_test (go_op (go_cb (go_cons (go_var rfl (go_nil ⟨p, _, rfl, Same.q e1 hq, _, _, rfl, rfl, _, rfl, ?_⟩)))))
      have hd : decide ((12 : Int) < ((ps.map V.ref).length : Int)) = false := by
        rw [List.length_map, lp]
        exact decide_eq_false (by omega)
      refine cutIf hd ?_
      dsimp only [tNext]
      refine go_seq (go_asg ⟨_, rfl, _, rfl, t, p, rfl, hl, .inl ⟨es, hE.same e1, ho, by omega, fun u' D H2 hu' e2 hD => ?_, fun H2 hs e2 => (hu.not hs).elim⟩⟩)
      dsimp only [gName]
      refine go_seq (go_if (go_test ⟨_, rfl, rfl, _, rfl, iteF (A := _) ?_⟩))
      dsimp only [tNext]
      exact go_ret (go_var rfl (q _ H2 (e1.trans e2) ⟨D, rfl, hD⟩))
def RDam : List Nat → List Nat → List Ed → V → Hp → Prop := fun t u es r _ => r = .str (S u)
theorem ok_damaged : FnOk P w K mg base (L2.CX P w) 10 T.f_damaged T.fd_damaged ["text", "edits"] (AskS K T.e_BadText.C T.e_BadEdits.C RDam) := by
  refine T.F_damaged.okX sc_damaged (fun vs H Q E h => ?_) (fun cdv A outer s H vs Q E hr h => ?_)
  · obtain ⟨x, y, rfl, _⟩ := h
    rfl
  · obtain ⟨x, y, rfl, h⟩ := h
    refine ⟨_, (pss_one (ps_ret (pe_ix ix_list (pe_call (ok_checked_texts T) (hr.mono (by decide)) (by rfl) T.g_checked_texts T.F_checked_texts.kp T.b_checked_texts .nil (passes_call (takes_of rfl rfl rfl rfl) (fun _ _ _ _ h => h)) (pa_cons (pv 0) (pa_cons (pv 1) pa_nil))) (pe_un un_neg pe_int) (fun _ _ => rfl)))), ?_⟩
    rcases h with h | h | ⟨t, u, p, es, rfl, rfl, htx, hE, ho, le, lt, hu, q⟩
    · exact go_ret ⟨_, rfl, _, rfl, x, y, rfl, .inl h⟩
    · exact go_ret ⟨_, rfl, _, rfl, x, y, rfl, .inr (.inl h)⟩
    · obtain ⟨ini, hini⟩ := trail_last hu
      refine go_ret ⟨_, rfl, _, rfl, _, _, rfl, .inr (.inr ⟨t, u, p, es, rfl, rfl, htx, hE, ho, le, lt, hu, fun r H1 e1 ⟨D, hr, hD⟩ => ?_⟩)⟩
      subst hr
      exact ⟨1, rfl, D, _, -1, tx u, rfl, rfl, .inl (.inl hD), by rw [hini, List.map_append]; exact at_last, q _ H1 e1 rfl⟩
end
end K05
namespace K05
open PySem PySem.Spec PyProof.Rows L2 Kx SX LamX
section
variable {K : PySem.W.Frag}
/-- edits, a tuple of tuples -/
def EdsT (H : Hp) (D : Addr) (es : List Ed) : Prop := ∃ ps : List Addr, H D = some (.tup (ps.map V.ref)) ∧ ps.length = es.length ∧ ∀ (i : Nat) (q : Addr) (e : Ed), ps[i]? = some q → es[i]? = some e → H q = some (.tup e.vs)
theorem EdsT.same {H H' : Hp} {p : Addr} {es : List Ed} (e : Same H H') (h : EdsT H p es) : EdsT H' p es := by
  obtain ⟨ps, h1, h2, h3⟩ := h
  exact ⟨ps, e _ _ h1, h2, fun i q d a b => e _ _ (h3 i q d a b)⟩
theorem EdsT.q {H : Hp} {p : Addr} {es : List Ed} (h : EdsT H p es) : EdsQ K H p es := by
  obtain ⟨ps, h1, h2, h3⟩ := h
  exact ⟨ps, .inr (.inl (.inl h1)), h2, fun i q e a b => .inr (.inl (.inl (h3 i q e a b)))⟩
/-- edits, a list of tuples -/
def EdsL (H : Hp) (D : Addr) (es : List Ed) : Prop := ∃ ps : List Addr, H D = some (.lst (ps.map V.ref)) ∧ ps.length = es.length ∧ ∀ (i : Nat) (q : Addr) (e : Ed), ps[i]? = some q → es[i]? = some e → H q = some (.tup e.vs)
theorem EdsL.same {H H' : Hp} {p : Addr} {es : List Ed} (e : Same H H') (h : EdsL H p es) : EdsL H' p es := by
  obtain ⟨ps, h1, h2, h3⟩ := h
  exact ⟨ps, e _ _ h1, h2, fun i q d a b => e _ _ (h3 i q d a b)⟩
theorem EdsL.q {H : Hp} {p : Addr} {es : List Ed} (h : EdsL H p es) : EdsQ K H p es := by
  obtain ⟨ps, h1, h2, h3⟩ := h
  exact ⟨ps, .inl (.inl (.inl h1)), h2, fun i q e a b => .inr (.inl (.inl (h3 i q e a b)))⟩
/-- one edit more -/
theorem EdsL.add {H H' : Hp} {D t : Addr} {es : List Ed} {e : Ed} (h : EdsL H D es) (m : Mv D H H') (ht : H' t = some (.tup e.vs)) (hD : ∀ ps : List Addr, H D = some (.lst (ps.map V.ref)) → H' D = some (.lst (ps.map V.ref ++ [.ref t]))) : EdsL H' D (es ++ [e]) := by
  obtain ⟨ps, h1, h2, h3⟩ := h
  refine ⟨ps ++ [t], by rw [hD ps h1, List.map_append]; rfl, by rw [List.length_append, List.length_append, h2]; rfl, fun i q d a b => ?_⟩
  by_cases hi : i < ps.length
  · rw [List.getElem?_append_left hi] at a
    rw [List.getElem?_append_left (by omega)] at b
    have := h3 i q d a b
    exact m _ _ (fun z => by rw [z, h1] at this; cases this) this
  · have : i = ps.length := by
      have := (List.getElem?_eq_some_iff.mp a).1
      rw [List.length_append] at this
      have h1 : ([t] : List Addr).length = 1 := rfl
      omega
    subst this
    rw [List.getElem?_append_right (by omega), Nat.sub_self] at a
    rw [h2, List.getElem?_append_right (by omega), Nat.sub_self] at b
    cases a
    cases b
    exact ht
theorem EdsL.rev {H H' : Hp} {D D' : Addr} {es : List Ed} (e : Same H H') (h : EdsL H D es) (hD : ∀ ps : List Addr, H D = some (.lst (ps.map V.ref)) → H' D' = some (.tup (ps.map V.ref).reverse)) : EdsT H' D' es.reverse := by
  obtain ⟨ps, h1, h2, h3⟩ := h
  refine ⟨ps.reverse, by rw [hD ps h1, List.map_reverse], by rw [List.length_reverse, List.length_reverse, h2], fun i q d a b => ?_⟩
  have hi := (List.getElem?_eq_some_iff.mp a).1
  rw [List.length_reverse] at hi
  rw [List.getElem?_reverse (by omega)] at a b
  rw [← h2] at b
  exact e _ _ (h3 _ q d a b)
/-! ### edits as data -/
def Ed.ds : Ed → List PyData
  | .put a c => [.str "put", .int (a : Nat), .str (S [c])]
  | .lost a => [.str "lost", .int (a : Nat)]
  | .chg a c => [.str "changed", .int (a : Nat), .str (S [c])]
def Ed.pl : Ed → Nat
  | .put a _ => a
  | .lost a => a
  | .chg a _ => a
def Ed.fine (e : Ed) : Prop := e.ok = true ∧ e.pl < 1000000
theorem ed_dp {H : Hp} (e : Ed) : DpAll K H e.vs e.ds := by
  cases e with
  | put a c => exact .cons (.str _) (.cons (.int _) (.cons (.str _) .nil))
  | lost a => exact .cons (.str _) (.cons (.int _) .nil)
  | chg a c => exact .cons (.str _) (.cons (.int _) (.cons (.str _) .nil))
theorem sg_cd {c : Nat} (h : sg c = true) : cdC [c] := by
  have hc : c < 1114112 := by
    unfold sg low at h
    simp only [Bool.or_eq_true, Bool.and_eq_true, decide_eq_true_eq] at h
    omega
  unfold cdC
  simp [hc]
theorem ed_sh {e : Ed} (h : e.fine) : ∃ m, m ≤ 11 ∧ ShA 0 m e.ds := by
  obtain ⟨h1, h2⟩ := h
  cases e with
  | put a c =>
    have := ShA.cons (sh_str (x := "put") (l := [112, 117, 116]) rfl (by unfold cdC; decide)) (.cons (sh_int (i := (a : Nat)) (by have : a < 1000000 := h2; omega)) (.cons (sh_str (x := S [c]) rfl (sg_cd h1)) .nil))
    exact ⟨_, by simp, this⟩
  | lost a =>
    have := ShA.cons (sh_str (x := "lost") (l := [108, 111, 115, 116]) rfl (by unfold cdC; decide)) (.cons (sh_int (i := (a : Nat)) (by have : a < 1000000 := h2; omega)) .nil)
    exact ⟨_, by simp, this⟩
  | chg a c =>
    have := ShA.cons (sh_str (x := "changed") (l := [99, 104, 97, 110, 103, 101, 100]) rfl (by unfold cdC; decide)) (.cons (sh_int (i := (a : Nat)) (by have : a < 1000000 := h2; omega)) (.cons (sh_str (x := S [c]) rfl (sg_cd h1)) .nil))
    exact ⟨_, by simp, this⟩
/-- one edit, a tuple or a list -/
def edD (b : Bool) (e : Ed) : PyData := if b = true then .tuple e.ds else .list e.ds
theorem edD_sh {b : Bool} {e : Ed} (h : e.fine) : Sh 1 11 (edD b e) := by
  obtain ⟨m, hm, g⟩ := ed_sh h
  cases b with
  | true => exact g.tup.up (Nat.le_refl _) hm
  | false => exact g.lst.up (Nat.le_refl _) hm
theorem eds_sh {b : Bool} : ∀ {es : List Ed}, (∀ e ∈ es, e.fine) → ShA 1 (12 * es.length) (es.map (edD b))
  | [], _ => .nil
  | e :: r, h => by
    have := ShA.cons (edD_sh (b := b) (h e List.mem_cons_self)) (eds_sh (b := b) fun x m => h x (List.mem_cons_of_mem _ m))
    have e2 : 11 + 1 + 12 * r.length = 12 * (e :: r).length := by rw [List.length_cons]; omega
    rw [e2] at this
    exact this
theorem eds_dp {H : Hp} {b : Bool} : ∀ (ps : List Addr) (es : List Ed), ps.length = es.length → (∀ (i : Nat) (q : Addr) (e : Ed), ps[i]? = some q → es[i]? = some e → if b = true then SqT K H q e.vs else SqL K H q e.vs) → DpAll K H (ps.map V.ref) (es.map (edD b))
  | [], [], _, _ => .nil
  | [], _ :: _, h, _ => by cases h
  | _ :: _, [], h, _ => by cases h
  | q :: ps, e :: es, h, g => .cons (by
      have h0 := g 0 q e rfl rfl
      cases b with
      | true => exact .tup h0 (ed_dp e)
      | false => exact .lst h0 (ed_dp e)) (eds_dp ps es (by simpa using h) fun i q' d' a b => g (i + 1) q' d' a b)
theorem edsT_dp {H : Hp} {D : Addr} {es : List Ed} (h : EdsT H D es) : Dp K H (.ref D) (.tuple (es.map (edD true))) := by
  obtain ⟨ps, h1, h2, h3⟩ := h
  exact .tup (.inl (.inl h1)) (eds_dp ps es h2 fun i q e a b => .inl (.inl (h3 i q e a b)))
theorem edsL_dp {H : Hp} {D : Addr} {es : List Ed} (h : EdsL H D es) : Dp K H (.ref D) (.list (es.map (edD true))) := by
  obtain ⟨ps, h1, h2, h3⟩ := h
  exact .lst (.inl (.inl h1)) (eds_dp ps es h2 fun i q e a b => .inl (.inl (h3 i q e a b)))
theorem ed_plain {e : Ed} (h : e.ok = true) (b : Bool) : Pl 1 (edD b e) := by
  have kd : ∀ l : List Nat, l.all (fun c => decide (c < 1114112)) = true → Pl 0 (.str (S l)) := fun l h => pl_text h
  have : ∀ d ∈ e.ds, Pl 0 d := by
    intro d m
    cases e with
    | put a c =>
      simp only [Ed.ds, List.mem_cons, List.not_mem_nil, or_false] at m
      rcases m with rfl | rfl | rfl
      · exact kd [112, 117, 116] (by decide)
      · exact pl_int 0 _
      · exact pl_text (sg_cd h)
    | lost a =>
      simp only [Ed.ds, List.mem_cons, List.not_mem_nil, or_false] at m
      rcases m with rfl | rfl
      · exact kd [108, 111, 115, 116] (by decide)
      · exact pl_int 0 _
    | chg a c =>
      simp only [Ed.ds, List.mem_cons, List.not_mem_nil, or_false] at m
      rcases m with rfl | rfl | rfl
      · exact kd [99, 104, 97, 110, 103, 101, 100] (by decide)
      · exact pl_int 0 _
      · exact pl_text (sg_cd h)
  cases b with
  | true => exact Pl.tup this
  | false => exact Pl.lst this
theorem eds_plain {es : List Ed} (h : ∀ e ∈ es, e.ok = true) : Pl 2 (.tuple (es.map (edD true))) := Pl.tup fun d m => by
  obtain ⟨e, he, rfl⟩ := List.mem_map.mp m
  exact ed_plain (h e he) true
theorem eqvAll_same : ∀ ds : List PyData, (∀ d ∈ ds, PyData.eqv d d = true) → PyData.eqvAll ds ds = true
  | [], _ => rfl
  | d :: r, h => by
    show (PyData.eqv d d && PyData.eqvAll r r) = true
    rw [h d List.mem_cons_self, eqvAll_same r fun x m => h x (List.mem_cons_of_mem _ m)]
    rfl
theorem eqv_edsT (es : List Ed) : PyData.eqv (.tuple (es.map (edD true))) (.tuple (es.map (edD true))) = true := by
  refine eqvAll_same _ fun d m => ?_
  obtain ⟨e, _, rfl⟩ := List.mem_map.mp m
  refine eqvAll_same e.ds fun x hx => ?_
  have t : ∀ s : Str, PyData.eqv (.str s) (.str s) = true := fun s => by simp [PyData.eqv]
  have n : ∀ i : Int, PyData.eqv (.int i) (.int i) = true := fun i => by rw [eqv_int]; exact decide_eq_true rfl
  cases e with
  | put a c => simp only [Ed.ds, List.mem_cons, List.not_mem_nil, or_false] at hx; rcases hx with rfl | rfl | rfl <;> first | exact t _ | exact n _
  | lost a => simp only [Ed.ds, List.mem_cons, List.not_mem_nil, or_false] at hx; rcases hx with rfl | rfl <;> first | exact t _ | exact n _
  | chg a c => simp only [Ed.ds, List.mem_cons, List.not_mem_nil, or_false] at hx; rcases hx with rfl | rfl | rfl <;> first | exact t _ | exact n _
/-- the same edits are no others -/
theorem ne_edsT {H : Hp} {a b : Addr} {es : List Ed} {Q : VK} (ho : ∀ e ∈ es, e.ok = true) (h1 : EdsT H a es) (h2 : EdsT H b es) (q : Q (.bl false) H) : rNeD K (.ref a) (.ref b) H Q :=
  ⟨_, _, edsT_dp h1, edsT_dp h2, (eds_plain ho).shaped (by decide), (eds_plain ho).shaped (by decide), by rw [eqv_edsT]; exact q⟩
theorem fine_path {t u : List Nat} {es : List Ed} (ht : t.length + es.length < 1000000) (ho : ∀ e ∈ es, e.ok = true) (h : Path t es u) : ∀ e ∈ es, e.fine := by
  induction h with
  | nil t => exact fun e m => by cases m
  | @cons t t' u f r d _ ih =>
    have := (doE_len d).1
    rw [List.length_cons] at ht
    intro e m
    rcases List.mem_cons.mp m with rfl | m
    · refine ⟨ho _ List.mem_cons_self, ?_⟩
      cases e with
      | put a c =>
        obtain ⟨⟨h, _⟩, _⟩ := inv_put d
        show a < 1000000
        omega
      | lost a =>
        obtain ⟨h, _⟩ := inv_lost d
        show a < 1000000
        omega
      | chg a c =>
        obtain ⟨⟨h, _⟩, _⟩ := inv_chg d
        show a < 1000000
        omega
    · exact ih (by omega) (fun x m => ho x (List.mem_cons_of_mem _ m)) e m
section
variable {a : Addr} {xs : List V} {g : TG} {tt : TT} {te : TE} {vs : List Nat} {σ : L2.St} {H : Hp} {k : Nat} {Q : VK}
/-- [e for x in NAME], NAME a list: by the turn and the heap -/
theorem lc_lstit (hi : σ[k]? = some (some (.ref a))) (hq : SqL K H a xs) (Pv : Addr → Nat → Hp → Prop) (h0 : ∀ D, H D = none → Pv D 0 (upd H D (.lst []))) (hG : ∀ D i H', Pv D i H' → Same H H')
    (hs : ∀ D i x H', H D = none → xs[i]? = some x → Pv D i H' → g x (wipe σ vs) H' fun σ2 H2 => wipe σ2 vs = wipe σ vs ∧ tt σ2 H2 fun b H3 => if b = true then te σ2 H3 fun y H4 => ∃ acc, H4 D = some (.lst acc) ∧ acc.length < sizeLine ∧ Pv D (i + 1) (upd H4 D (.lst (acc ++ [y]))) else Pv D (i + 1) H3)
    (hd : ∀ D H', H D = none → Pv D xs.length H' → Q (.ref D) H') : tLc (iList K (tVar k)) g tt te vs σ H Q :=
  ⟨_, hi, a, rfl, ⟨_, hq⟩, fun D nD => lc_it (walk_list (xs := xs)) (Pv D) (h0 D nD) (fun i H' _ p => (hG D i H' p).seq hq) (fun i x Hc Hx hi p y => by
      obtain ⟨rfl, hx⟩ := y
      exact hs D i x _ nD hx p) (fun H' p => hd D H' nD p)⟩
end
theorem ed_ne_refs {e : Ed} {ps : List Addr} (h : e.vs = ps.map V.ref) : False := by
  cases ps with
  | nil => cases e <;> cases h
  | cons p r => cases e <;> · injection h with h _; cases h
/-- edits, a list of lists -/
def EdsM (H : Hp) (D : Addr) (es : List Ed) : Prop := ∃ ps : List Addr, H D = some (.lst (ps.map V.ref)) ∧ ps.length = es.length ∧ ∀ (i : Nat) (q : Addr) (e : Ed), ps[i]? = some q → es[i]? = some e → H q = some (.lst e.vs)
theorem EdsM.same {H H' : Hp} {p : Addr} {es : List Ed} (e : Same H H') (h : EdsM H p es) : EdsM H' p es := by
  obtain ⟨ps, h1, h2, h3⟩ := h
  exact ⟨ps, e _ _ h1, h2, fun i q d a b => e _ _ (h3 i q d a b)⟩
theorem EdsM.q {H : Hp} {p : Addr} {es : List Ed} (h : EdsM H p es) : EdsQ K H p es := by
  obtain ⟨ps, h1, h2, h3⟩ := h
  exact ⟨ps, .inl (.inl (.inl h1)), h2, fun i q e a b => .inl (.inl (.inl (h3 i q e a b)))⟩
theorem EdsM.add {H H' : Hp} {D t : Addr} {es : List Ed} {e : Ed} (h : EdsM H D es) (m : Mv D H H') (ht : H' t = some (.lst e.vs)) (hD : ∀ ps : List Addr, H D = some (.lst (ps.map V.ref)) → H' D = some (.lst (ps.map V.ref ++ [.ref t]))) : EdsM H' D (es ++ [e]) := by
  obtain ⟨ps, h1, h2, h3⟩ := h
  refine ⟨ps ++ [t], by rw [hD ps h1, List.map_append]; rfl, by rw [List.length_append, List.length_append, h2]; rfl, fun i q d a b => ?_⟩
  by_cases hi : i < ps.length
  · rw [List.getElem?_append_left hi] at a
    rw [List.getElem?_append_left (by omega)] at b
    have := h3 i q d a b
    exact m _ _ (fun z => by
      rw [z, h1] at this
      injection this with this
      injection this with this
      exact ed_ne_refs this.symm) this
  · have : i = ps.length := by
      have := (List.getElem?_eq_some_iff.mp a).1
      rw [List.length_append] at this
      have h1 : ([t] : List Addr).length = 1 := rfl
      omega
    subst this
    rw [List.getElem?_append_right (by omega), Nat.sub_self] at a
    rw [h2, List.getElem?_append_right (by omega), Nat.sub_self] at b
    cases a
    cases b
    exact ht
theorem edsM_dp {H : Hp} {D : Addr} {es : List Ed} (h : EdsM H D es) : Dp K H (.ref D) (.list (es.map (edD false))) := by
  obtain ⟨ps, h1, h2, h3⟩ := h
  exact .lst (.inl (.inl h1)) (eds_dp ps es h2 fun i q e a b => by
    show SqL K H q e.vs
    exact .inl (.inl (h3 i q e a b)))
/-- how edits are passed -/
structure Pas (K : PySem.W.Frag) (H : Hp) (x : Addr) (es : List Ed) : Prop where
  q : EdsQ K H x es
  d : ∃ d, Dp K H (.ref x) d ∧ Sh 2 200 d
theorem Pas.same {H H' : Hp} {x : Addr} {es : List Ed} (e : Same H H') (h : Pas K H x es) : Pas K H' x es := by
  obtain ⟨q, d, h1, h2⟩ := h
  exact ⟨q.same e, d, dp_same e _ _ h1, h2⟩
theorem pas_l {H : Hp} {x : Addr} {es : List Ed} (le : es.length ≤ 12) (hf : ∀ e ∈ es, e.fine) (h : EdsL H x es) : Pas K H x es := ⟨h.q, _, edsL_dp h, (eds_sh hf).lst.up (Nat.le_refl _) (by omega)⟩
theorem pas_t {H : Hp} {x : Addr} {es : List Ed} (le : es.length ≤ 12) (hf : ∀ e ∈ es, e.fine) (h : EdsT H x es) : Pas K H x es := ⟨h.q, _, edsT_dp h, (eds_sh hf).tup.up (Nat.le_refl _) (by omega)⟩
theorem pas_m {H : Hp} {x : Addr} {es : List Ed} (le : es.length ≤ 12) (hf : ∀ e ∈ es, e.fine) (h : EdsM H x es) : Pas K H x es := ⟨h.q, _, edsM_dp h, (eds_sh hf).lst.up (Nat.le_refl _) (by omega)⟩
/-- what the wheel's own list is not -/
theorem wh_ne_tup {H : Hp} {a c p : Addr} {n : Nat} {xs : List V} (w : Wh H a c n) (h : H p = some (.tup xs)) : p ≠ a := fun e => by
  obtain ⟨cs, t, l', h1, _⟩ := w
  rw [e, h1] at h
  cases h
theorem wh_ne_ed {H : Hp} {a c p : Addr} {n : Nat} {e : Ed} (w : Wh H a c n) (h : H p = some (.lst e.vs)) : p ≠ a := fun z => by
  obtain ⟨cs, t, l', h1, _⟩ := w
  rw [z, h1] at h
  injection h with h
  injection h with h
  cases e <;> · injection h with h _; cases h
theorem EdsL.core {H : Hp} {a c D : Addr} {n : Nat} {es : List Ed} (w : Wh H a c n) (hD : D ≠ a) (h : EdsL H D es) : EdsL (core a H) D es := by
  obtain ⟨ps, h1, h2, h3⟩ := h
  exact ⟨ps, core_at h1 hD (fun _ z => by cases z), h2, fun i q e x y => core_at (h3 i q e x y) (wh_ne_tup w (h3 i q e x y)) (fun _ z => by cases z)⟩
theorem EdsT.core {H : Hp} {a c D : Addr} {n : Nat} {es : List Ed} (w : Wh H a c n) (h : EdsT H D es) : EdsT (core a H) D es := by
  obtain ⟨ps, h1, h2, h3⟩ := h
  exact ⟨ps, core_at h1 (wh_ne_tup w h1) (fun _ z => by cases z), h2, fun i q e x y => core_at (h3 i q e x y) (wh_ne_tup w (h3 i q e x y)) (fun _ z => by cases z)⟩
theorem EdsM.core {H : Hp} {a c D : Addr} {n : Nat} {es : List Ed} (w : Wh H a c n) (hD : D ≠ a) (h : EdsM H D es) : EdsM (core a H) D es := by
  obtain ⟨ps, h1, h2, h3⟩ := h
  exact ⟨ps, core_at h1 hD (fun _ z => by cases z), h2, fun i q e x y => core_at (h3 i q e x y) (wh_ne_ed w (h3 i q e x y)) (fun _ z => by cases z)⟩
theorem EdsL.tup {H H' : Hp} {D t : Addr} {es : List Ed} (e : Same H H') (h : EdsL H D es) (ht : ∀ ps : List Addr, H D = some (.lst (ps.map V.ref)) → H' t = some (.tup (ps.map V.ref))) : EdsT H' t es := by
  obtain ⟨ps, h1, h2, h3⟩ := h
  exact ⟨ps, ht ps h1, h2, fun i q d a b => e _ _ (h3 i q d a b)⟩
end
end K05
namespace K05
open PySem PySem.Spec PyProof.Rows L2 Kx SX LamX
theorem items_mid : ∀ (p acc r : List Nat), itemsA acc (p ++ 32 :: r) = itemsA acc p ++ itemsA [] r
  | [], acc, r => by
    show (if (32 : Nat) = 32 then acc :: itemsA [] r else _) = [acc] ++ itemsA [] r
    rw [if_pos rfl]
    rfl
  | c :: p, acc, r => by
    show (if c = 32 then acc :: itemsA [] (p ++ 32 :: r) else itemsA (acc ++ [c]) (p ++ 32 :: r)) = (if c = 32 then acc :: itemsA [] p else itemsA (acc ++ [c]) p) ++ itemsA [] r
    by_cases h : c = 32
    · rw [if_pos h, if_pos h, items_mid p [] r]
      rfl
    · rw [if_neg h, if_neg h, items_mid p (acc ++ [c]) r]
/-- what stands ahead of an item that is begun -/
theorem cut_left : ∀ l : List Nat, ∃ P y : List Nat, l = P ++ y ∧ 32 ∉ y ∧ (P = [] ∨ ∃ P', P = P' ++ [32]) := fun l => by
  generalize hn : l.length = n
  induction n generalizing l with
  | zero =>
    have : l = [] := List.length_eq_zero_iff.mp hn
    subst this
    exact ⟨[], [], rfl, by simp, .inl rfl⟩
  | succ n ih =>
    rcases nil_or_snoc l with rfl | ⟨l', c, rfl⟩
    · cases hn
    · by_cases h : c = 32
      · subst h
        exact ⟨l' ++ [32], [], by rw [List.append_nil], by simp, .inr ⟨l', rfl⟩⟩
      · obtain ⟨P, y, e, hy, hP⟩ := ih l' (by simpa using hn)
        exact ⟨P, y ++ [c], by rw [e, List.append_assoc], by simp [hy, Ne.symm h], hP⟩
theorem cut_right : ∀ l : List Nat, ∃ z R : List Nat, l = z ++ R ∧ 32 ∉ z ∧ (R = [] ∨ ∃ R', R = 32 :: R')
  | [] => ⟨[], [], rfl, by simp, .inl rfl⟩
  | c :: r => by
    by_cases h : c = 32
    · subst h
      exact ⟨[], 32 :: r, rfl, by simp, .inr ⟨r, rfl⟩⟩
    · obtain ⟨z, R, e, hz, hR⟩ := cut_right r
      exact ⟨c :: z, R, by rw [e]; rfl, by simp [hz, Ne.symm h], hR⟩
theorem count_no {l : List Nat} (h : 32 ∉ l) : l.count 32 = 0 := List.count_eq_zero.mpr h
theorem left_items {P : List Nat} (h : P = [] ∨ ∃ P', P = P' ++ [32]) : ∃ A : List (List Nat), A.length = P.count 32 ∧ ∀ u, itemsA [] (P ++ u) = A ++ itemsA [] u := by
  rcases h with rfl | ⟨P', rfl⟩
  · exact ⟨[], rfl, fun u => rfl⟩
  · refine ⟨itemsA [] P', by rw [items_length, List.count_append]; rfl, fun u => ?_⟩
    rw [List.append_assoc]
    exact items_mid P' [] u
theorem right_items {R : List Nat} (h : R = [] ∨ ∃ R', R = 32 :: R') : ∃ B : List (List Nat), (∀ u, itemsA [] (u ++ R) = itemsA [] u ++ B) ∧ ∀ R', R = 32 :: R' → B = itemsA [] R' := by
  rcases h with rfl | ⟨R', rfl⟩
  · exact ⟨[], fun u => by rw [List.append_nil, List.append_nil], fun R' h => by cases h⟩
  · exact ⟨itemsA [] R', fun u => items_mid u [] R', fun R'' h => by cases h; rfl⟩
theorem items_one {m : List Nat} (h : 32 ∉ m) : itemsA [] m = [m] := by
  have := itemsA_one (acc := []) h
  simpa using this
theorem items_two {y z : List Nat} (hy : 32 ∉ y) (hz : 32 ∉ z) : itemsA [] (y ++ 32 :: z) = [y, z] := by
  rw [items_mid, items_one hy, items_one hz]
  rfl
/-- a text, cut at a place: its items there -/
structure Cut (t : List Nat) (a : Nat) (P y z R : List Nat) (A B : List (List Nat)) : Prop where
  l : t.take a = P ++ y
  r : t.drop a = z ++ R
  hy : 32 ∉ y
  hz : 32 ∉ z
  hP : P = [] ∨ ∃ P', P = P' ++ [32]
  hR : R = [] ∨ ∃ R', R = 32 :: R'
  n : A.length = (t.take a).count 32
  hA : ∀ u, itemsA [] (P ++ u) = A ++ itemsA [] u
  hB : ∀ u, itemsA [] (u ++ R) = itemsA [] u ++ B
  hB' : ∀ R', R = 32 :: R' → B = itemsA [] R'
theorem cut_at (t : List Nat) (a : Nat) : ∃ P y z R A B, Cut t a P y z R A B := by
  obtain ⟨P, y, e1, hy, hP⟩ := cut_left (t.take a)
  obtain ⟨z, R, e2, hz, hR⟩ := cut_right (t.drop a)
  obtain ⟨A, hn, hA⟩ := left_items hP
  obtain ⟨B, hB, hB'⟩ := right_items hR
  exact ⟨P, y, z, R, A, B, e1, e2, hy, hz, hP, hR, by rw [hn, e1, List.count_append, count_no hy, Nat.add_zero], hA, hB, hB'⟩
section
variable {t P y z R : List Nat} {a : Nat} {A B : List (List Nat)}
theorem Cut.all (c : Cut t a P y z R A B) (u : List Nat) : itemsA [] (P ++ u ++ R) = A ++ itemsA [] u ++ B := by
  rw [List.append_assoc, c.hA, c.hB, List.append_assoc]
theorem Cut.text (c : Cut t a P y z R A B) : t = P ++ (y ++ z) ++ R := by
  rw [← List.take_append_drop a t, c.l, c.r]
  simp
theorem no_app {y z : List Nat} (hy : 32 ∉ y) (hz : 32 ∉ z) : 32 ∉ y ++ z := by simp [hy, hz]
theorem Cut.items (c : Cut t a P y z R A B) : itemsA [] t = A ++ [y ++ z] ++ B := by
  have h : itemsA [] t = itemsA [] (P ++ (y ++ z) ++ R) := congrArg (itemsA []) c.text
  rw [h, c.all, items_one (no_app c.hy c.hz)]
/-- at an item's end -/
theorem Cut.atEnd (c : Cut t a P y z R A B) (h : a ≤ t.length) : (a = t.length ∨ t.getD a 0 = 32) ↔ z = [] := by
  constructor
  · intro k
    cases z with
    | nil => rfl
    | cons x r =>
      have hd := c.r
      rcases k with k | k
      · rw [k, List.drop_length] at hd
        cases hd
      · have hlt : a < t.length := by
          have := congrArg List.length hd
          rw [List.length_drop, List.length_append, List.length_cons] at this
          omega
        rw [List.getD_eq_getElem?_getD, List.getElem?_eq_getElem hlt] at k
        rw [List.drop_eq_getElem_cons hlt] at hd
        have hx : t[a] = x := by injection hd
        have : x = 32 := by rw [← hx]; exact k
        exact (c.hz (by rw [this]; exact List.mem_cons_self)).elim
  · rintro rfl
    have hd := c.r
    rw [List.nil_append] at hd
    rcases c.hR with rfl | ⟨R', rfl⟩
    · left
      have := congrArg List.length hd
      rw [List.length_drop, List.length_nil] at this
      omega
    · right
      have hlt : a < t.length := by
        have := congrArg List.length hd
        rw [List.length_drop, List.length_cons] at this
        omega
      rw [List.drop_eq_getElem_cons hlt] at hd
      rw [List.getD_eq_getElem?_getD, List.getElem?_eq_getElem hlt]
      injection hd
/-- at an item's begin -/
theorem Cut.atBegin (c : Cut t a P y z R A B) (h : a ≤ t.length) : (a = 0 ∨ t.getD (a - 1) 0 = 32) ↔ y = [] := by
  have hl := c.l
  constructor
  · intro k
    rcases nil_or_snoc y with rfl | ⟨y', x, rfl⟩
    · rfl
    · rcases k with k | k
      · rw [k, List.take_zero] at hl
        have := congrArg List.length hl
        simp at this
      · have h0 : 0 < a := by
          have := congrArg List.length hl
          rw [List.length_take, List.length_append, List.length_append] at this
          have h1 : ([x] : List Nat).length = 1 := rfl
          omega
        have hlt : a - 1 < t.length := by omega
        have e : t.take a = t.take (a - 1) ++ [t[a - 1]] := by
          have : a = a - 1 + 1 := by omega
          conv => lhs; rw [this]
          rw [List.take_add_one, List.getElem?_eq_getElem hlt]
          rfl
        rw [e, ← List.append_assoc] at hl
        have hx := (List.append_inj' hl rfl).2
        rw [List.getD_eq_getElem?_getD, List.getElem?_eq_getElem hlt] at k
        have hx' : t[a - 1] = x := by simpa using hx
        have : x = 32 := by rw [← hx']; exact k
        exact (c.hy (by rw [this]; simp)).elim
  · rintro rfl
    rw [List.append_nil] at hl
    rcases c.hP with rfl | ⟨P', rfl⟩
    · left
      have := congrArg List.length hl
      rw [List.length_take, List.length_nil] at this
      omega
    · right
      have h0 : 0 < a := by
        have := congrArg List.length hl
        rw [List.length_take, List.length_append] at this
        have h1 : ([32] : List Nat).length = 1 := rfl
        omega
      have hlt : a - 1 < t.length := by omega
      have e : t.take a = t.take (a - 1) ++ [t[a - 1]] := by
        have : a = a - 1 + 1 := by omega
        conv => lhs; rw [this]
        rw [List.take_add_one, List.getElem?_eq_getElem hlt]
        rfl
      rw [e] at hl
      have hx := (List.append_inj' hl rfl).2
      rw [List.getD_eq_getElem?_getD, List.getElem?_eq_getElem hlt]
      simpa using hx
end
/-! ### the numbers of the items -/
def partsN (t : List Nat) (a : Nat) (o : Option Nat) : List (Option Nat) := if a = t.length ∨ t.getD a 0 = 32 then [o, none] else if a = 0 ∨ t.getD (a - 1) 0 = 32 then [none, o] else [none, none]
/-- the numbers behind an edit -/
def stepN (t : List Nat) (ns : List (Option Nat)) (e : Ed) : List (Option Nat) :=
  let k := (t.take e.pl).count 32
  match e with
  | .put a c => if c = 32 then ns.take k ++ partsN t a (ns.getD k none) ++ ns.drop (k + 1) else ns.take k ++ [none] ++ ns.drop (k + 1)
  | .lost a => if t.getD a 0 = 32 then ns.take k ++ [none] ++ ns.drop (k + 2) else ns.take k ++ [none] ++ ns.drop (k + 1)
  | .chg a c => if t.getD a 0 = 32 then ns.take k ++ [none] ++ ns.drop (k + 2) else if c = 32 then ns.take k ++ [none, none] ++ ns.drop (k + 1) else ns.take k ++ [none] ++ ns.drop (k + 1)
/-- each number is that of the item that stands there -/
inductive Pt (I : List (List Nat)) : List (List Nat) → List (Option Nat) → Prop
  | nil : Pt I [] []
  | cons {it : List Nat} {o : Option Nat} {its : List (List Nat)} {ns : List (Option Nat)} : (∀ j, o = some j → I[j]? = some it) → Pt I its ns → Pt I (it :: its) (o :: ns)
section
variable {I X Y : List (List Nat)} {ns ms : List (Option Nat)}
theorem Pt.app (h : Pt I X ns) (k : Pt I Y ms) : Pt I (X ++ Y) (ns ++ ms) := by
  induction h with
  | nil => exact k
  | cons h _ ih => exact .cons h ih
theorem Pt.len (h : Pt I X ns) : ns.length = X.length := by
  induction h with
  | nil => rfl
  | cons _ _ ih => rw [List.length_cons, List.length_cons, ih]
theorem Pt.split (h : Pt I (X ++ Y) ns) : Pt I X (ns.take X.length) ∧ Pt I Y (ns.drop X.length) := by
  induction X generalizing ns with
  | nil => exact ⟨by rw [List.length_nil, List.take_zero]; exact .nil, h⟩
  | cons x r ih =>
    cases h with
    | cons h1 h2 =>
      obtain ⟨g1, g2⟩ := ih h2
      exact ⟨.cons h1 g1, g2⟩
theorem Pt.sub (h : Pt I X ns) : ((ns.filterMap id).map fun j => I.getD j []).Sublist X := by
  induction h with
  | nil => exact .slnil
  | @cons it o its ns h _ ih =>
    cases o with
    | none => exact .cons _ ih
    | some j =>
      have : I.getD j [] = it := by
        rw [List.getD_eq_getElem?_getD, h j rfl]
        rfl
      show List.Sublist (I.getD j [] :: (ns.filterMap id).map fun j => I.getD j []) (it :: its)
      rw [this]
      exact .cons₂ _ ih
theorem Pt.lt (h : Pt I X ns) : ∀ j ∈ ns.filterMap id, j < I.length := by
  induction h with
  | nil => exact fun j m => by cases m
  | @cons it o its ns h _ ih =>
    cases o with
    | none => exact ih
    | some j =>
      intro i m
      have m : i ∈ j :: ns.filterMap id := m
      rcases List.mem_cons.mp m with rfl | m
      · exact (List.getElem?_eq_some_iff.mp (h i rfl)).1
      · exact ih i m
end
theorem pt_no {I : List (List Nat)} (it : List Nat) : Pt I [it] [none] := .cons (fun j h => by cases h) .nil
theorem pt_no2 {I : List (List Nat)} (x y : List Nat) : Pt I [x, y] [none, none] := .cons (fun j h => by cases h) (pt_no y)
def someN (ns : List (Option Nat)) : Nat := (ns.filterMap id).length
theorem someN_app (a b : List (Option Nat)) : someN (a ++ b) = someN a + someN b := by
  unfold someN
  rw [List.filterMap_append, List.length_append]
theorem someN_le (a : List (Option Nat)) : someN a ≤ a.length := List.length_filterMap_le ..
/-- one of three pieces -/
theorem cut3 {α : Type} {ns : List α} {k : Nat} (h : k < ns.length) : ns = ns.take k ++ [ns[k]] ++ ns.drop (k + 1) := by
  rw [List.append_assoc]
  show ns = ns.take k ++ (ns[k] :: ns.drop (k + 1))
  rw [← List.drop_eq_getElem_cons h, List.take_append_drop]
theorem some3 {ns : List (Option Nat)} {k : Nat} (h : k < ns.length) : someN ns ≤ someN (ns.take k) + 1 + someN (ns.drop (k + 1)) := by
  have e := cut3 h
  have h1 : someN ns = someN (ns.take k ++ [ns[k]] ++ ns.drop (k + 1)) := congrArg someN e
  rw [h1, someN_app, someN_app]
  have := someN_le [ns[k]]
  have h2 : ([ns[k]] : List (Option Nat)).length = 1 := rfl
  omega
/-- the numbers stay those of the items, and at most two go -/
theorem stepN_ok {I : List (List Nat)} {t u : List Nat} {ns : List (Option Nat)} {e : Ed} (d : doE t e = some u) (h : Pt I (itemsA [] t) ns) : Pt I (itemsA [] u) (stepN t ns e) ∧ someN ns ≤ someN (stepN t ns e) + 2 := by
  obtain ⟨P, y, z, R, A, B, c⟩ := cut_at t e.pl
  have hk := c.n
  have h' := h
  rw [c.items] at h'
  obtain ⟨hA, hM, hBB⟩ : Pt I A (ns.take A.length) ∧ Pt I [y ++ z] (ns.drop A.length |>.take 1) ∧ Pt I B (ns.drop (A.length + 1)) := by
    rw [List.append_assoc] at h'
    obtain ⟨h1, h2⟩ := h'.split
    obtain ⟨h3, h4⟩ := h2.split
    exact ⟨h1, h3, by rw [← List.drop_drop]; exact h4⟩
  have lk : A.length < ns.length := by
    have := h.len
    rw [c.items] at this
    simp at this
    omega
  have hO : Pt I [y ++ z] [ns.getD A.length none] := by
    have : (ns.drop A.length).take 1 = [ns.getD A.length none] := by
      rw [List.drop_eq_getElem_cons lk, List.getD_eq_getElem?_getD, List.getElem?_eq_getElem lk]
      rfl
    rw [← this]
    exact hM
  have one : ∀ m : List Nat, 32 ∉ m → Pt I (itemsA [] (P ++ m ++ R)) (ns.take A.length ++ [none] ++ ns.drop (A.length + 1)) := fun m hm => by
    rw [c.all, items_one hm]
    exact (hA.app (pt_no m)).app hBB
  have two : ∀ (m1 m2 : List Nat) (ps : List (Option Nat)), 32 ∉ m1 → 32 ∉ m2 → Pt I [m1, m2] ps → Pt I (itemsA [] (P ++ (m1 ++ 32 :: m2) ++ R)) (ns.take A.length ++ ps ++ ns.drop (A.length + 1)) := fun m1 m2 ps h1 h2 hp => by
    rw [c.all, items_two h1 h2]
    exact (hA.app hp).app hBB
  have s1 : ∀ ps : List (Option Nat), someN ns ≤ someN (ns.take A.length ++ ps ++ ns.drop (A.length + 1)) + 2 := fun ps => by
    rw [someN_app, someN_app]
    have := some3 lk
    omega
  have s2 : someN ns ≤ someN (ns.take A.length ++ [none] ++ ns.drop (A.length + 2)) + 2 := by
    rw [someN_app, someN_app]
    have h3 := some3 lk
    by_cases hl : A.length + 1 < ns.length
    · have h4 := some3 (ns := ns.drop (A.length + 1)) (k := 0) (by rw [List.length_drop]; omega)
      rw [List.take_zero, List.drop_drop] at h4
      have e : A.length + 1 + (0 + 1) = A.length + 2 := by omega
      rw [e] at h4
      have : someN [] = 0 := rfl
      omega
    · have : ns.drop (A.length + 1) = [] := List.drop_of_length_le (by omega)
      rw [this] at h3
      have : someN [] = 0 := rfl
      omega
  have blank : ∀ (R' m : List Nat), R = 32 :: R' → 32 ∉ m → Pt I (itemsA [] (P ++ (y ++ m) ++ R')) (ns.take A.length ++ [none] ++ ns.drop (A.length + 2)) := fun R' m hR hm => by
    obtain ⟨z2, R2, e2, hz2, hR2⟩ := cut_right R'
    obtain ⟨B2, hB2, _⟩ := right_items hR2
    have eB : B = [z2] ++ B2 := by rw [c.hB' R' hR, e2, hB2, items_one hz2]
    rw [eB] at hBB
    obtain ⟨_, h4⟩ := hBB.split
    rw [List.drop_drop] at h4
    have eT : P ++ (y ++ m) ++ R' = P ++ ((y ++ m ++ z2) ++ R2) := by rw [e2]; simp
    rw [eT, c.hA, hB2, items_one (no_app (no_app c.hy hm) hz2), ← List.append_assoc]
    exact (hA.app (pt_no _)).app h4
  have atR : ∀ a, e.pl = a → a < t.length → t.getD a 0 = 32 → ∃ R', R = 32 :: R' ∧ z = [] ∧ t.drop (a + 1) = R' := fun a ea ha hb => by
    subst ea
    have hz := (c.atEnd (by omega)).mp (.inr hb)
    have hr := c.r
    rw [hz, List.nil_append, List.drop_eq_getElem_cons ha] at hr
    rcases c.hR with hR | ⟨R', hR⟩
    · rw [hR] at hr
      cases hr
    · rw [hR] at hr
      injection hr with _ hr
      exact ⟨R', hR, hz, hr⟩
  have atZ : ∀ a, e.pl = a → a < t.length → ¬ t.getD a 0 = 32 → ∃ x z', z = x :: z' ∧ t.drop (a + 1) = z' ++ R ∧ 32 ∉ z' := fun a ea ha hb => by
    subst ea
    have hr := c.r
    cases hzz : z with
    | nil =>
      rcases (c.atEnd (by omega)).mpr hzz with h | h
      · omega
      · exact (hb h).elim
    | cons x z' =>
      rw [hzz, List.drop_eq_getElem_cons ha] at hr
      injection hr with _ hr
      have := c.hz
      rw [hzz] at this
      exact ⟨x, z', rfl, hr, fun h => this (List.mem_cons_of_mem _ h)⟩
  cases e with
  | put a k =>
    obtain ⟨⟨h1, h2⟩, rfl⟩ := inv_put d
    have eu : t.take a ++ [k] ++ t.drop a = P ++ (y ++ k :: z) ++ R := by
      have e1 : t.take a = P ++ y := c.l
      have e2 : t.drop a = z ++ R := c.r
      rw [e1, e2]
      simp
    rw [eu]
    show Pt I _ (if k = 32 then ns.take ((t.take a).count 32) ++ partsN t a (ns.getD ((t.take a).count 32) none) ++ ns.drop ((t.take a).count 32 + 1) else ns.take ((t.take a).count 32) ++ [none] ++ ns.drop ((t.take a).count 32 + 1)) ∧ someN ns ≤ someN (if k = 32 then ns.take ((t.take a).count 32) ++ partsN t a (ns.getD ((t.take a).count 32) none) ++ ns.drop ((t.take a).count 32 + 1) else ns.take ((t.take a).count 32) ++ [none] ++ ns.drop ((t.take a).count 32 + 1)) + 2
    have hk : A.length = (t.take a).count 32 := hk
    rw [← hk]
    by_cases hb : k = 32
    · subst hb
      rw [if_pos rfl]
      refine ⟨two y z _ c.hy c.hz ?_, s1 _⟩
      unfold partsN
      by_cases g1 : a = t.length ∨ t.getD a 0 = 32
      · rw [if_pos g1]
        have hz := (c.atEnd h1).mp g1
        subst hz
        rw [List.append_nil] at hO
        exact hO.app (pt_no [])
      · rw [if_neg g1]
        by_cases g2 : a = 0 ∨ t.getD (a - 1) 0 = 32
        · rw [if_pos g2]
          have hy := (c.atBegin h1).mp g2
          subst hy
          exact (pt_no []).app hO
        · rw [if_neg g2]
          exact pt_no2 y z
    · rw [if_neg hb]
      refine ⟨one (y ++ k :: z) ?_, s1 _⟩
      have := c.hy
      have := c.hz
      simp [*, Ne.symm hb]
  | lost a =>
    obtain ⟨h1, rfl⟩ := inv_lost d
    show Pt I _ (if t.getD a 0 = 32 then ns.take ((t.take a).count 32) ++ [none] ++ ns.drop ((t.take a).count 32 + 2) else ns.take ((t.take a).count 32) ++ [none] ++ ns.drop ((t.take a).count 32 + 1)) ∧ someN ns ≤ someN (if t.getD a 0 = 32 then ns.take ((t.take a).count 32) ++ [none] ++ ns.drop ((t.take a).count 32 + 2) else ns.take ((t.take a).count 32) ++ [none] ++ ns.drop ((t.take a).count 32 + 1)) + 2
    have hk : A.length = (t.take a).count 32 := hk
    have e1 : t.take a = P ++ y := c.l
    rw [← hk, e1]
    by_cases hb : t.getD a 0 = 32
    · rw [if_pos hb]
      obtain ⟨R', hR, _, hd⟩ := atR a rfl h1 hb
      rw [hd]
      have := blank R' [] hR (by simp)
      rw [List.append_nil] at this
      exact ⟨this, s2⟩
    · rw [if_neg hb]
      obtain ⟨x, z', _, hd, hz'⟩ := atZ a rfl h1 hb
      rw [hd]
      have := one (y ++ z') (no_app c.hy hz')
      have eT : P ++ y ++ (z' ++ R) = P ++ (y ++ z') ++ R := by simp
      rw [eT]
      exact ⟨this, s1 _⟩
  | chg a k =>
    obtain ⟨⟨h1, h2⟩, rfl⟩ := inv_chg d
    show Pt I _ (if t.getD a 0 = 32 then ns.take ((t.take a).count 32) ++ [none] ++ ns.drop ((t.take a).count 32 + 2) else if k = 32 then ns.take ((t.take a).count 32) ++ [none, none] ++ ns.drop ((t.take a).count 32 + 1) else ns.take ((t.take a).count 32) ++ [none] ++ ns.drop ((t.take a).count 32 + 1)) ∧ someN ns ≤ someN (if t.getD a 0 = 32 then ns.take ((t.take a).count 32) ++ [none] ++ ns.drop ((t.take a).count 32 + 2) else if k = 32 then ns.take ((t.take a).count 32) ++ [none, none] ++ ns.drop ((t.take a).count 32 + 1) else ns.take ((t.take a).count 32) ++ [none] ++ ns.drop ((t.take a).count 32 + 1)) + 2
    have hk : A.length = (t.take a).count 32 := hk
    have e1 : t.take a = P ++ y := c.l
    rw [← hk, e1]
    by_cases hb : t.getD a 0 = 32
    · rw [if_pos hb]
      obtain ⟨R', hR, _, hd⟩ := atR a rfl h1 hb
      rw [hd]
      have hk32 : k ≠ 32 := fun h => h2 (by rw [hb, h])
      have := blank R' [k] hR (by simp [Ne.symm hk32])
      have eT : P ++ y ++ [k] ++ R' = P ++ (y ++ [k]) ++ R' := by simp
      rw [eT]
      exact ⟨this, s2⟩
    · rw [if_neg hb]
      obtain ⟨x, z', _, hd, hz'⟩ := atZ a rfl h1 hb
      rw [hd]
      have eT : P ++ y ++ [k] ++ (z' ++ R) = P ++ (y ++ k :: z') ++ R := by simp
      rw [eT]
      by_cases hk32 : k = 32
      · subst hk32
        rw [if_pos rfl]
        exact ⟨two y z' _ c.hy hz' (pt_no2 y z'), s1 _⟩
      · rw [if_neg hk32]
        refine ⟨one (y ++ k :: z') ?_, s1 _⟩
        have := c.hy
        simp [*, Ne.symm hk32]
end K05
namespace K05
open PySem PySem.Spec PyProof.Rows L2 Kx SX LamX
section
variable {P : Program} {w : World} {K : PySem.W.Frag} {mg : Str → Option Value} {base : Heap} (T : Tx K mg)
/-- a number, or none -/
def oV : Option Nat → V
  | some j => .int (j : Nat)
  | none => .non
def oVs (ns : List (Option Nat)) : List V := ns.map oV
theorem sgn32 (c : Nat) : decide (V.str ⟨#[c]⟩ = V.str " ") = decide (c = 32) := by
  by_cases h : c = 32
  · subst h
    rfl
  · rw [decide_eq_false h, decide_eq_false]
    intro e
    injection e with e
    have := congrArg (fun z : Str => z.cps.toList) e
    simp at this
    exact h (by have h2 : (Str.ofString " ").cps.toList = [32] := rfl; rw [h2] at this; simpa using this)
theorem int_eq (a b : Nat) : decide (V.int (a : Nat) = V.int (b : Nat)) = decide (a = b) := by
  by_cases h : a = b
  · rw [decide_eq_true h, h, decide_eq_true rfl]
  · rw [decide_eq_false h, decide_eq_false]
    intro e
    injection e with e
    omega
def sp_owners_at_put_blank (K : PySem.W.Frag) : Sp := fun vs H Q _ => ∃ (t : List Nat) (a : Nat) (o : Option Nat), vs = [.str (S t), .int (a : Nat), oV o] ∧ a ≤ t.length ∧ t.length ≤ 200000 ∧ ∀ (D : Addr) (H' : Hp), Same H H' → H D = none → H' D = some (.lst (oVs (partsN t a o))) → Q (.ref D) H'
theorem ok_owners_at_put_blank : FnOk P w K mg base CX0 1 T.f_owners_at_put_blank T.fd_owners_at_put_blank ["text", "at", "owner"] (sp_owners_at_put_blank K) := by
  refine T.F_owners_at_put_blank.ok sc_owners_at_put_blank (fun vs H Q E h => ?_) (fun cdv A outer s H vs Q E hr h => ?_)
  · obtain ⟨t, a, o, rfl, _⟩ := h
    rfl
  · obtain ⟨t, a, o, rfl, ha, hl, q⟩ := h
    refine ⟨_, (pss_cons (ps_if (PW.pt (pw_or (pt_cmpR op_eq (pv 1) (pe_callB call_len_str (by rfl) T.m_len PySem.boot_len (pa_cons (pv 0) pa_nil)) (nomark _)) (pw_or1 (pt_cmpR op_eq (pe_ix ix_str (pv 0) (pv 1) (fun _ _ => rfl)) pe_str (nomark _)))))
      (pss_one (ps_ret (pe_lst (pa_cons (pv 2) (pa_cons pe_non pa_nil)))))
      pss_nil)
    (pss_cons (ps_if (PW.pt (pw_or (pt_cmpR op_eq (pv 1) pe_int (nomark _)) (pw_or1 (pt_cmpR op_eq (pe_ix ix_str (pv 0) (pe_op op_sub (pv 1) pe_int) (fun _ _ => rfl)) pe_str (nomark _)))))
      (pss_one (ps_ret (pe_lst (pa_cons pe_non (pa_cons (pv 2) pa_nil)))))
      pss_nil)
    (pss_one (ps_ret (pe_lst (pa_cons pe_non (pa_cons pe_non pa_nil))))))), ?_⟩
    have end1 : (a = t.length ∨ t.getD a 0 = 32) → ∀ D, H D = none → Q (.ref D) (upd H D (.lst [oV o, .non])) := fun h D nD => by
      refine q D _ (same_new nD) nD ?_
      unfold partsN
      rw [upd_same, if_pos h]
      rfl
    have end2 : ¬ (a = t.length ∨ t.getD a 0 = 32) → (a = 0 ∨ t.getD (a - 1) 0 = 32) → ∀ D, H D = none → Q (.ref D) (upd H D (.lst [.non, oV o])) := fun h k D nD => by
      refine q D _ (same_new nD) nD ?_
      unfold partsN
      rw [upd_same, if_neg h, if_pos k]
      rfl
    have end3 : ¬ (a = t.length ∨ t.getD a 0 = 32) → ¬ (a = 0 ∨ t.getD (a - 1) 0 = 32) → ∀ D, H D = none → Q (.ref D) (upd H D (.lst [.non, .non])) := fun h k D nD => by
      refine q D _ (same_new nD) nD ?_
      unfold partsN
      rw [upd_same, if_neg h, if_neg k]
      rfl
    refine go_seq (go_if (go_or2 (go_test (go_op (go_var rfl (go_cb (go_cons (go_var rfl (go_nil ⟨S t, rfl, len_le hl, rfl, _, rfl, ?_⟩)))))))))
    have e1 : decide (V.int (a : Nat) = V.int ((S t).length : Nat)) = decide (a = t.length) := by rw [S_len]; exact int_eq _ _
    rw [e1]
    refine iteC (fun h => iteT (B := _) ?_) (fun h => ?_)
    · exact go_ret (go_lst (go_cons (go_var rfl (go_cons (go_c (go_nil ⟨sz2, end1 (.inl (of_decide_eq_true h))⟩))))))
    have h1 := of_decide_eq_false h
    have hlt : a < t.length := by omega
    refine go_test ⟨_, rfl, _, rfl, S t, (a : Int), t.getD a 0, rfl, rfl, len_le hl, sgetD hlt, rfl, _, rfl, ?_⟩
    rw [sgn32]
    refine iteC (fun h => ?_) (fun h => ?_)
    · exact go_ret (go_lst (go_cons (go_var rfl (go_cons (go_c (go_nil ⟨sz2, end1 (.inr (of_decide_eq_true h))⟩))))))
    have h2 := of_decide_eq_false h
    have hno : ¬ (a = t.length ∨ t.getD a 0 = 32) := fun z => z.elim h1 h2
    dsimp only [tNext]
    refine go_seq (go_if (go_or2 (go_test ⟨_, rfl, rfl, _, rfl, ?_⟩)))
    have e2 : decide (V.int (a : Nat) = V.int 0) = decide (a = 0) := int_eq a 0
    rw [e2]
    refine iteC (fun h => iteT (B := _) ?_) (fun h => ?_)
    · exact go_ret (go_lst (go_cons (go_c (go_cons (go_var rfl (go_nil ⟨sz2, end2 hno (.inl (of_decide_eq_true h))⟩))))))
    have h3 := of_decide_eq_false h
    have em : (a : Int) - 1 = ((a - 1 : Nat) : Int) := by omega
    refine go_test ⟨_, rfl, _, rfl, (a : Int), 1, rfl, rfl, S t, (a : Int) - 1, t.getD (a - 1) 0, rfl, rfl, len_le hl, by rw [em]; exact sgetD (by omega), rfl, _, rfl, ?_⟩
    rw [sgn32]
    refine iteC (fun h => ?_) (fun h => ?_)
    · exact go_ret (go_lst (go_cons (go_c (go_cons (go_var rfl (go_nil ⟨sz2, end2 hno (.inr (of_decide_eq_true h))⟩))))))
    · dsimp only [tNext]
      exact go_ret (go_lst (go_cons (go_c (go_cons (go_c (go_nil ⟨sz2, end3 hno (fun z => z.elim h3 (of_decide_eq_false h))⟩))))))
/-- NAME[:k] + x + NAME[m:] -/
theorem cat3 {σ : L2.St} {H : Hp} {Q : VK} {tA tX tS : TE} {xs ys : List V} {n m : Nat} (hA : ∀ Q' : VK, (∀ b, H b = none → Q' (.ref b) (upd H b (.lst (xs.take n)))) → tA σ H Q')
    (hX : ∀ H1, Same H H1 → ∀ Q' : VK, (∀ b H2, Same H1 H2 → H2 b = some (.lst ys) → Q' (.ref b) H2) → tX σ H1 Q') (hS : ∀ H1, Same H H1 → ∀ Q' : VK, (∀ b, H1 b = none → Q' (.ref b) (upd H1 b (.lst (xs.drop m)))) → tS σ H1 Q')
    (lx : xs.length ≤ 10000) (ly : ys.length ≤ 10000) (q : ∀ (D : Addr) (H' : Hp), Same H H' → H D = none → H' D = some (.lst (xs.take n ++ ys ++ xs.drop m)) → Q (.ref D) H') : tOp rCat (tOp rCat tA tX) tS σ H Q := by
  refine go_op (go_op (hA _ fun b nb => hX _ (same_new nb) _ fun x H2 e2 hx => ⟨b, x, _, _, rfl, rfl, e2 _ _ upd_same, hx, ?_, fun c nc => ?_⟩))
  · rw [List.length_take]
    exact Nat.le_trans (show min n xs.length + ys.length ≤ 20000 by omega) (by decide)
  · have e1 := ((same_new (o := HO.lst (xs.take n)) nb).trans e2).trans (same_new (o := HO.lst (xs.take n ++ ys)) nc)
    refine hS _ e1 _ fun d nd => ⟨c, d, _, _, rfl, rfl, same_new nd _ _ upd_same, upd_same, ?_, fun r nr => ?_⟩
    · rw [List.length_append, List.length_take, List.length_drop]
      exact Nat.le_trans (show min n xs.length + ys.length + (xs.length - m) ≤ 30000 by omega) (by decide)
    · have e3 := e1.trans (same_new (o := HO.lst (xs.drop m)) nd)
      exact q r _ (e3.trans (same_new nr)) (same_none e3 nr) upd_same
theorem oVs_take (ns : List (Option Nat)) (k : Nat) : (oVs ns).take k = oVs (ns.take k) := by
  unfold oVs
  rw [List.map_take]
theorem oVs_drop (ns : List (Option Nat)) (k : Nat) : (oVs ns).drop k = oVs (ns.drop k) := by
  unfold oVs
  rw [List.map_drop]
theorem oVs_app (a b : List (Option Nat)) : oVs a ++ oVs b = oVs (a ++ b) := by
  unfold oVs
  rw [List.map_append]
theorem oVs_len (ns : List (Option Nat)) : (oVs ns).length = ns.length := List.length_map ..
theorem oVs_at {ns : List (Option Nat)} {k : Nat} (h : k < ns.length) : atI (oVs ns) (k : Int) = some (oV (ns.getD k none)) := by
  rw [at_nat (by rw [oVs_len]; exact h)]
  unfold oVs
  simp [List.getD_eq_getElem?_getD, h]
theorem count_take_le (t : List Nat) (a : Nat) : (t.take a).count 32 ≤ t.count 32 := (List.take_sublist a t).count_le 32
def sp_owners_behind (K : PySem.W.Frag) : Sp := fun vs H Q _ => ∃ (op p : Addr) (t u : List Nat) (ns : List (Option Nat)) (e : Ed), vs = [.ref op, .str (S t), .ref p] ∧ H op = some (.lst (oVs ns)) ∧ SqQ K H p e.vs ∧ t.length ≤ 200000 ∧ ns.length = t.count 32 + 1 ∧ ns.length ≤ 10000 ∧ doE t e = some u ∧
  ∀ (D : Addr) (H' : Hp), Same H H' → H D = none → H' D = some (.lst (oVs (stepN t ns e))) → Q (.ref D) H'
theorem ok_owners_behind : FnOk P w K mg base CX0 2 T.f_owners_behind T.fd_owners_behind ["owners", "text", "edit"] (sp_owners_behind K) := by
  refine T.F_owners_behind.ok sc_owners_behind (fun vs H Q E h => ?_) (fun cdv A outer s H vs Q E hr h => ?_)
  · obtain ⟨op, p, t, u, ns, e, rfl, _⟩ := h
    rfl
  · obtain ⟨op, p, t, u, ns, e, rfl, hop, hq, hl, hn, hn2, hd, q⟩ := h
    refine ⟨_, (pss_cons (ps_par (i := 3) (j := 4) rfl sc_owners_behind.nd rfl rfl (by decide) rfl rfl (pa_cons (pe_ix ix_seq (pv 2) pe_int (fun _ _ => rfl)) (pa_cons (pe_ix ix_seq (pv 2) pe_int (fun _ _ => rfl)) pa_nil)) (by rfl))
    (pss_cons (ps_set (i := 5) sc_owners_behind.nd rfl (.inl rfl) (pe_m1 PySem.F.slot_str_count PySem.F.type_str_count mt_count (pe_slice C8.sl_txt (pv 1) po_none (po_some (pv 4))) pe_str))
    (pss_cons (ps_if (PW.pt (pw_and (pt_cmpR op_ne (pv 3) pe_str (nomark _)) (pw_and1 (pt_cmpR op_eq (pe_ix ix_str (pv 1) (pv 4) (fun _ _ => rfl)) pe_str (nomark _)))))
      (pss_one (ps_ret (pe_op op_cat (pe_op op_cat (pe_slice sl_list (pv 0) po_none (po_some (pv 5))) (pe_lst (pa_cons pe_non pa_nil))) (pe_slice sl_list (pv 0) (po_some (pe_op op_add (pv 5) pe_int)) po_none))))
      pss_nil)
    (pss_cons (ps_set (i := 6) sc_owners_behind.nd rfl (.inl rfl) (pe_lst (pa_cons pe_non pa_nil)))
    (pss_cons (ps_if (PW.pt (pw_and (pt_cmpR op_eq (pv 3) pe_str (nomark _)) (pw_and1 (pt_cmpR op_eq (pe_ix ix_seq (pv 2) pe_int (fun _ _ => rfl)) pe_str (nomark _)))))
      (pss_one (ps_set (i := 6) sc_owners_behind.nd rfl (.inl rfl) (pe_call (ok_owners_at_put_blank T) (hr.mono (by decide)) (by rfl) T.g_owners_at_put_blank T.F_owners_at_put_blank.kp T.b_owners_at_put_blank .nil pass0 (pa_cons (pv 1) (pa_cons (pv 4) (pa_cons (pe_ix ix_list (pv 0) (pv 5) (fun _ _ => rfl)) pa_nil))))))
      (pss_one (ps_if (PW.pt (pw_and (pt_cmpR op_eq (pv 3) pe_str (nomark _)) (pw_and1 (pt_cmpR op_eq (pe_ix ix_seq (pv 2) pe_int (fun _ _ => rfl)) pe_str (nomark _)))))
        (pss_one (ps_set (i := 6) sc_owners_behind.nd rfl (.inl rfl) (pe_lst (pa_cons pe_non (pa_cons pe_non pa_nil)))))
        pss_nil)))
    (pss_one (ps_ret (pe_op op_cat (pe_op op_cat (pe_slice sl_list (pv 0) po_none (po_some (pv 5))) (pv 6)) (pe_slice sl_list (pv 0) (po_some (pe_op op_add (pv 5) pe_int)) po_none))))))))), ?_⟩
    have kl : ∀ a, (t.take a).count 32 < ns.length := fun a => by have := count_take_le t a; omega
    have sA : ∀ (σ : L2.St) (H1 : Hp) (k : Nat), σ[0]? = some (some (.ref op)) → σ[5]? = some (some (.int (k : Nat))) → H1 op = some (.lst (oVs ns)) → ∀ Q' : VK, (∀ b, H1 b = none → Q' (.ref b) (upd H1 b (.lst ((oVs ns).take k)))) → tSl (rSlL K) (tVar 0) tNoPart (tPart (tVar 5)) σ H1 Q' := fun σ H1 k h0 h5 ho Q' q' =>
      ⟨_, h0, _, h5, (k : Int), rfl, op, _, rfl, .inl (.inl ho), fun b nb => by rw [cut_to]; exact q' b nb⟩
    have sB : ∀ (σ : L2.St) (H1 : Hp) (k : Nat) (m : Nat), σ[0]? = some (some (.ref op)) → σ[5]? = some (some (.int (k : Nat))) → H1 op = some (.lst (oVs ns)) → ∀ Q' : VK, (∀ b, H1 b = none → Q' (.ref b) (upd H1 b (.lst ((oVs ns).drop (k + m))))) → tSl (rSlL K) (tVar 0) (tPart (tOp (rI0 fun i j => .int (i + j)) (tVar 5) (tC (.int (m : Nat))))) tNoPart σ H1 Q' := fun σ H1 k m h0 h5 ho Q' q' =>
      ⟨_, h0, _, h5, (k : Int), (m : Nat), rfl, rfl, (k : Int) + (m : Nat), rfl, op, _, rfl, .inl (.inl ho), fun b nb => by
        have : cutV (oVs ns) (some ((k : Int) + (m : Nat))) none = (oVs ns).drop (k + m) := cut_from _ (k + m)
        rw [this]
        exact q' b nb⟩
    have fin : ∀ (k : Nat) (b : Addr) (H2 : Hp) (ps : List (Option Nat)) (σ : L2.St), σ[0]? = some (some (.ref op)) → σ[5]? = some (some (.int (k : Nat))) → σ[6]? = some (some (.ref b)) → Same H H2 → H2 b = some (.lst (oVs ps)) → ps.length ≤ 2 → stepN t ns e = ns.take (k) ++ ps ++ ns.drop (k + 1) →
        tOp rCat (tOp rCat (tSl (rSlL K) (tVar 0) tNoPart (tPart (tVar 5))) (tVar 6)) (tSl (rSlL K) (tVar 0) (tPart (tOp (rI0 fun i j => .int (i + j)) (tVar 5) (tC (.int 1)))) tNoPart) σ H2 Q := fun k b H2 ps σ h0 h5 h6 e2 hb2 lp hs =>
      cat3 (xs := oVs ns) (ys := oVs ps) (n := k) (m := k + 1) (sA σ H2 _ h0 h5 (e2 _ _ hop)) (fun H3 e3 Q' q' => ⟨_, h6, q' b H3 (Same.refl _) (e3 _ _ hb2)⟩) (fun H3 e3 Q' q' => sB σ H3 _ 1 h0 h5 (e3 _ _ (e2 _ _ hop)) Q' q') (by rw [oVs_len]; exact hn2) (by rw [oVs_len]; omega) fun D H' e' nD hD => by
        rw [oVs_take, oVs_drop, oVs_app, oVs_app, ← hs] at hD
        exact q D H' (e2.trans e') (same_none e2 nD) hD
    cases e with
    | put a c =>
      obtain ⟨⟨ha, _⟩, _⟩ := inv_put hd
      refine go_seq ⟨_, rfl, ix_q hq (v := .str "put") rfl ⟨_, rfl, ix_q hq (v := .int (a : Nat)) rfl ⟨_, _, rfl, ?_⟩⟩⟩
      dsimp only
      refine go_seq (go_asg ⟨_, rfl, _, rfl, (a : Int), rfl, S t, rfl, len_le hl, ?_⟩)
      rw [cut_toN]
      refine ⟨⟨_, rfl⟩, S (t.take a), Str.ofString " ", rfl, rfl, ?_⟩
      rw [count_blank]
      dsimp only [gName]
      refine go_seq (go_if (go_and2 (go_test ⟨_, rfl, rfl, _, rfl, iteF (A := _) (iteF (A := _) ?_)⟩)))
      dsimp only [tNext]
      refine go_seq (go_asg (go_lst (go_cons (go_c (go_nil ⟨sz1, fun b nb => ?_⟩)))))
      have x1 := same_new (o := HO.lst [V.non]) nb
      have hb : upd H b (HO.lst [V.non]) b = some (.lst (oVs [none])) := upd_same
      have hop1 := x1 _ _ hop
      have hq1 := Same.q x1 hq
      generalize upd H b (HO.lst [V.non]) = H1 at x1 hb hop1 hq1 ⊢
      dsimp only [gName]
      have sN : stepN t ns (.put a c) = if c = 32 then ns.take ((t.take a).count 32) ++ partsN t a (ns.getD ((t.take a).count 32) none) ++ ns.drop ((t.take a).count 32 + 1) else ns.take ((t.take a).count 32) ++ [none] ++ ns.drop ((t.take a).count 32 + 1) := rfl
      refine go_seq (go_if (go_and2 (go_test ⟨_, rfl, rfl, _, rfl, iteT (B := _) (go_test ⟨_, rfl, ix_q hq1 (v := .str (S [c])) rfl ⟨rfl, _, rfl, ?_⟩⟩)⟩)))
      have es : decide (V.str (S [c]) = V.str (Str.ofString " ")) = decide (c = 32) := sgn32 c
      rw [es]
      refine iteC (fun h => ?_) (fun h => ?_)
      · have h := of_decide_eq_true h
        refine go_asg ⟨_, rfl, _, rfl, _, rfl, _, rfl, op, _, _, _, rfl, rfl, .inl (.inl hop1), oVs_at (kl a), t, a, _, rfl, ha, hl, fun D H2 e2 nD hD => ?_⟩
        dsimp only [gName]
        refine go_ret (fin _ D H2 _ _ rfl rfl rfl (x1.trans e2) hD ?_ (by rw [sN, if_pos h]))
        unfold partsN
        split
        · exact Nat.le_refl _
        · split <;> exact Nat.le_refl _
      · have h := of_decide_eq_false h
        refine go_if (go_and2 (go_test ⟨_, rfl, rfl, _, rfl, iteF (A := _) (iteF (A := _) ?_)⟩))
        dsimp only [tNext]
        exact go_ret (fin _ b H1 [none] _ rfl rfl rfl x1 hb (by decide) (by rw [sN, if_neg h]))
    | lost a =>
      obtain ⟨ha, _⟩ := inv_lost hd
      refine go_seq ⟨_, rfl, ix_q hq (v := .str "lost") rfl ⟨_, rfl, ix_q hq (v := .int (a : Nat)) rfl ⟨_, _, rfl, ?_⟩⟩⟩
      dsimp only
      refine go_seq (go_asg ⟨_, rfl, _, rfl, (a : Int), rfl, S t, rfl, len_le hl, ?_⟩)
      rw [cut_toN]
      refine ⟨⟨_, rfl⟩, S (t.take a), Str.ofString " ", rfl, rfl, ?_⟩
      rw [count_blank]
      dsimp only [gName]
      have sN : stepN t ns (.lost a) = if t.getD a 0 = 32 then ns.take ((t.take a).count 32) ++ [none] ++ ns.drop ((t.take a).count 32 + 2) else ns.take ((t.take a).count 32) ++ [none] ++ ns.drop ((t.take a).count 32 + 1) := rfl
      refine go_seq (go_if (go_and2 (go_test ⟨_, rfl, rfl, _, rfl, iteT (B := _) (go_test ⟨_, rfl, _, rfl, S t, (a : Int), t.getD a 0, rfl, rfl, len_le hl, sgetD ha, rfl, _, rfl, ?_⟩)⟩)))
      rw [sgn32]
      refine iteC (fun h => ?_) (fun h => ?_)
      · have h := of_decide_eq_true h
        refine go_ret (cat3 (xs := oVs ns) (ys := oVs [none]) (n := (t.take a).count 32) (m := (t.take a).count 32 + 2) (sA _ H _ rfl rfl hop) (fun H3 e3 Q' q' => go_lst (go_cons (go_c (go_nil ⟨sz1, fun b nb => q' b _ (same_new nb) upd_same⟩)))) (fun H3 e3 Q' q' => sB _ H3 _ 2 rfl rfl (e3 _ _ hop) Q' q') (by rw [oVs_len]; exact hn2) (by decide) fun D H' e' nD hD => ?_)
        rw [oVs_take, oVs_drop, oVs_app, oVs_app] at hD
        refine q D H' e' nD ?_
        rw [sN, if_pos h]
        exact hD
      · have h := of_decide_eq_false h
        dsimp only [tNext]
        refine go_seq (go_asg (go_lst (go_cons (go_c (go_nil ⟨sz1, fun b nb => ?_⟩)))))
        have x1 := same_new (o := HO.lst [V.non]) nb
        have hb : upd H b (HO.lst [V.non]) b = some (.lst (oVs [none])) := upd_same
        generalize upd H b (HO.lst [V.non]) = H1 at x1 hb ⊢
        dsimp only [gName]
        refine go_seq (go_if (go_and2 (go_test ⟨_, rfl, rfl, _, rfl, iteF (A := _) (iteF (A := _) ?_)⟩)))
        refine go_if (go_and2 (go_test ⟨_, rfl, rfl, _, rfl, iteF (A := _) (iteF (A := _) ?_)⟩))
        dsimp only [tNext]
        exact go_ret (fin _ b H1 [none] _ rfl rfl rfl x1 hb (by decide) (by rw [sN, if_neg h]))
    | chg a c =>
      obtain ⟨⟨ha, _⟩, _⟩ := inv_chg hd
      refine go_seq ⟨_, rfl, ix_q hq (v := .str "changed") rfl ⟨_, rfl, ix_q hq (v := .int (a : Nat)) rfl ⟨_, _, rfl, ?_⟩⟩⟩
      dsimp only
      refine go_seq (go_asg ⟨_, rfl, _, rfl, (a : Int), rfl, S t, rfl, len_le hl, ?_⟩)
      rw [cut_toN]
      refine ⟨⟨_, rfl⟩, S (t.take a), Str.ofString " ", rfl, rfl, ?_⟩
      rw [count_blank]
      dsimp only [gName]
      have sN : stepN t ns (.chg a c) = if t.getD a 0 = 32 then ns.take ((t.take a).count 32) ++ [none] ++ ns.drop ((t.take a).count 32 + 2) else if c = 32 then ns.take ((t.take a).count 32) ++ [none, none] ++ ns.drop ((t.take a).count 32 + 1) else ns.take ((t.take a).count 32) ++ [none] ++ ns.drop ((t.take a).count 32 + 1) := rfl
      refine go_seq (go_if (go_and2 (go_test ⟨_, rfl, rfl, _, rfl, iteT (B := _) (go_test ⟨_, rfl, _, rfl, S t, (a : Int), t.getD a 0, rfl, rfl, len_le hl, sgetD ha, rfl, _, rfl, ?_⟩)⟩)))
      rw [sgn32]
      refine iteC (fun h => ?_) (fun h => ?_)
      · have h := of_decide_eq_true h
        refine go_ret (cat3 (xs := oVs ns) (ys := oVs [none]) (n := (t.take a).count 32) (m := (t.take a).count 32 + 2) (sA _ H _ rfl rfl hop) (fun H3 e3 Q' q' => go_lst (go_cons (go_c (go_nil ⟨sz1, fun b nb => q' b _ (same_new nb) upd_same⟩)))) (fun H3 e3 Q' q' => sB _ H3 _ 2 rfl rfl (e3 _ _ hop) Q' q') (by rw [oVs_len]; exact hn2) (by decide) fun D H' e' nD hD => ?_)
        rw [oVs_take, oVs_drop, oVs_app, oVs_app] at hD
        refine q D H' e' nD ?_
        rw [sN, if_pos h]
        exact hD
      · have h := of_decide_eq_false h
        dsimp only [tNext]
        refine go_seq (go_asg (go_lst (go_cons (go_c (go_nil ⟨sz1, fun b nb => ?_⟩)))))
        have x1 := same_new (o := HO.lst [V.non]) nb
        have hb : upd H b (HO.lst [V.non]) b = some (.lst (oVs [none])) := upd_same
        have hq1 := Same.q x1 hq
        generalize upd H b (HO.lst [V.non]) = H1 at x1 hb hq1 ⊢
        dsimp only [gName]
        refine go_seq (go_if (go_and2 (go_test ⟨_, rfl, rfl, _, rfl, iteF (A := _) (iteF (A := _) ?_)⟩)))
        refine go_if (go_and2 (go_test ⟨_, rfl, rfl, _, rfl, iteT (B := _) (go_test ⟨_, rfl, ix_q hq1 (v := .str (S [c])) rfl ⟨rfl, _, rfl, ?_⟩⟩)⟩))
        have es : decide (V.str (S [c]) = V.str (Str.ofString " ")) = decide (c = 32) := sgn32 c
        rw [es]
        refine iteC (fun h2 => ?_) (fun h2 => ?_)
        · have h2 := of_decide_eq_true h2
          refine go_asg (go_lst (go_cons (go_c (go_cons (go_c (go_nil ⟨sz2, fun b2 nb2 => ?_⟩))))))
          dsimp only [gName]
          exact go_ret (fin _ b2 _ [none, none] _ rfl rfl rfl (x1.trans (same_new nb2)) upd_same (by decide) (by rw [sN, if_neg h, if_pos h2]))
        · have h2 := of_decide_eq_false h2
          dsimp only [tNext]
          exact go_ret (fin _ b H1 [none] _ rfl rfl rfl x1 hb (by decide) (by rw [sN, if_neg h, if_neg h2]))
end
end K05
namespace K05
open PySem PySem.Spec PyProof.Rows L2 Kx SX LamX
def runN (t : List Nat) (ns : List (Option Nat)) : List Ed → List (Option Nat)
  | [] => ns
  | e :: r => runN (nxt t e) (stepN t ns e) r
theorem runN_snoc {t c : List Nat} {es : List Ed} (ns : List (Option Nat)) (e : Ed) (h : Path t es c) : runN t ns (es ++ [e]) = stepN c (runN t ns es) e := by
  induction h generalizing ns with
  | nil t => rfl
  | @cons t t' u f r d _ ih =>
    have : nxt t f = t' := by unfold nxt; rw [d]; rfl
    show runN (nxt t f) (stepN t ns f) (r ++ [e]) = stepN u (runN (nxt t f) (stepN t ns f) r) e
    rw [this]
    exact ih _
theorem runN_ok {I : List (List Nat)} {t u : List Nat} {es : List Ed} {ns : List (Option Nat)} (h : Path t es u) (k : Pt I (itemsA [] t) ns) : Pt I (itemsA [] u) (runN t ns es) ∧ someN ns ≤ someN (runN t ns es) + 2 * es.length := by
  induction h generalizing ns with
  | nil t => exact ⟨k, Nat.le_add_right _ _⟩
  | @cons t t' u f r d _ ih =>
    have e : nxt t f = t' := by unfold nxt; rw [d]; rfl
    obtain ⟨h1, h2⟩ := stepN_ok d k
    obtain ⟨h3, h4⟩ := ih h1
    show Pt I _ (runN (nxt t f) (stepN t ns f) r) ∧ someN ns ≤ someN (runN (nxt t f) (stepN t ns f) r) + 2 * (f :: r).length
    rw [e, List.length_cons]
    exact ⟨h3, by omega⟩
def initN (n : Nat) : List (Option Nat) := (List.range n).map some
theorem init_pt (I : List (List Nat)) : ∀ (X : List (List Nat)) (k : Nat), I.drop k = X → Pt I X ((List.range' k X.length).map some)
  | [], k, _ => .nil
  | x :: r, k, h => by
    have hk : k < I.length := by
      have := congrArg List.length h
      rw [List.length_drop, List.length_cons] at this
      omega
    rw [List.drop_eq_getElem_cons hk] at h
    injection h with h1 h2
    refine .cons (fun j e => ?_) (init_pt I r (k + 1) h2)
    cases e
    rw [List.getElem?_eq_getElem hk, h1]
theorem init_ok (t : List Nat) : Pt (itemsA [] t) (itemsA [] t) (initN (t.count 32 + 1)) := by
  have := init_pt (itemsA [] t) (itemsA [] t) 0 rfl
  rw [items_length, ← List.range_eq_range'] at this
  exact this
theorem init_some (n : Nat) : someN (initN n) = n := by
  unfold someN initN
  rw [List.filterMap_map]
  simp
theorem rg_init (n : Nat) : rgV 0 ((n : Nat) : Int) = oVs (initN n) := by
  unfold rgV oVs initN
  rw [List.map_map, Int.sub_zero, Int.toNat_natCast]
  refine List.map_congr_left fun i _ => ?_
  show V.int (0 + (i : Int)) = V.int (i : Int)
  rw [Int.zero_add]
section
variable {K : PySem.W.Frag} {a b : Addr} {xs ys : List V} {g : TG} {tb : TS} {D : Ends} {σ : L2.St} {H : Hp} {k l : Nat}
/-- for x, y in zip(LIST NAME, SEQUENCE NAME) -/
theorem for_zipM {H0 : Hp} (hi : σ[k]? = some (some (.ref a))) (hj : σ[l]? = some (some (.ref b))) (hq : SqL K H0 a xs) (hp : SqQ K H0 b ys) (e0 : Same H0 H)
    (Pv : Nat → L2.St → Hp → Prop) (h0 : Pv 0 σ H) (stay : ∀ i σ' H', Pv i σ' H' → Same H0 H')
    (hs : ∀ (i : Nat) (x y : V) (t : Addr) (σ : L2.St) (H : Hp), xs[i]? = some x → ys[i]? = some y → Pv i σ H → H t = none → g (.ref t) σ (upd H t (.tup [x, y])) fun σ2 H2 => tb { D with nx := Pv (i + 1), ct := Pv (i + 1), bk := D.nx } σ2 H2)
    (hd : ∀ σ H, Pv (min xs.length ys.length) σ H → D.nx σ H) : tFor (iZipM K (tCons (tVar k) (tCons (tVar l) tNil))) g tb D σ H := by
  rcases hp with hp | hp
  · exact ⟨_, hi, _, hj, a, b, xs, ys, rfl, e0.seq hq, .inl ⟨e0.seq hp, for_it (walk_zip rfl) Pv h0 (fun i σ' H' _ p => ⟨(stay i σ' H' p).seq hq, (stay i σ' H' p).seq hp⟩) (fun i x σ' Hc Hx hi' p y => by
      obtain ⟨t, x', y', rfl, nt, rfl, e1, e2⟩ := y
      exact hs i x' y' t σ' _ e1 e2 p nt) hd⟩⟩
  · exact ⟨_, hi, _, hj, a, b, xs, ys, rfl, e0.seq hq, .inr ⟨Same.t e0 hp, for_it (walk_zipM rfl) Pv h0 (fun i σ' H' _ p => ⟨(stay i σ' H' p).seq hq, Same.t (stay i σ' H' p) hp⟩) (fun i x σ' Hc Hx hi' p y => by
      obtain ⟨t, x', y', rfl, nt, rfl, e1, e2⟩ := y
      exact hs i x' y' t σ' _ e1 e2 p nt) hd⟩⟩
end
/-- the numbers that are left -/
def dueN (t : List Nat) (es : List Ed) : List Nat := (runN t (initN (t.count 32 + 1)) es).filterMap id
theorem keep_oV : ∀ ns : List (Option Nat), (ns.map fun o => o.map fun j => V.int (j : Nat)).filterMap id = (ns.filterMap id).map fun j => V.int (j : Nat)
  | [] => rfl
  | none :: r => by
    have := keep_oV r
    simpa using this
  | some j :: r => by
    have := keep_oV r
    simpa using this
section
variable {P : Program} {w : World} {K : PySem.W.Frag} {mg : Str → Option Value} {base : Heap} (T : Tx K mg)
def sp_undone_edit (K : PySem.W.Frag) : Sp := fun vs H Q _ => ∃ (t u : List Nat) (p : Addr) (e : Ed), vs = [.str (S t), .ref p] ∧ t.length ≤ 200000 ∧ SqQ K H p e.vs ∧ doE t e = some u ∧ ∀ (p' : Addr) (H' : Hp), Same H H' → H p' = none → H' p' = some (.tup (un t e).vs) → Q (.ref p') H'
theorem ok_undone_edit : FnOk P w K mg base CX0 1 T.f_undone_edit T.fd_undone_edit ["text", "edit"] (sp_undone_edit K) := by
  refine T.F_undone_edit.ok sc_undone_edit (fun vs H Q E h => ?_) (fun cdv A outer s H vs Q E hr h => ?_)
  · obtain ⟨t, u, p, e, rfl, _⟩ := h
    rfl
  · obtain ⟨t, u, p, e, rfl, hl, hq, hd, q⟩ := h
    refine ⟨_, (pss_cons (ps_par (i := 2) (j := 3) rfl sc_undone_edit.nd rfl rfl (by decide) rfl rfl (pa_cons (pe_ix ix_seq (pv 1) pe_int (fun _ _ => rfl)) (pa_cons (pe_ix ix_seq (pv 1) pe_int (fun _ _ => rfl)) pa_nil)) (by rfl))
    (pss_cons (ps_if (pt_cmpR op_eq (pv 2) pe_str (nomark _))
      (pss_one (ps_ret (pe_tup (pa_cons pe_str (pa_cons (pv 3) pa_nil)))))
      pss_nil)
    (pss_cons (ps_if (pt_cmpR op_eq (pv 2) pe_str (nomark _))
      (pss_one (ps_ret (pe_tup (pa_cons pe_str (pa_cons (pv 3) (pa_cons (pe_ix ix_str (pv 0) (pv 3) (fun _ _ => rfl)) pa_nil))))))
      pss_nil)
    (pss_one (ps_ret (pe_tup (pa_cons pe_str (pa_cons (pv 3) (pa_cons (pe_ix ix_str (pv 0) (pv 3) (fun _ _ => rfl)) pa_nil))))))))), ?_⟩
    cases e with
    | put a c =>
      refine go_seq ⟨_, rfl, ix_q hq (v := .str "put") rfl ⟨_, rfl, ix_q hq (v := .int (a : Nat)) rfl ⟨_, _, rfl, ?_⟩⟩⟩
      dsimp only
      refine go_seq (go_if (go_test ⟨_, rfl, rfl, _, rfl, iteT (B := _) ?_⟩))
      refine go_ret (go_tup (go_cons (go_c (go_cons (go_var rfl (go_nil ⟨sz2, fun p' np => ?_⟩))))))
      exact q p' _ (same_new np) np upd_same
    | lost a =>
      obtain ⟨h, _⟩ := inv_lost hd
      refine go_seq ⟨_, rfl, ix_q hq (v := .str "lost") rfl ⟨_, rfl, ix_q hq (v := .int (a : Nat)) rfl ⟨_, _, rfl, ?_⟩⟩⟩
      dsimp only
      refine go_seq (go_if (go_test ⟨_, rfl, rfl, _, rfl, iteF (A := _) ?_⟩))
      dsimp only [tNext]
      refine go_seq (go_if (go_test ⟨_, rfl, rfl, _, rfl, iteT (B := _) ?_⟩))
      refine go_ret (go_tup (go_cons (go_c (go_cons (go_var rfl (go_cons ⟨_, rfl, _, rfl, S t, (a : Int), t.getD a 0, rfl, rfl, len_le hl, sgetD h, go_nil ⟨sz3, fun p' np => ?_⟩⟩))))))
      exact q p' _ (same_new np) np upd_same
    | chg a c =>
      obtain ⟨⟨h, _⟩, _⟩ := inv_chg hd
      refine go_seq ⟨_, rfl, ix_q hq (v := .str "changed") rfl ⟨_, rfl, ix_q hq (v := .int (a : Nat)) rfl ⟨_, _, rfl, ?_⟩⟩⟩
      dsimp only
      refine go_seq (go_if (go_test ⟨_, rfl, rfl, _, rfl, iteF (A := _) ?_⟩))
      dsimp only [tNext]
      refine go_seq (go_if (go_test ⟨_, rfl, rfl, _, rfl, iteF (A := _) ?_⟩))
      dsimp only [tNext]
      refine go_ret (go_tup (go_cons (go_c (go_cons (go_var rfl (go_cons ⟨_, rfl, _, rfl, S t, (a : Int), t.getD a 0, rfl, rfl, len_le hl, sgetD h, go_nil ⟨sz3, fun p' np => ?_⟩⟩))))))
      exact q p' _ (same_new np) np upd_same
def RAny : List Nat → List Nat → List Ed → V → Hp → Prop := fun _ _ _ _ _ => True
theorem ok_undone : FnOk P w K mg base (L2.CX P w) 10 T.f_undone T.fd_undone ["text", "edits"] (AskS K T.e_BadText.C T.e_BadEdits.C RAny) := by
  refine T.F_undone.okX sc_undone (fun vs H Q E h => ?_) (fun cdv A outer s H vs Q E hr h => ?_)
  · obtain ⟨x, y, rfl, _⟩ := h
    rfl
  · obtain ⟨x, y, rfl, h⟩ := h
    refine ⟨_, (pss_cons (ps_set (i := 2) sc_undone.nd rfl (.inl rfl) (pe_call (ok_checked_texts T) (hr.mono (by decide)) (by rfl) T.g_checked_texts T.F_checked_texts.kp T.b_checked_texts .nil (passes_call (takes_of rfl rfl rfl rfl) (fun _ _ _ _ h => h)) (pa_cons (pv 0) (pa_cons (pv 1) pa_nil))))
    (pss_cons (ps_setLc (i := 5) (own := [("ahead", 3), ("edit", 4)]) rfl sc_undone.nd rfl rfl (sw_true rfl rfl rfl (by decide +kernel)) (pi_zipM (by rfl) T.m_zip (pa_cons (pv 2) (pa_cons (pv 1) pa_nil))) (blkOk_by (own := [("ahead", 3), ("edit", 4)]) (N := ["text", "edits", "texts", "ahead", "edit", "back"]) (sc := defScope s_undone) (by decide +kernel)) (fun _ _ _ _ _ => (inK_pg_tup (K := K) (n := 2) (t := (gCons (gName 3) (gCons (gName 4) gNil))) rfl rfl (pgs_cons (pg_name (i := 3) sc_undone.nd rfl (.inl rfl)) (pgs_cons (pg_name (i := 4) sc_undone.nd rfl (.inl rfl)) pgs_nil)))) (fun _ _ _ _ _ => pts_nil) (fun _ _ _ _ _ => (pe_call (ok_undone_edit T) (hr.mono (by decide)) (by rfl) T.g_undone_edit T.F_undone_edit.kp T.b_undone_edit .nil pass0 (pa_cons (pv 3) (pa_cons (pv 4) pa_nil)))))
    (pss_one (ps_ret (pe_callTy call_tuple_of (by rfl) T.m_tuple (by decide +kernel) (pa_cons (pe_revL (pv 5)) pa_nil)))))), ?_⟩
    rcases h with h | h | ⟨t, u, p, es, rfl, rfl, htx, hE, ho, le, lt, hu, q⟩
    · exact go_seq (go_asg ⟨_, rfl, _, rfl, x, y, rfl, .inl h⟩)
    · exact go_seq (go_asg ⟨_, rfl, _, rfl, x, y, rfl, .inr (.inl h)⟩)
    have hl : t.length ≤ 200000 := by omega
    refine go_seq (go_asg ⟨_, rfl, _, rfl, _, _, rfl, .inr (.inr ⟨t, u, p, es, rfl, rfl, htx, hE, ho, le, lt, hu, fun r H1 e1 ⟨D, hr, hD⟩ => ?_⟩)⟩)
    subst hr
    obtain ⟨ps, hq, lp, hp⟩ := hE.same e1
    clear hE
    dsimp only [gName]
    refine go_seq (go_asg (lc_zipM (a := D) (b := p) (xs := (trail t es).map tx) (ys := ps.map V.ref) (by exact rfl) (by exact rfl) (.inl (.inl hD)) hq (fun B i H' => EdsL H' B ((backs t es).take i) ∧ Same H1 H')
      (fun B nB => ⟨⟨[], upd_same, rfl, fun i q e a b => by cases a⟩, same_new nB⟩) (fun B i H' h => h.2) (fun B i x y v Hc nB hx hy h nv => ?_) (fun B Hc nB h => ?_)))
    · obtain ⟨hB, ec⟩ := h
      obtain ⟨q', hq', rfl⟩ := ref_get hy
      obtain ⟨e, he⟩ := ed_of lp hq'
      have hi : i < es.length := (List.getElem?_eq_some_iff.mp he).1
      obtain ⟨c, hc1, hc2⟩ := trail_at (i := i) (by omega) hu
      obtain ⟨x', hx', rfl⟩ := map_at hx
      rw [hc1] at hx'
      cases hx'
      have lc : c.length ≤ 200000 := (Path.len hc2).2 hl
      obtain ⟨c2, g1, g2⟩ := hu.split (i + 1)
      have hd : doE c e = some c2 := by
        rw [take_snoc he] at g1
        cases hh : doE c e with
        | none => exact (hu.not ⟨i, e, c, he, hc2, hh⟩).elim
        | some z => rw [g1.det (hc2.snoc hh)]
      refine ⟨v, _, rfl, .inl (.inl upd_same), rfl, _, _, rfl, _, _, rfl, rfl, rfl, ?_⟩
      refine iteT (B := True) ?_
      have e0 := same_new (o := HO.tup [tx c, V.ref q']) nv
      refine ⟨_, rfl, _, rfl, c, c2, q', e, rfl, lc, Same.q (ec.trans e0) (hp i q' e hq' he), hd, fun p' H4 e4 np' hp' => ?_⟩
      have eA := e0.trans e4
      obtain ⟨rs, r1, r2, r3⟩ := hB.same eA
      refine ⟨_, r1, ?_, ?_, same_set (ec.trans eA) nB⟩
      · rw [List.length_map, r2, List.length_take]
        exact Nat.lt_of_le_of_lt (Nat.min_le_left _ _) (Nat.lt_of_lt_of_le (show i < 13 by omega) (by decide))
      · have hb : (backs t es)[i]? = some (un c e) := backs_at hu he hc2
        rw [take_snoc hb]
        have hpB : p' ≠ B := fun z => by
          rw [z] at hp'
          rw [r1] at hp'
          cases hp'
        exact EdsL.add (H := H4) ⟨rs, r1, r2, r3⟩ (Mv.upd _ _ _) (by rw [upd_ne hpB]; exact hp') (fun ps h => by
          rw [r1] at h
          injection h with h
          injection h with h
          rw [upd_same, h])
    · obtain ⟨hB, ec⟩ := h
      have lm : min ((trail t es).map tx).length (ps.map V.ref).length = es.length := by
        rw [List.length_map, List.length_map, trail_len, lp]
        omega
      rw [lm, List.take_of_length_le (by rw [backs_len]; exact Nat.le_refl _)] at hB
      obtain ⟨rs, r1, r2, r3⟩ := id hB
      dsimp only [gName]
      refine go_ret ⟨_, rfl, B, _, rfl, .inl (.inl r1), fun F nF => ?_⟩
      have x1 := same_new (o := HO.lst (rs.map V.ref).reverse) nF
      refine ⟨F, _, rfl, .inl ⟨.inl (.inl upd_same), fun G nG => ?_⟩⟩
      have x2 := same_new (o := HO.tup (rs.map V.ref).reverse) nG
      exact q _ _ (((e1.trans ec).trans x1).trans x2) trivial
theorem ok_untouched : FnOk P w K mg base (L2.CX P w) 10 T.f_untouched T.fd_untouched ["text", "edits"] (AskS K T.e_BadText.C T.e_BadEdits.C RAny) := by
  refine T.F_untouched.okX sc_untouched (fun vs H Q E h => ?_) (fun cdv A outer s H vs Q E hr h => ?_)
  · obtain ⟨x, y, rfl, _⟩ := h
    rfl
  · obtain ⟨x, y, rfl, h⟩ := h
    refine ⟨_, (pss_cons (ps_set (i := 2) sc_untouched.nd rfl (.inl rfl) (pe_call (ok_checked_texts T) (hr.mono (by decide)) (by rfl) T.g_checked_texts T.F_checked_texts.kp T.b_checked_texts .nil (passes_call (takes_of rfl rfl rfl rfl) (fun _ _ _ _ h => h)) (pa_cons (pv 0) (pa_cons (pv 1) pa_nil))))
    (pss_cons (ps_set (i := 3) sc_untouched.nd rfl (.inl rfl) (pe_listRg rfl (by rfl) T.m_list (prg_1 (by rfl) T.m_range (pe_op op_add (pe_m1 PySem.F.slot_str_count PySem.F.type_str_count mt_count (pv 0) pe_str) pe_int))))
    (pss_cons (ps_for (passes_of rfl) rfl (pi_zipM (by rfl) T.m_zip (pa_cons (pv 2) (pa_cons (pv 1) pa_nil))) (pg_tup rfl (pgs_cons (pg_name (i := 4) sc_untouched.nd rfl (.inl rfl)) (pgs_cons (pg_name (i := 5) sc_untouched.nd rfl (.inl rfl)) pgs_nil)))
      (pss_one (ps_set (i := 3) sc_untouched.nd rfl (.inl rfl) (pe_call (ok_owners_behind T) (hr.mono (by decide)) (by rfl) T.g_owners_behind T.F_owners_behind.kp T.b_owners_behind .nil pass0 (pa_cons (pv 3) (pa_cons (pv 4) (pa_cons (pv 5) pa_nil)))))))
    (pss_one (ps_ret (pe_callTy call_tuple_of (by rfl) T.m_tuple (by decide +kernel) (pa_cons (pe_lc (own := [("owner", 6)]) rfl sc_untouched.nd (pi_list (pv 3)) (blkOk_by (own := [("owner", 6)]) (N := ["text", "edits", "texts", "owners", "ahead", "edit", "owner"]) (sc := defScope s_untouched) (by decide +kernel)) (fun _ _ _ _ _ => (pg_name (i := 6) sc_untouched.nd rfl (.inl rfl))) (fun _ _ _ _ _ => pts_one (pt_cmpR op_notN (pv 6) pe_non (nomark _))) (fun _ _ _ _ _ => (pv 6))) pa_nil))))))), ?_⟩
    rcases h with h | h | ⟨t, u, p, es, rfl, rfl, htx, hE, ho, le, lt, hu, q⟩
    · exact go_seq (go_asg ⟨_, rfl, _, rfl, x, y, rfl, .inl h⟩)
    · exact go_seq (go_asg ⟨_, rfl, _, rfl, x, y, rfl, .inr (.inl h)⟩)
    refine go_seq (go_asg ⟨_, rfl, _, rfl, _, _, rfl, .inr (.inr ⟨t, u, p, es, rfl, rfl, htx, hE, ho, le, lt, hu, fun r H1 e1 ⟨D, hr, hD⟩ => ?_⟩)⟩)
    subst hr
    dsimp only [gName]
    refine go_seq (go_asg ⟨_, rfl, ⟨_, rfl⟩, S t, Str.ofString " ", rfl, rfl, _, _, rfl, rfl, _, rfl, ?_, fun W nW => ?_⟩)
    · rw [count_blank]
      have := List.count_le_length (a := 32) (l := t)
      exact RgOk.of_le (by decide) (by omega) (by decide) (by omega)
    have er : rgV 0 (Txt.count (S t) (Str.ofString " ") + 1) = oVs (initN (t.count 32 + 1)) := by
      rw [count_blank]
      exact rg_init (t.count 32 + 1)
    rw [er]
    clear er
    have x1 := same_new (o := HO.lst (oVs (initN (t.count 32 + 1)))) nW
    have hW : upd H1 W (HO.lst (oVs (initN (t.count 32 + 1)))) W = some (.lst (oVs (initN (t.count 32 + 1)))) := upd_same
    have hD := x1 _ _ hD
    have e2 := e1.trans x1
    obtain ⟨ps, hq, lp, hp⟩ := hE.same e2
    generalize upd H1 W (HO.lst (oVs (initN (t.count 32 + 1)))) = H2 at hW hD e2 hq hp ⊢
    clear x1 e1 nW hE
    dsimp only [gName]
    refine go_seq (for_zipM (a := D) (b := p) (xs := (trail t es).map tx) (ys := ps.map V.ref) (by exact rfl) (by exact rfl) (.inl (.inl hD)) hq (Same.refl _)
      (fun i σ H' => ∃ (o4 o5 o6 : Option V) (W : Addr), σ = [some (.str (S t)), some (.ref p), some (.ref D), some (.ref W), o4, o5, o6] ∧ H' W = some (.lst (oVs (runN t (initN (t.count 32 + 1)) (es.take i)))) ∧ Same H2 H')
      ⟨none, none, none, W, rfl, hW, Same.refl _⟩ (fun i σ' H' h => by
        obtain ⟨_, _, _, _, _, _, e⟩ := h
        exact e) (fun i x y v σ' Hc hx hy h nv => ?_) (fun σ' Hc h => ?_))
    · obtain ⟨o4, o5, o6, W, rfl, hW, ec⟩ := h
      obtain ⟨q', hq', rfl⟩ := ref_get hy
      obtain ⟨e, he⟩ := ed_of lp hq'
      have hi : i < es.length := (List.getElem?_eq_some_iff.mp he).1
      obtain ⟨c, hc1, hc2⟩ := trail_at (i := i) (by omega) hu
      obtain ⟨x', hx', rfl⟩ := map_at hx
      rw [hc1] at hx'
      cases hx'
      have lc := (Path.len hc2).1
      rw [List.length_take] at lc
      obtain ⟨c2, g1, g2⟩ := hu.split (i + 1)
      have hd : doE c e = some c2 := by
        rw [take_snoc he] at g1
        cases hh : doE c e with
        | none => exact (hu.not ⟨i, e, c, he, hc2, hh⟩).elim
        | some z => rw [g1.det (hc2.snoc hh)]
      have hPt := (runN_ok hc2 (init_ok t)).1
      have ln := hPt.len
      rw [items_length] at ln
      have lcc := List.count_le_length (a := 32) (l := c)
      refine ⟨v, _, rfl, .inl (.inl upd_same), rfl, _, _, rfl, _, _, rfl, rfl, ?_⟩
      have e0 := same_new (o := HO.tup [tx c, V.ref q']) nv
      refine go_asg ⟨_, rfl, _, rfl, _, rfl, W, q', c, c2, _, e, rfl, e0 _ _ hW, Same.q (ec.trans e0) (hp i q' e hq' he), by omega, ln, by omega, hd, fun D' H4 e4 nD' hD' => ?_⟩
      dsimp only [gName]
      refine ⟨_, _, _, D', rfl, ?_, ec.trans (e0.trans e4)⟩
      rw [take_snoc he, runN_snoc _ e hc2]
      exact hD'
    · obtain ⟨o4, o5, o6, W, rfl, hW, ec⟩ := h
      have lm : min ((trail t es).map tx).length (ps.map V.ref).length = es.length := by
        rw [List.length_map, List.length_map, trail_len, lp]
        omega
      rw [lm, List.take_length] at hW
      have hPt := (runN_ok hu (init_ok t)).1
      have ln := hPt.len
      rw [items_length] at ln
      have lcc := List.count_le_length (a := 32) (l := u)
      have lu := (Path.len hu).1
      dsimp only
      refine go_ret (go_cb (go_cons (lc_lstk (a := W) (xs := oVs (runN t (initN (t.count 32 + 1)) es)) ((runN t (initN (t.count 32 + 1)) es).map fun o => o.map fun j => V.int (j : Nat)) (by rw [List.length_map, oVs_len]) (by exact rfl) (.inl (.inl hW)) (by rw [oVs_len]; omega) (fun i x z Hd Q' R' hx hz e3 q' r' => ?_) (fun B Hd e3 hB => ?_))))
      · obtain ⟨o, ho1, rfl⟩ := map_at hx
        obtain ⟨o', ho2, rfl⟩ := map_at hz
        rw [ho1] at ho2
        cases ho2
        refine ⟨rfl, ?_⟩
        cases o with
        | none => exact ⟨_, rfl, rfl, _, rfl, iteF (A := _) (r' Hd rfl (Same.refl _))⟩
        | some j => exact ⟨_, rfl, rfl, _, rfl, iteT (B := _) ⟨_, rfl, q' _ Hd rfl (Same.refl _)⟩⟩
      · rw [keep_oV] at hB
        refine go_nil ⟨B, _, rfl, .inl ⟨.inl (.inl hB), fun G nG => ?_⟩⟩
        exact q _ _ ((e2.trans ec).trans (e3.trans (same_new nG))) trivial
end
end K05
namespace K05
open PySem PySem.Spec PyProof.Rows L2 Kx SX LamX
section
variable {P : Program} {w : World} {K : PySem.W.Frag} {mg : Str → Option Value} {base : Heap} (T : Tx K mg)
/-! ### draws -/
def sp_law_gate (K : PySem.W.Frag) : Sp := fun vs H Q _ => ∃ (a c : Addr) (m : Int) (n : Nat), vs = [.ref a, .int m] ∧ 0 < m ∧ m ≤ 1000000 ∧ Wh H a c n ∧ n < 1000000 ∧ ∀ (r : Int) (H' : Hp), 0 ≤ r → r < m → Mv a H H' → Wh H' a c (n + 1) → Q (.int r) H'
theorem ok_law_gate : FnOk P w K mg base CX0 1 T.f_law_gate T.fd_law_gate ["sluice", "many"] (sp_law_gate K) := by
  refine T.F_law_gate.ok sc_law_gate (fun vs H Q E h => ?_) (fun cdv A outer s H vs Q E hr h => ?_)
  · obtain ⟨a, c, m, n, rfl, _⟩ := h
    rfl
  · obtain ⟨a, c, m, n, rfl, hm, hM, ⟨cs, t, l, h1, h2, h3, h4, h5⟩, hn, q⟩ := h
    refine ⟨_, (pss_cons (ps_if (pt_cmpR op_gt (pe_ix ix_list (pv 0) pe_int (fun _ _ => rfl)) pe_int (nomark _))
      (pss_cons (ps_set (i := 2) sc_law_gate.nd rfl (.inl rfl) (pe_callTy call_int1 (by rfl) T.m_int (by decide +kernel) (pa_cons (pe_ix ix_list (pv 0) pe_int (fun _ _ => rfl)) pa_nil)))
      (pss_cons (ps_asg (pe_op op_fdivN (pv 2) (pv 1)) (pg_sub (pv 0) pe_int set_list))
      (pss_one (ps_ret (pe_op op_modN (pe_callTy call_int1 (by rfl) T.m_int (by decide +kernel) (pa_cons (pv 2) pa_nil)) (pv 1))))))
      pss_nil)
    (pss_cons (ps_set (i := 3) sc_law_gate.nd rfl (.inl rfl) (pe_ix ix_list (pv 0) pe_int (fun _ _ => rfl)))
    (pss_cons (ps_asg (pe_op op_add (pv 3) pe_int) (pg_sub (pv 0) pe_int set_list))
    (pss_cons (ps_if (pt_cmpR (op_eqE hr.units) (pe_ix ix_list (pv 0) pe_int (fun _ _ => rfl)) (pe_lst pa_nil) (nomark _))
      (pss_one (ps_ret pe_int))
      pss_nil)
    (pss_cons (ps_set (i := 4) sc_law_gate.nd rfl (.inl rfl) (pe_ix ix_list (pe_ix ix_list (pv 0) pe_int (fun _ _ => rfl)) (pe_op op_modN (pe_callTy call_int1 (by rfl) T.m_int (by decide +kernel) (pa_cons (pv 3) pa_nil)) (pe_callB call_len_seq (by rfl) T.m_len PySem.boot_len (pa_cons (pe_ix ix_list (pv 0) pe_int (fun _ _ => rfl)) pa_nil))) (fun _ _ => rfl)))
    (pss_cons (ps_if (PW.pt (pw_and (pt_cmpR op_lt (pv 3) (pe_callB call_len_seq (by rfl) T.m_len PySem.boot_len (pa_cons (pe_ix ix_list (pv 0) pe_int (fun _ _ => rfl)) pa_nil)) (nomark _)) (pw_and1 (pt_cmpR op_ge (pe_callB call_abs (by rfl) T.m_abs (by decide +kernel) (pa_cons (pv 4) pa_nil)) (pe_op op_pow pe_int pe_int) (nomark _)))))
      (pss_cons (ps_set (i := 2) sc_law_gate.nd rfl (.inl rfl) (pe_op op_add (pe_op op_mul pe_int (pe_op op_sub (pe_callB call_abs (by rfl) T.m_abs (by decide +kernel) (pa_cons (pv 4) pa_nil)) (pe_op op_pow pe_int pe_int))) (pe_callTy call_int1 (by rfl) T.m_int (by decide +kernel) (pa_cons (pe_cmpR op_lt (pv 4) pe_int (nomark _)) pa_nil))))
      (pss_cons (ps_asg (pe_op op_fdivN (pv 2) (pv 1)) (pg_sub (pv 0) pe_int set_list))
      (pss_one (ps_ret (pe_op op_modN (pe_callTy call_int1 (by rfl) T.m_int (by decide +kernel) (pa_cons (pv 2) pa_nil)) (pv 1))))))
      pss_nil)
    (pss_cons (ps_set (i := 5) sc_law_gate.nd rfl (.inl rfl) (pe_op op_modN (pe_callTy call_int1 (by rfl) T.m_int (by decide +kernel) (pa_cons (pe_op op_pow (pe_op op_add (pe_op op_add (pe_op op_modN (pe_callTy call_int1 (by rfl) T.m_int (by decide +kernel) (pa_cons (pv 4) pa_nil)) pe_int) (pe_op op_mul pe_int (pv 3))) pe_int) pe_int) pa_nil)) pe_int))
    (pss_cons (ps_set (i := 5) sc_law_gate.nd rfl (.inl rfl) (pe_op op_modN (pe_callTy call_int1 (by rfl) T.m_int (by decide +kernel) (pa_cons (pe_op op_pow (pe_op op_add (pe_op op_add (pe_op op_mul (pv 5) (pe_op op_add (pe_op op_mul pe_int (pv 3)) pe_int)) (pe_op op_mul (pe_op op_mul pe_int (pv 3)) (pv 3))) pe_int) pe_int) pa_nil)) pe_int))
    (pss_one (ps_ret (pe_op op_modN (pe_callTy call_int1 (by rfl) T.m_int (by decide +kernel) (pa_cons (pe_op op_fdivN (pv 5) pe_int) pa_nil)) (pv 1)))))))))))), ?_⟩
    have hac := wh_ac h1 h2
    have m0 : m ≠ 0 := by omega
    have mS : m.natAbs < 1073741824 := by omega
    have fin : ∀ (x y z : Int) (H' : Hp), Mv a H H' → H' a = some (.lst [.ref c, .int y, .int z]) → 0 ≤ y → y ≤ n + 1 → Q (.int (x.fmod m)) H' := fun x y z H' mv ha y0 y1 =>
      q _ _ (Int.fmod_nonneg_of_pos _ hm) (Int.fmod_lt_of_pos _ hm) mv ⟨cs, y, z, ha, mv c _ (fun e => hac e.symm) h2, h3, y0, by omega⟩
    refine ⟨_, rfl, a, _, 2, .int l, rfl, rfl, .inl (.inl h1), rfl, _, _, rfl, rfl, _, rfl, iteC (fun e => ?_) (fun e => ?_)⟩
    · refine ⟨_, rfl, a, _, 2, .int l, rfl, rfl, .inl (.inl h1), rfl, .inl ⟨l, rfl, ?_⟩⟩
      refine ⟨_, rfl, _, rfl, l, m, rfl, rfl, ⟨m0, mS⟩, _, rfl, a, _, 2, 2, rfl, rfl, h1, rfl, ?_⟩
      refine ⟨_, rfl, .inl ⟨l, rfl, _, rfl, l, m, rfl, rfl, m0, ?_⟩⟩
      exact fin _ t (l.fdiv m) _ (Mv.upd _ _ _) upd_same h4 (by omega)
    clear e
    refine ⟨_, rfl, a, _, 1, .int t, rfl, rfl, .inl (.inl h1), rfl, ?_⟩
    refine ⟨_, rfl, t, 1, rfl, rfl, _, rfl, a, _, 1, 1, rfl, rfl, h1, rfl, ?_⟩
    generalize hH1 : upd H a (HO.lst ([V.ref c, .int t, .int l].set 1 (.int (t + 1)))) = H1
    have a1 : H1 a = some (.lst [.ref c, .int (t + 1), .int l]) := by rw [← hH1]; exact upd_same
    have c1 : H1 c = some (.lst (cs.map V.int)) := by rw [← hH1, upd_ne (fun e => hac e.symm)]; exact h2
    have mv1 : Mv a H H1 := by rw [← hH1]; exact Mv.upd _ _ _
    refine ⟨_, rfl, a, _, 0, .ref c, rfl, rfl, .inl (.inl a1), rfl, Nat.zero_le _, fun p np => ⟨c, p, _, rfl, rfl, same_new np _ _ c1, upd_same, _, rfl, iteC (fun e => ?_) (fun e => ?_)⟩⟩
    · exact q 0 _ (Int.le_refl _) hm (mv1.trans (Mv.of (same_new np))) ⟨cs, t + 1, l, same_new np _ _ a1, same_new np _ _ c1, h3, by omega, by omega⟩
    have cs0 : cs ≠ [] := fun z => by
      rw [z] at e
      cases e
    have s0 := same_new (o := HO.lst []) np
    have a2 := s0 _ _ a1
    have c2 := s0 _ _ c1
    have mv2 := mv1.trans (Mv.of s0)
    generalize upd H1 p (HO.lst []) = H2 at a2 c2 mv2 ⊢
    clear e s0 np
    dsimp only [tNext]
    have z0 : (0 : Int) < (cs.map V.int).length := by
      cases cs with
      | nil => exact absurd rfl cs0
      | cons x xs => simp
    obtain ⟨v, hv, ev⟩ : ∃ v, v ∈ cs.map V.int ∧ atI (cs.map V.int) (t.fmod ((cs.map V.int).length : Int)) = some v := at_lt (Int.fmod_nonneg_of_pos _ z0) (Int.fmod_lt_of_pos _ z0)
    obtain ⟨i, _, rfl⟩ := List.mem_map.mp hv
    have z : ((cs.map V.int).length : Int) ≠ 0 := by omega
    refine ⟨_, rfl, a, _, 0, .ref c, rfl, rfl, .inl (.inl a2), rfl, ?_⟩
    refine ⟨_, rfl, .inl ⟨t, rfl, ?_⟩⟩
    refine ⟨_, rfl, a, _, 0, .ref c, rfl, rfl, .inl (.inl a2), rfl, c, _, rfl, .inl (.inl (.inl c2)), ?_⟩
    refine ⟨t, _, rfl, rfl, z, c, _, _, _, rfl, rfl, .inl (.inl c2), ev, ?_⟩
    refine genI (P := fun v => gName 4 v _ _ _) (fun cell => ?_)
    refine ⟨_, rfl, _, rfl, a, _, 0, .ref c, rfl, rfl, .inl (.inl a2), rfl, c, _, rfl, .inl (.inl (.inl c2)), _, _, rfl, rfl, _, rfl, cutP (fun _ r => iteF r) (fun r e => ?_) ?_⟩
    · refine ⟨_, rfl, cell, rfl, _, _, rfl, rfl, ⟨by decide, by decide, by decide⟩, _, _, rfl, rfl, _, rfl, iteC (fun e2 => ?_) (fun e2 => r)⟩
      refine ⟨_, rfl, cell, rfl, _, _, rfl, rfl, ⟨by decide, by decide, by decide⟩, _, _, rfl, rfl, _, _, rfl, rfl, .inl ⟨by decide, by decide⟩, _, rfl, _, _, rfl, rfl, .inr ⟨_, rfl, _, _, rfl, rfl, ?_⟩⟩
      refine genI (P := fun v => gName 2 v _ _ _) (fun rest => ?_)
      refine ⟨_, rfl, _, rfl, _, _, rfl, rfl, ⟨m0, mS⟩, _, rfl, a, _, 2, 2, rfl, rfl, a2, rfl, ?_⟩
      refine ⟨_, rfl, .inl ⟨rest, rfl, _, rfl, _, _, rfl, rfl, m0, ?_⟩⟩
      exact fin _ (t + 1) _ _ (mv2.trans (Mv.upd _ _ _)) upd_same (by omega) (by omega)
    · refine ⟨_, rfl, .inl ⟨cell, rfl, _, _, rfl, rfl, (by show (_ : Int) ≠ 0; decide), _, rfl, _, _, rfl, rfl, .inl ⟨by decide, by decide⟩, _, _, rfl, rfl, _, _, rfl, rfl, _, _, rfl, rfl, ⟨by decide, by decide, bnd5 (by decide) (by decide) h4 (by omega) (by decide) (by decide) (by decide) (by decide)⟩, .inl ⟨_, rfl, _, _, rfl, rfl, (by show (_ : Int) ≠ 0; decide), ?_⟩⟩⟩
      refine genIB (P := fun v => gName 5 v _ _ _) (by decide) (fun m1 m1a m1b => ?_)
      have m1c : m1 ≤ 4294967296 := Int.le_trans (Int.le_of_lt m1b) (by decide)
      refine ⟨_, rfl, _, rfl, _, _, rfl, rfl, .inl ⟨by decide, by decide⟩, _, _, rfl, rfl, _, _, rfl, rfl, .inl ⟨by omega, by omega⟩, _, rfl, _, _, rfl, rfl, .inl ⟨by decide, by decide⟩, _, rfl, _, _, rfl, rfl, .inr ⟨by omega, by omega⟩, _, _, rfl, rfl, _, _, rfl, rfl, _, _, rfl, rfl, ⟨by decide, by decide, bnd3 m1a m1c h4 (by omega) (by decide) (by decide) (by decide) (by decide) (by decide) (by decide)⟩, .inl ⟨_, rfl, _, _, rfl, rfl, (by show (_ : Int) ≠ 0; decide), ?_⟩⟩
      refine genI (P := fun v => gName 5 v _ _ _) (fun m2 => ?_)
      refine ⟨_, rfl, _, _, rfl, rfl, ⟨by decide, by decide⟩, .inl ⟨_, rfl, _, rfl, _, _, rfl, rfl, m0, ?_⟩⟩
      exact fin _ (t + 1) _ _ mv2 a2 (by omega) (by omega)
/-- one of some things -/
def sp_law_one (K : PySem.W.Frag) : Sp := fun vs H Q _ => ∃ (a b c : Addr) (xs : List V) (n : Nat), vs = [.ref a, .ref b] ∧ SqL K H b xs ∧ xs ≠ [] ∧ xs.length ≤ 1000000 ∧ Wh H a c n ∧ n < 1000000 ∧ (∀ H', Mv a H H' → SqL K H' b xs) ∧ ∀ (v : V) (H' : Hp), v ∈ xs → Mv a H H' → Wh H' a c (n + 1) → Q v H'
theorem ok_law_one : FnOk P w K mg base CX0 2 T.f_law_one T.fd_law_one ["sluice", "some"] (sp_law_one K) := by
  refine T.F_law_one.ok sc_law_one (fun vs H Q E h => ?_) (fun cdv A outer s H vs Q E hr h => ?_)
  · obtain ⟨a, b, c, xs, n, rfl, _⟩ := h
    rfl
  · obtain ⟨a, b, c, xs, n, rfl, hs, hx, hl, hw, hn, hm, q⟩ := h
    refine ⟨_, (pss_one (ps_ret (pe_ix ix_list (pv 1) (pe_call (ok_law_gate T) (hr.mono (by decide)) (by rfl) T.g_law_gate T.F_law_gate.kp T.b_law_gate .nil pass0 (pa_cons (pv 0) (pa_cons (pe_callB call_len_seq (by rfl) T.m_len PySem.boot_len (pa_cons (pv 1) pa_nil)) pa_nil))) (fun _ _ => rfl)))), ?_⟩
    have z : 0 < xs.length := by
      cases xs with
      | nil => exact absurd rfl hx
      | cons x t => simp
    refine ⟨_, rfl, _, rfl, _, rfl, b, xs, rfl, .inl hs, a, c, _, n, rfl, by omega, by omega, hw, hn, fun r H' r0 r1 mv w' => ?_⟩
    obtain ⟨v, hv, ev⟩ := at_lt r0 r1
    exact ⟨b, xs, r, v, rfl, rfl, hm _ mv, ev, q v H' hv mv w'⟩
def sp_law_sluice (K : PySem.W.Frag) : Sp := fun vs H Q _ => ∃ (b : Addr) (xs : List Int), vs = [.ref b] ∧ SqL K H b (xs.map V.int) ∧ ∀ (a c : Addr) (H' : Hp), H a = none → Same H H' → Wh H' a c 0 → Q (.ref a) H'
theorem ok_law_sluice : FnOk P w K mg base CX0 1 T.f_law_sluice T.fd_law_sluice ["script"] (sp_law_sluice K) := by
  refine T.F_law_sluice.ok sc_law_sluice (fun vs H Q E h => ?_) (fun cdv A outer s H vs Q E hr h => ?_)
  · obtain ⟨b, xs, rfl, _⟩ := h
    rfl
  · obtain ⟨b, xs, rfl, hs, q⟩ := h
    refine ⟨_, (pss_one (ps_ret (pe_lst (pa_cons (pe_lc (own := [("cell", 1)]) rfl sc_law_sluice.nd (pi_list (pe_slice sl_list (pv 0) po_none (po_some pe_int))) (blkOk_by (own := [("cell", 1)]) (N := ["script", "cell"]) (sc := defScope s_law_sluice) (by decide +kernel)) (fun _ _ _ _ _ => (pg_name (i := 1) sc_law_sluice.nd rfl (.inl rfl))) (fun _ _ _ _ _ => pts_nil) (fun _ _ _ _ _ => (pe_callTy call_int1 (by rfl) T.m_int (by decide +kernel) (pa_cons (pv 1) pa_nil)))) (pa_cons pe_int (pa_cons pe_int pa_nil)))))), ?_⟩
    refine ⟨_, rfl, _, rfl, b, _, rfl, hs, fun p np => ?_⟩
    have hc : cutV (xs.map V.int) none (some 60) = (xs.take 60).map V.int := by
      rw [List.map_take]
      exact cut_to _ 60
    rw [hc]
    refine ⟨p, rfl, ⟨_, .inl (.inl upd_same)⟩, fun D nD => lc_mapL id (.inl (.inl upd_same)) nD (by rw [List.length_map, List.length_take]; omega) (fun i x Hc Q' R' hx e1 q' => ?_) (fun Hc e1 hD => ?_)⟩
    · obtain ⟨j, _, rfl⟩ := List.mem_map.mp (List.mem_of_getElem? hx)
      refine ⟨rfl, ?_⟩
      refine iteT (B := True) ?_
      exact ⟨_, rfl, .inl ⟨j, rfl, q' Hc (Same.refl _)⟩⟩
    · rw [List.map_id] at hD
      have s0 := (same_new np).trans e1
      refine ⟨by show 3 ≤ sizeLine; decide, fun a na => q a D _ (s0.free na) (s0.trans (same_new na)) ⟨xs.take 60, 0, 0, upd_same, (same_new na) _ _ hD, ?_, by omega, by omega⟩⟩
      rw [List.length_take]
      omega
theorem lenS {t : List Nat} : ((S t).length : Int) = (t.length : Int) := by rw [S_len]
def sp_law_done (K : PySem.W.Frag) : Sp := fun vs H Q _ => ∃ (t u : List Nat) (p : Addr) (e : Ed), vs = [.str (S t), .ref p] ∧ t.length ≤ 200000 ∧ SqQ K H p e.vs ∧ doE t e = some u ∧ Q (.str (S u)) H
theorem ok_law_done : FnOk P w K mg base CX0 1 T.f_law_done T.fd_law_done ["text", "edit"] (sp_law_done K) := by
  refine T.F_law_done.ok sc_law_done (fun vs H Q E h => ?_) (fun cdv A outer s H vs Q E hr h => ?_)
  · obtain ⟨t, u, p, e, rfl, _⟩ := h
    rfl
  · obtain ⟨t, u, p, e, rfl, hl, hq, hd, q⟩ := h
    refine ⟨_, (pss_cons (ps_set (i := 2) sc_law_done.nd rfl (.inl rfl) (pe_ix ix_seq (pv 1) pe_int (fun _ _ => rfl)))
    (pss_cons (ps_if (pt_cmpR op_eq (pe_ix ix_seq (pv 1) pe_int (fun _ _ => rfl)) pe_str (nomark _))
      (pss_one (ps_ret (pe_ifExp (pt_chain op_le op_le pe_int (pv 2) (pe_callB call_len_str (by rfl) T.m_len PySem.boot_len (pa_cons (pv 0) pa_nil))) (pe_op op_add_str (pe_op op_add_str (pe_slice C8.sl_txt (pv 0) po_none (po_some (pv 2))) (pe_ix ix_seq (pv 1) pe_int (fun _ _ => rfl))) (pe_slice C8.sl_txt (pv 0) (po_some (pv 2)) po_none)) pe_non)))
      pss_nil)
    (pss_cons (ps_if (PW.pt (pw_or (pt_not (pt_chain op_le op_lt pe_int (pv 2) (pe_callB call_len_str (by rfl) T.m_len PySem.boot_len (pa_cons (pv 0) pa_nil)))) (pw_or1 (PW.pt (pw_and (pt_cmpR op_eq (pe_ix ix_seq (pv 1) pe_int (fun _ _ => rfl)) pe_str (nomark _)) (pw_and1 (pt_cmpR op_eq (pe_ix ix_seq (pv 1) pe_int (fun _ _ => rfl)) (pe_ix ix_str (pv 0) (pv 2) (fun _ _ => rfl)) (nomark _))))))))
      (pss_one (ps_ret pe_non))
      pss_nil)
    (pss_one (ps_ret (pe_op op_add_str (pe_op op_add_str (pe_slice C8.sl_txt (pv 0) po_none (po_some (pv 2))) (pe_ifExp (pt_cmpR op_eq (pe_ix ix_seq (pv 1) pe_int (fun _ _ => rfl)) pe_str (nomark _)) (pe_ix ix_seq (pv 1) pe_int (fun _ _ => rfl)) pe_str)) (pe_slice C8.sl_txt (pv 0) (po_some (pe_op op_add (pv 2) pe_int)) po_none))))))), ?_⟩
    have a0 : ∀ a : Nat, decide ((0 : Int) ≤ (a : Int)) = true := fun a => decide_eq_true (by omega)
    cases e with
    | put a c =>
      obtain ⟨⟨h1, h2⟩, rfl⟩ := inv_put hd
      refine go_seq (go_asg ⟨_, rfl, ix_q hq (v := .int (a : Nat)) rfl ?_⟩)
      dsimp only [gName]
      refine go_seq (go_if (go_test ⟨_, rfl, ix_q hq (v := .str "put") rfl ⟨rfl, _, rfl, iteT (B := _) ?_⟩⟩))
      refine go_ret ⟨_, rfl, _, _, rfl, rfl, _, rfl, cutTr (a0 a) ⟨_, rfl, S t, rfl, len_le hl, _, _, rfl, rfl, _, rfl, cutTr (by rw [lenS]; exact decide_eq_true (by omega)) ?_⟩⟩
      refine go_op (go_op ⟨_, rfl, _, rfl, (a : Int), rfl, S t, rfl, len_le hl, ?_⟩)
      rw [cut_toN]
      refine ⟨_, rfl, ix_q hq (v := .str (S [c])) rfl ⟨_, _, rfl, rfl, app_le (by rw [List.length_take]; show _ + 1 ≤ _; omega), ?_⟩⟩
      rw [S_app]
      refine ⟨_, rfl, _, rfl, (a : Int), rfl, S t, rfl, len_le hl, ?_⟩
      rw [cut_fromN]
      refine ⟨_, _, rfl, rfl, app_le (by rw [List.length_append, List.length_take, List.length_drop]; show _ + 1 + _ ≤ _; omega), ?_⟩
      rw [S_app]
      exact q
    | lost a =>
      obtain ⟨h1, rfl⟩ := inv_lost hd
      refine go_seq (go_asg ⟨_, rfl, ix_q hq (v := .int (a : Nat)) rfl ?_⟩)
      dsimp only [gName]
      refine go_seq (go_if (go_test ⟨_, rfl, ix_q hq (v := .str "lost") rfl ⟨rfl, _, rfl, iteF (A := _) ?_⟩⟩))
      dsimp only [tNext]
      refine go_seq (go_if (go_or2 (go_not ⟨_, rfl, _, _, rfl, rfl, _, rfl, cutTr (a0 a) ⟨_, rfl, S t, rfl, len_le hl, _, _, rfl, rfl, _, rfl, ?_⟩⟩)))
      have : decide ((a : Int) < ((S t).length : Int)) = true := by rw [lenS]; exact decide_eq_true (by omega)
      rw [this]
      refine iteF (A := _) (go_and2 (go_test ⟨_, rfl, ix_q hq (v := .str "lost") rfl ⟨rfl, _, rfl, iteF (A := _) (iteF (A := _) ?_)⟩⟩))
      dsimp only [tNext]
      refine go_ret (go_op (go_op ⟨_, rfl, _, rfl, (a : Int), rfl, S t, rfl, len_le hl, ?_⟩))
      rw [cut_toN]
      refine ⟨_, rfl, ix_q hq (v := .str "lost") rfl ⟨rfl, _, rfl, iteF (A := _) ?_⟩⟩
      refine ⟨_, S [], rfl, rfl, app_le (by rw [List.length_take]; show _ + 0 ≤ _; omega), ?_⟩
      rw [S_app]
      refine ⟨_, rfl, _, rfl, (a : Int), 1, rfl, rfl, (a : Int) + 1, rfl, S t, rfl, len_le hl, ?_⟩
      rw [cut_fromN1]
      refine ⟨_, _, rfl, rfl, app_le (by rw [List.length_append, List.length_take, List.length_drop]; show _ + 0 + _ ≤ _; omega), ?_⟩
      rw [S_app, List.append_nil]
      exact q
    | chg a c =>
      obtain ⟨⟨h1, h2⟩, rfl⟩ := inv_chg hd
      refine go_seq (go_asg ⟨_, rfl, ix_q hq (v := .int (a : Nat)) rfl ?_⟩)
      dsimp only [gName]
      refine go_seq (go_if (go_test ⟨_, rfl, ix_q hq (v := .str "changed") rfl ⟨rfl, _, rfl, iteF (A := _) ?_⟩⟩))
      dsimp only [tNext]
      refine go_seq (go_if (go_or2 (go_not ⟨_, rfl, _, _, rfl, rfl, _, rfl, cutTr (a0 a) ⟨_, rfl, S t, rfl, len_le hl, _, _, rfl, rfl, _, rfl, ?_⟩⟩)))
      have : decide ((a : Int) < ((S t).length : Int)) = true := by rw [lenS]; exact decide_eq_true (by omega)
      rw [this]
      have e3 : decide (V.str (S [c]) = V.str ⟨#[t.getD a 0]⟩) = false := by
        rw [decide_eq_false]
        intro z
        injection z with z
        have := congrArg (fun x : Str => x.cps.toList) z
        exact h2 (by simpa using this.symm)
      refine iteF (A := _) (go_and2 (go_test ⟨_, rfl, ix_q hq (v := .str "changed") rfl ⟨rfl, _, rfl, iteT (B := _) ?_⟩⟩))
      refine go_test ⟨_, rfl, ix_q hq (v := .str (S [c])) rfl ⟨_, rfl, _, rfl, S t, (a : Int), t.getD a 0, rfl, rfl, len_le hl, sgetD h1, rfl, _, rfl, cutIf e3 ?_⟩⟩
      dsimp only [tNext]
      refine go_ret (go_op (go_op ⟨_, rfl, _, rfl, (a : Int), rfl, S t, rfl, len_le hl, ?_⟩))
      rw [cut_toN]
      refine ⟨_, rfl, ix_q hq (v := .str "changed") rfl ⟨rfl, _, rfl, iteT (B := _) ?_⟩⟩
      refine ⟨_, rfl, ix_q hq (v := .str (S [c])) rfl ⟨_, _, rfl, rfl, app_le (by rw [List.length_take]; show _ + 1 ≤ _; omega), ?_⟩⟩
      rw [S_app]
      refine ⟨_, rfl, _, rfl, (a : Int), 1, rfl, rfl, (a : Int) + 1, rfl, S t, rfl, len_le hl, ?_⟩
      rw [cut_fromN1]
      refine ⟨_, _, rfl, rfl, app_le (by rw [List.length_append, List.length_take, List.length_drop]; show _ + 1 + _ ≤ _; omega), ?_⟩
      rw [S_app]
      exact q
def sp_law_edit (K : PySem.W.Frag) : Sp := fun vs H Q _ => ∃ (a c : Addr) (t sgs : List Nat) (n : Nat), vs = [.ref a, .str (S t), .str (S sgs)] ∧ Wh H a c n ∧ n < 900000 ∧ t.length ≤ 100 ∧ sgs ≠ [] ∧ sgs.length ≤ 50 ∧ (∀ x ∈ sgs, sg x = true) ∧
  ∀ (p : Addr) (e : Ed) (u : List Nat) (H' : Hp), e.ok = true → doE t e = some u → H' p = some (.tup e.vs) → Mv a H H' → Wh H' a c (n + 10) → Q (.ref p) H'
theorem ok_law_edit : FnOk P w K mg base CX0 3 T.f_law_edit T.fd_law_edit ["sluice", "text", "signs"] (sp_law_edit K) := by
  refine T.F_law_edit.ok sc_law_edit (fun vs H Q E h => ?_) (fun cdv A outer s H vs Q E hr h => ?_)
  · obtain ⟨a, c, t, sgs, n, rfl, _⟩ := h
    rfl
  · obtain ⟨a, c, t, sgs, n, rfl, wh, hn, ht, hs0, hs1, hsg, q⟩ := h
    refine ⟨_, (pss_cons (ps_par (i := 3) (j := 4) rfl sc_law_edit.nd rfl rfl (by decide) rfl rfl (pa_cons (pe_call (ok_law_gate T) (hr.mono (by decide)) (by rfl) T.g_law_gate T.F_law_gate.kp T.b_law_gate .nil pass0 (pa_cons (pv 0) (pa_cons pe_int pa_nil))) (pa_cons (pe_call (ok_law_one T) (hr.mono (by decide)) (by rfl) T.g_law_one T.F_law_one.kp T.b_law_one .nil pass0 (pa_cons (pv 0) (pa_cons (pe_callTy (call_list_txt rfl) (by rfl) T.m_list (by decide +kernel) (pa_cons (pv 2) pa_nil)) pa_nil))) pa_nil)) (by rfl))
    (pss_cons (ps_if (PW.pt (pw_or (pt_cmpR op_eq (pv 1) pe_str (nomark _)) (pw_or1 (pt_cmpR op_eq (pv 3) pe_int (nomark _)))))
      (pss_one (ps_ret (pe_tup (pa_cons pe_str (pa_cons (pe_call (ok_law_gate T) (hr.mono (by decide)) (by rfl) T.g_law_gate T.F_law_gate.kp T.b_law_gate .nil pass0 (pa_cons (pv 0) (pa_cons (pe_op op_add (pe_callB call_len_str (by rfl) T.m_len PySem.boot_len (pa_cons (pv 1) pa_nil)) pe_int) pa_nil))) (pa_cons (pv 4) pa_nil))))))
      pss_nil)
    (pss_cons (ps_set (i := 5) sc_law_edit.nd rfl (.inl rfl) (pe_call (ok_law_gate T) (hr.mono (by decide)) (by rfl) T.g_law_gate T.F_law_gate.kp T.b_law_gate .nil pass0 (pa_cons (pv 0) (pa_cons (pe_callB call_len_str (by rfl) T.m_len PySem.boot_len (pa_cons (pv 1) pa_nil)) pa_nil))))
    (pss_cons (ps_if (pt_cmpR op_eq (pv 3) pe_int (nomark _))
      (pss_one (ps_ret (pe_tup (pa_cons pe_str (pa_cons (pv 5) pa_nil)))))
      pss_nil)
    (pss_one (ps_ret (pe_ifExp (pt_cmpR op_ne (pe_ix ix_str (pv 1) (pv 5) (fun _ _ => rfl)) (pv 4) (nomark _)) (pe_tup (pa_cons pe_str (pa_cons (pv 5) (pa_cons (pv 4) pa_nil)))) (pe_tup (pa_cons pe_str (pa_cons (pv 5) pa_nil)))))))))), ?_⟩
    refine go_seq ⟨_, rfl, a, c, 3, n, rfl, by decide, by decide, wh, by omega, fun way H1 y0 y1 m1 w1 => ?_⟩
    refine ⟨_, rfl, _, rfl, sgs, rfl, by omega, fun p np => ?_⟩
    have hpa := w1.ne np
    have ne : signsV sgs ≠ [] := by
      cases sgs with
      | nil => exact absurd rfl hs0
      | cons x r => exact fun z => by cases z
    refine ⟨a, p, c, signsV sgs, _, rfl, .inl (.inl upd_same), ne, by rw [show (signsV sgs).length = sgs.length from List.length_map ..]; omega, w1.new np, by omega, fun H' m => .inl (.inl (m _ _ hpa upd_same)), fun v H2 hv m2 w2 => ?_⟩
    obtain ⟨g, hg, rfl⟩ := in_signs hv
    have hgs := hsg g hg
    have mA : Mv a H H2 := m1.trans ((Mv.of (same_new np)).trans m2)
    clear hv m1 m2 w1 np hpa
    refine ⟨_, _, rfl, ?_⟩
    dsimp only
    have ht2 : t.length ≤ 200000 := by omega
    have mk : ∀ (e : Ed) (H3 : Hp) (k : Nat), e.ok = true → (∃ u, doE t e = some u) → Mv a H H3 → Wh H3 a c (n + k) → k ≤ 10 → ∀ p, H3 p = none → Q (.ref p) (upd H3 p (.tup e.vs)) := fun e H3 k he hd m3 w3 hk p np => by
      obtain ⟨u, hu⟩ := hd
      exact q p e u _ he hu upd_same (m3.trans (Mv.of (same_new np))) ((w3.new np).lt (by omega))
    have nput : ∀ (H3 : Hp) (z : Int), Mv a H2 H3 → Wh H3 a c (n + 1 + 1 + 1) → 0 ≤ z → z < (t.length : Int) + 1 → ∀ p, H3 p = none → Q (.ref p) (upd H3 p (.tup [.str "put", .int z, .str (S [g])])) := fun H3 z m3 w3 z0 z1 p np => by
      obtain ⟨y, rfl⟩ : ∃ y : Nat, z = y := ⟨z.toNat, by omega⟩
      exact mk (.put y g) H3 3 hgs ⟨_, if_pos ⟨by omega, by omega⟩⟩ (mA.trans m3) w3 (by omega) p np
    have lS : (1 : Int) ≤ ((S t).length : Int) + 1 := by rw [lenS]; omega
    have lS2 : ((S t).length : Int) + 1 ≤ 1000000 := by rw [lenS]; omega
    have dp : ∀ (σ : L2.St), σ[0]? = some (some (.ref a)) → σ[1]? = some (some (.str (S t))) → σ[4]? = some (some (.str (S [g]))) → ∀ {t1 : TE}, t1 = tTup (tCons (tC (.str "put")) (tCons (tCall (sp_law_gate K) [] E0 (tCons (tVar 0) (tCons (tOp (rI0 fun i j => .int (i + j)) (tCB (fun xs H Q => ∃ z, xs = [.str z] ∧ z.length ≤ sizeLine ∧ Q (.int z.length) H) (tCons (tVar 1) tNil)) (tC (.int 1))) tNil))) (tCons (tVar 4) tNil))) → t1 σ H2 Q := fun σ h0 h1 h4 t1 e => by
      rw [e]
      refine go_tup (go_cons (go_c (go_cons ⟨_, h0, _, h1, S t, rfl, len_le ht2, _, _, rfl, rfl, a, c, ((S t).length : Int) + 1, n + 1 + 1, rfl, by omega, lS2, w2, by omega, fun r H3 r0 r1 m3 w3 => go_cons ⟨_, h4, go_nil ⟨sz3, fun p np => ?_⟩⟩⟩)))
      exact nput H3 r m3 w3 r0 (by rw [lenS] at r1; exact r1) p np
    cases hE : t.isEmpty with
    | true =>
      refine go_seq (go_if (go_or2 (go_test ⟨_, rfl, rfl, _, rfl, cutTr (by rw [S_nil]; exact hE) (iteT (B := _) ?_)⟩)))
      exact go_ret (dp _ rfl rfl rfl rfl)
    | false =>
      refine go_seq (go_if (go_or2 (go_test ⟨_, rfl, rfl, _, rfl, cutIf (by rw [S_nil]; exact hE) (go_test ⟨_, rfl, rfl, _, rfl, iteC (fun _ => ?_) (fun hw => ?_)⟩)⟩)))
      · exact go_ret (dp _ rfl rfl rfl rfl)
      have lt0 : 0 < t.length := by
        cases t with
        | nil => cases hE
        | cons x r => exact Nat.succ_pos _
      dsimp only [tNext]
      refine go_seq (go_asg ⟨_, rfl, _, rfl, S t, rfl, len_le ht2, a, c, ((S t).length : Int), n + 1 + 1, rfl, by rw [lenS]; omega, by rw [lenS]; omega, w2, by omega, fun r H3 r0 r1 m3 w3 => ?_⟩)
      rw [lenS] at r1
      obtain ⟨z, rfl⟩ : ∃ z : Nat, r = z := ⟨r.toNat, by omega⟩
      have hz : z < t.length := by omega
      have mL : ∀ p, H3 p = none → Q (.ref p) (upd H3 p (.tup [.str "lost", .int (z : Nat)])) := fun p np => mk (.lost z) H3 3 rfl ⟨_, if_pos hz⟩ (mA.trans m3) w3 (by omega) p np
      dsimp only [gName]
      refine go_seq (go_if (go_test ⟨_, rfl, rfl, _, rfl, iteC (fun _ => ?_) (fun _ => ?_)⟩))
      · exact go_ret (go_tup (go_cons (go_c (go_cons (go_var rfl (go_nil ⟨sz2, mL⟩))))))
      dsimp only [tNext]
      refine go_ret ⟨_, rfl, _, rfl, S t, (z : Int), t.getD z 0, rfl, rfl, len_le ht2, sgetD hz, _, rfl, rfl, _, rfl, iteC (fun hh => ?_) (fun hh => ?_)⟩
      · refine go_tup (go_cons (go_c (go_cons (go_var rfl (go_cons (go_var rfl (go_nil ⟨sz3, fun p np => ?_⟩)))))))
        refine mk (.chg z g) H3 3 hgs ⟨_, if_pos ⟨hz, fun e => ?_⟩⟩ (mA.trans m3) w3 (by omega) p np
        rw [e] at hh
        simp at hh
      · exact go_tup (go_cons (go_c (go_cons (go_var rfl (go_nil ⟨sz2, mL⟩)))))
end
end K05
namespace K05
open PySem PySem.Spec PyProof.Rows L2 Kx SX LamX
section
variable {P : Program} {w : World} {K : PySem.W.Frag} {mg : Str → Option Value} {base : Heap} (T : Tx K mg)
def sp_law_damage (K : PySem.W.Frag) : Sp := fun vs H Q _ => ∃ (a c : Addr) (t sgs : List Nat) (m n : Nat), vs = [.ref a, .str (S t), .int (m : Nat), .str (S sgs)] ∧ Wh H a c n ∧ n < 800000 ∧ t.length + m ≤ 90 ∧ sgs ≠ [] ∧ sgs.length ≤ 50 ∧ (∀ x ∈ sgs, sg x = true) ∧
  ∀ (p D : Addr) (es : List Ed) (u : List Nat) (H' : Hp), es.length = m → (∀ e ∈ es, e.ok = true) → Path t es u → EdsL H' D es → H' p = some (.tup [.ref D, .str (S u)]) → H D = none → Mv a H H' → Wh H' a c (n + 10 * m) → Q (.ref p) H'
theorem ok_law_damage : FnOk P w K mg base CX0 4 T.f_law_damage T.fd_law_damage ["sluice", "text", "many", "signs"] (sp_law_damage K) := by
  refine T.F_law_damage.ok sc_law_damage (fun vs H Q E h => ?_) (fun cdv A outer s H vs Q E hr h => ?_)
  · obtain ⟨a, c, t, sgs, m, n, rfl, _⟩ := h
    rfl
  · obtain ⟨a, c, t, sgs, m, n, rfl, wh, hn, ht, hs0, hs1, hsg, q⟩ := h
    refine ⟨_, (pss_cons (ps_set (i := 4) sc_law_damage.nd rfl (.inl rfl) (pe_lst pa_nil))
    (pss_cons (ps_for PassesOwn.never rfl (pi_range1 (by rfl) T.m_range (pa_cons (pv 2) pa_nil)) (pg_name (i := 5) sc_law_damage.nd rfl (.inl rfl))
      (pss_cons (ps_set (i := 6) sc_law_damage.nd rfl (.inl rfl) (pe_call (ok_law_edit T) (hr.mono (by decide)) (by rfl) T.g_law_edit T.F_law_edit.kp T.b_law_edit .nil pass0 (pa_cons (pv 0) (pa_cons (pv 1) (pa_cons (pv 3) pa_nil)))))
      (pss_cons (ps_expr (pe_bm PySem.F.plainAttrs_list PySem.F.slot_list_append PySem.F.type_list_append mt_append (pv 4) (pa_cons (pv 6) pa_nil)))
      (pss_one (ps_set (i := 1) sc_law_damage.nd rfl (.inl rfl) (pe_call (ok_law_done T) (hr.mono (by decide)) (by rfl) T.g_law_done T.F_law_done.kp T.b_law_done .nil pass0 (pa_cons (pv 1) (pa_cons (pv 6) pa_nil))))))))
    (pss_one (ps_ret (pe_tup (pa_cons (pv 4) (pa_cons (pv 1) pa_nil))))))), ?_⟩
    refine go_seq (go_asg (go_lst (go_nil ⟨Nat.zero_le _, fun D nD => ?_⟩)))
    have hDa := wh.ne nD
    have hDc := wh.nc nD
    have w1 := wh.new (o := HO.lst []) nD
    have e1 := same_new (o := HO.lst []) nD
    have hD : upd H D (HO.lst []) D = some (.lst []) := upd_same
    generalize upd H D (HO.lst []) = H1 at w1 e1 hD ⊢
    dsimp only [gName]
    refine go_seq ⟨_, rfl, (m : Int), rfl, by omega, by omega, for_range (lo := 0) (n := ((m : Nat) : Int).toNat) (fun i σ H' => ∃ (o5 o6 : Option V) (es : List Ed) (u : List Nat), σ = [some (.ref a), some (.str (S u)), some (.int (m : Nat)), some (.str (S sgs)), some (.ref D), o5, o6] ∧ es.length = i ∧ (∀ e ∈ es, e.ok = true) ∧ Path t es u ∧ EdsL H' D es ∧ Mv a H H' ∧ Wh H' a c (n + 10 * i))
      ⟨none, none, [], t, rfl, rfl, (fun e m => by cases m), .nil t, ⟨[], hD, rfl, fun i q e x y => by cases x⟩, Mv.of e1, w1⟩ (fun i σ' Hc hi h => ?_) (fun σ' Hc h => ?_)⟩
    · obtain ⟨o5, o6, es, u, rfl, le, ho, hp, hE, mv, wc⟩ := h
      rw [Int.toNat_natCast] at hi
      have lu := (Path.len hp).1
      dsimp only [gName]
      refine go_seq (go_asg ⟨_, rfl, _, rfl, _, rfl, a, c, u, sgs, n + 10 * i, rfl, wc, by omega, by omega, hs0, hs1, hsg, fun p e u' H2 he hd hq m2 w2 => ?_⟩)
      have hE2 : EdsL H2 D es := by
        obtain ⟨ps, h1, h2, h3⟩ := hE
        have na : ∀ {q : Addr} {e : Ed}, Hc q = some (.tup e.vs) → q ≠ a := fun h z => by
          obtain ⟨cs, t', l', g1, _⟩ := wc
          rw [z, g1] at h
          cases h
        exact ⟨ps, m2 _ _ hDa h1, h2, fun i q d x y => m2 _ _ (na (h3 i q d x y)) (h3 i q d x y)⟩
      have hpD : p ≠ D := fun z => by
        obtain ⟨ps, h1, _⟩ := hE2
        rw [z, h1] at hq
        cases hq
      dsimp only [gName]
      obtain ⟨ps, h1, h2, h3⟩ := id hE2
      refine go_seq ⟨_, rfl, .inl ⟨rfl, _, .inl (.inl h1)⟩, _, rfl, D, _, _, rfl, rfl, h1, ?_, ?_⟩
      · rw [List.length_map, h2]
        exact Nat.lt_of_lt_of_le (show es.length < 100 by omega) (by decide)
      have hE3 : EdsL (upd H2 D (.lst (ps.map V.ref ++ [.ref p]))) D (es ++ [e]) := hE2.add (Mv.upd _ _ _) (by rw [upd_ne hpD]; exact hq) (fun ps' h => by
        rw [h1] at h
        injection h with h
        injection h with h
        rw [upd_same, h])
      have hq3 : upd H2 D (.lst (ps.map V.ref ++ [.ref p])) p = some (.tup e.vs) := by rw [upd_ne hpD]; exact hq
      have w3 : Wh (upd H2 D (.lst (ps.map V.ref ++ [.ref p]))) a c (n + 10 * i + 10) := w2.set hDa hDc
      have m3 : Mv a H (upd H2 D (.lst (ps.map V.ref ++ [.ref p]))) := fun b o nb hb => by
        rw [upd_ne (ne_of_none hb nD)]
        exact (mv.trans m2) b o nb hb
      generalize upd H2 D (.lst (ps.map V.ref ++ [.ref p])) = H3 at hE3 hq3 w3 m3 ⊢
      dsimp only
      refine go_asg ⟨_, rfl, _, rfl, u, u', p, e, rfl, by omega, .inr (.inl (.inl hq3)), hd, ?_⟩
      dsimp only [gName]
      refine ⟨_, _, es ++ [e], u', rfl, by rw [List.length_append, le]; rfl, fun x hx => ?_, hp.snoc hd, hE3, m3, w3.lt (by omega)⟩
      rcases List.mem_append.mp hx with hx | hx
      · exact ho x hx
      · rw [List.mem_singleton.mp hx]
        exact he
    · obtain ⟨o5, o6, es, u, rfl, le, ho, hp, hE, mv, wc⟩ := h
      rw [Int.toNat_natCast] at le wc
      refine go_ret (go_tup (go_cons (go_var rfl (go_cons (go_var rfl (go_nil ⟨sz2, fun p np => ?_⟩))))))
      exact q p D es u _ le ho hp (hE.same (same_new np)) upd_same nD (mv.trans (Mv.of (same_new np))) (wc.new np)
/-- H without what is a text's sign -/
def sp_law_text (K : PySem.W.Frag) : Sp := fun vs H Q _ => ∃ (a c : Addr) (m n : Nat), vs = [.ref a, .int (m : Nat)] ∧ Wh H a c n ∧ n < 800000 ∧ m ≤ 100 ∧ ∀ (l : List Nat) (H' : Hp), l.length ≤ m → (∀ x ∈ l, sg x = true) → Mv a H H' → Wh H' a c (n + m + 3) → Q (.str (S l)) H'
theorem ok_law_text : FnOk P w K mg base CX0 3 T.f_law_text T.fd_law_text ["sluice", "most"] (sp_law_text K) := by
  refine T.F_law_text.ok sc_law_text (fun vs H Q E h => ?_) (fun cdv A outer s H vs Q E hr h => ?_)
  · obtain ⟨a, c, m, n, rfl, _⟩ := h
    rfl
  · obtain ⟨a, c, m, n, rfl, wh, hn, hm, q⟩ := h
    refine ⟨_, (pss_cons (ps_set (i := 2) sc_law_text.nd rfl (.inr rfl) (pe_call (ok_law_one T) (hr.mono (by decide)) (by rfl) T.g_law_one T.F_law_one.kp T.b_law_one .nil pass0 (pa_cons (pv 0) (pa_cons (pe_lst (pa_cons pe_str (pa_cons pe_str (pa_cons pe_str (pa_cons pe_str (pa_cons pe_str pa_nil)))))) pa_nil))))
    (pss_one (ps_ret (pe_join pe_str (pe_lc (own := [("turn", 3)]) rfl sc_law_text.nd (pi_range1 (by rfl) T.m_range (pa_cons (pe_call (ok_law_gate T) (hr.mono (by decide)) (by rfl) T.g_law_gate T.F_law_gate.kp T.b_law_gate .nil pass0 (pa_cons (pv 0) (pa_cons (pe_op op_add (pv 1) pe_int) pa_nil))) pa_nil)) (blkOk_by (own := [("turn", 3)]) (N := ["sluice", "most", "signs", "turn"]) (sc := defScope s_law_text) (by decide +kernel)) (fun _ _ _ _ _ => (pg_name (i := 3) sc_law_text.nd rfl (.inl rfl))) (fun _ _ _ _ _ => pts_nil) (fun _ _ _ _ _ => (pe_call (ok_law_one T) (hr.mono (by decide)) (by rfl) T.g_law_one T.F_law_one.kp T.b_law_one .nil pass0 (pa_cons (pv 0) (pa_cons (pe_callTy (call_list_txt rfl) (by rfl) T.m_list (by decide +kernel) (pa_cons (pv 2) pa_nil)) pa_nil))))))))), ?_⟩
    refine go_seq (go_asg ⟨_, rfl, show 5 ≤ sizeLine by decide, fun p np => ?_⟩)
    have hpa := wh.ne np
    refine ⟨a, p, c, _, n, rfl, .inl (.inl upd_same), by simp, (show 5 ≤ 1000000 by decide), wh.new np, by omega, fun H' m => .inl (.inl (m _ _ hpa upd_same)), fun v H1 hv m1 w1 => ?_⟩
    obtain ⟨sgs, rfl, hs0, hs1, hsg⟩ : ∃ sgs : List Nat, v = .str (S sgs) ∧ sgs ≠ [] ∧ sgs.length ≤ 50 ∧ ∀ x ∈ sgs, sg x = true := by
      simp only [List.mem_cons, List.not_mem_nil, or_false] at hv
      rcases hv with rfl | rfl | rfl | rfl | rfl
      · exact ⟨[97, 98, 32], rfl, by simp, by simp, by decide⟩
      · exact ⟨[97, 98, 99, 100, 101, 102, 103, 104, 32, 32], rfl, by simp, by simp, by decide⟩
      · exact ⟨[97, 32], rfl, by simp, by simp, by decide⟩
      · exact ⟨[32, 122], rfl, by simp, by simp, by decide⟩
      · exact ⟨[110, 111, 116, 104, 105, 103, 32, 32], rfl, by simp, by simp, by decide⟩
    have mA : Mv a H H1 := (Mv.of (same_new np)).trans m1
    clear hv m1 np hpa
    have nes : signsV sgs ≠ [] := by
      cases sgs with
      | nil => exact absurd rfl hs0
      | cons x r => exact fun z => by cases z
    dsimp only [gName]
    refine go_ret ⟨⟨_, rfl⟩, _, rfl, _, rfl, _, _, rfl, rfl, a, c, (m : Int) + 1, n + 1, rfl, by omega, by omega, w1, by omega, fun k0 H2 k00 k01 m2 w2 => ?_⟩
    obtain ⟨k, rfl⟩ : ∃ k : Nat, k0 = k := ⟨k0.toNat, by omega⟩
    refine ⟨(k : Int), rfl, by omega, by omega, fun D nD => lc_range (lo := 0) (n := (k : Int).toNat) (fun j H' => ∃ xs : List Nat, H' D = some (.lst (signsV xs)) ∧ Mv a H2 H' ∧ Wh H' a c (n + 2 + j) ∧ xs.length = j ∧ ∀ x ∈ xs, sg x = true)
      ⟨[], upd_same, Mv.of (same_new nD), w2.new nD, rfl, fun x h => by cases h⟩ (fun j Hd hj h => ?_) (fun Hd h => ?_)⟩
    · obtain ⟨xs, hD, m4, w4, lx, vx⟩ := h
      rw [Int.toNat_natCast] at hj
      refine ⟨rfl, ?_⟩
      refine iteT (B := True) ?_
      refine ⟨_, rfl, _, rfl, sgs, rfl, by omega, fun p np => ?_⟩
      have hpa := w4.ne np
      refine ⟨a, p, c, signsV sgs, _, rfl, .inl (.inl upd_same), nes, by rw [show (signsV sgs).length = sgs.length from List.length_map ..]; omega, w4.new np, by omega, fun H' m => .inl (.inl (m _ _ hpa upd_same)), fun v H5 hv m5 w5 => ?_⟩
      obtain ⟨g, hg, rfl⟩ := in_signs hv
      have hDa := w2.ne nD
      have m6 := (Mv.of (same_new (o := HO.lst (signsV sgs)) np)).trans m5
      refine ⟨_, m6 _ _ hDa hD, ?_, xs ++ [g], ?_, ?_, ?_, ?_, ?_⟩
      · have e : (signsV xs).length = j := (List.length_map ..).trans lx
        rw [e]
        exact Nat.lt_of_lt_of_le (show j < 101 by omega) (by decide)
      · rw [upd_same]
        unfold signsV
        rw [List.map_append]
        rfl
      · intro b o' nb h
        rw [upd_ne (ne_of_none h nD)]
        exact (m4.trans m6) b o' nb h
      · exact (w5.lt (show n + 2 + j + 1 ≤ n + 2 + (j + 1) by omega)).set hDa (w2.nc nD)
      · rw [List.length_append, lx]
        rfl
      · intro x hx
        rcases List.mem_append.mp hx with hx | hx
        · exact vx x hx
        · rw [List.mem_singleton.mp hx]
          exact hsg g hg
    · obtain ⟨xs, hD, m4, w4, lx, vx⟩ := h
      rw [signs_map] at hD
      rw [Int.toNat_natCast] at lx w4
      refine ⟨"", D, xs.map fun c => S [c], rfl, rfl, .inl (.inl (.inl hD)), ?_, ?_⟩
      · rw [sum_signs, List.length_map]
        show xs.length + xs.length * 0 ≤ 16777216
        omega
      rw [join_signs]
      exact q xs Hd (by omega) vx (mA.trans (m2.trans m4)) (w4.lt (by omega))
end
end K05
namespace K05
open PySem PySem.Spec PyProof.Rows L2 Kx SX LamX
/-- the part of a BadText or of a BadEdits, with its word; None without an error -/
def TTh (CT CE : Addr) : (XK → Hp → VK → Prop) → Hp → VK → Prop := fun tl H Q => ∀ N : VK, (∀ v H', (∀ H'', Same H' H'' → Q .non H'') → N v H') →
  tl (fun cls d H' => ∃ (dd : Addr) (p : V) (wd : Str), ((cls = .ref CT ∧ wd = "text") ∨ (cls = .ref CE ∧ wd = "edits")) ∧ d = some dd ∧ H' dd = some (.xd [("part", p)]) ∧ ∀ t H'', Same H' H'' → H'' t = some (.tup [.str wd, p]) → Q (.ref t) H'') H N
/-- how isinstance answers for the classes -/
structure KitL {K : PySem.W.Frag} {mg : Str → Option Value} (T : Tx K mg) (D : Addr) (bT bE : Bool) : Prop where
  o : PySem.W.kitOne K (.ref D) (.ref T.k_TooMany) = some false
  f_BadText : PySem.W.kitOne K (.ref D) (.ref T.e_BadText.C) = some bT
  f_BadEdits : PySem.W.kitOne K (.ref D) (.ref T.e_BadEdits.C) = some bE
  f_BadNumber : PySem.W.kitOne K (.ref D) (.ref T.k_BadNumber) = some false
  f_BadBook : PySem.W.kitOne K (.ref D) (.ref T.k_BadBook) = some false
  f_BadMachine : PySem.W.kitOne K (.ref D) (.ref T.k_BadMachine) = some false
  f_BadRow : PySem.W.kitOne K (.ref D) (.ref T.k_BadRow) = some false
  f_Misfit : PySem.W.kitOne K (.ref D) (.ref T.k_Misfit) = some false
theorem kitL_BadText {K : PySem.W.Frag} {mg : Str → Option Value} (T : Tx K mg) : KitL T T.e_BadText.C true false := by
  have q_BadText : T.e_BadText.C = T.k_BadText := same_ref T.e_BadText.gC T.gk_BadText
  have q_BadEdits : T.e_BadEdits.C = T.k_BadEdits := same_ref T.e_BadEdits.gC T.gk_BadEdits
  refine ⟨?_, ?_, ?_, ?_, ?_, ?_, ?_, ?_⟩
  · rw [q_BadText]; exact kitOne_other T.kc_TooMany T.kt_TooMany T.su_BadText_TooMany T.su_BadText_BadText
  · exact kitOne_self
  · rw [q_BadText, q_BadEdits]; exact kitOne_other T.kc_BadEdits T.kt_BadEdits T.su_BadText_BadEdits T.su_BadText_BadText
  · rw [q_BadText]; exact kitOne_other T.kc_BadNumber T.kt_BadNumber T.su_BadText_BadNumber T.su_BadText_BadText
  · rw [q_BadText]; exact kitOne_other T.kc_BadBook T.kt_BadBook T.su_BadText_BadBook T.su_BadText_BadText
  · rw [q_BadText]; exact kitOne_other T.kc_BadMachine T.kt_BadMachine T.su_BadText_BadMachine T.su_BadText_BadText
  · rw [q_BadText]; exact kitOne_other T.kc_BadRow T.kt_BadRow T.su_BadText_BadRow T.su_BadText_BadText
  · rw [q_BadText]; exact kitOne_other T.kc_Misfit T.kt_Misfit T.su_BadText_Misfit T.su_BadText_BadText
theorem kitL_BadEdits {K : PySem.W.Frag} {mg : Str → Option Value} (T : Tx K mg) : KitL T T.e_BadEdits.C false true := by
  have q_BadText : T.e_BadText.C = T.k_BadText := same_ref T.e_BadText.gC T.gk_BadText
  have q_BadEdits : T.e_BadEdits.C = T.k_BadEdits := same_ref T.e_BadEdits.gC T.gk_BadEdits
  refine ⟨?_, ?_, ?_, ?_, ?_, ?_, ?_, ?_⟩
  · rw [q_BadEdits]; exact kitOne_other T.kc_TooMany T.kt_TooMany T.su_BadEdits_TooMany T.su_BadEdits_BadEdits
  · rw [q_BadEdits, q_BadText]; exact kitOne_other T.kc_BadText T.kt_BadText T.su_BadEdits_BadText T.su_BadEdits_BadEdits
  · exact kitOne_self
  · rw [q_BadEdits]; exact kitOne_other T.kc_BadNumber T.kt_BadNumber T.su_BadEdits_BadNumber T.su_BadEdits_BadEdits
  · rw [q_BadEdits]; exact kitOne_other T.kc_BadBook T.kt_BadBook T.su_BadEdits_BadBook T.su_BadEdits_BadEdits
  · rw [q_BadEdits]; exact kitOne_other T.kc_BadMachine T.kt_BadMachine T.su_BadEdits_BadMachine T.su_BadEdits_BadEdits
  · rw [q_BadEdits]; exact kitOne_other T.kc_BadRow T.kt_BadRow T.su_BadEdits_BadRow T.su_BadEdits_BadEdits
  · rw [q_BadEdits]; exact kitOne_other T.kc_Misfit T.kt_Misfit T.su_BadEdits_Misfit T.su_BadEdits_BadEdits
theorem heard_gives {X : Cx} (T : Tx X.K X.mg) {q : Str} {g : Addr} {cdg : Value} : GivesTo X ["ask", "caught", "error", "kinds"] "_law_heard" (defScope s_law_heard) g cdg (defBody s_law_heard) "ask" q (TTh T.e_BadText.C T.e_BadEdits.C) := by
  intro f c' s H Q tl act hc h
  have hr := (0 : Nat)
  refine ⟨_, pss_cons (ps_set (i := 1) sc_law_heard.nd rfl (.inl rfl) pe_non) (pss_cons (ps_keep (X := (cxOf C8.CX0 X.prog X.w X.K X.mg X.base ["ask", "caught", "error", "kinds"] "_law_heard" (defScope s_law_heard) g cdg X.A X.stack s H C8.E0).nox) (c := .ref T.e_BadText.L) (i := 2) (j := 1) (n := "error") (y := "caught")
      (tb := fun W D σ H => ∃ Ech : XK, (∀ cls d σ' H', Ech cls d H' → W cls d σ' H') ∧ σ[0]? = some (some (.ref f)) ∧ H c' = some (CodeO c' q) ∧ tl Ech H fun _ H' => D.nx σ H')
      rfl rfl rfl sc_law_heard.nd rfl rfl rfl rfl rfl ⟨rfl, by decide, .inl T.e_BadText.gL⟩ (by decide) (by decide) (fun W pn xe tk _ => ?_))
      (pss_cons (ps_if (pt_val (pe_callB call_isiX (by rfl) T.m_isinstance (by decide +kernel) (pa_cons (pv 1) (pa_cons (pe_glob (v := .ref T.k_TooMany) (by rfl) T.gk_TooMany rfl) pa_nil))))
      (pss_one (ps_ret (pe_tup (pa_cons (pe_xp (pv 1)) (pa_cons (pe_xp (pv 1)) pa_nil)))))
      pss_nil)
    (pss_cons (ps_set (i := 3) sc_law_heard.nd rfl (.inl rfl) (pe_lst (pa_cons (pe_callB call_isiX (by rfl) T.m_isinstance (by decide +kernel) (pa_cons (pv 1) (pa_cons (pe_glob (v := .ref T.e_BadText.C) (by rfl) T.e_BadText.gC rfl) pa_nil))) (pa_cons (pe_callB call_isiX (by rfl) T.m_isinstance (by decide +kernel) (pa_cons (pv 1) (pa_cons (pe_glob (v := .ref T.e_BadEdits.C) (by rfl) T.e_BadEdits.gC rfl) pa_nil))) (pa_cons (pe_callB call_isiX (by rfl) T.m_isinstance (by decide +kernel) (pa_cons (pv 1) (pa_cons (pe_glob (v := .ref T.k_BadNumber) (by rfl) T.gk_BadNumber rfl) pa_nil))) (pa_cons (pe_callB call_isiX (by rfl) T.m_isinstance (by decide +kernel) (pa_cons (pv 1) (pa_cons (pe_glob (v := .ref T.k_BadBook) (by rfl) T.gk_BadBook rfl) pa_nil))) pa_nil))))))
    (pss_cons (ps_set (i := 3) sc_law_heard.nd rfl (.inl rfl) (pe_op op_cat (pv 3) (pe_lst (pa_cons (pe_callB call_isiX (by rfl) T.m_isinstance (by decide +kernel) (pa_cons (pv 1) (pa_cons (pe_glob (v := .ref T.k_BadMachine) (by rfl) T.gk_BadMachine rfl) pa_nil))) (pa_cons (pe_callB call_isiX (by rfl) T.m_isinstance (by decide +kernel) (pa_cons (pv 1) (pa_cons (pe_glob (v := .ref T.k_BadRow) (by rfl) T.gk_BadRow rfl) pa_nil))) (pa_cons (pe_callB call_isiX (by rfl) T.m_isinstance (by decide +kernel) (pa_cons (pv 1) (pa_cons (pe_glob (v := .ref T.k_Misfit) (by rfl) T.gk_Misfit rfl) pa_nil))) pa_nil))))))
    (pss_cons (ps_if (pt_cmpR op_in_seq pe_bl (pv 3) rfl)
      (pss_one (ps_ret (pe_tup (pa_cons (pe_ix ix_list (pe_lst (pa_cons pe_str (pa_cons pe_str (pa_cons pe_str (pa_cons pe_str (pa_cons pe_str (pa_cons pe_str (pa_cons pe_str pa_nil)))))))) (pe_bm PySem.F.plainAttrs_list PySem.F.slot_list_index PySem.F.type_list_index mt_index (pv 3) (pa_cons pe_bl pa_nil)) (fun _ _ => rfl)) (pa_cons (pe_xp (pv 1)) pa_nil)))))
      pss_nil)
    (pss_one (ps_ret (pe_ifExp (pt_cmpR op_isN (pv 1) pe_non (nomark _)) pe_non (pe_tup (pa_cons pe_str (pa_cons pe_non pa_nil))))))))))), ?_⟩
  · refine ⟨fun pins s' σ H' D I h' => ?_⟩
    obtain ⟨Ech, hW, h1, h2, h3⟩ := h'
    exact (pss_one (ps_expr (act W pn xe Ech _ _ tk hW))).run pins s' σ H' D I ⟨h1, h2, h3⟩
  · refine go_seq (go_asg (go_c ?_))
    dsimp only [gName]
    refine go_seq ⟨_, fun cls d σ' H' h' => ?_, rfl, hc, h _ fun v H' hq => ?_⟩
    · obtain ⟨dd, p, wd, hcls, rfl, hd, hq⟩ := h'
      obtain ⟨D, bT, bE, rfl, kt, ex, xf, np, em, ew⟩ : ∃ (D : Addr) (bT bE : Bool), cls = .ref D ∧ KitL T D bT bE ∧ ExcC X.K D ∧ XfC X.K D ∧ PySem.W.findIn X.K (.ref D) "part" = some none ∧ PySem.W.exmOne X.K (.ref D) (.ref T.e_BadText.L) = some true ∧
          ((bT = true ∧ bE = false ∧ wd = "text") ∨ (bT = false ∧ bE = true ∧ wd = "edits")) := by
        rcases hcls with ⟨rfl, rfl⟩ | ⟨rfl, rfl⟩
        · exact ⟨_, true, false, rfl, kitL_BadText T, T.e_BadText.exc, T.e_BadText.xf, T.e_BadText.np, T.e_BadText.em, .inl ⟨rfl, rfl, rfl⟩⟩
        · have eL : T.e_BadEdits.L = T.e_BadText.L := same_ref T.e_BadEdits.gL T.e_BadText.gL
          exact ⟨_, false, true, rfl, kitL_BadEdits T, T.e_BadEdits.exc, T.e_BadEdits.xf, T.e_BadEdits.np, eL ▸ T.e_BadEdits.em, .inr ⟨rfl, rfl, rfl⟩⟩
      refine ⟨em, fun a na hl => ?_⟩
      have hd1 := same_new (o := exT a (.ref D) (some dd)) na _ _ hd
      have s0 := same_new (o := exT a (.ref D) (some dd)) na
      have ha1 := upd_same (H := H') (a := a) (o := exT a (.ref D) (some dd))
      generalize upd H' a (exT a (.ref D) (some dd)) = H1 at hd1 s0 ha1 ⊢
      match σ', hl with
      | [x0, x1, x2, x3], _ =>
        dsimp only
        refine go_seq (go_if (go_b ?_))
        refine ⟨_, rfl, .inr ⟨a, D, dd, _, .ref T.k_TooMany, .ref T.k_TooMany, false, rfl, ha1, hd1, ex, fun u r => r, kt.o, _, rfl, iteF (A := _) ?_⟩⟩
        dsimp only [tNext]
        refine go_seq (go_asg ?_)
        refine ⟨_, rfl, .inr ⟨a, D, dd, _, .ref T.e_BadText.C, .ref T.e_BadText.C, bT, rfl, ha1, hd1, ex, fun u r => r, kt.f_BadText, ?_⟩⟩
        refine ⟨_, rfl, .inr ⟨a, D, dd, _, .ref T.e_BadEdits.C, .ref T.e_BadEdits.C, bE, rfl, ha1, hd1, ex, fun u r => r, kt.f_BadEdits, ?_⟩⟩
        refine ⟨_, rfl, .inr ⟨a, D, dd, _, .ref T.k_BadNumber, .ref T.k_BadNumber, false, rfl, ha1, hd1, ex, fun u r => r, kt.f_BadNumber, ?_⟩⟩
        refine ⟨_, rfl, .inr ⟨a, D, dd, _, .ref T.k_BadBook, .ref T.k_BadBook, false, rfl, ha1, hd1, ex, fun u r => r, kt.f_BadBook, sz4, fun p1 n1 => ?_⟩⟩
        have s1 := same_new (o := HO.lst [.bl bT, .bl bE, .bl false, .bl false]) n1
        have h1 := upd_same (H := H1) (a := p1) (o := HO.lst [.bl bT, .bl bE, .bl false, .bl false])
        have ha2 := s1 _ _ ha1
        have hd2 := s1 _ _ hd1
        generalize upd H1 p1 (HO.lst [.bl bT, .bl bE, .bl false, .bl false]) = H2 at s1 h1 ha2 hd2 ⊢
        dsimp only [gName]
        refine go_seq (go_asg ⟨_, rfl, ?_⟩)
        refine ⟨_, rfl, .inr ⟨a, D, dd, _, .ref T.k_BadMachine, .ref T.k_BadMachine, false, rfl, ha2, hd2, ex, fun u r => r, kt.f_BadMachine, ?_⟩⟩
        refine ⟨_, rfl, .inr ⟨a, D, dd, _, .ref T.k_BadRow, .ref T.k_BadRow, false, rfl, ha2, hd2, ex, fun u r => r, kt.f_BadRow, ?_⟩⟩
        refine ⟨_, rfl, .inr ⟨a, D, dd, _, .ref T.k_Misfit, .ref T.k_Misfit, false, rfl, ha2, hd2, ex, fun u r => r, kt.f_Misfit, sz3, fun p2 n2 => ?_⟩⟩
        refine ⟨p1, p2, _, _, rfl, rfl, same_new n2 _ _ h1, upd_same, (show 4 + 3 ≤ sizeLine by decide), fun p3 n3 => ?_⟩
        have s2 := (same_new (o := HO.lst [.bl false, .bl false, .bl false]) n2).trans (same_new (o := HO.lst ([.bl bT, .bl bE, .bl false, .bl false] ++ [.bl false, .bl false, .bl false])) n3)
        have h3 := upd_same (H := upd H2 p2 (HO.lst [.bl false, .bl false, .bl false])) (a := p3) (o := HO.lst ([.bl bT, .bl bE, .bl false, .bl false] ++ [.bl false, .bl false, .bl false]))
        have ha3 := s2 _ _ ha2
        have hd3 := s2 _ _ hd2
        generalize upd (upd H2 p2 (HO.lst [.bl false, .bl false, .bl false])) p3 (HO.lst ([.bl bT, .bl bE, .bl false, .bl false] ++ [.bl false, .bl false, .bl false])) = H3 at s2 h3 ha3 hd3 ⊢
        dsimp only [gName]
        have sA := s0.trans (s1.trans s2)
        rcases ew with ⟨rfl, rfl, rfl⟩ | ⟨rfl, rfl, rfl⟩
        · refine go_seq (go_if (go_test (go_op (go_c (go_var rfl ⟨p3, _, rfl, .inl (.inl (.inl h3)), rfl, rfl, _, rfl, ?_⟩)))))
          refine iteT (B := _) ?_
          refine go_ret ?_
          refine ⟨(show 7 ≤ sizeLine by decide), fun p4 n4 => ?_⟩
          have s4 := same_new (o := HO.lst [.str "text", .str "edits", .str "number", .str "book", .str "machine", .str "row", .str "misfit"]) n4
          refine ⟨_, rfl, .inl ⟨rfl, _, .inl (.inl (s4 _ _ h3))⟩, p3, _, .bl true, 0, .bl true, rfl, rfl, .inl (.inl (s4 _ _ h3)), rfl, rfl, rfl, rfl, fun m z' hm hz => ?_, p4, _, (0 : Nat), .str "text", rfl, rfl, .inl (.inl upd_same), rfl, ?_⟩
          · match m, hm with
            | _, hm => exact absurd hm (Nat.not_lt_zero _)
          refine ⟨_, rfl, a, D, dd, _, p, rfl, s4 _ _ ha3, s4 _ _ hd3, xf, np, rfl, sz2, fun t nt => ?_⟩
          exact hq t _ ((sA.trans s4).trans (same_new nt)) upd_same
        · refine go_seq (go_if (go_test (go_op (go_c (go_var rfl ⟨p3, _, rfl, .inl (.inl (.inl h3)), rfl, rfl, _, rfl, ?_⟩)))))
          refine iteT (B := _) ?_
          refine go_ret ?_
          refine ⟨(show 7 ≤ sizeLine by decide), fun p4 n4 => ?_⟩
          have s4 := same_new (o := HO.lst [.str "text", .str "edits", .str "number", .str "book", .str "machine", .str "row", .str "misfit"]) n4
          refine ⟨_, rfl, .inl ⟨rfl, _, .inl (.inl (s4 _ _ h3))⟩, p3, _, .bl true, 1, .bl true, rfl, rfl, .inl (.inl (s4 _ _ h3)), rfl, rfl, rfl, rfl, fun m z' hm hz => ?_, p4, _, (1 : Nat), .str "edits", rfl, rfl, .inl (.inl upd_same), rfl, ?_⟩
          · match m, hm with
            | 0, _ => cases hz; rfl
          refine ⟨_, rfl, a, D, dd, _, p, rfl, s4 _ _ ha3, s4 _ _ hd3, xf, np, rfl, sz2, fun t nt => ?_⟩
          exact hq t _ ((sA.trans s4).trans (same_new nt)) upd_same
    · dsimp only
      refine go_seq (go_if (go_b ?_))
      have no : ∀ (kX : Addr), PySem.W.isClsIn X.K kX = true → PySem.W.typeIn X.K (.ref kX) = some (.type "type") → PySem.W.kitOne X.K (.type "NoneType") (.ref kX) = some false := fun kX h1 h2 => kitOne_no h1 h2 sub_non
      have q_BadText : T.e_BadText.C = T.k_BadText := same_ref T.e_BadText.gC T.gk_BadText
      have q_BadEdits : T.e_BadEdits.C = T.k_BadEdits := same_ref T.e_BadEdits.gC T.gk_BadEdits
      have k_BadText : PySem.W.kitOne X.K (.type "NoneType") (.ref T.e_BadText.C) = some false := by
        rw [q_BadText]
        exact no _ T.kc_BadText T.kt_BadText
      have k_BadEdits : PySem.W.kitOne X.K (.type "NoneType") (.ref T.e_BadEdits.C) = some false := by
        rw [q_BadEdits]
        exact no _ T.kc_BadEdits T.kt_BadEdits
      refine ⟨_, rfl, .inl ⟨.non, .ref T.k_TooMany, _, _, false, rfl, .own _, .base .non, no _ T.kc_TooMany T.kt_TooMany, _, rfl, iteF (A := _) ?_⟩⟩
      dsimp only [tNext]
      refine go_seq (go_asg ?_)
      refine ⟨_, rfl, .inl ⟨.non, .ref T.e_BadText.C, _, _, false, rfl, .own _, .base .non, k_BadText, ?_⟩⟩
      refine ⟨_, rfl, .inl ⟨.non, .ref T.e_BadEdits.C, _, _, false, rfl, .own _, .base .non, k_BadEdits, ?_⟩⟩
      refine ⟨_, rfl, .inl ⟨.non, .ref T.k_BadNumber, _, _, false, rfl, .own _, .base .non, no _ T.kc_BadNumber T.kt_BadNumber, ?_⟩⟩
      refine ⟨_, rfl, .inl ⟨.non, .ref T.k_BadBook, _, _, false, rfl, .own _, .base .non, no _ T.kc_BadBook T.kt_BadBook, sz4, fun p1 n1 => ?_⟩⟩
      have s1 := same_new (o := HO.lst [.bl false, .bl false, .bl false, .bl false]) n1
      have h1 := upd_same (H := H') (a := p1) (o := HO.lst [.bl false, .bl false, .bl false, .bl false])
      generalize upd H' p1 (HO.lst [.bl false, .bl false, .bl false, .bl false]) = H2 at s1 h1 ⊢
      dsimp only [gName]
      refine go_seq (go_asg ⟨_, rfl, ?_⟩)
      refine ⟨_, rfl, .inl ⟨.non, .ref T.k_BadMachine, _, _, false, rfl, .own _, .base .non, no _ T.kc_BadMachine T.kt_BadMachine, ?_⟩⟩
      refine ⟨_, rfl, .inl ⟨.non, .ref T.k_BadRow, _, _, false, rfl, .own _, .base .non, no _ T.kc_BadRow T.kt_BadRow, ?_⟩⟩
      refine ⟨_, rfl, .inl ⟨.non, .ref T.k_Misfit, _, _, false, rfl, .own _, .base .non, no _ T.kc_Misfit T.kt_Misfit, sz3, fun p2 n2 => ?_⟩⟩
      refine ⟨p1, p2, _, _, rfl, rfl, same_new n2 _ _ h1, upd_same, (show 4 + 3 ≤ sizeLine by decide), fun p3 n3 => ?_⟩
      have s2 := (same_new (o := HO.lst [.bl false, .bl false, .bl false]) n2).trans (same_new (o := HO.lst ([.bl false, .bl false, .bl false, .bl false] ++ [.bl false, .bl false, .bl false])) n3)
      have h3 := upd_same (H := upd H2 p2 (HO.lst [.bl false, .bl false, .bl false])) (a := p3) (o := HO.lst ([.bl false, .bl false, .bl false, .bl false] ++ [.bl false, .bl false, .bl false]))
      generalize upd (upd H2 p2 (HO.lst [.bl false, .bl false, .bl false])) p3 (HO.lst ([.bl false, .bl false, .bl false, .bl false] ++ [.bl false, .bl false, .bl false])) = H3 at s2 h3 ⊢
      dsimp only [gName]
      refine go_seq (go_if (go_test (go_op (go_c (go_var rfl ⟨p3, _, rfl, .inl (.inl (.inl h3)), rfl, rfl, _, rfl, ?_⟩)))))
      refine iteF (A := _) ?_
      dsimp only [tNext]
      exact go_ret ⟨_, rfl, rfl, _, rfl, iteT (B := _) (go_c (hq _ (s1.trans s2)))⟩
end K05
namespace K05
open PySem PySem.Spec PyProof.Rows L2 Kx SX LamX
/-! ### lists of things, each of them good -/
section
variable {Gd : Hp → V → Prop}
def OneG (Gd : Hp → V → Prop) (te : TE) (σ : L2.St) (H0 : Hp) : Prop := ∀ H, Same H0 H → ∀ Q : VK, (∀ v H', Same H H' → Gd H' v → Q v H') → te σ H Q
def AllG (Gd : Hp → V → Prop) (n : Nat) (ta : TA) (σ : L2.St) (H0 : Hp) : Prop := ∀ H, Same H0 H → ∀ Q : List V → Hp → Prop, (∀ vs H', Same H H' → vs.length = n → (∀ v ∈ vs, Gd H' v) → Q vs H') → ta σ H Q
theorem AllG.nil {σ : L2.St} {H0 : Hp} : AllG Gd 0 tNil σ H0 := fun H e Q q => go_nil (q [] H (Same.refl _) rfl fun v m => by cases m)
theorem AllG.cons {n : Nat} {te : TE} {ta : TA} {σ : L2.St} {H0 : Hp} (st : ∀ {H H' v}, Same H H' → Gd H v → Gd H' v) (h1 : OneG Gd te σ H0) (h2 : AllG Gd n ta σ H0) : AllG Gd (n + 1) (tCons te ta) σ H0 := fun H e Q q =>
  go_cons (h1 H e _ fun v H1 e1 hv => h2 H1 (e.trans e1) _ fun vs H2 e2 l hvs => q (v :: vs) H2 (e1.trans e2) (by rw [List.length_cons, l]) fun x m => by
    rcases List.mem_cons.mp m with rfl | m
    · exact st e2 hv
    · exact hvs x m)
end
section
variable {P : Program} {w : World} {K : PySem.W.Frag} {mg : Str → Option Value} {base : Heap} (T : Tx K mg)
/-- odd for t, whatever is drawn behind it -/
def OddC (K : PySem.W.Frag) (a : Addr) (t : List Nat) (H : Hp) (v : V) : Prop := OddAt K (core a H) t v
theorem core_same2 {a : Addr} {H H' : Hp} (m : Mv a H H') : Same (core a H) (core a H') := fun b o h => by
  obtain ⟨h1, h2, h3⟩ := of_core h
  exact core_at (m b o h1 h2) h1 h3
theorem OddC.mv {a : Addr} {t : List Nat} {H H' : Hp} {v : V} (m : Mv a H H') (h : OddC K a t H v) : OddC K a t H' v := OddAt.same (core_same2 m) h
theorem OddC.same {a : Addr} {t : List Nat} {H H' : Hp} {v : V} (m : Same H H') (h : OddC K a t H v) : OddC K a t H' v := h.mv (Mv.of m)
theorem tup_core {a c p : Addr} {n : Nat} {H : Hp} {xs : List V} (w : Wh H a c n) (np : H p = none) : SqQ K (core a (upd H p (.tup xs))) p xs := .inr (.inl (.inl (core_at upd_same (w.ne np) (fun _ z => by cases z))))
/-- a place that is none -/
def LowP (K : PySem.W.Frag) (a : Addr) (H : Hp) (v : V) : Prop := (HasInt K (core a H) v ∧ withinV v (some 0) none = false) ∨ v = .int ((100000000000000000000 : Nat) : Int)
theorem LowP.same {a : Addr} {H H' : Hp} {v : V} (m : Same H H') (h : LowP K a H v) : LowP K a H' v := h.imp (fun h => ⟨h.1.same (core_same2 (Mv.of m)), h.2⟩) id
/-- a list of odd things -/
def FoundAt (K : PySem.W.Frag) (a : Addr) (t : List Nat) (H : Hp) (D : Addr) (n : Nat) : Prop := D ≠ a ∧ ∃ xs, H D = some (.lst xs) ∧ xs.length = n ∧ ∀ v ∈ xs, OddC K a t H v
theorem FoundAt.mv {a D : Addr} {t : List Nat} {H H' : Hp} {n : Nat} (m : Mv a H H') (h : FoundAt K a t H D n) : FoundAt K a t H' D n := by
  obtain ⟨h0, xs, h1, h2, h3⟩ := h
  exact ⟨h0, xs, m _ _ h0 h1, h2, fun v hv => (h3 v hv).mv m⟩
def FndE (K : PySem.W.Frag) (a : Addr) (t : List Nat) (te : TE) (σ : L2.St) (H0 : Hp) (n : Nat) : Prop := ∀ H, Same H0 H → ∀ Q : VK, (∀ D H', Same H H' → FoundAt K a t H' D n → Q (.ref D) H') → te σ H Q
section
variable {a c : Addr} {t : List Nat} {H0 : Hp} {σ : L2.St} {te tb : TE} {ta : TA} {n m k : Nat}
theorem FndE.var {i : Nat} {D : Addr} (hi : σ[i]? = some (some (.ref D))) (h : FoundAt K a t H0 D n) : FndE K a t (tVar i) σ H0 n := fun H e Q q => go_var hi (q D H (Same.refl _) (h.mv (Mv.of e)))
theorem FndE.lst (w : Wh H0 a c k) (h : AllG (OddC K a t) n ta σ H0) (hn : n ≤ 200) : FndE K a t (tLst ta) σ H0 n := fun H e Q q => go_lst (h H e _ fun xs H1 e1 lx hx => ⟨by rw [lx]; exact Nat.le_trans hn (by decide), fun D nD =>
  q D _ (e1.trans (same_new nD)) ⟨(w.same (e.trans e1)).ne nD, xs, upd_same, lx, fun v hv => (hx v hv).same (same_new nD)⟩⟩)
theorem FndE.cat (w : Wh H0 a c k) (h1 : FndE K a t te σ H0 n) (h2 : FndE K a t tb σ H0 m) (hn : n + m ≤ 200) : FndE K a t (tOp rCat te tb) σ H0 (n + m) := fun H e Q q =>
  go_op (h1 H e _ fun D1 H1 e1 f1 => h2 H1 (e.trans e1) _ fun D2 H2 e2 f2 => by
    obtain ⟨_, xs, a1, a2, a3⟩ := f1.mv (Mv.of e2)
    obtain ⟨_, ys, b1, b2, b3⟩ := f2
    refine ⟨D1, D2, xs, ys, rfl, rfl, a1, b1, by rw [a2, b2]; exact Nat.le_trans hn (by decide), fun D nD => ?_⟩
    refine q D _ ((e1.trans e2).trans (same_new nD)) ⟨(w.same (e.trans (e1.trans e2))).ne nD, xs ++ ys, upd_same, by rw [List.length_append, a2, b2], fun v hv => ?_⟩
    rcases List.mem_append.mp hv with hv | hv
    · exact (a3 v hv).same (same_new nD)
    · exact (b3 v hv).same (same_new nD))
end
def sp_law_odd (K : PySem.W.Frag) : Sp := fun vs H Q _ => ∃ (a c : Addr) (t : List Nat) (n : Nat), vs = [.ref a, .str (S t)] ∧ Wh H a c n ∧ n < 900000 ∧ t.length ≤ 100 ∧ (∀ x ∈ t, sg x = true) ∧
  ∀ (v : V) (H' : Hp), OddC K a t H' v → Mv a H H' → Wh H' a c (n + 5) → Q v H'
theorem ok_law_odd : FnOk P w K mg base CX0 3 T.f_law_odd T.fd_law_odd ["sluice", "text"] (sp_law_odd K) := by
  refine T.F_law_odd.ok sc_law_odd (fun vs H Q E h => ?_) (fun cdv A outer s H vs Q E hr h => ?_)
  · obtain ⟨a, c, t, n, rfl, _⟩ := h
    rfl
  · obtain ⟨a, c, t, n, rfl, wh, hn, ht, hsg, q⟩ := h
    refine ⟨_, (pss_cons (ps_par (i := 2) (j := 3) rfl sc_law_odd.nd rfl rfl (by decide) rfl rfl (pa_cons (pe_callB call_len_str (by rfl) T.m_len PySem.boot_len (pa_cons (pv 1) pa_nil)) (pa_cons (pe_call (ok_law_one T) (hr.mono (by decide)) (by rfl) T.g_law_one T.F_law_one.kp T.b_law_one .nil pass0 (pa_cons (pv 0) (pa_cons (pe_lst (pa_cons (pe_un un_neg pe_int) (pa_cons pe_non (pa_cons pe_bl (pa_cons pe_str (pa_cons (pe_lst (pa_cons pe_int pa_nil)) (pa_cons (pe_op op_pow pe_int pe_int) pa_nil))))))) pa_nil))) pa_nil)) (by rfl))
    (pss_cons (ps_set (i := 4) sc_law_odd.nd rfl (.inl rfl) (pe_lst (pa_cons (pe_tup (pa_cons pe_str (pa_cons (pv 2) pa_nil))) (pa_cons (pe_tup (pa_cons pe_str (pa_cons (pe_op op_add (pv 2) pe_int) (pa_cons pe_str pa_nil)))) (pa_cons (pe_tup (pa_cons pe_str (pa_cons (pv 2) (pa_cons pe_str pa_nil)))) (pa_cons (pe_tup (pa_cons pe_str (pa_cons (pv 3) pa_nil))) (pa_cons (pe_tup (pa_cons pe_str (pa_cons (pv 3) (pa_cons pe_str pa_nil)))) (pa_cons (pe_tup (pa_cons pe_str (pa_cons (pv 3) (pa_cons pe_str pa_nil)))) (pa_cons (pe_tup (pa_cons pe_str pa_nil)) (pa_cons (pe_tup (pa_cons pe_str (pa_cons pe_int (pa_cons pe_str pa_nil)))) pa_nil))))))))))
    (pss_cons (ps_set (i := 4) sc_law_odd.nd rfl (.inl rfl) (pe_op op_cat (pv 4) (pe_lst (pa_cons (pe_tup (pa_cons pe_str (pa_cons pe_int pa_nil))) (pa_cons (pe_tup (pa_cons pe_str (pa_cons pe_int (pa_cons pe_str pa_nil)))) (pa_cons (pe_tup (pa_cons pe_str (pa_cons pe_int (pa_cons pe_str pa_nil)))) pa_nil))))))
    (pss_cons (ps_set (i := 4) sc_law_odd.nd rfl (.inl rfl) (pe_op op_cat (pv 4) (pe_lst (pa_cons (pe_tup (pa_cons pe_str (pa_cons pe_int (pa_cons pe_str pa_nil)))) (pa_cons (pe_tup (pa_cons pe_str (pa_cons pe_int (pa_cons pe_int pa_nil)))) (pa_cons (pe_tup (pa_cons pe_str (pa_cons pe_int (pa_cons pe_non pa_nil)))) (pa_cons (pe_tup (pa_cons pe_str (pa_cons pe_int (pa_cons pe_str pa_nil)))) (pa_cons (pe_tup (pa_cons pe_str (pa_cons pe_int pa_nil))) (pa_cons (pe_tup (pa_cons pe_int (pa_cons pe_int pa_nil))) (pa_cons pe_non (pa_cons pe_int (pa_cons pe_str (pa_cons (pe_disp (pps_cons pe_str pe_int pps_nil) (by rfl) (by rfl) (fun z => by cases z) (by decide)) (pa_cons (pe_tup (pa_cons pe_str (pa_cons pe_int (pa_cons pe_str pa_nil)))) (pa_cons (pe_tup (pa_cons pe_str (pa_cons pe_int (pa_cons pe_str (pa_cons pe_int pa_nil))))) (pa_cons (pe_tup pa_nil) pa_nil))))))))))))))))
    (pss_cons (ps_if (pt_cmpR op_gt (pv 2) pe_int (nomark _))
      (pss_cons (ps_set (i := 5) sc_law_odd.nd rfl (.inl rfl) (pe_call (ok_law_gate T) (hr.mono (by decide)) (by rfl) T.g_law_gate T.F_law_gate.kp T.b_law_gate .nil pass0 (pa_cons (pv 0) (pa_cons (pv 2) pa_nil))))
      (pss_one (ps_set (i := 4) sc_law_odd.nd rfl (.inl rfl) (pe_op op_cat (pe_op op_cat (pv 4) (pe_op op_rep (pe_lst (pa_cons (pe_tup (pa_cons pe_str (pa_cons (pv 5) (pa_cons (pe_ix ix_str (pv 1) (pv 5) (fun _ _ => rfl)) pa_nil)))) pa_nil)) pe_int)) (pe_lst (pa_cons (pe_tup (pa_cons pe_str (pa_cons (pv 5) pa_nil))) (pa_cons (pe_tup (pa_cons pe_str (pa_cons (pv 5) (pa_cons pe_str pa_nil)))) pa_nil)))))))
      pss_nil)
    (pss_one (ps_ret (pe_call (ok_law_one T) (hr.mono (by decide)) (by rfl) T.g_law_one T.F_law_one.kp T.b_law_one .nil pass0 (pa_cons (pv 0) (pa_cons (pv 4) pa_nil)))))))))), ?_⟩
    have hl : t.length ≤ 200000 := by omega
    refine go_seq ⟨_, rfl, S t, rfl, len_le hl, ?_⟩
    rw [lenS]
    refine ⟨_, rfl, _, rfl, sz1, fun p0 n0 => ?_⟩
    have w0 := wh.new (o := HO.lst [V.int 0]) n0
    have x0 := same_new (o := HO.lst [V.int 0]) n0
    have h0 : upd H p0 (HO.lst [V.int 0]) p0 = some (.lst [V.int 0]) := upd_same
    have h0a := wh.ne n0
    generalize upd H p0 (HO.lst [V.int 0]) = H1 at w0 x0 h0 ⊢
    refine ⟨_, _, rfl, rfl, ⟨by decide, by decide, by decide⟩, show 6 ≤ sizeLine by decide, fun p1 n1 => ?_⟩
    have hpa := w0.ne n1
    refine ⟨a, p1, c, _, _, rfl, .inl (.inl upd_same), by simp, (show 6 ≤ 1000000 by decide), w0.new n1, by omega, fun H' m => .inl (.inl (m _ _ hpa upd_same)), fun low H2 hv m2 w2 => ?_⟩
    have hlow : LowP K a H2 low := by
      simp only [List.mem_cons, List.not_mem_nil, or_false] at hv
      rcases hv with rfl | rfl | rfl | rfl | rfl | rfl
      · exact .inl ⟨hasInt_int _, rfl⟩
      · exact .inl ⟨hasInt_non, rfl⟩
      · exact .inl ⟨hasInt_bl _, rfl⟩
      · exact .inl ⟨hasInt_str _, rfl⟩
      · exact .inl ⟨hasInt_lst (.inl (.inl (core_at (m2 _ _ h0a (same_new n1 _ _ h0)) h0a (fun _ z => by cases z)))), rfl⟩
      · exact .inr rfl
    have mA : Mv a H H2 := (Mv.of x0).trans ((Mv.of (same_new n1)).trans m2)
    clear hv m2 n1 hpa h0 h0a w0 x0 n0
    refine ⟨_, _, rfl, ?_⟩
    dsimp only
    have st : ∀ {H H' : Hp} {v : V}, Same H H' → OddC K a t H v → OddC K a t H' v := fun e h => h.same e
    -- each kind of what is none
    have wat : ∀ {H' : Hp}, Same H2 H' → Wh H' a c (n + 1) := fun e => w2.same e
    have stuck : ∀ {H' : Hp} {p : Addr} (e : Ed), Same H2 H' → H' p = none → e.ok = true → doE t e = none → OddC K a t (upd H' p (.tup e.vs)) (.ref p) := fun e e1 np ho hd => .inr ⟨_, e, rfl, tup_core (wat e1) np, ho, hd⟩
    have lowO : ∀ {H' : Hp} {p : Addr} (e : Nat → Ed) (s : Str) (r : List V), Same H2 H' → H' p = none → r.length ≤ 1 → (∀ z, (e z).vs = .str s :: .int (z : Nat) :: r) → (∀ z, (e z).ok = true) → (∀ z, t.length < z → doE t (e z) = none) → OddC K a t (upd H' p (.tup (.str s :: low :: r))) (.ref p) := fun {H' p} e s r e1 np lr hvs ho hd => by
      rcases hlow.same (e1.trans (same_new np)) with ⟨h1, h2⟩ | rfl
      · exact .inl (.place (tup_core (wat e1) np) lr h1 h2)
      · have := stuck (e 100000000000000000000) e1 np (ho _) (hd _ (by omega))
        rw [hvs] at this
        exact this
    have okP : ∀ a c, sg c = true → (Ed.put a c).ok = true := fun a c h => h
    have noL : ∀ z, t.length ≤ z → doE t (.lost z) = none := fun z h => if_neg (by omega)
    have noP : ∀ z x, t.length < z → doE t (.put z x) = none := fun z x h => if_neg (by omega)
    have noC : ∀ z x, t.length ≤ z → doE t (.chg z x) = none := fun z x h => if_neg (by omega)
    have sgn : ∀ {H' : Hp} {p : Addr} {s : Str} {z : Nat} {v : V} (o : Option (List Nat)), Same H2 H' → H' p = none → (s = "put" ∨ s = "changed") → (∀ H', StrIs K H' v o) → o.elim false signB = false → OddC K a t (upd H' p (.tup [.str s, .int (z : Nat), v])) (.ref p) := fun o e1 np hs hv ho => .inl (.sign (tup_core (wat e1) np) hs (hv _) ho)
    refine go_seq (go_asg ?_)
    have first : AllG (OddC K a t) 8 (tCons (tTup (tCons (tC (.str "lost")) (tCons (tVar 2) tNil))) (tCons (tTup (tCons (tC (.str "put")) (tCons (tOp (rI0 fun i j => .int (i + j)) (tVar 2) (tC (.int 1))) (tCons (tC (.str "a")) tNil)))) (tCons (tTup (tCons (tC (.str "changed")) (tCons (tVar 2) (tCons (tC (.str "a")) tNil))))
        (tCons (tTup (tCons (tC (.str "lost")) (tCons (tVar 3) tNil))) (tCons (tTup (tCons (tC (.str "put")) (tCons (tVar 3) (tCons (tC (.str "a")) tNil)))) (tCons (tTup (tCons (tC (.str "changed")) (tCons (tVar 3) (tCons (tC (.str " ")) tNil))))
        (tCons (tTup (tCons (tC (.str "lost")) tNil)) (tCons (tTup (tCons (tC (.str "lost")) (tCons (tC (.int 0)) (tCons (tC (.str "a")) tNil)))) tNil)))))))) [some (.ref a), some (.str (S t)), some (.int (t.length : Nat)), some low, none, none] H2 := by
      refine .cons st (fun H e Q q => go_tup (go_cons (go_c (go_cons (go_var rfl (go_nil ⟨sz2, fun p np => q _ _ (same_new np) (stuck (.lost t.length) e np rfl (noL _ (Nat.le_refl _)))⟩)))))) ?_
      refine .cons st (fun H e Q q => go_tup (go_cons (go_c (go_cons ⟨_, rfl, _, _, rfl, rfl, go_cons (go_c (go_nil ⟨sz3, fun p np => q _ _ (same_new np) (stuck (.put (t.length + 1) 97) e np (show sg 97 = true by decide) (noP _ _ (Nat.lt_succ_self _)))⟩))⟩)))) ?_
      refine .cons st (fun H e Q q => go_tup (go_cons (go_c (go_cons (go_var rfl (go_cons (go_c (go_nil ⟨sz3, fun p np => q _ _ (same_new np) (stuck (.chg t.length 97) e np (show sg 97 = true by decide) (noC _ _ (Nat.le_refl _)))⟩)))))))) ?_
      refine .cons st (fun H e Q q => go_tup (go_cons (go_c (go_cons (go_var rfl (go_nil ⟨sz2, fun p np => q _ _ (same_new np) (lowO (fun z => .lost z) "lost" [] e np (by decide) (fun z => rfl) (fun z => rfl) (fun z h => noL z (by omega)))⟩)))))) ?_
      refine .cons st (fun H e Q q => go_tup (go_cons (go_c (go_cons (go_var rfl (go_cons (go_c (go_nil ⟨sz3, fun p np => q _ _ (same_new np) (lowO (fun z => .put z 97) "put" [.str "a"] e np (by decide) (fun z => rfl) (fun z => show sg 97 = true by decide) (fun z h => noP z _ h))⟩)))))))) ?_
      refine .cons st (fun H e Q q => go_tup (go_cons (go_c (go_cons (go_var rfl (go_cons (go_c (go_nil ⟨sz3, fun p np => q _ _ (same_new np) (lowO (fun z => .chg z 32) "changed" [.str " "] e np (by decide) (fun z => rfl) (fun z => show sg 32 = true by decide) (fun z h => noC z _ (by omega)))⟩)))))))) ?_
      refine .cons st (fun H e Q q => go_tup (go_cons (go_c (go_nil ⟨sz1, fun p np => q _ _ (same_new np) (.inl (.size (tup_core (wat e) np) (by decide) (by decide)))⟩)))) ?_
      exact .cons st (fun H e Q q => go_tup (go_cons (go_c (go_cons (go_c (go_cons (go_c (go_nil ⟨sz3, fun p np => q _ _ (same_new np) (.inl (.three (a := 0) (tup_core (wat e) np)))⟩)))))))) .nil
    have f1 := FndE.lst w2 first (by decide)
    refine f1 H2 (Same.refl _) _ fun D H3 e3 hD => ?_
    dsimp only [gName]
    have w3 := w2.same e3
    have nOne : ∀ {l : List Nat}, l.length ≤ 1000 → (∀ H', StrIs K H' (.str (S l)) (some l)) := fun h H' => ⟨rfl, by omega⟩
    have nInt : ∀ (i : Int) (H' : Hp), StrIs K H' (.int i) none := fun i H' => ⟨"int", .base (.int i), kit_int_str⟩
    have nNon : ∀ (H' : Hp), StrIs K H' .non none := fun H' => ⟨"NoneType", .base .non, by decide +kernel⟩
    refine go_seq (go_asg ?_)
    refine (FndE.cat (n := 8) (m := 3) w3 (FndE.var rfl hD) (FndE.lst w3 ?_ (by decide)) (by decide)) H3 (Same.refl _) _ fun D4 H4 e4 hD4 => ?_
    · refine .cons st (fun H e Q q => go_tup (go_cons (go_c (go_cons (go_c (go_nil ⟨sz2, fun p np => q _ _ (same_new np) (.inl (.two (a := 0) (tup_core (wat (e3.trans e)) np) (.inl rfl)))⟩)))))) ?_
      refine .cons st (fun H e Q q => go_tup (go_cons (go_c (go_cons (go_c (go_cons (go_c (go_nil ⟨sz3, fun p np => q _ _ (same_new np) (sgn (z := 0) (some []) (e3.trans e) np (.inl rfl) (nOne (l := []) (by decide)) (by decide))⟩)))))))) ?_
      exact .cons st (fun H e Q q => go_tup (go_cons (go_c (go_cons (go_c (go_cons (go_c (go_nil ⟨sz3, fun p np => q _ _ (same_new np) (sgn (z := 0) (some [97, 98]) (e3.trans e) np (.inl rfl) (nOne (l := [97, 98]) (by decide)) (by decide))⟩)))))))) .nil
    have e24 := e3.trans e4
    have w4 := w2.same e24
    clear e3 e4 w3 hD f1 first
    dsimp only [gName]
    refine go_seq (go_asg ?_)
    refine (FndE.cat (n := 11) (m := 13) w4 (FndE.var rfl hD4) (FndE.lst w4 ?_ (by decide)) (by decide)) H4 (Same.refl _) _ fun D5 H5 e5 hD5 => ?_
    · refine .cons st (fun H e Q q => go_tup (go_cons (go_c (go_cons (go_c (go_cons (go_c (go_nil ⟨sz3, fun p np => q _ _ (same_new np) (sgn (z := 0) (some [65]) (e24.trans e) np (.inl rfl) (nOne (l := [65]) (by decide)) (by decide))⟩)))))))) ?_
      refine .cons st (fun H e Q q => go_tup (go_cons (go_c (go_cons (go_c (go_cons (go_c (go_nil ⟨sz3, fun p np => q _ _ (same_new np) (sgn (z := 0) none (e24.trans e) np (.inl rfl) (nInt 5) rfl)⟩)))))))) ?_
      refine .cons st (fun H e Q q => go_tup (go_cons (go_c (go_cons (go_c (go_cons (go_c (go_nil ⟨sz3, fun p np => q _ _ (same_new np) (sgn (z := 0) none (e24.trans e) np (.inl rfl) nNon rfl)⟩)))))))) ?_
      refine .cons st (fun H e Q q => go_tup (go_cons (go_c (go_cons (go_c (go_cons (go_c (go_nil ⟨sz3, fun p np => q _ _ (same_new np) (.inl (.other (a := 0) (tup_core (wat (e24.trans e)) np)))⟩)))))))) ?_
      refine .cons st (fun H e Q q => go_tup (go_cons (go_c (go_cons (go_c (go_nil ⟨sz2, fun p np => q _ _ (same_new np) (.inl (.two (a := 0) (tup_core (wat (e24.trans e)) np) (.inr (.inr rfl))))⟩)))))) ?_
      refine .cons st (fun H e Q q => go_tup (go_cons (go_c (go_cons (go_c (go_nil ⟨sz2, fun p np => q _ _ (same_new np) (.inl (.word (tup_core (wat (e24.trans e)) np) (by decide)))⟩)))))) ?_
      refine .cons st (fun H e Q q => go_c (q _ _ (Same.refl _) (.inl (.kind (.base .non) (no_list (by decide +kernel) (by decide +kernel)))))) ?_
      refine .cons st (fun H e Q q => go_c (q _ _ (Same.refl _) (.inl (.kind (.base (.int 5)) (no_list (by decide +kernel) (by decide +kernel)))))) ?_
      refine .cons st (fun H e Q q => go_c (q _ _ (Same.refl _) (.inl (.kind (.base (.str _)) (no_list (by decide +kernel) (by decide +kernel)))))) ?_
      refine .cons st (fun H e Q q p np => ?_) ?_
      · refine ⟨upd_same, [(.inr "lost", .int 0)], rfl, by decide, ?_⟩
        have x1 : Same H (upd (upd H p (.dK [])) p (.dK (mergeK [] [(.inr "lost", V.int 0)]))) := fun b o h => by
          rw [upd_ne (ne_of_none h np), upd_ne (ne_of_none h np)]
          exact h
        refine q _ _ x1 (.inl (.kind (n := "dict") (.base (.dK (core_at upd_same ((wat (e24.trans e)).ne np) (fun _ z => by cases z)))) (no_list (by decide +kernel) (by decide +kernel))))
      refine .cons st (fun H e Q q => go_tup (go_cons (go_c (go_cons (go_c (go_cons (go_c (go_nil ⟨sz3, fun p np => q _ _ (same_new np) (sgn (z := 0) (some [10]) (e24.trans e) np (.inl rfl) (nOne (l := [10]) (by decide)) (by decide))⟩)))))))) ?_
      refine .cons st (fun H e Q q => go_tup (go_cons (go_c (go_cons (go_c (go_cons (go_c (go_cons (go_c (go_nil ⟨sz4, fun p np => q _ _ (same_new np) (.inl (.size (tup_core (wat (e24.trans e)) np) (by decide) (by decide)))⟩)))))))))) ?_
      exact .cons st (fun H e Q q => go_tup (go_nil ⟨Nat.zero_le _, fun p np => q _ _ (same_new np) (.inl (.size (tup_core (wat (e24.trans e)) np) (by decide) (by decide)))⟩)) .nil
    have e25 := e24.trans e5
    have w5 := w2.same e25
    clear e24 e5 w4 hD4
    dsimp only [gName]
    have fin : ∀ (σ : L2.St) (D : Addr) (H6 : Hp) (k m : Nat), σ[0]? = some (some (.ref a)) → σ[4]? = some (some (.ref D)) → FoundAt K a t H6 D m → 0 < m → m ≤ 200 → Mv a H H6 → Wh H6 a c (n + k) → k ≤ 4 → tRet (tCall (sp_law_one K) [] E0 (tCons (tVar 0) (tCons (tVar 4) tNil))) { nx := fun x H' => Q V.non H', rt := Q } σ H6 := fun σ D H6 k m h0 h4 hD m0 m1 mv w6 hk => by
      obtain ⟨hDa, xs, g1, g2, g3⟩ := id hD
      refine go_ret ⟨_, h0, _, h4, a, D, c, xs, n + k, rfl, .inl (.inl g1), (fun z => by rw [z] at g2; exact absurd g2.symm (by show m ≠ 0; omega)), by omega, w6, by omega, fun H' m => .inl (.inl (m _ _ hDa g1)), fun v H' hv m w' => ?_⟩
      exact q v H' ((g3 v hv).mv m) (mv.trans m) (w'.lt (by omega))
    refine go_seq (go_if (go_test ⟨_, rfl, _, _, rfl, rfl, _, rfl, iteC (fun h => ?_) (fun h => ?_)⟩))
    · have h : 0 < t.length := by
        have h : (0 : Int) < (t.length : Int) := of_decide_eq_true h
        omega
      refine go_seq (go_asg ⟨_, rfl, _, rfl, a, c, (t.length : Int), n + 1, rfl, by omega, by omega, w5, by omega, fun r H6 r0 r1 m6 w6 => ?_⟩)
      obtain ⟨z, rfl⟩ : ∃ z : Nat, r = z := ⟨r.toNat, by omega⟩
      have hz : z < t.length := by omega
      have hD6 := hD5.mv m6
      have mB := mA.trans ((Mv.of e25).trans m6)
      clear fin wat stuck lowO sgn hD5 w5 hlow
      have wat : ∀ {H' : Hp}, Same H6 H' → Wh H' a c (n + 1 + 1) := fun e => w6.same e
      dsimp only [gName]
      refine go_asg ?_
      have rep : FndE K a t (tOp rRep (tLst (tCons (tTup (tCons (tC (.str "changed")) (tCons (tVar 5) (tCons (tOp rIxS (tVar 1) (tVar 5)) tNil)))) tNil)) (tC (.int 3))) [some (.ref a), some (.str (S t)), some (.int (t.length : Nat)), some low, some (.ref D5), some (.int (z : Nat))] H6 3 := fun H7 e7 Q7 q7 => by
        refine go_op (go_lst (go_cons (go_tup (go_cons (go_c (go_cons (go_var rfl (go_cons ⟨_, rfl, _, rfl, S t, (z : Int), t.getD z 0, rfl, rfl, len_le hl, sgetD hz, go_nil ⟨sz3, fun p np => ?_⟩⟩))))))))
        have x1 := same_new (o := HO.tup (Ed.chg z (t.getD z 0)).vs) np
        have hok : (Ed.chg z (t.getD z 0)).ok = true := by
          show sg (t.getD z 0) = true
          rw [List.getD_eq_getElem?_getD, List.getElem?_eq_getElem hz]
          exact hsg _ (List.getElem_mem ..)
        have hO : OddC K a t (upd H7 p (.tup (Ed.chg z (t.getD z 0)).vs)) (.ref p) := .inr ⟨_, .chg z (t.getD z 0), rfl, tup_core (wat e7) np, hok, if_neg (fun h => h.2 rfl)⟩
        refine go_nil ⟨sz1, fun L nL => go_c ⟨L, 3, _, rfl, rfl, upd_same, by decide, by decide, (show 1 * 3 ≤ sizeLine by decide), fun M nM => ?_⟩⟩
        have x2 := same_new (o := HO.lst [V.ref p]) nL
        have x3 := same_new (o := HO.lst [V.ref p, V.ref p, V.ref p]) nM
        refine q7 M _ (x1.trans (x2.trans x3)) ⟨(wat (e7.trans (x1.trans x2))).ne nM, _, upd_same, rfl, fun v hv => ?_⟩
        have : v = .ref p := by simpa using hv
        subst this
        exact (hO.same x2).same x3
      refine (FndE.cat (n := 24 + 3) (m := 2) w6 (FndE.cat (n := 24) (m := 3) w6 (FndE.var rfl hD6) rep (by decide)) (FndE.lst w6 ?_ (by decide)) (by decide)) H6 (Same.refl _) _ fun D7 H7 e7 hD7 => ?_
      · refine .cons st (fun H e Q q => go_tup (go_cons (go_c (go_cons (go_var rfl (go_nil ⟨sz2, fun p np => q _ _ (same_new np) (.inl (.two (a := z) (tup_core (wat e) np) (.inr (.inl rfl))))⟩)))))) ?_
        exact .cons st (fun H e Q q => go_tup (go_cons (go_c (go_cons (go_var rfl (go_cons (go_c (go_nil ⟨sz3, fun p np => q _ _ (same_new np) (.inl (.sign (a := z) (o := some []) (tup_core (wat e) np) (.inr rfl) (nOne (l := []) (by decide) _) (by decide)))⟩)))))))) .nil
      dsimp only [gName]
      obtain ⟨hDa, xs, g1, g2, g3⟩ := id hD7
      have w7 := w6.same e7
      refine go_ret ⟨_, rfl, _, rfl, a, D7, c, xs, _, rfl, .inl (.inl g1), (fun z => by rw [z] at g2; cases g2), by omega, w7, by omega, fun H' m => .inl (.inl (m _ _ hDa g1)), fun v H' hv m w' => ?_⟩
      exact q v H' ((g3 v hv).mv m) (mB.trans ((Mv.of e7).trans m)) (w'.lt (by omega))
    · dsimp only [tNext]
      exact fin _ D5 H5 1 24 rfl rfl hD5 (by decide) (by decide) (mA.trans (Mv.of e25)) w5 (by decide)
end
end K05
namespace K05
open PySem PySem.Spec PyProof.Rows L2 Kx SX LamX
section
variable {K : PySem.W.Frag} {σ : L2.St} {H : Hp} {p : Addr} {xs : List V} {i j k : Nat} {Q : VK}
theorem slTo (h0 : σ[i]? = some (some (.ref p))) (h5 : σ[j]? = some (some (.int (k : Nat)))) (ho : H p = some (.lst xs)) (q : ∀ b, H b = none → Q (.ref b) (upd H b (.lst (xs.take k)))) : tSl (rSlL K) (tVar i) tNoPart (tPart (tVar j)) σ H Q :=
  ⟨_, h0, _, h5, (k : Int), rfl, p, _, rfl, .inl (.inl ho), fun b nb => by rw [cut_to]; exact q b nb⟩
theorem slFrom (h0 : σ[i]? = some (some (.ref p))) (h5 : σ[j]? = some (some (.int (k : Nat)))) (ho : H p = some (.lst xs)) (q : ∀ b, H b = none → Q (.ref b) (upd H b (.lst (xs.drop k)))) : tSl (rSlL K) (tVar i) (tPart (tVar j)) tNoPart σ H Q :=
  ⟨_, h0, _, h5, (k : Int), rfl, p, _, rfl, .inl (.inl ho), fun b nb => by rw [cut_from]; exact q b nb⟩
end
/-- any of the three that are asked -/
theorem ask_runs {X : Cx} {K : PySem.W.Frag} {mg : Str → Option Value} (T : Tx K mg) {E : XK} (eK : X.K = K) (em : X.mg = mg) (hr : Room 10 X.A) (hx : Passes (L2.CX X.prog X.w) X E) : ∀ f ∈ [T.f_damaged, T.f_undone, T.f_untouched], RunF X f (AskS K T.e_BadText.C T.e_BadEdits.C RAny) E := fun f hf => by
  subst eK em
  simp only [List.mem_cons, List.not_mem_nil, or_false] at hf
  rcases hf with rfl | rfl | rfl
  · refine (RunF.of (ok_damaged T) hr T.F_damaged.kp T.b_damaged hx).mono fun vs H Q h => ?_
    obtain ⟨x, y, rfl, h⟩ := h
    refine ⟨x, y, rfl, ?_⟩
    rcases h with h | h | ⟨t, u, p, es, rfl, rfl, htx, hE, ho, le, lt, hu, q⟩
    · exact .inl h
    · exact .inr (.inl h)
    · exact .inr (.inr ⟨t, u, p, es, rfl, rfl, htx, hE, ho, le, lt, hu, fun r H' e _ => q r H' e trivial⟩)
  · exact RunF.of (ok_undone T) hr T.F_undone.kp T.b_undone hx
  · exact RunF.of (ok_untouched T) hr T.F_untouched.kp T.b_untouched hx
section
variable {P : Program} {w : World} {K : PySem.W.Frag} {mg : Str → Option Value} {base : Heap} (T : Tx K mg)
/-- the edits at D, whatever is drawn -/
def EdP (a : Addr) (ps : List Addr) (es : List Ed) (D : Addr) (H : Hp) : Prop := core a H D = some (.lst (ps.map V.ref)) ∧ ∀ (i : Nat) (q : Addr) (e : Ed), ps[i]? = some q → es[i]? = some e → core a H q = some (.tup e.vs)
theorem EdP.mv {a D : Addr} {ps : List Addr} {es : List Ed} {H H' : Hp} (m : Mv a H H') (h : EdP a ps es D H) : EdP a ps es D H' := ⟨core_same2 m _ _ h.1, fun i q e x y => core_same2 m _ _ (h.2 i q e x y)⟩
theorem puts_path : ∀ (n : Nat), n ≤ 12 → Path [] (List.replicate n (.put 0 97)) (List.replicate n 97) := fun n hn => by
  have : ∀ (n : Nat) (t : List Nat), n + t.length ≤ 12 → Path t (List.replicate n (.put 0 97)) (List.replicate n 97 ++ t) := fun n => by
    induction n with
    | zero => exact fun t _ => .nil t
    | succ n ih =>
      intro t h
      have d : doE t (.put 0 97) = some (97 :: t) := if_pos ⟨Nat.zero_le _, by omega⟩
      have e : List.replicate (n + 1) 97 ++ t = List.replicate n 97 ++ 97 :: t := by
        rw [List.replicate_succ', List.append_assoc]
        rfl
      rw [e, List.replicate_succ]
      exact .cons d (ih _ (by rw [List.length_cons]; omega))
  have h := this n [] (by simpa using hn)
  rwa [List.append_nil] at h
def lamTab (Pt : Addr) : List (Addr × Str) := [(Pt, "law.<locals>.<lambda>")]
def sp_law (K : PySem.W.Frag) (Pt : Addr) : Sp := fun vs H Q _ => ∃ (a : Addr) (ns : List Int), vs = [.ref a] ∧ SqL K H a (ns.map V.int) ∧ H Pt = some (.tbl #[]) ∧ ∀ H', Q (.bl true) H'
theorem ok_law {c Pt : Addr} (FC : FunC K "law" "law" s_law T.f_law T.fd_law c) (TB : TabB base mg c Pt) : FnG P w K mg base CX0 17 T.f_law T.fd_law ["script"] (sp_law K Pt) := by
  obtain ⟨oc, od, kV, doc, pm, an, cdv, ct, osl, efd, lk, hcd⟩ := T.F_law_heard.ex
  rw [efd] at lk
  have hbd : Binds K _ ["ask"] [] := efd ▸ T.b_law_heard
  refine okC FC sc_law (fun vs H Q E h => ?_) (fun A outer s H vs Q E hg hr h => ?_)
  · obtain ⟨a, ns, rfl, _⟩ := h
    rfl
  · obtain ⟨s0, ns, rfl, hs, hP, q⟩ := h
    refine ⟨_, (pss_cons (ps_set (i := 1) sc_law.nd rfl (.inl rfl) (pe_call (ok_law_sluice T) (hr.mono (by decide)) (by rfl) T.g_law_sluice T.F_law_sluice.kp T.b_law_sluice .nil pass0 (pa_cons (pv 0) pa_nil)))
    (pss_cons (ps_for PassesOwn.never rfl (pi_range1 (by rfl) T.m_range (pa_cons pe_int pa_nil)) (pg_name (i := 2) sc_law.nd rfl (.inl rfl))
      (pss_cons (ps_asg (pe_tup (pa_cons (pe_call (ok_law_text T) (hr.mono (by decide)) (by rfl) T.g_law_text T.F_law_text.kp T.b_law_text .nil pass0 (pa_cons (pv 1) (pa_cons pe_int pa_nil))) (pa_cons (pe_call (ok_law_gate T) (hr.mono (by decide)) (by rfl) T.g_law_gate T.F_law_gate.kp T.b_law_gate .nil pass0 (pa_cons (pv 1) (pa_cons pe_int pa_nil))) pa_nil))) (pg_tup rfl (pgs_cons (pg_name (i := 3) sc_law.nd rfl (.inr rfl)) (pgs_cons (pg_name (i := 4) sc_law.nd rfl (.inl rfl)) pgs_nil))))
      (pss_cons (ps_asg (pe_call (ok_law_damage T) (hr.mono (by decide)) (by rfl) T.g_law_damage T.F_law_damage.kp T.b_law_damage .nil pass0 (pa_cons (pv 1) (pa_cons (pv 3) (pa_cons (pv 4) (pa_cons pe_str pa_nil))))) (pg_tup rfl (pgs_cons (pg_name (i := 5) sc_law.nd rfl (.inr rfl)) (pgs_cons (pg_name (i := 6) sc_law.nd rfl (.inl rfl)) pgs_nil))))
      (pss_cons (ps_par (i := 7) (j := 8) rfl sc_law.nd rfl rfl (by decide) rfl rfl (pa_cons (pe_call (ok_law_gate T) (hr.mono (by decide)) (by rfl) T.g_law_gate T.F_law_gate.kp T.b_law_gate .nil pass0 (pa_cons (pv 1) (pa_cons (pe_op op_add (pv 4) pe_int) pa_nil))) (pa_cons (pv 3) pa_nil)) (by rfl))
      (pss_cons (ps_for PassesOwn.never rfl (pi_list (pe_slice sl_list (pv 5) po_none (po_some (pv 7)))) (pg_name (i := 9) sc_law.nd rfl (.inl rfl))
        (pss_one (ps_set (i := 8) sc_law.nd rfl (.inl rfl) (pe_call (ok_law_done T) (hr.mono (by decide)) (by rfl) T.g_law_done T.F_law_done.kp T.b_law_done .nil pass0 (pa_cons (pv 8) (pa_cons (pv 9) pa_nil))))))
      (pss_cons (ps_set (i := 10) sc_law.nd rfl (.inl rfl) (pe_op op_cat (pe_op op_cat (pe_slice sl_list (pv 5) po_none (po_some (pv 7))) (pe_lst (pa_cons (pe_call (ok_law_odd T) (hr.mono (by decide)) (by rfl) T.g_law_odd T.F_law_odd.kp T.b_law_odd .nil pass0 (pa_cons (pv 1) (pa_cons (pv 8) pa_nil))) pa_nil))) (pe_slice sl_list (pv 5) (po_some (pv 7)) po_none)))
      (pss_cons (ps_set (i := 11) sc_law.nd rfl (.inr rfl) (pe_call (ok_law_one T) (hr.mono (by decide)) (by rfl) T.g_law_one T.F_law_one.kp T.b_law_one .nil pass0 (pa_cons (pv 1) (pa_cons (pe_lst (pa_cons (pv 10) (pa_cons (pe_callTy call_tuple_of (by rfl) T.m_tuple (by decide +kernel) (pa_cons (pv 10) pa_nil)) (pa_cons pe_non (pa_cons pe_int (pa_cons pe_str (pa_cons (pe_disp (pps_cons pe_int (pe_tup (pa_cons pe_str (pa_cons pe_int pa_nil))) pps_nil) (by rfl) (by rfl) (fun z => by cases z) (by decide)) (pa_cons (pe_op op_cat (pv 5) (pe_op op_rep (pe_lst (pa_cons (pe_tup (pa_cons pe_str (pa_cons pe_int (pa_cons pe_str pa_nil)))) pa_nil)) (pe_op op_sub pe_int (pv 4)))) pa_nil)))))))) pa_nil))))
      (pss_cons (ps_set (i := 12) sc_law.nd rfl (.inr rfl) (pe_call (ok_law_one T) (hr.mono (by decide)) (by rfl) T.g_law_one T.F_law_one.kp T.b_law_one .nil pass0 (pa_cons (pv 1) (pa_cons (pe_lst (pa_cons pe_non (pa_cons pe_int (pa_cons pe_str (pa_cons pe_str (pa_cons (pe_lst (pa_cons pe_str pa_nil)) (pa_cons pe_str (pa_cons pe_str pa_nil)))))))) pa_nil))))
      (pss_one (ps_for PassesOwn.never rfl (pi_tup (pe_tup (pa_cons (pe_glob (v := .ref T.f_damaged) (by rfl) T.g_damaged rfl) (pa_cons (pe_glob (v := .ref T.f_undone) (by rfl) T.g_undone rfl) (pa_cons (pe_glob (v := .ref T.f_untouched) (by rfl) T.g_untouched rfl) pa_nil))))) (pg_name (i := 13) sc_law.nd rfl (.inr rfl))
        (pss_cons (ps_set (i := 14) sc_law.nd rfl (.inl rfl) (pe_lst (pa_cons (pe_lamcall (T := (lamTab Pt)) (c := c) (P := Pt) (k := 12) (by rfl) T.g_law_heard T.F_law_heard.kp lk hcd hbd sc_law_heard rfl (.inl rfl) (heard_gives T) TB rfl (List.mem_singleton.mpr rfl) (fun p hp _ => by rw [List.mem_singleton.mp hp]; rfl) (hr.mono (by decide)) (lamS_by (sc := defScope s_law) (by decide +kernel)) rfl (fun _ _ _ _ _ => rfl) (fun A outer s H E f c' hr2 => (pe_callV (i := 13) (by rfl) (by first | exact Or.inl rfl | exact Or.inr (Or.inl rfl) | exact Or.inr (Or.inr rfl)) (ask_runs T rfl rfl (hr2.mono (show 10 ≤ 12 by decide)) (passes_call (takes_of rfl rfl rfl rfl) (fun _ _ _ _ h => h))) (pa_cons (pv 12) (pa_cons (pv 11) pa_nil))))) (pa_cons (pe_lamcallD (T := (lamTab Pt)) (z := "one") (c := c) (P := Pt) (k := 12) (by rfl) T.g_law_heard T.F_law_heard.kp lk hcd hbd sc_law_heard rfl (.inl rfl) (heard_gives T) TB rfl (List.mem_singleton.mpr rfl) (fun p hp _ => by rw [List.mem_singleton.mp hp]; rfl) (hr.mono (by decide)) (lamP_by (sc := defScope s_law) (by decide +kernel)) rfl rfl rfl (fun _ _ _ _ _ _ _ _ => ⟨_, rfl, rfl⟩) (fun A outer s H E f c' hr2 => (pe_callV (i := 13) (by rfl) (by first | exact Or.inl rfl | exact Or.inr (Or.inl rfl) | exact Or.inr (Or.inr rfl)) (ask_runs T rfl rfl (hr2.mono (show 10 ≤ 12 by decide)) (passes_call (takes_of rfl rfl rfl rfl) (fun _ _ _ _ h => h))) (pa_cons (pv 3) (pa_cons (pv 11) pa_nil))))) (pa_cons (pe_lamcallD (T := (lamTab Pt)) (z := "two") (c := c) (P := Pt) (k := 12) (by rfl) T.g_law_heard T.F_law_heard.kp lk hcd hbd sc_law_heard rfl (.inl rfl) (heard_gives T) TB rfl (List.mem_singleton.mpr rfl) (fun p hp _ => by rw [List.mem_singleton.mp hp]; rfl) (hr.mono (by decide)) (lamP_by (sc := defScope s_law) (by decide +kernel)) rfl rfl rfl (fun _ _ _ _ _ _ _ _ => ⟨_, rfl, rfl⟩) (fun A outer s H E f c' hr2 => (pe_callV (i := 13) (by rfl) (by first | exact Or.inl rfl | exact Or.inr (Or.inl rfl) | exact Or.inr (Or.inr rfl)) (ask_runs T rfl rfl (hr2.mono (show 10 ≤ 12 by decide)) (passes_call (takes_of rfl rfl rfl rfl) (fun _ _ _ _ h => h))) (pa_cons (pv 3) (pa_cons (pv 5) pa_nil))))) pa_nil)))))
        (pss_one (ps_if (pt_cmpR (op_neD hr.units) (pv 14) (pe_lst (pa_cons (pe_tup (pa_cons pe_str (pa_cons pe_str pa_nil))) (pa_cons (pe_tup (pa_cons pe_str (pa_cons pe_str pa_nil))) (pa_cons pe_non pa_nil)))) (nomark _))
          (pss_one (ps_ret pe_bl))
          pss_nil)))))))))))))
    (pss_cons (ps_set (i := 15) sc_law.nd rfl (.inr rfl) (pe_op op_rep (pe_lst (pa_cons (pe_tup (pa_cons pe_str (pa_cons pe_int (pa_cons pe_str pa_nil)))) pa_nil)) pe_int))
    (pss_one (ps_ret (pe_cmpR (op_eqD hr.units) (pe_lst (pa_cons (pe_call (ok_damaged T) (hr.mono (by decide)) (by rfl) T.g_damaged T.F_damaged.kp T.b_damaged .nil passF (pa_cons pe_str (pa_cons (pv 15) pa_nil))) (pa_cons (pe_lamcall (T := (lamTab Pt)) (c := c) (P := Pt) (k := 12) (by rfl) T.g_law_heard T.F_law_heard.kp lk hcd hbd sc_law_heard rfl (.inl rfl) (heard_gives T) TB rfl (List.mem_singleton.mpr rfl) (fun p hp _ => by rw [List.mem_singleton.mp hp]; rfl) (hr.mono (by decide)) (lamS_by (sc := defScope s_law) (by decide +kernel)) rfl (fun _ _ _ _ _ => rfl) (fun A outer s H E f c' hr2 => (pe_call (ok_damaged T) (hr2.mono (by decide)) (by rfl) T.g_damaged T.F_damaged.kp T.b_damaged .nil (passes_call (takes_of rfl rfl rfl rfl) (fun _ _ _ _ h => h)) (pa_cons pe_str (pa_cons (pe_op op_cat (pv 15) (pe_slice (inK_sl_list (K := K) rfl) (pv 15) po_none (po_some pe_int))) pa_nil))))) pa_nil))) (pe_lst (pa_cons (pe_op op_repS pe_str pe_int) (pa_cons (pe_tup (pa_cons pe_str (pa_cons pe_str pa_nil))) pa_nil))) (nomark _))))))), ?_⟩
    refine go_seq (go_asg ⟨_, rfl, s0, ns, rfl, hs, fun a c H1 na e1 w0 => ?_⟩)
    have T1 : Tabs (lamTab Pt) H1 := fun p hp => by
      rw [List.mem_singleton.mp hp]
      exact TabS.nil (e1 _ _ hP)
    dsimp only [gName]
    refine go_seq ⟨4, rfl, by decide, by decide, for_range (lo := 0) (n := 4) (fun i σ H' => ∃ (o2 o3 o4 o5 o6 o7 o8 o9 o10 o11 o12 o13 o14 o15 : Option V), σ = [some (.ref s0), some (.ref a), o2, o3, o4, o5, o6, o7, o8, o9, o10, o11, o12, o13, o14, o15] ∧ Wh H' a c (1000 * i) ∧ Tabs (lamTab Pt) H')
      ⟨none, none, none, none, none, none, none, none, none, none, none, none, none, none, rfl, w0, T1⟩ (fun i σ' Hc hi h => ?_) (fun σ' Hc h => ?_)⟩
    · obtain ⟨o2, o3, o4, o5, o6, o7, o8, o9, o10, o11, o12, o13, o14, o15, rfl, wi, Ti⟩ := h
      dsimp only [gName]
      -- the text, how many edits
      refine go_seq (go_asg ⟨_, rfl, a, c, 12, _, rfl, wi, by omega, by decide, fun t H1 lt sgt m1 w1 => ?_⟩)
      refine ⟨_, rfl, a, c, 12, _, rfl, by decide, by decide, w1, by omega, fun z H2 z0 z1 m2 w2 => ⟨sz2, fun p n1 => ?_⟩⟩
      obtain ⟨many, rfl⟩ : ∃ y : Nat, z = y := ⟨z.toNat, by omega⟩
      have T2 := Tabs.mv Ti wi ((m1.trans m2).trans (Mv.of (same_new (o := HO.tup [V.str (S t), V.int (many : Nat)]) n1)))
      have w3 := w2.new (o := HO.tup [V.str (S t), V.int (many : Nat)]) n1
      refine ⟨p, _, rfl, .inl (.inl upd_same), rfl, _, _, rfl, _, _, rfl, rfl, ?_⟩
      generalize upd H2 p (HO.tup [V.str (S t), V.int (many : Nat)]) = H3 at T2 w3 ⊢
      have hB : textB t = true := by
        unfold textB
        rw [Bool.and_eq_true]
        exact ⟨decide_eq_true (by omega), List.all_eq_true.mpr sgt⟩
      clear m1 m2 w1 w2 wi Ti n1
      dsimp only [gName]
      -- the edits
      refine go_seq (go_asg ⟨_, rfl, _, rfl, _, rfl, a, c, t, [97, 98, 32, 122], many, _, rfl, w3, by omega, by omega, by simp, by simp, by decide, fun p D es u H4 les ho hP hE hp nD m4 w4 => ?_⟩)
      have T4 := Tabs.mv T2 w3 m4
      have hDa := w3.ne nD
      refine ⟨p, _, rfl, .inl (.inl hp), rfl, _, _, rfl, _, _, rfl, rfl, ?_⟩
      clear hp nD m4 w3 T2
      dsimp only [gName]
      -- where it is bent
      refine go_seq ⟨_, rfl, _, rfl, _, _, rfl, rfl, a, c, (many : Int) + 1, _, rfl, by omega, by omega, w4, by omega, fun z H5 z0 z1' m5 w5 => ?_⟩
      obtain ⟨at_, rfl⟩ : ∃ y : Nat, z = y := ⟨z.toNat, by omega⟩
      have hat : at_ ≤ es.length := by omega
      have T5 := Tabs.mv T4 w4 m5
      have hE5 : EdsL (core a H5) D es := (hE.core w4 hDa).same (core_same2 m5)
      refine ⟨_, rfl, _, _, rfl, ?_⟩
      dsimp only
      clear hE T4 m5 w4
      obtain ⟨ps, hDc, lps, hps⟩ := id hE5
      have hD5 := (of_core hDc).2.1
      have hE5 : EdP a ps es D H5 := ⟨hDc, hps⟩
      refine go_seq (slTo (k := at_) (by exact rfl) (by exact rfl) hD5 (fun L nL => ⟨L, rfl, ⟨_, .inl (.inl upd_same)⟩, ?_⟩))
      have hE6 := hE5.mv (Mv.of (same_new (o := HO.lst ((ps.map V.ref).take at_)) nL))
      have w6 := w5.new (o := HO.lst ((ps.map V.ref).take at_)) nL
      have T6 := Tabs.same T5 (same_new (o := HO.lst ((ps.map V.ref).take at_)) nL)
      have hL : upd H5 L (HO.lst ((ps.map V.ref).take at_)) L = some (.lst ((ps.map V.ref).take at_)) := upd_same
      have hD6 := same_new (o := HO.lst ((ps.map V.ref).take at_)) nL _ _ hD5
      have hps := fun i q e x y => (same_new (o := HO.lst ((ps.map V.ref).take at_)) nL) _ _ (of_core (hps i q e x y)).2.1
      generalize upd H5 L (HO.lst ((ps.map V.ref).take at_)) = H6 at hE6 w6 T6 hL hD6 hps ⊢
      clear hE5 w5 T5 hD5 hDc nL
      have ltk : ((ps.map V.ref).take at_).length = at_ := by rw [List.length_take, List.length_map]; omega
      refine for_list (xs := (ps.map V.ref).take at_) (fun j σ H' => ∃ (o9 : Option V) (x : List Nat), σ = [some (.ref s0), some (.ref a), some (.int (0 + (i : Int))), some (.str (S t)), some (.int (many : Nat)), some (.ref D), some (.str (S u)), some (.int (at_ : Nat)), some (.str (S x)), o9, o10, o11, o12, o13, o14, o15] ∧ Path t (es.take j) x ∧ H' = H6)
        ⟨_, t, rfl, .nil t, rfl⟩ (fun j σ' H' _ h => ?_) (fun j v σ' Hd hv h => ?_) (fun σ' Hd h => ?_)
      · obtain ⟨_, _, _, _, rfl⟩ := h
        exact .inl (.inl hL)
      · obtain ⟨o9, x, rfl, hx, rfl⟩ := h
        have hj : j < at_ := by
          have := (List.getElem?_eq_some_iff.mp hv).1
          omega
        rw [List.getElem?_take_of_lt hj] at hv
        obtain ⟨y, hy, rfl⟩ := ref_get hv
        obtain ⟨e, he⟩ := ed_of lps hy
        have lx := (Path.len hx).1
        rw [List.length_take] at lx
        obtain ⟨c2, g1, g2⟩ := hP.split (j + 1)
        have hd : doE x e = some c2 := by
          rw [take_snoc he] at g1
          cases hh : doE x e with
          | none => exact (hP.not ⟨j, e, x, he, hx, hh⟩).elim
          | some z => rw [g1.det (hx.snoc hh)]
        dsimp only [gName]
        refine go_asg ⟨_, rfl, _, rfl, x, c2, y, e, rfl, by omega, .inr (.inl (.inl (hps j y e hy he))), hd, ?_⟩
        dsimp only [gName]
        exact ⟨_, c2, rfl, g1, rfl⟩
      obtain ⟨o9, x, rfl, hx, rfl⟩ := h
      rw [ltk] at hx
      have lx := (Path.len hx).1
      rw [List.length_take] at lx
      have sgx := (path_sg sgt (fun e m => ho e (List.mem_of_mem_take m)) hx).1
      dsimp only
      -- bent
      refine go_seq (go_asg (go_op (go_op (slTo (k := at_) (by exact rfl) (by exact rfl) hD6 fun L1 nL1 => ?_))))
      have hL1a := w6.ne nL1
      have x1 := same_new (o := HO.lst ((ps.map V.ref).take at_)) nL1
      have hE7 := hE6.mv (Mv.of x1)
      have w7 := w6.same x1
      have T7 := Tabs.same T6 x1
      have hL1 : upd Hd L1 (HO.lst ((ps.map V.ref).take at_)) L1 = some (.lst ((ps.map V.ref).take at_)) := upd_same
      have hD7 := x1 _ _ hD6
      generalize upd Hd L1 (HO.lst ((ps.map V.ref).take at_)) = H7 at hE7 w7 T7 hL1 hD7 ⊢
      clear hE6 w6 T6 hD6 hL x1 nL1
      refine go_lst (go_cons ⟨_, rfl, _, rfl, a, c, x, _, rfl, w7, by omega, by omega, sgx, fun v H8 hv m8 w8 => go_nil ⟨sz1, fun L2 nL2 => ?_⟩⟩)
      have hE8 := hE7.mv m8
      have T8 := Tabs.mv T7 w7 m8
      have hL18 := m8 _ _ hL1a hL1
      have hD8 := m8 _ _ hDa hD7
      clear hE7 w7 T7 hD7 hL1 m8
      have x2 := same_new (o := HO.lst [v]) nL2
      refine ⟨L1, L2, _, _, rfl, rfl, x2 _ _ hL18, upd_same, by rw [ltk]; exact Nat.le_trans (show at_ + 1 ≤ 200 by omega) (by decide), fun L3 nL3 => ?_⟩
      have x3 := same_new (o := HO.lst ((ps.map V.ref).take at_ ++ [v])) nL3
      refine slFrom (k := at_) (by exact rfl) (by exact rfl) ((x2.trans x3) _ _ hD8) fun L4 nL4 => ?_
      have x4 := same_new (o := HO.lst ((ps.map V.ref).drop at_)) nL4
      refine ⟨L3, L4, _, _, rfl, rfl, x4 _ _ upd_same, upd_same, by rw [List.length_append, ltk, List.length_drop, List.length_map]; exact Nat.le_trans (show at_ + 1 + (ps.length - at_) ≤ 200 by omega) (by decide), fun B nB => ?_⟩
      have x5 := same_new (o := HO.lst ((ps.map V.ref).take at_ ++ [v] ++ (ps.map V.ref).drop at_)) nB
      have xA := (x2.trans x3).trans (x4.trans x5)
      have hBa : B ≠ a := (w8.same ((x2.trans x3).trans x4)).ne nB
      have hE9 := hE8.mv (Mv.of xA)
      have hv9 := hv.same xA
      have T9 := Tabs.same T8 xA
      have w9 := w8.same xA
      have hBt := upd_same (H := upd (upd (upd H8 L2 (HO.lst [v])) L3 (HO.lst ((ps.map V.ref).take at_ ++ [v]))) L4 (HO.lst ((ps.map V.ref).drop at_))) (a := B) (o := HO.lst ((ps.map V.ref).take at_ ++ [v] ++ (ps.map V.ref).drop at_))
      generalize upd (upd (upd (upd H8 L2 (HO.lst [v])) L3 (HO.lst ((ps.map V.ref).take at_ ++ [v]))) L4 (HO.lst ((ps.map V.ref).drop at_))) B (HO.lst ((ps.map V.ref).take at_ ++ [v] ++ (ps.map V.ref).drop at_)) = H9 at hE9 hv9 T9 w9 hBt ⊢
      clear x5 x4 x3 x2 xA nB nL4 nL3 nL2 hD8 hL18 T8 hE8 w8 hv
      have hD9 := hE9.1
      have hBad : BadAt K (core a H9) t ((ps.map V.ref).take at_ ++ [v] ++ (ps.map V.ref).drop at_) := by
        refine ⟨ps.take at_, es.take at_, x, v, (ps.map V.ref).drop at_, by rw [List.length_take, List.length_take, lps], fun j y e h1 h2 => ?_, fun e m => ho e (List.mem_of_mem_take m), hx, ?_, hv9⟩
        · have hj : j < at_ := by
            have := (List.getElem?_eq_some_iff.mp h1).1
            rw [List.length_take] at this
            omega
          rw [List.getElem?_take_of_lt hj] at h1 h2
          exact .inr (.inl (.inl (hE9.2 j y e h1 h2)))
        · rw [← List.map_take, List.append_assoc]
          rfl
      have lbent : ((ps.map V.ref).take at_ ++ [v] ++ (ps.map V.ref).drop at_).length ≤ 100 := by
        rw [List.length_append, List.length_append, ltk, List.length_drop, List.length_map]
        show at_ + 1 + (ps.length - at_) ≤ 100
        omega
      generalize (ps.map V.ref).take at_ ++ [v] ++ (ps.map V.ref).drop at_ = bs at hBad lbent hBt
      clear hv9 ltk hps sgx lx hx
      dsimp only [gName]
      -- what is no damage
      have st : ∀ {H H' : Hp} {v : V}, Same H H' → NoEds K (core a H) t v → NoEds K (core a H') t v := fun e h => h.same (core_same2 (Mv.of e))
      have wat : ∀ {H' : Hp}, Same H9 H' → Wh H' a c _ := fun e => w9.same e
      have bad7 : AllG (fun H v => NoEds K (core a H) t v) 7 (tCons (tVar 10) (tCons (tCB (fun xs H1 Q => ∃ p ys, xs = [.ref p] ∧ ((SqL K H1 p ys ∧ ∀ l, H1 l = none → Q (.ref l) (upd H1 l (.tup ys))) ∨ (SqT K H1 p ys ∧ Q (.ref p) H1))) (tCons (tVar 10) tNil))
          (tCons (tC .non) (tCons (tC (.int 5)) (tCons (tC (.str "lost")) (tCons (tDisp [(tC (.int 0), tTup (tCons (tC (.str "lost")) (tCons (tC (.int 0)) tNil)))])
          (tCons (tOp rCat (tVar 5) (tOp rRep (tLst (tCons (tTup (tCons (tC (.str "put")) (tCons (tC (.int 0)) (tCons (tC (.str "a")) tNil)))) tNil)) (tOp (rI0 fun i j => .int (i - j)) (tC (.int 13)) (tVar 4)))) tNil)))))))
          [some (.ref s0), some (.ref a), some (.int (0 + (i : Int))), some (.str (S t)), some (.int (many : Nat)), some (.ref D), some (.str (S u)), some (.int (at_ : Nat)), some (.str (S x)), o9, some (.ref B), o11, o12, o13, o14, o15] H9 := by
        refine .cons st (fun H e Q q => go_var rfl (q _ _ (Same.refl _) (.inr ⟨B, bs, rfl, .inl (.inl (.inl (core_at (e _ _ hBt) hBa (fun _ z => by cases z)))), by omega, .inr (hBad.same (core_same2 (Mv.of e)))⟩))) ?_
        refine .cons st (fun H e Q q => ⟨_, rfl, B, bs, rfl, .inl ⟨.inl (.inl (e _ _ hBt)), fun t2 n2 => q _ _ (same_new n2) (.inr ⟨t2, bs, rfl, .inr (.inl (.inl (core_at upd_same ((wat e).ne n2) (fun _ z => by cases z)))), by omega, .inr (hBad.same (core_same2 (Mv.of (e.trans (same_new n2)))))⟩)⟩⟩) ?_
        refine .cons st (fun H e Q q => go_c (q _ _ (Same.refl _) (.inl ⟨_, .base .non, no_list (by decide +kernel) (by decide +kernel)⟩))) ?_
        refine .cons st (fun H e Q q => go_c (q _ _ (Same.refl _) (.inl ⟨_, .base (.int 5), no_list (by decide +kernel) (by decide +kernel)⟩))) ?_
        refine .cons st (fun H e Q q => go_c (q _ _ (Same.refl _) (.inl ⟨_, .base (.str _), no_list (by decide +kernel) (by decide +kernel)⟩))) ?_
        refine .cons st (fun H e Q q p np => ?_) ?_
        · refine go_c (go_tup (go_cons (go_c (go_cons (go_c (go_nil ⟨sz2, fun r nr => ?_⟩))))))
          have x1 : Same H (upd H p (.dK [])) := same_new np
          have hpr : p ≠ r := fun z => by
            rw [← z, upd_same] at nr
            cases nr
          have hp2 : upd (upd H p (.dK [])) r (.tup [V.str "lost", V.int 0]) p = some (.dK []) := by rw [upd_ne hpr, upd_same]
          refine ⟨hp2, [(.inl 0, .ref r)], rfl, (show 1 ≤ 15 by decide), ?_⟩
          have x2 : Same H (upd (upd (upd H p (.dK [])) r (.tup [V.str "lost", V.int 0])) p (.dK (mergeK [] [(.inl 0, V.ref r)]))) := fun b o h => by
            rw [upd_ne (ne_of_none h np), upd_ne (ne_of_none (x1 _ _ h) nr)]
            exact x1 _ _ h
          refine q _ _ x2 (.inl ⟨"dict", .base (.dK (core_at upd_same ((wat e).ne np) (fun _ z => by cases z))), no_list (by decide +kernel) (by decide +kernel)⟩)
        refine .cons st (fun H e Q q => ?_) .nil
        refine go_op (go_var rfl (go_op (go_lst (go_cons (go_tup (go_cons (go_c (go_cons (go_c (go_cons (go_c (go_nil ⟨sz3, fun r nr => go_nil ⟨sz1, fun L nL => ?_⟩⟩))))))))))))
        have x1 := same_new (o := HO.tup [V.str "put", V.int 0, V.str "a"]) nr
        have x2 := same_new (o := HO.lst [V.ref r]) nL
        refine ⟨_, rfl, 13, (many : Int), rfl, rfl, L, 13 - (many : Int), [V.ref r], rfl, rfl, upd_same, by omega, by omega, by show 1 * (13 - (many : Int)).toNat ≤ sizeLine; exact Nat.le_trans (show 1 * (13 - (many : Int)).toNat ≤ 13 by omega) (by decide), fun M nM => ?_⟩
        have x3 := same_new (o := HO.lst ((List.replicate (13 - (many : Int)).toNat [V.ref r]).flatten)) nM
        have hDH := (((e.trans x1).trans x2).trans x3) _ _ (of_core hD9).2.1
        have lrep : ((List.replicate (13 - (many : Int)).toNat [V.ref r]).flatten).length = 13 - many := by
          rw [List.length_flatten]
          simp
        refine ⟨D, M, _, _, rfl, rfl, hDH, upd_same, by rw [lrep, List.length_map]; exact Nat.le_trans (show ps.length + (13 - many) ≤ 200 by omega) (by decide), fun N nN => ?_⟩
        have x4 := same_new (o := HO.lst (ps.map V.ref ++ (List.replicate (13 - (many : Int)).toNat [V.ref r]).flatten)) nN
        refine q _ _ (((x1.trans x2).trans x3).trans x4) (.inr ⟨N, _, rfl, .inl (.inl (.inl (core_at upd_same ((wat (((e.trans x1).trans x2).trans x3)).ne nN) (fun _ z => by cases z)))), by rw [List.length_append, lrep, List.length_map]; omega, .inl (by rw [List.length_append, lrep, List.length_map]; omega)⟩)
      refine go_seq (go_asg ⟨_, rfl, ?_⟩)
      refine go_cons (go_lst ?_)
      refine bad7 H9 (Same.refl _) _ fun xs H10 e10 lxs hxs => ⟨by rw [lxs]; decide, fun p7 n7 => ?_⟩
      have w10 := w9.same e10
      have hpa := w10.ne n7
      refine go_nil ⟨a, p7, c, xs, _, rfl, .inl (.inl upd_same), (fun z => by rw [z] at lxs; cases lxs), by omega, w10.new n7, by omega, fun H' m => .inl (.inl (m _ _ hpa upd_same)), fun wrong H11 hv m11 w11 => ?_⟩
      have mB : Mv a H9 H11 := (Mv.of e10).trans ((Mv.of (same_new n7)).trans m11)
      have hN := NoEds.same (core_same2 ((Mv.of (same_new n7)).trans m11)) (hxs wrong hv)
      have T11 := Tabs.mv T9 w9 mB
      have hE11 := hE9.mv mB
      clear bad7 wat st hxs hv m11 w10 n7 hpa e10 mB lxs hBad hBt hE9 T9 w9 hD9 lbent
      dsimp only [gName]
      -- what is no text
      have st : ∀ {H H' : Hp} {v : V}, Same H H' → (∃ o, StrIs K (core a H) v o ∧ o.elim false textB = false) → (∃ o, StrIs K (core a H') v o ∧ o.elim false textB = false) := fun e h => by
        obtain ⟨o, h1, h2⟩ := h
        exact ⟨o, h1.same (core_same2 (Mv.of e)), h2⟩
      have odd7 : ∀ σ, AllG (fun H v => ∃ o, StrIs K (core a H) v o ∧ o.elim false textB = false) 7 (tCons (tC .non) (tCons (tC (.int 5)) (tCons (tC (.str "A")) (tCons (tC (.str "a\tb")) (tCons (tLst (tCons (tC (.str "a")) tNil)) (tCons (tC (.str "a1")) (tCons (tC (.str "ab\n")) tNil)))))) ) σ H11 := fun σ => by
        refine .cons st (fun H e Q q => go_c (q _ _ (Same.refl _) ⟨none, ⟨_, .base .non, by decide +kernel⟩, rfl⟩)) ?_
        refine .cons st (fun H e Q q => go_c (q _ _ (Same.refl _) ⟨none, ⟨_, .base (.int 5), kit_int_str⟩, rfl⟩)) ?_
        refine .cons st (fun H e Q q => go_c (q _ _ (Same.refl _) ⟨some [65], ⟨rfl, by decide⟩, by decide⟩)) ?_
        refine .cons st (fun H e Q q => go_c (q _ _ (Same.refl _) ⟨some [97, 9, 98], ⟨rfl, by decide⟩, by decide⟩)) ?_
        refine .cons st (fun H e Q q => go_lst (go_cons (go_c (go_nil ⟨sz1, fun r nr => q _ _ (same_new nr) ⟨none, ⟨"list", tyL (.inl (.inl (core_at upd_same ((w11.same e).ne nr) (fun _ z => by cases z)))), by decide +kernel⟩, rfl⟩⟩)))) ?_
        refine .cons st (fun H e Q q => go_c (q _ _ (Same.refl _) ⟨some [97, 49], ⟨rfl, by decide⟩, by decide⟩)) ?_
        exact .cons st (fun H e Q q => go_c (q _ _ (Same.refl _) ⟨some [97, 98, 10], ⟨rfl, by decide⟩, by decide⟩)) .nil
      refine go_seq (go_asg ⟨_, rfl, ?_⟩)
      refine go_cons (go_lst ?_)
      refine odd7 _ H11 (Same.refl _) _ fun xs H12 e12 lxs hxs => ⟨by rw [lxs]; decide, fun p8 n8 => ?_⟩
      have w12 := w11.same e12
      have hpa := w12.ne n8
      refine go_nil ⟨a, p8, c, xs, _, rfl, .inl (.inl upd_same), (fun z => by rw [z] at lxs; cases lxs), by omega, w12.new n8, by omega, fun H' m => .inl (.inl (m _ _ hpa upd_same)), fun nv H13 hv m13 w13 => ?_⟩
      have mB : Mv a H11 H13 := (Mv.of e12).trans ((Mv.of (same_new n8)).trans m13)
      obtain ⟨o, hO, hOf⟩ := hxs nv hv
      have hO := hO.same (core_same2 ((Mv.of (same_new n8)).trans m13))
      have hN := hN.same (core_same2 mB)
      have T13 := Tabs.mv T11 w11 mB
      have hE13 := hE11.mv mB
      clear odd7 st hxs hv m13 w12 n8 hpa e12 mB lxs hE11 T11 w11
      dsimp only [gName]
      -- each of the three
      refine ⟨sz3, fun p9 n9 => ⟨p9, rfl, ⟨_, .inl (.inl upd_same)⟩, ?_⟩⟩
      have x9 := same_new (o := HO.tup [V.ref T.f_damaged, V.ref T.f_undone, V.ref T.f_untouched]) n9
      have h9 : upd H13 p9 (HO.tup [V.ref T.f_damaged, V.ref T.f_undone, V.ref T.f_untouched]) p9 = some (.tup [V.ref T.f_damaged, V.ref T.f_undone, V.ref T.f_untouched]) := upd_same
      have hO := hO.same (core_same2 (Mv.of x9))
      have hN := hN.same (core_same2 (Mv.of x9))
      have T14 := Tabs.same T13 x9
      have hE14 := hE13.mv (Mv.of x9)
      have w14 := w13.same x9
      generalize upd H13 p9 (HO.tup [V.ref T.f_damaged, V.ref T.f_undone, V.ref T.f_untouched]) = H14 at h9 hO hN T14 hE14 w14 ⊢
      clear x9 n9 T13 hE13 w13
      refine for_tup (xs := [V.ref T.f_damaged, V.ref T.f_undone, V.ref T.f_untouched]) (fun j σ H' => ∃ (o13 o14 : Option V), σ = [some (.ref s0), some (.ref a), some (.int (0 + (i : Int))), some (.str (S t)), some (.int (many : Nat)), some (.ref D), some (.str (S u)), some (.int (at_ : Nat)), some (.str (S x)), o9, some (.ref B), some wrong, some nv, o13, o14, o15] ∧ ExtN H14 H' ∧ Tabs (lamTab Pt) H')
        ⟨_, _, rfl, ExtN.refl _, T14⟩ (fun j σ' H' _ h => ?_) (fun j v σ' Hd hv h => ?_) (fun σ' Hd h => ?_)
      · obtain ⟨_, _, _, e, _⟩ := h
        exact .inl (.inl (ext_at e h9))
      · obtain ⟨o13, o14, rfl, ed, Td⟩ := h
        obtain ⟨f, hf, rfl⟩ : ∃ f, f ∈ [T.f_damaged, T.f_undone, T.f_untouched] ∧ v = .ref f := by
          have := List.mem_of_getElem? hv
          simp only [List.mem_cons, List.not_mem_nil, or_false] at this ⊢
          rcases this with rfl | rfl | rfl
          · exact ⟨_, .inl rfl, rfl⟩
          · exact ⟨_, .inr (.inl rfl), rfl⟩
          · exact ⟨_, .inr (.inr rfl), rfl⟩
        dsimp only [gName]
        refine go_seq (go_asg (go_lst (go_cons ?_)))
        refine ⟨Td, fun H15 e15 T15 N1 hN1 => ?_⟩
        have c15 : Same (core a H14) H15 := core_ext core_sub (ed.trans e15)
        refine ⟨f, hf, rfl, _, rfl, _, rfl, nv, wrong, rfl, .inl ⟨o, hO.same c15, hOf, fun d H16 e16 hd => ⟨d, .str "text", "text", .inl ⟨rfl, rfl⟩, rfl, hd, fun v1 H17 e17 hv1 => ?_⟩⟩⟩
        have x17 := e16.trans e17
        refine go_cons ⟨Tabs.same T15 x17, fun H18 e18 T18 N2 hN2 => ?_⟩
        have c18 : Same (core a H14) H18 := core_ext core_sub ((ed.trans e15).trans ((ExtN.of x17).trans e18))
        refine ⟨f, hf, rfl, _, rfl, _, rfl, _, wrong, rfl, .inr (.inl ⟨t, rfl, hB, hN.same c18, fun d H19 e19 hd => ⟨d, .str "edits", "edits", .inr ⟨rfl, rfl⟩, rfl, hd, fun v2 H20 e20 hv2 => ?_⟩⟩)⟩
        have x20 := e19.trans e20
        refine go_cons ⟨Tabs.same T18 x20, fun H21 e21 T21 N3 hN3 => ?_⟩
        have c21 : Same (core a H14) H21 := core_ext core_sub ((ed.trans e15).trans ((ExtN.of x17).trans (e18.trans ((ExtN.of x20).trans e21))))
        refine ⟨f, hf, rfl, _, rfl, _, rfl, _, _, rfl, .inr (.inr ⟨t, u, D, es, rfl, rfl, hB, ⟨ps, .inl (.inl (.inl (c21 _ _ hE14.1))), lps, fun i q e y z => .inr (.inl (.inl (c21 _ _ (hE14.2 i q e y z))))⟩, ho, by omega, by omega, hP, fun r H22 e22 _ => hN3 _ _ fun H23 e23 => ?_⟩)⟩
        have x23 := e22.trans e23
        refine go_nil ⟨sz3, fun pl npl => ?_⟩
        have t0 := same_new (o := HO.lst [V.ref v1, V.ref v2, V.non]) npl
        have eB := e21.trans (ExtN.of (x23.trans t0))
        have eA := e18.trans ((ExtN.of x20).trans eB)
        have f1 := ext_at eA hv1
        have f2 := ext_at eB hv2
        have f3 : upd H23 pl (HO.lst [V.ref v1, V.ref v2, V.non]) pl = some (.lst [V.ref v1, V.ref v2, V.non]) := upd_same
        have eZ := (ed.trans e15).trans ((ExtN.of x17).trans eA)
        have TZ := Tabs.same T21 (x23.trans t0)
        generalize upd H23 pl (HO.lst [V.ref v1, V.ref v2, V.non]) = H24 at f1 f2 f3 eZ TZ ⊢
        clear eA eB t0 x23 e23 e22 c21 e21 T21 x20 hv2 e20 hd e19 c18 e18 T18 x17 hv1 e17 e16 c15 e15 T15 npl hN1 hN2 hN3 ed Td
        dsimp only [gName]
        refine go_if (go_test (go_op (go_var rfl (go_lst (go_cons (go_tup (go_cons (go_c (go_cons (go_c (go_nil ⟨sz2, fun a1 n1 => ?_⟩)))))))))))
        have y1 := same_new (o := HO.tup [V.str "text", V.str "text"]) n1
        refine go_cons (go_tup (go_cons (go_c (go_cons (go_c (go_nil ⟨sz2, fun a2 n2 => ?_⟩))))))
        have y2 := same_new (o := HO.tup [V.str "edits", V.str "edits"]) n2
        refine go_cons (go_c (go_nil ⟨sz3, fun a3 n3 => ?_⟩))
        have y3 := same_new (o := HO.lst [V.ref a1, V.ref a2, V.non]) n3
        have yA := y1.trans (y2.trans y3)
        have g1 := (y2.trans y3) _ _ (upd_same (H := H24) (a := a1) (o := HO.tup [V.str "text", V.str "text"]))
        have g2 := y3 _ _ (upd_same (H := upd H24 a1 (HO.tup [V.str "text", V.str "text"])) (a := a2) (o := HO.tup [V.str "edits", V.str "edits"]))
        refine ⟨.list [.tuple [.str "text", .str "text"], .tuple [.str "edits", .str "edits"], .none], .list [.tuple [.str "text", .str "text"], .tuple [.str "edits", .str "edits"], .none],
          .lst (.inl (.inl (yA _ _ f3))) (.cons (.tup (.inl (.inl (yA _ _ f1))) (.cons (.str _) (.cons (.str _) .nil))) (.cons (.tup (.inl (.inl (yA _ _ f2))) (.cons (.str _) (.cons (.str _) .nil))) (.cons .non .nil))),
          .lst (.inl (.inl upd_same)) (.cons (.tup (.inl (.inl g1)) (.cons (.str _) (.cons (.str _) .nil))) (.cons (.tup (.inl (.inl g2)) (.cons (.str _) (.cons (.str _) .nil))) (.cons .non .nil))), by decide +kernel, by decide +kernel, ?_⟩
        rw [show (PyData.eqv (.list [.tuple [.str "text", .str "text"], .tuple [.str "edits", .str "edits"], .none]) (.list [.tuple [.str "text", .str "text"], .tuple [.str "edits", .str "edits"], .none])) = true by decide +kernel]
        refine ⟨_, rfl, iteF (A := _) ?_⟩
        dsimp only [tNext]
        exact ⟨_, _, rfl, eZ.trans (ExtN.of yA), Tabs.same TZ yA⟩
      · obtain ⟨o13, o14, rfl, ed, Td⟩ := h
        exact ⟨_, _, _, _, _, _, _, _, _, _, _, _, _, _, rfl, (w14.ext ed).lt (by omega), Td⟩
    · obtain ⟨o2, o3, o4, o5, o6, o7, o8, o9, o10, o11, o12, o13, o14, o15, rfl, wz, Tz⟩ := h
      dsimp only
      refine go_seq (go_asg (go_op ⟨sz3, fun p np => ⟨sz1, fun L nL => ⟨L, 12, _, rfl, rfl, upd_same, by decide, by decide, (show 1 * 12 ≤ sizeLine by decide), fun M nM => ?_⟩⟩⟩))
      have x1 := same_new (o := HO.tup (Ed.put 0 97).vs) np
      have x2 := same_new (o := HO.lst [V.ref p]) nL
      have x3 := same_new (o := HO.lst ((List.replicate 12 p).map V.ref)) nM
      obtain ⟨H3, e3⟩ : ∃ H3, H3 = upd (upd (upd Hc p (HO.tup (Ed.put 0 97).vs)) L (HO.lst [V.ref p])) M (HO.lst ((List.replicate 12 p).map V.ref)) := ⟨_, rfl⟩
      have hp : H3 p = some (.tup (Ed.put 0 97).vs) := by
        rw [e3]
        exact (x2.trans x3) _ _ (upd_same (H := Hc) (a := p) (o := HO.tup (Ed.put 0 97).vs))
      have hM : H3 M = some (.lst ((List.replicate 12 p).map V.ref)) := by
        rw [e3]
        exact upd_same
      have TM : Tabs (lamTab Pt) H3 := by
        rw [e3]
        exact Tabs.same Tz (x1.trans (x2.trans x3))
      change gName 15 _ _ (upd (upd (upd Hc p (HO.tup (Ed.put 0 97).vs)) L (HO.lst [V.ref p])) M (HO.lst ((List.replicate 12 p).map V.ref))) _
      rw [← e3]
      clear e3 x1 x2 x3 nM nL np Tz wz
      dsimp only [gName]
      have hEQ : ∀ {H' : Hp}, Same H3 H' → EdsQ K H' M (List.replicate 12 (.put 0 97)) := fun e => ⟨List.replicate 12 p, .inl (.inl (.inl (e _ _ hM))), by rw [List.length_replicate, List.length_replicate], fun i q d a b => by
        have h1 := List.eq_of_mem_replicate (List.mem_of_getElem? a)
        have h2 := List.eq_of_mem_replicate (List.mem_of_getElem? b)
        subst h1 h2
        exact .inr (.inl (.inl (e _ _ hp)))⟩
      have ho : ∀ e ∈ (List.replicate 12 (Ed.put 0 97)), e.ok = true := fun e m => by
        rw [List.eq_of_mem_replicate m]
        decide
      refine go_ret (go_op (go_lst (go_cons ?_)))
      refine ⟨_, rfl, _, _, rfl, .inr (.inr ⟨[], List.replicate 12 97, M, _, rfl, rfl, by decide, hEQ (Same.refl _), ho, by decide, by decide, puts_path 12 (by decide), fun r H4 e4 hr => ?_⟩)⟩
      subst hr
      have hM4 := e4 _ _ hM
      refine go_cons ⟨Tabs.same TM e4, fun H5 e5 T5 N1 hN1 => ?_⟩
      have hM5 := ext_at e5 hM4
      refine ⟨_, rfl, _, rfl, 1, rfl, M, _, rfl, .inl (.inl hM5), fun N nN => ⟨M, N, _, _, rfl, rfl, same_new nN _ _ hM5, upd_same, (show 13 ≤ sizeLine by decide), fun O nO => ⟨_, _, rfl, .inr (.inl ⟨[], rfl, by decide, .inr ⟨O, _, rfl, .inl (.inl (.inl upd_same)), (show 13 ≤ 1000 by decide), .inl (show 12 < 13 by decide)⟩, fun d H6 e6 hd => ⟨d, .str "edits", "edits", .inr ⟨rfl, rfl⟩, rfl, hd, fun v1 H7 e7 hv1 => ?_⟩⟩)⟩⟩⟩
      refine go_nil ⟨sz2, fun pl npl => ?_⟩
      have f1 := same_new (o := HO.lst [V.str (S (List.replicate 12 97)), V.ref v1]) npl _ _ hv1
      have f3 : upd H7 pl (HO.lst [V.str (S (List.replicate 12 97)), V.ref v1]) pl = some (.lst [V.str (S (List.replicate 12 97)), V.ref v1]) := upd_same
      generalize upd H7 pl (HO.lst [V.str (S (List.replicate 12 97)), V.ref v1]) = H8 at f1 f3 ⊢
      refine go_lst (go_cons (go_op ⟨[97], 12, rfl, rfl, by decide, by decide, ?_⟩))
      refine go_cons (go_tup (go_cons (go_c (go_cons (go_c (go_nil ⟨sz2, fun a2 n2 => go_nil ⟨sz2, fun a3 n3 => ?_⟩⟩))))))
      have y2 := same_new (o := HO.tup [V.str "edits", V.str "edits"]) n2
      have y3 := same_new (o := HO.lst [V.str (S (List.replicate 12 97)), V.ref a2]) n3
      have yA := y2.trans y3
      have g2 := y3 _ _ (upd_same (H := H8) (a := a2) (o := HO.tup [V.str "edits", V.str "edits"]))
      refine ⟨.list [.str (S (List.replicate 12 97)), .tuple [.str "edits", .str "edits"]], .list [.str (S (List.replicate 12 97)), .tuple [.str "edits", .str "edits"]],
        .lst (.inl (.inl (yA _ _ f3))) (.cons (.str _) (.cons (.tup (.inl (.inl (yA _ _ f1))) (.cons (.str _) (.cons (.str _) .nil))) .nil)),
        .lst (.inl (.inl upd_same)) (.cons (.str _) (.cons (.tup (.inl (.inl g2)) (.cons (.str _) (.cons (.str _) .nil))) .nil)), by decide +kernel, by decide +kernel, ?_⟩
      rw [show (PyData.eqv (.list [.str (S (List.replicate 12 97)), .tuple [.str "edits", .str "edits"]]) (.list [.str (S (List.replicate 12 97)), .tuple [.str "edits", .str "edits"]])) = true by decide +kernel]
      exact q _
end
end K05
namespace K05
open PySem PySem.Spec PyProof.Rows L2 Kx SX LamX
def tx_mk {K : PySem.W.Frag} {h : Heap} {mg : Str → Option Value} (X : K.In h) (G : h.Ns mainGlobals mg)
    {f0 : Addr} {od0 an0 : Option Addr} {sl0 : Array (Option Value)} {oc0 kV0 dc0 pm0 cd0 ct0 : Value}
    {f1 : Addr} {od1 an1 : Option Addr} {sl1 : Array (Option Value)} {oc1 kV1 dc1 pm1 cd1 ct1 : Value}
    {f2 : Addr} {od2 an2 : Option Addr} {sl2 : Array (Option Value)} {oc2 kV2 dc2 pm2 cd2 ct2 : Value}
    {f3 : Addr} {od3 an3 : Option Addr} {sl3 : Array (Option Value)} {oc3 kV3 dc3 pm3 cd3 ct3 : Value}
    {f4 : Addr} {od4 an4 : Option Addr} {sl4 : Array (Option Value)} {oc4 kV4 dc4 pm4 cd4 ct4 : Value}
    {f5 : Addr} {od5 an5 : Option Addr} {sl5 : Array (Option Value)} {oc5 kV5 dc5 pm5 cd5 ct5 : Value}
    {f6 : Addr} {od6 an6 : Option Addr} {sl6 : Array (Option Value)} {oc6 kV6 dc6 pm6 cd6 ct6 : Value}
    {f7 : Addr} {od7 an7 : Option Addr} {sl7 : Array (Option Value)} {oc7 kV7 dc7 pm7 cd7 ct7 : Value}
    {f8 : Addr} {od8 an8 : Option Addr} {sl8 : Array (Option Value)} {oc8 kV8 dc8 pm8 cd8 ct8 : Value}
    {f9 : Addr} {od9 an9 : Option Addr} {sl9 : Array (Option Value)} {oc9 kV9 dc9 pm9 cd9 ct9 : Value}
    {f10 : Addr} {od10 an10 : Option Addr} {sl10 : Array (Option Value)} {oc10 kV10 dc10 pm10 cd10 ct10 : Value}
    {f11 : Addr} {od11 an11 : Option Addr} {sl11 : Array (Option Value)} {oc11 kV11 dc11 pm11 cd11 ct11 : Value}
    {f12 : Addr} {od12 an12 : Option Addr} {sl12 : Array (Option Value)} {oc12 kV12 dc12 pm12 cd12 ct12 : Value}
    {f13 : Addr} {od13 an13 : Option Addr} {sl13 : Array (Option Value)} {oc13 kV13 dc13 pm13 cd13 ct13 : Value}
    {f14 : Addr} {od14 an14 : Option Addr} {sl14 : Array (Option Value)} {oc14 kV14 dc14 pm14 cd14 ct14 : Value}
    {f15 : Addr} {od15 an15 : Option Addr} {sl15 : Array (Option Value)} {oc15 kV15 dc15 pm15 cd15 ct15 : Value}
    {f16 : Addr} {od16 an16 : Option Addr} {sl16 : Array (Option Value)} {oc16 kV16 dc16 pm16 cd16 ct16 : Value}
    {f17 : Addr} {od17 an17 : Option Addr} {sl17 : Array (Option Value)} {oc17 kV17 dc17 pm17 cd17 ct17 : Value}
    {f18 : Addr} {od18 an18 : Option Addr} {sl18 : Array (Option Value)} {oc18 kV18 dc18 pm18 cd18 ct18 : Value}
    {f19 : Addr} {od19 an19 : Option Addr} {sl19 : Array (Option Value)} {oc19 kV19 dc19 pm19 cd19 ct19 : Value}
    {f20 : Addr} {od20 an20 : Option Addr} {sl20 : Array (Option Value)} {oc20 kV20 dc20 pm20 cd20 ct20 : Value}
    {f21 : Addr} {od21 an21 : Option Addr} {sl21 : Array (Option Value)} {oc21 kV21 dc21 pm21 cd21 ct21 : Value}
    {f22 : Addr} {od22 an22 : Option Addr} {sl22 : Array (Option Value)} {oc22 kV22 dc22 pm22 cd22 ct22 : Value}
    {f23 : Addr} {od23 an23 : Option Addr} {sl23 : Array (Option Value)} {oc23 kV23 dc23 pm23 cd23 ct23 : Value}
    {f24 : Addr} {od24 an24 : Option Addr} {sl24 : Array (Option Value)} {oc24 kV24 dc24 pm24 cd24 ct24 : Value}
    {f25 : Addr} {od25 an25 : Option Addr} {sl25 : Array (Option Value)} {oc25 kV25 dc25 pm25 cd25 ct25 : Value}
    {KD_TooMany : Addr}
    {KD_BadText : Addr}
    {KD_BadEdits : Addr}
    {KD_BadNumber : Addr}
    {KD_BadBook : Addr}
    {KD_BadMachine : Addr}
    {KD_BadRow : Addr}
    {KD_Misfit : Addr}
    {t0 : Tok}
    {t1 : Tok}
    (a0 : PySem.W.nsIn K mainGlobals "is_list" = some (some (.ref f0))) (l0 : K.lookup f0 = some ⟨oc0, od0, .func (PySem.W.fnOf "is_list" "is_list" (defArgs s_is_list) (defBody s_is_list) (defScope s_is_list) .none kV0 dc0 pm0 an0 cd0 ct0), sl0⟩) (c0 : PySem.W.codeIn K cd0 "is_list" = true) (k0 : PySem.W.keepIn K (.ref f0) = true)
    (a1 : PySem.W.nsIn K mainGlobals "is_integer" = some (some (.ref f1))) (l1 : K.lookup f1 = some ⟨oc1, od1, .func (PySem.W.fnOf "is_integer" "is_integer" (defArgs s_is_integer) (defBody s_is_integer) (defScope s_is_integer) .none kV1 dc1 pm1 an1 cd1 ct1), sl1⟩) (c1 : PySem.W.codeIn K cd1 "is_integer" = true) (k1 : PySem.W.keepIn K (.ref f1) = true)
    (a2 : PySem.W.nsIn K mainGlobals "is_within" = some (some (.ref f2))) (l2 : K.lookup f2 = some ⟨oc2, od2, .func (PySem.W.fnOf "is_within" "is_within" (defArgs s_is_within) (defBody s_is_within) (defScope s_is_within) .none kV2 dc2 pm2 an2 cd2 ct2), sl2⟩) (c2 : PySem.W.codeIn K cd2 "is_within" = true) (k2 : PySem.W.keepIn K (.ref f2) = true)
    (a3 : PySem.W.nsIn K mainGlobals "are_letters" = some (some (.ref f3))) (l3 : K.lookup f3 = some ⟨oc3, od3, .func (PySem.W.fnOf "are_letters" "are_letters" (defArgs s_are_letters) (defBody s_are_letters) (defScope s_are_letters) .none kV3 dc3 pm3 an3 cd3 ct3), sl3⟩) (c3 : PySem.W.codeIn K cd3 "are_letters" = true) (k3 : PySem.W.keepIn K (.ref f3) = true)
    (a4 : PySem.W.nsIn K mainGlobals "is_sign" = some (some (.ref f4))) (l4 : K.lookup f4 = some ⟨oc4, od4, .func (PySem.W.fnOf "is_sign" "is_sign" (defArgs s_is_sign) (defBody s_is_sign) (defScope s_is_sign) .none kV4 dc4 pm4 an4 cd4 ct4), sl4⟩) (c4 : PySem.W.codeIn K cd4 "is_sign" = true) (k4 : PySem.W.keepIn K (.ref f4) = true)
    (a5 : PySem.W.nsIn K mainGlobals "is_text" = some (some (.ref f5))) (l5 : K.lookup f5 = some ⟨oc5, od5, .func (PySem.W.fnOf "is_text" "is_text" (defArgs s_is_text) (defBody s_is_text) (defScope s_is_text) .none kV5 dc5 pm5 an5 cd5 ct5), sl5⟩) (c5 : PySem.W.codeIn K cd5 "is_text" = true) (k5 : PySem.W.keepIn K (.ref f5) = true)
    (a6 : PySem.W.nsIn K mainGlobals "is_edit" = some (some (.ref f6))) (l6 : K.lookup f6 = some ⟨oc6, od6, .func (PySem.W.fnOf "is_edit" "is_edit" (defArgs s_is_edit) (defBody s_is_edit) (defScope s_is_edit) .none kV6 dc6 pm6 an6 cd6 ct6), sl6⟩) (c6 : PySem.W.codeIn K cd6 "is_edit" = true) (k6 : PySem.W.keepIn K (.ref f6) = true)
    (a7 : PySem.W.nsIn K mainGlobals "left_by_edit" = some (some (.ref f7))) (l7 : K.lookup f7 = some ⟨oc7, od7, .func (PySem.W.fnOf "left_by_edit" "left_by_edit" (defArgs s_left_by_edit) (defBody s_left_by_edit) (defScope s_left_by_edit) .none kV7 dc7 pm7 an7 cd7 ct7), sl7⟩) (c7 : PySem.W.codeIn K cd7 "left_by_edit" = true) (k7 : PySem.W.keepIn K (.ref f7) = true)
    (a8 : PySem.W.nsIn K mainGlobals "texts_behind" = some (some (.ref f8))) (l8 : K.lookup f8 = some ⟨oc8, od8, .func (PySem.W.fnOf "texts_behind" "texts_behind" (defArgs s_texts_behind) (defBody s_texts_behind) (defScope s_texts_behind) .none kV8 dc8 pm8 an8 cd8 ct8), sl8⟩) (c8 : PySem.W.codeIn K cd8 "texts_behind" = true) (k8 : PySem.W.keepIn K (.ref f8) = true)
    (a9 : PySem.W.nsIn K mainGlobals "checked_texts" = some (some (.ref f9))) (l9 : K.lookup f9 = some ⟨oc9, od9, .func (PySem.W.fnOf "checked_texts" "checked_texts" (defArgs s_checked_texts) (defBody s_checked_texts) (defScope s_checked_texts) .none kV9 dc9 pm9 an9 cd9 ct9), sl9⟩) (c9 : PySem.W.codeIn K cd9 "checked_texts" = true) (k9 : PySem.W.keepIn K (.ref f9) = true)
    (a10 : PySem.W.nsIn K mainGlobals "damaged" = some (some (.ref f10))) (l10 : K.lookup f10 = some ⟨oc10, od10, .func (PySem.W.fnOf "damaged" "damaged" (defArgs s_damaged) (defBody s_damaged) (defScope s_damaged) .none kV10 dc10 pm10 an10 cd10 ct10), sl10⟩) (c10 : PySem.W.codeIn K cd10 "damaged" = true) (k10 : PySem.W.keepIn K (.ref f10) = true)
    (a11 : PySem.W.nsIn K mainGlobals "undone_edit" = some (some (.ref f11))) (l11 : K.lookup f11 = some ⟨oc11, od11, .func (PySem.W.fnOf "undone_edit" "undone_edit" (defArgs s_undone_edit) (defBody s_undone_edit) (defScope s_undone_edit) .none kV11 dc11 pm11 an11 cd11 ct11), sl11⟩) (c11 : PySem.W.codeIn K cd11 "undone_edit" = true) (k11 : PySem.W.keepIn K (.ref f11) = true)
    (a12 : PySem.W.nsIn K mainGlobals "undone" = some (some (.ref f12))) (l12 : K.lookup f12 = some ⟨oc12, od12, .func (PySem.W.fnOf "undone" "undone" (defArgs s_undone) (defBody s_undone) (defScope s_undone) .none kV12 dc12 pm12 an12 cd12 ct12), sl12⟩) (c12 : PySem.W.codeIn K cd12 "undone" = true) (k12 : PySem.W.keepIn K (.ref f12) = true)
    (a13 : PySem.W.nsIn K mainGlobals "owners_at_put_blank" = some (some (.ref f13))) (l13 : K.lookup f13 = some ⟨oc13, od13, .func (PySem.W.fnOf "owners_at_put_blank" "owners_at_put_blank" (defArgs s_owners_at_put_blank) (defBody s_owners_at_put_blank) (defScope s_owners_at_put_blank) .none kV13 dc13 pm13 an13 cd13 ct13), sl13⟩) (c13 : PySem.W.codeIn K cd13 "owners_at_put_blank" = true) (k13 : PySem.W.keepIn K (.ref f13) = true)
    (a14 : PySem.W.nsIn K mainGlobals "owners_behind" = some (some (.ref f14))) (l14 : K.lookup f14 = some ⟨oc14, od14, .func (PySem.W.fnOf "owners_behind" "owners_behind" (defArgs s_owners_behind) (defBody s_owners_behind) (defScope s_owners_behind) .none kV14 dc14 pm14 an14 cd14 ct14), sl14⟩) (c14 : PySem.W.codeIn K cd14 "owners_behind" = true) (k14 : PySem.W.keepIn K (.ref f14) = true)
    (a15 : PySem.W.nsIn K mainGlobals "untouched" = some (some (.ref f15))) (l15 : K.lookup f15 = some ⟨oc15, od15, .func (PySem.W.fnOf "untouched" "untouched" (defArgs s_untouched) (defBody s_untouched) (defScope s_untouched) .none kV15 dc15 pm15 an15 cd15 ct15), sl15⟩) (c15 : PySem.W.codeIn K cd15 "untouched" = true) (k15 : PySem.W.keepIn K (.ref f15) = true)
    (a16 : PySem.W.nsIn K mainGlobals "_law_sluice" = some (some (.ref f16))) (l16 : K.lookup f16 = some ⟨oc16, od16, .func (PySem.W.fnOf "_law_sluice" "_law_sluice" (defArgs s_law_sluice) (defBody s_law_sluice) (defScope s_law_sluice) .none kV16 dc16 pm16 an16 cd16 ct16), sl16⟩) (c16 : PySem.W.codeIn K cd16 "_law_sluice" = true) (k16 : PySem.W.keepIn K (.ref f16) = true)
    (a17 : PySem.W.nsIn K mainGlobals "_law_gate" = some (some (.ref f17))) (l17 : K.lookup f17 = some ⟨oc17, od17, .func (PySem.W.fnOf "_law_gate" "_law_gate" (defArgs s_law_gate) (defBody s_law_gate) (defScope s_law_gate) .none kV17 dc17 pm17 an17 cd17 ct17), sl17⟩) (c17 : PySem.W.codeIn K cd17 "_law_gate" = true) (k17 : PySem.W.keepIn K (.ref f17) = true)
    (a18 : PySem.W.nsIn K mainGlobals "_law_one" = some (some (.ref f18))) (l18 : K.lookup f18 = some ⟨oc18, od18, .func (PySem.W.fnOf "_law_one" "_law_one" (defArgs s_law_one) (defBody s_law_one) (defScope s_law_one) .none kV18 dc18 pm18 an18 cd18 ct18), sl18⟩) (c18 : PySem.W.codeIn K cd18 "_law_one" = true) (k18 : PySem.W.keepIn K (.ref f18) = true)
    (a19 : PySem.W.nsIn K mainGlobals "_law_done" = some (some (.ref f19))) (l19 : K.lookup f19 = some ⟨oc19, od19, .func (PySem.W.fnOf "_law_done" "_law_done" (defArgs s_law_done) (defBody s_law_done) (defScope s_law_done) .none kV19 dc19 pm19 an19 cd19 ct19), sl19⟩) (c19 : PySem.W.codeIn K cd19 "_law_done" = true) (k19 : PySem.W.keepIn K (.ref f19) = true)
    (a20 : PySem.W.nsIn K mainGlobals "_law_edit" = some (some (.ref f20))) (l20 : K.lookup f20 = some ⟨oc20, od20, .func (PySem.W.fnOf "_law_edit" "_law_edit" (defArgs s_law_edit) (defBody s_law_edit) (defScope s_law_edit) .none kV20 dc20 pm20 an20 cd20 ct20), sl20⟩) (c20 : PySem.W.codeIn K cd20 "_law_edit" = true) (k20 : PySem.W.keepIn K (.ref f20) = true)
    (a21 : PySem.W.nsIn K mainGlobals "_law_damage" = some (some (.ref f21))) (l21 : K.lookup f21 = some ⟨oc21, od21, .func (PySem.W.fnOf "_law_damage" "_law_damage" (defArgs s_law_damage) (defBody s_law_damage) (defScope s_law_damage) .none kV21 dc21 pm21 an21 cd21 ct21), sl21⟩) (c21 : PySem.W.codeIn K cd21 "_law_damage" = true) (k21 : PySem.W.keepIn K (.ref f21) = true)
    (a22 : PySem.W.nsIn K mainGlobals "_law_text" = some (some (.ref f22))) (l22 : K.lookup f22 = some ⟨oc22, od22, .func (PySem.W.fnOf "_law_text" "_law_text" (defArgs s_law_text) (defBody s_law_text) (defScope s_law_text) .none kV22 dc22 pm22 an22 cd22 ct22), sl22⟩) (c22 : PySem.W.codeIn K cd22 "_law_text" = true) (k22 : PySem.W.keepIn K (.ref f22) = true)
    (a23 : PySem.W.nsIn K mainGlobals "_law_heard" = some (some (.ref f23))) (l23 : K.lookup f23 = some ⟨oc23, od23, .func (PySem.W.fnOf "_law_heard" "_law_heard" (defArgs s_law_heard) (defBody s_law_heard) (defScope s_law_heard) .none kV23 dc23 pm23 an23 cd23 ct23), sl23⟩) (c23 : PySem.W.codeIn K cd23 "_law_heard" = true) (k23 : PySem.W.keepIn K (.ref f23) = true)
    (a24 : PySem.W.nsIn K mainGlobals "_law_odd" = some (some (.ref f24))) (l24 : K.lookup f24 = some ⟨oc24, od24, .func (PySem.W.fnOf "_law_odd" "_law_odd" (defArgs s_law_odd) (defBody s_law_odd) (defScope s_law_odd) .none kV24 dc24 pm24 an24 cd24 ct24), sl24⟩) (c24 : PySem.W.codeIn K cd24 "_law_odd" = true) (k24 : PySem.W.keepIn K (.ref f24) = true)
    (a25 : PySem.W.nsIn K mainGlobals "law" = some (some (.ref f25))) (l25 : K.lookup f25 = some ⟨oc25, od25, .func (PySem.W.fnOf "law" "law" (defArgs s_law) (defBody s_law) (defScope s_law) .none kV25 dc25 pm25 an25 cd25 ct25), sl25⟩) (c25 : PySem.W.codeIn K cd25 "law" = true) (k25 : PySem.W.keepIn K (.ref f25) = true)
    (da_TooMany : PySem.W.nsIn K mainGlobals "TooMany" = some (some (.ref KD_TooMany)))
    (di_TooMany : PySem.W.isClsIn K KD_TooMany = true)
    (dy_TooMany : PySem.W.typeIn K (.ref KD_TooMany) = some (.type "type"))
    (da_BadText : PySem.W.nsIn K mainGlobals "BadText" = some (some (.ref KD_BadText)))
    (di_BadText : PySem.W.isClsIn K KD_BadText = true)
    (dy_BadText : PySem.W.typeIn K (.ref KD_BadText) = some (.type "type"))
    (da_BadEdits : PySem.W.nsIn K mainGlobals "BadEdits" = some (some (.ref KD_BadEdits)))
    (di_BadEdits : PySem.W.isClsIn K KD_BadEdits = true)
    (dy_BadEdits : PySem.W.typeIn K (.ref KD_BadEdits) = some (.type "type"))
    (da_BadNumber : PySem.W.nsIn K mainGlobals "BadNumber" = some (some (.ref KD_BadNumber)))
    (di_BadNumber : PySem.W.isClsIn K KD_BadNumber = true)
    (dy_BadNumber : PySem.W.typeIn K (.ref KD_BadNumber) = some (.type "type"))
    (da_BadBook : PySem.W.nsIn K mainGlobals "BadBook" = some (some (.ref KD_BadBook)))
    (di_BadBook : PySem.W.isClsIn K KD_BadBook = true)
    (dy_BadBook : PySem.W.typeIn K (.ref KD_BadBook) = some (.type "type"))
    (da_BadMachine : PySem.W.nsIn K mainGlobals "BadMachine" = some (some (.ref KD_BadMachine)))
    (di_BadMachine : PySem.W.isClsIn K KD_BadMachine = true)
    (dy_BadMachine : PySem.W.typeIn K (.ref KD_BadMachine) = some (.type "type"))
    (da_BadRow : PySem.W.nsIn K mainGlobals "BadRow" = some (some (.ref KD_BadRow)))
    (di_BadRow : PySem.W.isClsIn K KD_BadRow = true)
    (dy_BadRow : PySem.W.typeIn K (.ref KD_BadRow) = some (.type "type"))
    (da_Misfit : PySem.W.nsIn K mainGlobals "Misfit" = some (some (.ref KD_Misfit)))
    (di_Misfit : PySem.W.isClsIn K KD_Misfit = true)
    (dy_Misfit : PySem.W.typeIn K (.ref KD_Misfit) = some (.type "type"))
    (ds_BadText_TooMany : PySem.W.subIn K (.ref KD_BadText) (.ref KD_TooMany) = some false)
    (ds_BadText_BadText : PySem.W.subIn K (.ref KD_BadText) (.ref KD_BadText) = some true)
    (ds_BadText_BadEdits : PySem.W.subIn K (.ref KD_BadText) (.ref KD_BadEdits) = some false)
    (ds_BadText_BadNumber : PySem.W.subIn K (.ref KD_BadText) (.ref KD_BadNumber) = some false)
    (ds_BadText_BadBook : PySem.W.subIn K (.ref KD_BadText) (.ref KD_BadBook) = some false)
    (ds_BadText_BadMachine : PySem.W.subIn K (.ref KD_BadText) (.ref KD_BadMachine) = some false)
    (ds_BadText_BadRow : PySem.W.subIn K (.ref KD_BadText) (.ref KD_BadRow) = some false)
    (ds_BadText_Misfit : PySem.W.subIn K (.ref KD_BadText) (.ref KD_Misfit) = some false)
    (ds_BadEdits_TooMany : PySem.W.subIn K (.ref KD_BadEdits) (.ref KD_TooMany) = some false)
    (ds_BadEdits_BadText : PySem.W.subIn K (.ref KD_BadEdits) (.ref KD_BadText) = some false)
    (ds_BadEdits_BadEdits : PySem.W.subIn K (.ref KD_BadEdits) (.ref KD_BadEdits) = some true)
    (ds_BadEdits_BadNumber : PySem.W.subIn K (.ref KD_BadEdits) (.ref KD_BadNumber) = some false)
    (ds_BadEdits_BadBook : PySem.W.subIn K (.ref KD_BadEdits) (.ref KD_BadBook) = some false)
    (ds_BadEdits_BadMachine : PySem.W.subIn K (.ref KD_BadEdits) (.ref KD_BadMachine) = some false)
    (ds_BadEdits_BadRow : PySem.W.subIn K (.ref KD_BadEdits) (.ref KD_BadRow) = some false)
    (ds_BadEdits_Misfit : PySem.W.subIn K (.ref KD_BadEdits) (.ref KD_Misfit) = some false)
    (z0 : PySem.W.nsIn K mainGlobals "isinstance" = some none)
    (z1 : PySem.W.nsIn K mainGlobals "list" = some none)
    (z2 : PySem.W.nsIn K mainGlobals "tuple" = some none)
    (z3 : PySem.W.nsIn K mainGlobals "int" = some none)
    (z4 : PySem.W.nsIn K mainGlobals "bool" = some none)
    (z5 : PySem.W.nsIn K mainGlobals "str" = some none)
    (z6 : PySem.W.nsIn K mainGlobals "len" = some none)
    (z7 : PySem.W.nsIn K mainGlobals "zip" = some none)
    (z8 : PySem.W.nsIn K mainGlobals "range" = some none)
    (z9 : PySem.W.nsIn K mainGlobals "abs" = some none)
    (er_BadText : Er K mg "BadText" "BadText.__init__" s_BadText_init "LetterError")
    (er_BadEdits : Er K mg "BadEdits" "BadEdits.__init__" s_BadEdits_init "LetterError")
    (q0 : PySem.W.nsIn K mainGlobals "MOST_SIGNS" = some (some (.int 200000 t0)))
    (q1 : PySem.W.nsIn K mainGlobals "MOST_EDITS" = some (some (.int 12 t1))) : Tx K mg :=
  {
    f_is_list := f0
    fd_is_list := _
    F_is_list := fun_mk (st := s_is_list) l0 c0 k0
    g_is_list := PySem.W.mg_of X G a0
    b_is_list := (fun_mk (st := s_is_list) l0 c0 k0).binds (ps := ["value"]) fun _ _ _ _ _ _ us hl => match us, hl with | [_], _ => rfl
    f_is_integer := f1
    fd_is_integer := _
    F_is_integer := fun_mk (st := s_is_integer) l1 c1 k1
    g_is_integer := PySem.W.mg_of X G a1
    b_is_integer := (fun_mk (st := s_is_integer) l1 c1 k1).binds (ps := ["value"]) fun _ _ _ _ _ _ us hl => match us, hl with | [_], _ => rfl
    f_is_within := f2
    fd_is_within := _
    F_is_within := fun_mk (st := s_is_within) l2 c2 k2
    g_is_within := PySem.W.mg_of X G a2
    b_is_within := (fun_mk (st := s_is_within) l2 c2 k2).binds (ps := ["value", "least", "most"]) fun _ _ _ _ _ _ us hl => match us, hl with | [_, _, _], _ => rfl
    f_are_letters := f3
    fd_are_letters := _
    F_are_letters := fun_mk (st := s_are_letters) l3 c3 k3
    g_are_letters := PySem.W.mg_of X G a3
    b_are_letters := (fun_mk (st := s_are_letters) l3 c3 k3).binds (ps := ["text"]) fun _ _ _ _ _ _ us hl => match us, hl with | [_], _ => rfl
    f_is_sign := f4
    fd_is_sign := _
    F_is_sign := fun_mk (st := s_is_sign) l4 c4 k4
    g_is_sign := PySem.W.mg_of X G a4
    b_is_sign := (fun_mk (st := s_is_sign) l4 c4 k4).binds (ps := ["value"]) fun _ _ _ _ _ _ us hl => match us, hl with | [_], _ => rfl
    f_is_text := f5
    fd_is_text := _
    F_is_text := fun_mk (st := s_is_text) l5 c5 k5
    g_is_text := PySem.W.mg_of X G a5
    b_is_text := (fun_mk (st := s_is_text) l5 c5 k5).binds (ps := ["value"]) fun _ _ _ _ _ _ us hl => match us, hl with | [_], _ => rfl
    f_is_edit := f6
    fd_is_edit := _
    F_is_edit := fun_mk (st := s_is_edit) l6 c6 k6
    g_is_edit := PySem.W.mg_of X G a6
    b_is_edit := (fun_mk (st := s_is_edit) l6 c6 k6).binds (ps := ["value"]) fun _ _ _ _ _ _ us hl => match us, hl with | [_], _ => rfl
    f_left_by_edit := f7
    fd_left_by_edit := _
    F_left_by_edit := fun_mk (st := s_left_by_edit) l7 c7 k7
    g_left_by_edit := PySem.W.mg_of X G a7
    b_left_by_edit := (fun_mk (st := s_left_by_edit) l7 c7 k7).binds (ps := ["text", "edit"]) fun _ _ _ _ _ _ us hl => match us, hl with | [_, _], _ => rfl
    f_texts_behind := f8
    fd_texts_behind := _
    F_texts_behind := fun_mk (st := s_texts_behind) l8 c8 k8
    g_texts_behind := PySem.W.mg_of X G a8
    b_texts_behind := (fun_mk (st := s_texts_behind) l8 c8 k8).binds (ps := ["text", "edits"]) fun _ _ _ _ _ _ us hl => match us, hl with | [_, _], _ => rfl
    f_checked_texts := f9
    fd_checked_texts := _
    F_checked_texts := fun_mk (st := s_checked_texts) l9 c9 k9
    g_checked_texts := PySem.W.mg_of X G a9
    b_checked_texts := (fun_mk (st := s_checked_texts) l9 c9 k9).binds (ps := ["text", "edits"]) fun _ _ _ _ _ _ us hl => match us, hl with | [_, _], _ => rfl
    f_damaged := f10
    fd_damaged := _
    F_damaged := fun_mk (st := s_damaged) l10 c10 k10
    g_damaged := PySem.W.mg_of X G a10
    b_damaged := (fun_mk (st := s_damaged) l10 c10 k10).binds (ps := ["text", "edits"]) fun _ _ _ _ _ _ us hl => match us, hl with | [_, _], _ => rfl
    f_undone_edit := f11
    fd_undone_edit := _
    F_undone_edit := fun_mk (st := s_undone_edit) l11 c11 k11
    g_undone_edit := PySem.W.mg_of X G a11
    b_undone_edit := (fun_mk (st := s_undone_edit) l11 c11 k11).binds (ps := ["text", "edit"]) fun _ _ _ _ _ _ us hl => match us, hl with | [_, _], _ => rfl
    f_undone := f12
    fd_undone := _
    F_undone := fun_mk (st := s_undone) l12 c12 k12
    g_undone := PySem.W.mg_of X G a12
    b_undone := (fun_mk (st := s_undone) l12 c12 k12).binds (ps := ["text", "edits"]) fun _ _ _ _ _ _ us hl => match us, hl with | [_, _], _ => rfl
    f_owners_at_put_blank := f13
    fd_owners_at_put_blank := _
    F_owners_at_put_blank := fun_mk (st := s_owners_at_put_blank) l13 c13 k13
    g_owners_at_put_blank := PySem.W.mg_of X G a13
    b_owners_at_put_blank := (fun_mk (st := s_owners_at_put_blank) l13 c13 k13).binds (ps := ["text", "at", "owner"]) fun _ _ _ _ _ _ us hl => match us, hl with | [_, _, _], _ => rfl
    f_owners_behind := f14
    fd_owners_behind := _
    F_owners_behind := fun_mk (st := s_owners_behind) l14 c14 k14
    g_owners_behind := PySem.W.mg_of X G a14
    b_owners_behind := (fun_mk (st := s_owners_behind) l14 c14 k14).binds (ps := ["owners", "text", "edit"]) fun _ _ _ _ _ _ us hl => match us, hl with | [_, _, _], _ => rfl
    f_untouched := f15
    fd_untouched := _
    F_untouched := fun_mk (st := s_untouched) l15 c15 k15
    g_untouched := PySem.W.mg_of X G a15
    b_untouched := (fun_mk (st := s_untouched) l15 c15 k15).binds (ps := ["text", "edits"]) fun _ _ _ _ _ _ us hl => match us, hl with | [_, _], _ => rfl
    f_law_sluice := f16
    fd_law_sluice := _
    F_law_sluice := fun_mk (st := s_law_sluice) l16 c16 k16
    g_law_sluice := PySem.W.mg_of X G a16
    b_law_sluice := (fun_mk (st := s_law_sluice) l16 c16 k16).binds (ps := ["script"]) fun _ _ _ _ _ _ us hl => match us, hl with | [_], _ => rfl
    f_law_gate := f17
    fd_law_gate := _
    F_law_gate := fun_mk (st := s_law_gate) l17 c17 k17
    g_law_gate := PySem.W.mg_of X G a17
    b_law_gate := (fun_mk (st := s_law_gate) l17 c17 k17).binds (ps := ["sluice", "many"]) fun _ _ _ _ _ _ us hl => match us, hl with | [_, _], _ => rfl
    f_law_one := f18
    fd_law_one := _
    F_law_one := fun_mk (st := s_law_one) l18 c18 k18
    g_law_one := PySem.W.mg_of X G a18
    b_law_one := (fun_mk (st := s_law_one) l18 c18 k18).binds (ps := ["sluice", "some"]) fun _ _ _ _ _ _ us hl => match us, hl with | [_, _], _ => rfl
    f_law_done := f19
    fd_law_done := _
    F_law_done := fun_mk (st := s_law_done) l19 c19 k19
    g_law_done := PySem.W.mg_of X G a19
    b_law_done := (fun_mk (st := s_law_done) l19 c19 k19).binds (ps := ["text", "edit"]) fun _ _ _ _ _ _ us hl => match us, hl with | [_, _], _ => rfl
    f_law_edit := f20
    fd_law_edit := _
    F_law_edit := fun_mk (st := s_law_edit) l20 c20 k20
    g_law_edit := PySem.W.mg_of X G a20
    b_law_edit := (fun_mk (st := s_law_edit) l20 c20 k20).binds (ps := ["sluice", "text", "signs"]) fun _ _ _ _ _ _ us hl => match us, hl with | [_, _, _], _ => rfl
    f_law_damage := f21
    fd_law_damage := _
    F_law_damage := fun_mk (st := s_law_damage) l21 c21 k21
    g_law_damage := PySem.W.mg_of X G a21
    b_law_damage := (fun_mk (st := s_law_damage) l21 c21 k21).binds (ps := ["sluice", "text", "many", "signs"]) fun _ _ _ _ _ _ us hl => match us, hl with | [_, _, _, _], _ => rfl
    f_law_text := f22
    fd_law_text := _
    F_law_text := fun_mk (st := s_law_text) l22 c22 k22
    g_law_text := PySem.W.mg_of X G a22
    b_law_text := (fun_mk (st := s_law_text) l22 c22 k22).binds (ps := ["sluice", "most"]) fun _ _ _ _ _ _ us hl => match us, hl with | [_, _], _ => rfl
    f_law_heard := f23
    fd_law_heard := _
    F_law_heard := fun_mk (st := s_law_heard) l23 c23 k23
    g_law_heard := PySem.W.mg_of X G a23
    b_law_heard := (fun_mk (st := s_law_heard) l23 c23 k23).binds (ps := ["ask"]) fun _ _ _ _ _ _ us hl => match us, hl with | [_], _ => rfl
    f_law_odd := f24
    fd_law_odd := _
    F_law_odd := fun_mk (st := s_law_odd) l24 c24 k24
    g_law_odd := PySem.W.mg_of X G a24
    b_law_odd := (fun_mk (st := s_law_odd) l24 c24 k24).binds (ps := ["sluice", "text"]) fun _ _ _ _ _ _ us hl => match us, hl with | [_, _], _ => rfl
    f_law := f25
    fd_law := _
    F_law := fun_mk (st := s_law) l25 c25 k25
    g_law := PySem.W.mg_of X G a25
    b_law := (fun_mk (st := s_law) l25 c25 k25).binds (ps := ["script"]) fun _ _ _ _ _ _ us hl => match us, hl with | [_], _ => rfl
    n_law := a25
    k_TooMany := KD_TooMany
    gk_TooMany := PySem.W.mg_of X G da_TooMany
    kc_TooMany := di_TooMany
    kt_TooMany := dy_TooMany
    k_BadText := KD_BadText
    gk_BadText := PySem.W.mg_of X G da_BadText
    kc_BadText := di_BadText
    kt_BadText := dy_BadText
    k_BadEdits := KD_BadEdits
    gk_BadEdits := PySem.W.mg_of X G da_BadEdits
    kc_BadEdits := di_BadEdits
    kt_BadEdits := dy_BadEdits
    k_BadNumber := KD_BadNumber
    gk_BadNumber := PySem.W.mg_of X G da_BadNumber
    kc_BadNumber := di_BadNumber
    kt_BadNumber := dy_BadNumber
    k_BadBook := KD_BadBook
    gk_BadBook := PySem.W.mg_of X G da_BadBook
    kc_BadBook := di_BadBook
    kt_BadBook := dy_BadBook
    k_BadMachine := KD_BadMachine
    gk_BadMachine := PySem.W.mg_of X G da_BadMachine
    kc_BadMachine := di_BadMachine
    kt_BadMachine := dy_BadMachine
    k_BadRow := KD_BadRow
    gk_BadRow := PySem.W.mg_of X G da_BadRow
    kc_BadRow := di_BadRow
    kt_BadRow := dy_BadRow
    k_Misfit := KD_Misfit
    gk_Misfit := PySem.W.mg_of X G da_Misfit
    kc_Misfit := di_Misfit
    kt_Misfit := dy_Misfit
    su_BadText_TooMany := ds_BadText_TooMany
    su_BadText_BadText := ds_BadText_BadText
    su_BadText_BadEdits := ds_BadText_BadEdits
    su_BadText_BadNumber := ds_BadText_BadNumber
    su_BadText_BadBook := ds_BadText_BadBook
    su_BadText_BadMachine := ds_BadText_BadMachine
    su_BadText_BadRow := ds_BadText_BadRow
    su_BadText_Misfit := ds_BadText_Misfit
    su_BadEdits_TooMany := ds_BadEdits_TooMany
    su_BadEdits_BadText := ds_BadEdits_BadText
    su_BadEdits_BadEdits := ds_BadEdits_BadEdits
    su_BadEdits_BadNumber := ds_BadEdits_BadNumber
    su_BadEdits_BadBook := ds_BadEdits_BadBook
    su_BadEdits_BadMachine := ds_BadEdits_BadMachine
    su_BadEdits_BadRow := ds_BadEdits_BadRow
    su_BadEdits_Misfit := ds_BadEdits_Misfit
    m_isinstance := PySem.W.mg_none_of X G z0
    m_list := PySem.W.mg_none_of X G z1
    m_tuple := PySem.W.mg_none_of X G z2
    m_int := PySem.W.mg_none_of X G z3
    m_bool := PySem.W.mg_none_of X G z4
    m_str := PySem.W.mg_none_of X G z5
    m_len := PySem.W.mg_none_of X G z6
    m_zip := PySem.W.mg_none_of X G z7
    m_range := PySem.W.mg_none_of X G z8
    m_abs := PySem.W.mg_none_of X G z9
    e_BadText := er_BadText
    e_BadEdits := er_BadEdits
    t_MOST_SIGNS := t0
    c_MOST_SIGNS := PySem.W.mg_of X G q0
    t_MOST_EDITS := t1
    c_MOST_EDITS := PySem.W.mg_of X G q1 }
end K05
open PySem PySem.W PyProof.Rows
set_option maxHeartbeats 0 in
theorem PySem.Challenge.cw_anyletter_k05_what_is_no_damage_holds : PySem.Challenge.rw_anyletter_k05_what_is_no_damage.Holds := by
  w_on; o_law; k_head; (case hw => w_witness2)
  k_fill
  refine Kx.walkL (l := PySem.Challenge.rw_anyletter_k05_what_is_no_damage) (n := 63) (k := 17) (x := "script") (y := "law") K05.sp_law rfl (by decide) rfl ⟨rfl, by decide, by decide⟩ (fun w h Y => PySem.W.km_in_of Y) ?hcs ?FF (fun K Pt H a ns hl ht hS => ⟨a, ns, rfl, hS, ht, fun _ => rfl⟩)
  case hcs =>
    intro p
    refine' ⟨⟨_, rfl⟩, Kx.tabIn_of ?ta ?tl ?te ?tl2 ?tv ?tn⟩
    case ta => k_is
    case tl => k_is
    case te => rfl
    case tl2 => k_is
    case tv => rfl
    case tn => rfl
  case FF =>
    intro w mg fa h KX G hmg
    refine' Kx.useIt (K05.tx_mk KX G ?a0 ?l0 ?c0 ?k0 ?a1 ?l1 ?c1 ?k1 ?a2 ?l2 ?c2 ?k2 ?a3 ?l3 ?c3 ?k3 ?a4 ?l4 ?c4 ?k4 ?a5 ?l5 ?c5 ?k5 ?a6 ?l6 ?c6 ?k6 ?a7 ?l7 ?c7 ?k7 ?a8 ?l8 ?c8 ?k8 ?a9 ?l9 ?c9 ?k9 ?a10 ?l10 ?c10 ?k10 ?a11 ?l11 ?c11 ?k11 ?a12 ?l12 ?c12 ?k12 ?a13 ?l13 ?c13 ?k13 ?a14 ?l14 ?c14 ?k14 ?a15 ?l15 ?c15 ?k15 ?a16 ?l16 ?c16 ?k16 ?a17 ?l17 ?c17 ?k17 ?a18 ?l18 ?c18 ?k18 ?a19 ?l19 ?c19 ?k19 ?a20 ?l20 ?c20 ?k20 ?a21 ?l21 ?c21 ?k21 ?a22 ?l22 ?c22 ?k22 ?a23 ?l23 ?c23 ?k23 ?a24 ?l24 ?c24 ?k24 ?a25 ?l25 ?c25 ?k25 ?da_TooMany ?di_TooMany ?dy_TooMany ?da_BadText ?di_BadText ?dy_BadText ?da_BadEdits ?di_BadEdits ?dy_BadEdits ?da_BadNumber ?di_BadNumber ?dy_BadNumber ?da_BadBook ?di_BadBook ?dy_BadBook ?da_BadMachine ?di_BadMachine ?dy_BadMachine ?da_BadRow ?di_BadRow ?dy_BadRow ?da_Misfit ?di_Misfit ?dy_Misfit ?ds_BadText_TooMany ?ds_BadText_BadText ?ds_BadText_BadEdits ?ds_BadText_BadNumber ?ds_BadText_BadBook ?ds_BadText_BadMachine ?ds_BadText_BadRow ?ds_BadText_Misfit ?ds_BadEdits_TooMany ?ds_BadEdits_BadText ?ds_BadEdits_BadEdits ?ds_BadEdits_BadNumber ?ds_BadEdits_BadBook ?ds_BadEdits_BadMachine ?ds_BadEdits_BadRow ?ds_BadEdits_Misfit ?z0 ?z1 ?z2 ?z3 ?z4 ?z5 ?z6 ?z7 ?z8 ?z9 ?er_BadText ?er_BadEdits ?q0 ?q1) (fun T => ?main)
    (case a0 => k_is)
    (case l0 => k_is)
    (case c0 => k_is)
    (case k0 => k_is)
    (case a1 => k_is)
    (case l1 => k_is)
    (case c1 => k_is)
    (case k1 => k_is)
    (case a2 => k_is)
    (case l2 => k_is)
    (case c2 => k_is)
    (case k2 => k_is)
    (case a3 => k_is)
    (case l3 => k_is)
    (case c3 => k_is)
    (case k3 => k_is)
    (case a4 => k_is)
    (case l4 => k_is)
    (case c4 => k_is)
    (case k4 => k_is)
    (case a5 => k_is)
    (case l5 => k_is)
    (case c5 => k_is)
    (case k5 => k_is)
    (case a6 => k_is)
    (case l6 => k_is)
    (case c6 => k_is)
    (case k6 => k_is)
    (case a7 => k_is)
    (case l7 => k_is)
    (case c7 => k_is)
    (case k7 => k_is)
    (case a8 => k_is)
    (case l8 => k_is)
    (case c8 => k_is)
    (case k8 => k_is)
    (case a9 => k_is)
    (case l9 => k_is)
    (case c9 => k_is)
    (case k9 => k_is)
    (case a10 => k_is)
    (case l10 => k_is)
    (case c10 => k_is)
    (case k10 => k_is)
    (case a11 => k_is)
    (case l11 => k_is)
    (case c11 => k_is)
    (case k11 => k_is)
    (case a12 => k_is)
    (case l12 => k_is)
    (case c12 => k_is)
    (case k12 => k_is)
    (case a13 => k_is)
    (case l13 => k_is)
    (case c13 => k_is)
    (case k13 => k_is)
    (case a14 => k_is)
    (case l14 => k_is)
    (case c14 => k_is)
    (case k14 => k_is)
    (case a15 => k_is)
    (case l15 => k_is)
    (case c15 => k_is)
    (case k15 => k_is)
    (case a16 => k_is)
    (case l16 => k_is)
    (case c16 => k_is)
    (case k16 => k_is)
    (case a17 => k_is)
    (case l17 => k_is)
    (case c17 => k_is)
    (case k17 => k_is)
    (case a18 => k_is)
    (case l18 => k_is)
    (case c18 => k_is)
    (case k18 => k_is)
    (case a19 => k_is)
    (case l19 => k_is)
    (case c19 => k_is)
    (case k19 => k_is)
    (case a20 => k_is)
    (case l20 => k_is)
    (case c20 => k_is)
    (case k20 => k_is)
    (case a21 => k_is)
    (case l21 => k_is)
    (case c21 => k_is)
    (case k21 => k_is)
    (case a22 => k_is)
    (case l22 => k_is)
    (case c22 => k_is)
    (case k22 => k_is)
    (case a23 => k_is)
    (case l23 => k_is)
    (case c23 => k_is)
    (case k23 => k_is)
    (case a24 => k_is)
    (case l24 => k_is)
    (case c24 => k_is)
    (case k24 => k_is)
    (case a25 => k_is)
    (case l25 => k_is)
    (case c25 => k_is)
    (case k25 => k_is)
    (case da_TooMany => k_is)
    (case di_TooMany => k_is)
    (case dy_TooMany => k_is)
    (case da_BadText => k_is)
    (case di_BadText => k_is)
    (case dy_BadText => k_is)
    (case da_BadEdits => k_is)
    (case di_BadEdits => k_is)
    (case dy_BadEdits => k_is)
    (case da_BadNumber => k_is)
    (case di_BadNumber => k_is)
    (case dy_BadNumber => k_is)
    (case da_BadBook => k_is)
    (case di_BadBook => k_is)
    (case dy_BadBook => k_is)
    (case da_BadMachine => k_is)
    (case di_BadMachine => k_is)
    (case dy_BadMachine => k_is)
    (case da_BadRow => k_is)
    (case di_BadRow => k_is)
    (case dy_BadRow => k_is)
    (case da_Misfit => k_is)
    (case di_Misfit => k_is)
    (case dy_Misfit => k_is)
    (case ds_BadText_TooMany => k_is)
    (case ds_BadText_BadText => k_is)
    (case ds_BadText_BadEdits => k_is)
    (case ds_BadText_BadNumber => k_is)
    (case ds_BadText_BadBook => k_is)
    (case ds_BadText_BadMachine => k_is)
    (case ds_BadText_BadRow => k_is)
    (case ds_BadText_Misfit => k_is)
    (case ds_BadEdits_TooMany => k_is)
    (case ds_BadEdits_BadText => k_is)
    (case ds_BadEdits_BadEdits => k_is)
    (case ds_BadEdits_BadNumber => k_is)
    (case ds_BadEdits_BadBook => k_is)
    (case ds_BadEdits_BadMachine => k_is)
    (case ds_BadEdits_BadRow => k_is)
    (case ds_BadEdits_Misfit => k_is)
    (case z0 => k_is)
    (case z1 => k_is)
    (case z2 => k_is)
    (case z3 => k_is)
    (case z4 => k_is)
    (case z5 => k_is)
    (case z6 => k_is)
    (case z7 => k_is)
    (case z8 => k_is)
    (case z9 => k_is)
    (case er_BadText =>
      refine' Kx.er_mk KX G ?waC ?waL ?wxL ?whbm ?wsa ?weC ?wtC ?wkC ?wa1 ?wt1 ?wl1 ?wc1 ?wk1 ?wb1 ?wnb ?wga ?wgg ?whd ?whc ?whn ?wht ?whm ?weL ?wdL ?wtL ?wsCL
      (case waC => k_is); (case waL => k_is); (case wxL => k_is); (case whbm => rfl); (case wsa => k_is); (case weC => k_is); (case wtC => k_is); (case wkC => k_is); (case wa1 => k_is); (case wt1 => k_is); (case wl1 => k_is); (case wc1 => k_is); (case wk1 => k_is)
      (case wb1 => exact fun _ _ _ _ _ _ us hl => match us, hl with | [_, _], _ => rfl)
      (case wnb => k_is); (case wga => k_is); (case wgg => k_is); (case whd => k_is); (case whc => k_is); (case whn => k_is); (case wht => k_is); (case whm => k_is); (case weL => k_is); (case wdL => k_is); (case wtL => k_is); (case wsCL => k_is))
    (case er_BadEdits =>
      refine' Kx.er_mk KX G ?waC ?waL ?wxL ?whbm ?wsa ?weC ?wtC ?wkC ?wa1 ?wt1 ?wl1 ?wc1 ?wk1 ?wb1 ?wnb ?wga ?wgg ?whd ?whc ?whn ?wht ?whm ?weL ?wdL ?wtL ?wsCL
      (case waC => k_is); (case waL => k_is); (case wxL => k_is); (case whbm => rfl); (case wsa => k_is); (case weC => k_is); (case wtC => k_is); (case wkC => k_is); (case wa1 => k_is); (case wt1 => k_is); (case wl1 => k_is); (case wc1 => k_is); (case wk1 => k_is)
      (case wb1 => exact fun _ _ _ _ _ _ us hl => match us, hl with | [_, _], _ => rfl)
      (case wnb => k_is); (case wga => k_is); (case wgg => k_is); (case whd => k_is); (case whc => k_is); (case whn => k_is); (case wht => k_is); (case whm => k_is); (case weL => k_is); (case wdL => k_is); (case wtL => k_is); (case wsCL => k_is))
    (case q0 => k_is)
    (case q1 => k_is)
    case main =>
      obtain rfl := Kx.same_ref (x := "law") T.g_law hmg
      exact ⟨T.fd_law, Kx.binds_one T.F_law (fun _ _ _ _ _ _ _ => rfl), fun c Pt ht base hk hg hTB => K05.ok_law T (Kx.funC_of T.F_law T.n_law ht) hTB⟩
