import PyProof.Rows.All
import Wide.All
import OpenK.AllK
import Wide.FinOn
import PyProof.EqAt
import PyProof.EqKinds
import PyProof.TupleCall
import HandS.ForMost
import HandS.Exc
import HandS.IsInst
import HandS.StrMore
import HandS.Replace
import HandS.ReplaceDef
import HandS.ReplaceLit
import HandS.ReplaceList
import HandS.Defaults
import HandS.Style
import HandS.Zip
import HandS.Conv
import HandS.Lambda
import HandS.Codes
import HandS.Evl
import HandS.ExcValue
import HandS.ExcInit
import HandS.ExcIs
import HandS.ExcField
import KE.KDflt
import KE.KExcIs
import HandS.EndTab
import PyProof.ReprRoads
import PyProof.ReprBulk
import HandS.ExcOwn
import HandS.WordsExc
import HandS.Walk
import PyProof.Rows.StrStrike
import PyProof.Draws
import PyProof.ListStr
import PyProof.Rows.RegStrFacts
import PyProof.Rows.RegReprOcc
import KE.KxIndex
import HandS.OwnEq
import HandS.More
import HandS.Strs
import HandS.SetFor
import KE.KRevSl
import KE.GoesMore
import HandS.DictComp
import PyProof.StrCalls6
import PyProof.MeetsStr3
import PyProof.CallFns
import KE.GoesZip
import KE.SortData
import PyProof.StrWalks
import PyProof.DictUpdate
import PyProof.AssignAttr
import HandS.Finally
import HandS.Small
import HandS.SortRule
import HandS.Iter
import HandS.Wide
import HandS.TryMany
import HandS.DeepEq
import HandS.DictEq
import KE.KItemsList
import HandS.ClsMeth
import HandS.Nested
import HandS.Star
import KE.KSuper
import HandS.Records
import HandS.ListEq
import PyProof.NeKinds
import KE.KTypeName
import KE.KStar
import HandS.Deep
import HandS.RaiseMore
import HandS.Text
import HandS.HeadHook3
import KE.IntTextLaws
import KE.KIntText
import KE.RegKSuper
import PySem.Challenge.RW_anyletter_k34_lines_and_their_parts
set_option Elab.async false
set_option linter.all false
set_option maxRecDepth 100000
set_option maxHeartbeats 4000000
set_option autoImplicit false
namespace Kx
open PySem PySem.Spec PyProof.Rows L2
/-! ### a def that is promised only where no repr runs around it -/
structure FnG (P : Program) (w : World) (K : PySem.W.Frag) (mg : Str → Option Value) (base : Heap) (CX : CXT) (k : Nat) (f : Addr) (fd : FuncData) (ps : List Str) (sp : Sp) : Prop where
  len : ∀ vs H Q E, sp vs H Q E → vs.length = ps.length
  go : ∀ (A : Around) (outer : List Env) (s : Shared) (H : Hp) (args : Args) (us : List Value) (vs : List V) (Q : VK) (E : XK), A.guards = some [] → Room k A → Env0 P w K mg base A outer s H →
    BindsTo s fd args (ps.zip us) → Vals vs us → sp vs H Q E → codeAny (model P w) A (.call (.ref f) args) (CR CX outer P w H s Q E) s
section
variable {P : Program} {w : World} {K : PySem.W.Frag} {mg : Str → Option Value} {base : Heap}
theorem FnG.of {CX : CXT} {k : Nat} {f : Addr} {fd : FuncData} {ps : List Str} {sp : Sp} (F : FnOk P w K mg base CX k f fd ps sp) : FnG P w K mg base CX k f fd ps sp :=
  ⟨F.len, fun A outer s H args us vs Q E _ => F.run A outer s H args us vs Q E⟩
/-- the body's rule, guards told -/
theorem okG {x qual : Str} {st : Stmt} {f : Addr} {fd : FuncData} {N ps : List Str} {k : Nat} {sp : Sp} (F : Fun K x qual st f fd) (S : FnScope N ps (defScope st)) (len : ∀ vs H Q E, sp vs H Q E → vs.length = ps.length)
    (hbody : ∀ (cdv : Value) (A : Around) (outer : List Env) (s : Shared) (H : Hp) (vs : List V) (Q : VK) (E : XK), A.guards = some [] → Room k (A.deeper (envOfC qual (defScope st) s.heap.objs.size f cdv)) → sp vs H Q E →
      ∃ t, PSs (cxOf CX0 P w K mg base N qual (defScope st) f cdv A outer s H E).nox (defBody st) t ∧ t { nx := fun _ H' => Q .non H', rt := Q } (start N vs) H) :
    FnG P w K mg base CX0 (k + 1) f fd ps sp := by
  obtain ⟨oc, od, kV, doc, pm, an, cdv, ct, osl, rfl, lk, hcd⟩ := F.ex
  refine ⟨len, fun A outer s H args us vs Q E hg hr e0 hb r hsp => ?_⟩
  refine LamX.run_ofS lk hcd S hr e0 hb r (len _ _ _ _ hsp) fun hr' => ?_
  obtain ⟨t, h, q⟩ := hbody cdv A outer s H vs Q E hg hr' hsp
  exact ⟨t, h.nox, q⟩
end
/-! ### the law's own call, guards told -/
section
variable {P : Program} {w : World} {K : PySem.W.Frag} {mg mb : Str → Option Value} {k : Nat} {fa a : Addr} {fd : FuncData} {x : Str} {sp : Sp} {s : Shared} {vs : List Value} {ns : List Int}
/-- what the law's call has to leave -/
def LawEnd (s : Shared) (r : Result) (t : Shared) : Prop := r = .ok (.ret (.bool true)) ∧ OldK s.heap t.heap ∧ t.os = s.os ∧ AllBare t.gens
theorem lawG_of (KX : K.In s.heap) (G : s.heap.Ns mainGlobals mg) (B : s.heap.Ns builtinsNs mb) (BB : ∀ y : Str, y ≠ "__name__" → mb y = bootBuiltins y) (NL : s.heap.NoLimit) (g0 : s.gens = #[])
    (hr : Room k callerA) (F : ∀ base : Heap, K.In base → base.Ns mainGlobals mg → FnG P w K mg base CX0 k fa fd [x] sp) (bd : ∀ (t : Shared) (u : Value), BindsTo t fd ⟨[u], []⟩ [(x, u)])
    (H : Hp) (one : ∀ b u, H b = some u → b = a ∧ K.lookup a = none ∧ (∃ o xs, u = .frz o (.lst xs)) ∧ ∀ o es ep, s.heap.get? a = some o → o.data ≠ .dict es ep) (ok : HOk P w H s.heap)
    (pr : sp [.ref a] H (fun v _ => v = .bl true) fun _ _ _ => False) : codeAny (model P w) callerA (.call (.ref fa) ⟨[.ref a], []⟩) (LawEnd s) s := by
  have stay : ∀ {b : Addr} {o : Obj}, s.heap.get? b = some o → H b = none → (hidT s.heap H).get? b = some o := fun e n => hidT_get e n
  have nodict : ∀ {b : Addr} {m : Str → Option Value}, s.heap.Ns b m → (hidT s.heap H).Ns b m := by
    rintro b m ⟨o, es, ep, e, d, r⟩
    refine ⟨o, es, ep, stay e ?_, d, r⟩
    cases q : H b with
    | none => rfl
    | some u =>
      obtain ⟨rfl, _, _, nd⟩ := one b u q
      exact absurd d (nd o es ep e)
  have Kb : K.In (hidT s.heap H) := by
    intro b o e
    refine stay (KX b o e) ?_
    cases q : H b with
    | none => rfl
    | some u =>
      obtain ⟨rfl, z, _, _⟩ := one b u q
      rw [z] at e
      cases e
  obtain ⟨ml, l1, l2⟩ := NL
  have E0 : Env0 P w K mg (hidT s.heap H) callerA [] s H :=
    { frames := rfl
      mod := { kin := Kb, glob := nodict G, blt := ⟨mb, nodict B, BB⟩, nolimit := ⟨ml, nodict l1, l2⟩ }
      bs := fun b o e => of_hidT e
      bsz := Nat.le_of_eq (hidT_size _ _)
      funs := trivial
      frf := fun b hb => absurd hb (List.not_mem_nil)
      hok := ok
      bare := .of_eq g0 }
  refine codeAny_mono ((F _ Kb (nodict G)).go callerA [] s H ⟨[.ref a], []⟩ [.ref a] [.ref a] _ _ rfl hr E0 (bd s (.ref a)) (.cons rfl .nil) pr) ?_
  intro r t h
  match r, h with
  | .error e, h =>
    exact (show False from h).elim
  | .ok .next, h => exact False.elim h
  | .ok .brk, h => exact False.elim h
  | .ok .cont, h => exact False.elim h
  | .ok (.ret u), h =>
    obtain ⟨v, H', h1, h2, un, ok', rv, rfl⟩ := h
    cases rv
    refine ⟨rfl, OldK.of_keep fun b o e => ?_, h1, h2⟩
    cases q : H b with
    | none => exact un.keep b o e q List.not_mem_nil List.not_mem_nil
    | some u =>
      obtain ⟨rfl, _, ⟨ob, xs, rfl⟩, _⟩ := one b u q
      have e1 := (ok b _ q).1
      have e2 := (ok' b _ (un.frzs b ob _ q)).1
      rw [e] at e1
      cases e1
      exact e2
theorem lawG (KX : K.In s.heap) (G : s.heap.Ns mainGlobals mg) (B : s.heap.Ns builtinsNs mb) (BB : ∀ y : Str, y ≠ "__name__" → mb y = bootBuiltins y) (NL : s.heap.NoLimit) (g0 : s.gens = #[])
    (ha : s.heap.get? a = some { cls := .type "list", data := .seq vs.toArray }) (hi : IntsAre vs ns) (hl : ns.length ≤ sizeLine)
    (hr : Room k callerA) (F : ∀ base : Heap, K.In base → base.Ns mainGlobals mg → FnG P w K mg base CX0 k fa fd [x] sp) (bd : ∀ (t : Shared) (u : Value), BindsTo t fd ⟨[u], []⟩ [(x, u)])
    (pr : ∀ H : Hp, Only H → SqL K H a (ns.map V.int) → sp [.ref a] H (fun v _ => v = .bl true) fun _ _ _ => False) : codeAny (model P w) callerA (.call (.ref fa) ⟨[.ref a], []⟩) (LawEnd s) s := by
  have rv := vals_ints hi
  have lv := hi.length
  have nd : ∀ o es ep, s.heap.get? a = some o → o.data ≠ .dict es ep := by
    intro o es ep e d
    rw [ha] at e
    cases e
    cases d
  cases hk : K.lookup a with
  | some o =>
    have e := KX a o hk
    rw [ha] at e
    cases e
    have z : ∀ (b : Addr) (u : HO), (none : Option HO) = some u → False := fun _ _ q => nomatch q
    refine lawG_of KX G B BB NL g0 hr F bd (fun _ => none) (fun b u q => (z b u q).elim) (fun b u q => (z b u q).elim) (pr _ (fun _ => .inl rfl) (.inr ⟨_, vs.toArray, _, hk, rfl, rfl, rfl, ?_, by simpa using rv⟩))
    rw [List.size_toArray, lv]
    exact hl
  | none =>
    let o0 : Obj := { cls := .type "list", data := .seq vs.toArray }
    let Ha : Hp := fun b => if b = a then some (.frz o0 (.lst (ns.map V.int))) else none
    have at_a : Ha a = some (.frz o0 (.lst (ns.map V.int))) := if_pos rfl
    have but : ∀ b u, Ha b = some u → b = a ∧ u = .frz o0 (.lst (ns.map V.int)) := by
      intro b u q
      by_cases hb : b = a
      · subst hb
        rw [at_a] at q
        exact ⟨rfl, (Option.some.inj q).symm⟩
      · have q' : (none : Option HO) = some u := (if_neg hb).symm.trans q
        cases q'
    refine lawG_of KX G B BB NL g0 hr F bd Ha (fun b u q => ?_) (fun b u q => ?_) (pr _ (fun b => ?_) (.inl (.inr ⟨o0, at_a⟩)))
    · obtain ⟨e1, e2⟩ := but b u q
      exact ⟨e1, hk, ⟨_, _, e2⟩, nd⟩
    · obtain ⟨rfl, rfl⟩ := but b u q
      exact ⟨ha, by rw [List.length_map]; exact hl, vs, _, rv, ha⟩
    · by_cases hb : b = a
      · exact .inr ⟨_, _, by rw [hb]; exact at_a⟩
      · exact .inl (if_neg hb)
end
open PySem.W in
/-- the goal that the head leaves -/
theorem walkG {l : OpenLaw} {n k : Nat} {q : Program} {loose : List Str} {XP : (Str → Option Value) → Heap → Prop} {YP : World → Heap → Prop} {d : DefRec} {K : Params → Frag} {sp : Frag → Sp} {x : Str}
    (hn : l.most = some n) (hz : n ≤ sizeLine) (h0 : d.params.defaults = []) (hr : Room k callerA) (hY : ∀ (w : World) (h : Heap), YP w h → (K w.params).In h)
    (F : ∀ (w : World) (mg : Str → Option Value) (fa : Addr) (h : Heap), (K w.params).In h → h.Ns mainGlobals mg → mg d.name = some (.ref fa) → ∃ fd : FuncData,
      (∀ (t : Shared) (u : Value), BindsTo t fd ⟨[u], []⟩ [(x, u)]) ∧ ∀ base : Heap, (K w.params).In base → base.Ns mainGlobals mg → FnG l.prog w (K w.params) mg base CX0 k fa fd [x] (sp (K w.params)))
    (pr : ∀ (K : Frag) (H : Hp) (a : Addr) (ns : List Int), ns.length ≤ n → Only H → SqL K H a (ns.map V.int) → sp K [.ref a] H (fun v _ => v = .bl true) fun _ _ _ => False) :
    WalkO q loose XP YP l.row.toRowW d [] (fun f us => PySem.call f us) := by
  refine Att.attach_call hn h0 ?_
  intro w s₀ s₁ mg mb fa o pm cd doc a us ns G Y ho hd hcd hm hobj hints hlen hg
  obtain ⟨fd, hb, hF⟩ := F w mg fa _ (hY w _ Y) G.T.g hm
  exact lawG (hY w _ Y) G.T.g G.T.b G.T.builtins G.T.nolimit hg hobj hints (Nat.le_trans hlen hz) hr hF hb fun H hO hS => pr _ H a ns hlen hO hS
end Kx
namespace Kx
open PySem PySem.Spec PyProof.Rows L2 SX
/-! ### heaps -/
theorem same_new {H : Hp} {p : Addr} {o : HO} (h : H p = none) : Same H (upd H p o) := fun b u e => by
  rw [upd_ne (ne_of_none e h)]
  exact e
theorem Same.t {K : PySem.W.Frag} {H H' : Hp} {a : Addr} {xs : List V} (e : Same H H') (h : SqT K H a xs) : SqT K H' a xs := by
  rcases h with (h | ⟨o, h⟩) | h
  · exact .inl (.inl (e _ _ h))
  · exact .inl (.inr ⟨o, e _ _ h⟩)
  · exact .inr h
/-- a list or a tuple -/
def SqQ (K : PySem.W.Frag) (H : Hp) (a : Addr) (xs : List V) : Prop := SqL K H a xs ∨ SqT K H a xs
theorem Same.q {K : PySem.W.Frag} {H H' : Hp} {a : Addr} {xs : List V} (e : Same H H') (h : SqQ K H a xs) : SqQ K H' a xs := h.imp e.seq (Same.t e)
theorem tyL {K : PySem.W.Frag} {H : Hp} {a : Addr} {xs : List V} (h : SqL K H a xs) : TyX K H (.ref a) (.type "list") := by
  rcases h with (h | ⟨o, h⟩) | ⟨o, vs, n, h, hc, _⟩
  · exact .base (.lst h)
  · exact .base (.frz h)
  · exact .kList h hc
theorem tyT {K : PySem.W.Frag} {H : Hp} {a : Addr} {xs : List V} (h : SqT K H a xs) : TyX K H (.ref a) (.type "tuple") := by
  rcases h with (h | ⟨o, h⟩) | ⟨o, vs, n, h, hc, _⟩
  · exact .base (.tup h)
  · exact .fTuple h
  · exact .kTuple h hc
theorem kit_at {K : PySem.W.Frag} {n : String} {a b : Bool} (h1 : kitB n "list" = some a) (h2 : kitB n "tuple" = some b) : PySem.W.kitAny K (.type n) [.type "list", .type "tuple"] = some (a || b) := by
  refine kitAny_cons (kit_ty h1) (fun e => ?_) (fun e => by rw [e]; rfl)
  rw [e, Bool.false_or]
  exact kitAny_cons (kit_ty h2) (fun e => by rw [e]; exact kitAny_nil) (fun e => e)
theorem isl_q {K : PySem.W.Frag} {H : Hp} {a : Addr} {xs : List V} (h : SqQ K H a xs) : ∃ n, TyX K H (.ref a) (.type n) ∧ PySem.W.kitAny K (.type n) [.type "list", .type "tuple"] = some true := by
  rcases h with h | h
  · exact ⟨_, tyL h, kit_at (a := true) (b := false) (by decide +kernel) (by decide +kernel)⟩
  · exact ⟨_, tyT h, kit_at (a := false) (b := true) (by decide +kernel) (by decide +kernel)⟩
theorem ix_q {K : PySem.W.Frag} {H : Hp} {a : Addr} {xs : List V} {i : Int} {v : V} {Q : VK} (h : SqQ K H a xs) (hv : atI xs i = some v) (q : Q v H) : rIx K (.ref a) (.int i) H Q := by
  rcases h with h | h
  · exact .inl ⟨a, xs, i, v, rfl, rfl, h, hv, q⟩
  · exact .inr (.inl ⟨a, xs, i, v, rfl, rfl, h, hv, q⟩)
/-- is it data of this form, whatever tracks it -/
theorem dp_same {K : PySem.W.Frag} {H H' : Hp} (e : Same H H') : ∀ (d : PyData) (v : V), Dp K H v d → Dp K H' v d := by
  intro d v h
  exact Dp.rec (motive_1 := fun v d _ => Dp K H' v d) (motive_2 := fun vs ds _ => DpAll K H' vs ds) .non .bl .int .str (fun h _ i => .lst (e.seq h) i) (fun h _ i => .tup (Same.t e h) i) .nil (fun _ _ a b => .cons a b) h
end Kx
namespace Kx
open PySem PySem.Spec PyProof.Rows L2 SX
theorem iteC {c : Bool} {A B : Prop} (h1 : c = true → A) (h2 : c = false → B) : if c = true then A else B := by
  cases c with
  | true => exact iteT (h1 rfl)
  | false => exact iteF (h2 rfl)
/-! ### letters and signs -/
def low (c : Nat) : Bool := decide (97 ≤ c) && decide (c ≤ 122)
def lowB (l : List Nat) : Bool := !l.isEmpty && l.all low
def sg (c : Nat) : Bool := decide (c = 32) || low c
def textB (l : List Nat) : Bool := decide (l.length ≤ 200000) && l.all sg
theorem ascii1 : (List.range 128).all (fun c => (if Unicode.isAlpha c then (Unicode.isLower c && !(Unicode.isUpper c || Unicode.isTitle c)) == low c && ((Unicode.isLower c && !(Unicode.isUpper c || Unicode.isTitle c)) || (Unicode.isUpper c || Unicode.isTitle c)) else !low c)) = true := by decide +kernel
theorem ascii2 (c : Nat) (h : c < 128) : (Unicode.isAlpha c = true → ((Unicode.isUpper c || Unicode.isTitle c) = !low c) ∧ (low c = true → Unicode.isLower c = true)) ∧ (low c = true → Unicode.isAlpha c = true) := by
  have z := List.all_eq_true.mp ascii1 c (List.mem_range.mpr h)
  cases ha : Unicode.isAlpha c <;> cases hl : Unicode.isLower c <;> cases hu : (Unicode.isUpper c || Unicode.isTitle c) <;> cases hw : low c <;> simp_all
theorem low_lt {c : Nat} (h : low c = true) : c < 128 := by
  unfold low at h
  simp only [Bool.and_eq_true, decide_eq_true_eq] at h
  omega
theorem letters_S (l : List Nat) : (Txt.isascii (S l) && (Txt.isalpha (S l) && Txt.islower (S l))) = lowB l := by
  have ea : ∀ p : Nat → Bool, (S l).cps.all p = l.all p := fun p => by simp
  have ey : ∀ p : Nat → Bool, (S l).cps.any p = l.any p := fun p => by simp
  unfold Txt.isascii Txt.isalpha Txt.islower lowB
  rw [ea, ea, ey, ey, S_len]
  cases l with
  | nil => rfl
  | cons d r =>
    have e0 : decide ((d :: r).length > 0) = true := by simp
    rw [e0, Bool.true_and]
    rw [Bool.eq_iff_iff]
    simp only [Bool.and_eq_true, List.all_eq_true, decide_eq_true_eq, List.any_eq_true, Bool.not_eq_true', List.isEmpty_cons, Bool.not_false, true_and]
    constructor
    · rintro ⟨h1, h2, _, h4⟩ c hc
      have k := (ascii2 c (h1 c hc)).1 (h2 c hc)
      have n : (Unicode.isUpper c || Unicode.isTitle c) = false := by
        cases q : (Unicode.isUpper c || Unicode.isTitle c) with
        | false => rfl
        | true =>
          rw [List.any_eq_false] at h4
          exact absurd q (h4 c hc)
      rw [n] at k
      simpa using k.1
    · intro h
      refine ⟨fun c hc => low_lt (h c hc), fun c hc => (ascii2 c (low_lt (h c hc))).2 (h c hc), ⟨d, List.mem_cons_self, ?_⟩, ?_⟩
      · have hd := h d List.mem_cons_self
        exact ((ascii2 d (low_lt hd)).1 ((ascii2 d (low_lt hd)).2 hd)).2 hd
      · rw [List.any_eq_false]
        intro c hc q
        have hd := h c hc
        have k := ((ascii2 c (low_lt hd)).1 ((ascii2 c (low_lt hd)).2 hd)).1
        rw [q, hd] at k
        cases k
end Kx
namespace Kx
open PySem PySem.Spec PyProof.Rows L2 SX
/-! ### an exception that a name keeps behind the suite -/
/-- at a: an exception of the class cls, its own dict at d -/
def exT (a : Addr) (cls : Value) (d : Option Addr) : HO := .ext fun h => ∃ (oe : Obj) (vs : Array Value), h.get? a = some oe ∧ Zc cls d oe ∧ oe.data = .fields vs
section
variable {X : Cx} {pn0 : List (Addr × Obj)} {σ : L2.St} {H : Hp} {s : Shared} {a : Addr} {oe : Obj} {cls : Value} {d : Option Addr}
theorem exT_ne (o : HO) (h : ∀ φ, o ≠ .ext φ) : exT a cls d ≠ o := fun z => h _ z.symm
/-- what stands pinned in the suite is tracked behind it -/
theorem Inv.track {vs : Array Value} (I : Inv X pn0 σ H s) (ha : s.heap.get? a = some oe) (hz : Zc cls d oe) (hd : oe.data = .fields vs) (na : H a = none) (new0 : X.s_0.heap.get? a = none) (nL : a ≠ X.env.locals)
    (np : ∀ p ∈ X.pn ++ pn0, p.1 ≠ a) : Inv X pn0 σ (upd H a (exT a cls d)) s := by
  have off : ∀ {b : Addr} {u : HO}, H b = some u → upd H a (exT a cls d) b = some u := fun {b u} e => by
    rw [upd_ne (ne_of_none e na)]
    exact e
  have un : ∀ {b : Addr}, b ≠ a → H b = none → upd H a (exT a cls d) b = none := fun {b} n e => by
    rw [upd_ne n]
    exact e
  have old : ∀ {b : Addr} {o : Obj}, X.s_0.heap.get? b = some o → b ≠ a := fun {b o} e z => by
    rw [z, new0] at e
    cases e
  exact
    { ok := I.ok
      os := I.os
      bare := I.bare
      base :=
        { keep := I.base.keep
          slot := I.base.slot
          free := fun b o e n x => un (old e) (I.base.free b o e n x)
          there := I.base.there
          tups := fun b xs e => off (I.base.tups b xs e)
          frzs := fun b o u e => off (I.base.frzs b o u e)
          tbls := fun b ps e => by
            obtain ⟨m, q⟩ := I.base.tbls b ps e
            exact ⟨m, off q⟩ }
      loc := I.loc
      cell := I.cell
      free := un (Ne.symm nL) I.free
      freeC := fun y c e => by
        refine un (fun z => ?_) (I.freeC y c e)
        obtain ⟨v, o, e1, e2⟩ := I.cell y c e
        rw [z, ha] at e1
        cases e1
        rw [hd] at e2
        cases e2
      pin := fun p hp => by
        obtain ⟨e, n, r⟩ := I.pin p hp
        exact ⟨e, un (np p hp) n, r⟩
      hok := HOk.laidN (P := X.prog) (w := X.w) I.hok (fun _ _ e => e) na ⟨⟨oe, vs, ha, hz, hd⟩, ⟨oe, ha⟩, fun h1 h2 z k => by
        obtain ⟨o, v, e1, e2⟩ := z
        exact ⟨o, v, k _ e1, e2⟩⟩
      len := I.len }
end
/-- what «try: .. except x as n: y = n» wishes of an exception: it is one of x's; y keeps it -/
def wKeep (K : PySem.W.Frag) (n : Nat) (c : Value) (i j : Nat) (D : Ends) : WX := fun cls d σ H =>
  PySem.W.exmOne K cls c = some true ∧ ∀ a, H a = none → σ.length = n → D.nx ((((σ.set i (some (.ref a))).set j (some (.ref a)))).set i none) (upd H a (exT a cls d))
section
variable {X : Cx} {x n y : Str} {c : Value} {i j : Nat} {body : List Stmt} {p1 p2 p3 np pos pos' : Pos} {tb : WX → TS}
theorem ps_keep (hs : X.stack = X.env :: X.outer) (hex : X.ex = []) (hf : X.env.frame = some X.env.locals) (hN : X.N.Nodup) (hi : X.N[i]? = some n) (hln : X.env.kindOf n = some .local) (hlv : X.env.scope.names.lookup n = some .local)
    (hj : X.N[j]? = some y) (hlj : X.env.scope.names.lookup y = some .local) (hc : Names X x c) (hdb : (n == ("__debug__" : Str)) = false) (hdc : (n == ("__classdict__" : Str)) = false)
    (hb : ∀ (W : WX) (pn : List (Addr × Obj)) (xe : Value → Shared → Prop), Takes (X.tr pn xe) W → PassesOwn (model X.prog X.w) X.A X.env xe → PSs (X.tr pn xe) body (tb W)) :
    PS X (.Try body [.ExceptHandler (some (.Name x np)) (some n) [.Assign [.Name y p1] (.Name n p2) p3] pos'] [] [] pos) (fun D σ H => tb (wKeep X.K X.N.length c i j D) D σ H) := by
  refine ⟨fun pn0 s σ H D I h => ?_⟩
  have ok := I.ok
  have fr : X.A.frames = some (X.env :: X.outer) := by rw [ok.frames, hs]
  apply wpAny_Try_except
  have run := hb (wKeep X.K X.N.length c i j D) (X.pn ++ pn0)
    (fun e t1 => wpAny (model X.prog X.w) X.A (noteFrame e X.env)
      (fun _ t2 => wpAny (model X.prog X.w) X.A (setFlight e none)
        (fun _ t3 => wpAny (model X.prog X.w) X.A (handleBy e X.env [.ExceptHandler (some (.Name x np)) (some n) [.Assign [.Name y p1] (.Name n p2) p3] pos']) (SP X pn0 D) X.xe t3) X.xe t2) X.xe t1) ?take PassesOwn.looking
  case take =>
    rintro u t ⟨a, B, sI, pins', σ', H', cls, d, rfl, J', nb, up, sky, na, os, ag, isOne, hend⟩
    have Jb : Inv X pn0 σ' H' sI := J'.ofTry ok
    rw [show (X.tr (X.pn ++ pn0) _).stack = X.env :: X.outer from hs] at sky
    show wpAny (model X.prog X.w) X.A (noteFrame (.ref a) X.env) _ _ _
    refine Sky.land Zc.steady fr hf sky (fun h3 fl up3 => ?_)
    have J3 : Inv X pn0 σ' H' { t with heap := h3 } := Jb.landed nb fl.1 (up.trans up3) os ag
    have Bn := fl.2.1
    obtain ⟨oz3, vz3, at3, zc3, dt3⟩ := fl.there
    have out : a ∉ frs (X.env :: X.outer) := by
      intro hm
      obtain ⟨_, o', e', hnf⟩ := fl.2.2.1.mem hm
      rw [at3] at e'
      cases e'
      exact hnf _ dt3
    have nL : a ≠ X.env.locals := fun z => out (List.mem_filterMap.mpr ⟨X.env, List.mem_cons_self, by rw [hf, z]⟩)
    have nF : a ∉ X.fs := by
      intro hm
      obtain ⟨e, hme, q⟩ := List.mem_filterMap.mp hm
      exact out (List.mem_filterMap.mpr ⟨e, List.mem_cons_of_mem _ hme, q⟩)
    have gone : ∀ {b : Addr} {o : Obj}, sI.heap.get? b = some o → b ≠ a := by
      intro b o e z
      rw [z] at e
      have q := nb a o e (by rw [hs]; exact out)
      rw [Bn] at q
      cases q
    have new0 : X.s_0.heap.get? a = none := by
      cases q : X.s_0.heap.get? a with
      | none => rfl
      | some o =>
        obtain ⟨o', e'⟩ := Jb.base.there a o q (by rw [hex]; exact List.not_mem_nil)
        exact absurd rfl (gone e')
    have np0 : ∀ p ∈ X.pn ++ pn0, p.1 ≠ a := fun p hp => gone (Jb.pin p hp).1
    have In3 := J3.suite at3 dt3 na nL nF
    refine wpAny_handleBy_cons (codeAny_handlers_test ?_) (by intro q; cases q)
    have lookT : PySem.W.Looks (model X.prog X.w) h3 (typeOf (.ref a)) cls := fun A Q E s k q => wpAny_typeOf_ref (k _ _ at3) (by rw [zc3.1]; exact q)
    have LM := PySem.W.exm_one (M := model X.prog X.w) J3.kIn lookT isOne
    have named : ∀ {Q E : Value → Shared → Prop}, Q c { t with heap := h3 } → wpAny (model X.prog X.w) (X.A.mark (some (.ref a))) (eval (.Name x np) X.env) Q E { t with heap := h3 } := by
      intro Q E q
      obtain ⟨g, gd, g2⟩ := hc
      rcases g2 with m | ⟨m, v, nn⟩
      · exact ld_glob (X := X.suite a ((a, oz3) :: (X.pn ++ pn0))) In3 g m q gd
      · exact ld_blt (X := X.suite a ((a, oz3) :: (X.pn ++ pn0))) In3 g m v q nn gd
    refine named (LM.here ?_)
    refine codeAny_handlers_suite_as (HandSPX.lands_againZ fl fun h4 flr up4 => ?_)
    have J4 : Inv X pn0 σ' H' { t with heap := h4 } := Jb.landed nb flr.1 ((up.trans up3).trans up4) os ag
    obtain ⟨oz4, vz4, at4, zc4, dt4⟩ := flr.there
    have In4 := J4.suite at4 dt4 na nL nF
    refine store_ok (X := X.suite a ((a, oz4) :: (X.pn ++ pn0))) (v := .ref a) In4 hN hi (.inl hlv) rfl (fun s5 S5 => ?_) (.inr hlv)
    have il : i < σ'.length := by
      rw [In4.len]
      exact (List.getElem?_eq_some_iff.mp hi).1
    have suite : PSs (X.suite a ((a, oz4) :: (X.pn ++ pn0))) [.Assign [.Name y p1] (.Name n p2) p3] (tAsg (tVar i) (gName j)) :=
      pss_one (ps_set hN hj (.inl hlj) (pe_var hi (.inl hlv) hdb hdc) rfl (.inr hlj))
    refine wpAny_mono (suite.run [] s5 _ H' { nx := fun σ6 H6 => σ6 = (σ'.set i (some (.ref a))).set j (some (.ref a)) ∧ H6 = H', rt := fun _ _ => False, bk := fun _ _ => False, ct := fun _ _ => False } S5 ⟨_, List.getElem?_set_self il, rfl, rfl⟩) (fun f s6 q => ?_) (fun _ _ z => False.elim z)
    match f, q with
    | .ret _, q =>
      obtain ⟨_, _, _, _, _, z⟩ := q
      exact False.elim z
    | .brk, q =>
      obtain ⟨_, _, _, z⟩ := q
      exact False.elim z
    | .cont, q =>
      obtain ⟨_, _, _, z⟩ := q
      exact False.elim z
    | .next, q =>
      obtain ⟨σ6, H6, S6, rfl, rfl⟩ := q
      have pin := S6.pin (a, oz4) List.mem_cons_self
      have J6 : Inv X pn0 _ _ s6 := S6.unsuite ok
      have J7 := Kx.Inv.track J6 pin.1 zc4 dt4 na new0 nL np0
      refine gone_ok J7 hN hi hln fun s8 J8 => ⟨_, _, J8, hend a na Jb.len⟩
  refine wpAny_mono (run.run [] s σ H D (I.toTry _) h) (fun f s1 q => ?_) fun _ _ z => z
  match f, q with
  | .next, q =>
    obtain ⟨σ', H', J', z⟩ := q
    exact wpAny_execs_nil ⟨σ', H', J'.ofTry ok, z⟩
  | .brk, q =>
    obtain ⟨σ', H', J', z⟩ := q
    exact ⟨σ', H', J'.ofTry ok, z⟩
  | .cont, q =>
    obtain ⟨σ', H', J', z⟩ := q
    exact ⟨σ', H', J'.ofTry ok, z⟩
  | .ret u, q =>
    obtain ⟨v, σ', H', J', r, z⟩ := q
    exact ⟨v, σ', H', J'.ofTry ok, r, z⟩
end
end Kx
namespace Kx
open PySem PySem.Spec PyProof.Rows L2 SX LamX
section
variable {X : Cx} {pn0 : List (Addr × Obj)} {σ : L2.St} {H HZ : Hp} {s sB : Shared}
abbrev lamQ (X : Cx) : Str := X.env.qual ++ "<lambda>"
/-- the lambda as an object, its defaults at dV -/
abbrev lamObj (X : Cx) (params : Arguments) (body : Expr) (scp : Scope) (dV doc pm : Value) (c' : Addr) (ctv : Value) : Obj := PySem.W.kdv_obj "<lambda>" (lamQ X) params (.expr body) scp (cloFrom X.env.cells scp.names []) dV doc pm c' ctv
/-- what the making leaves -/
def Made (X : Cx) (pn0 : List (Addr × Obj)) (σ : L2.St) (H : Hp) (T : List (Addr × Str)) (params : Arguments) (body : Expr) (scp : Scope) (dV : Value) (s0 : Shared) (v : Value) (s' : Shared) : Prop :=
  ∃ (f c' : Addr) (doc pm ctv : Value) (H1 : Hp), v = .ref f ∧ Inv X pn0 σ H1 s' ∧ ExtN H H1 ∧ Tabs T H1 ∧ s'.heap.get? f = some (lamObj X params body scp dV doc pm c' ctv) ∧ H1 f = none ∧ f ∉ frs X.stack ∧ H1 c' = some (CodeO c' (lamQ X)) ∧
    (∀ b o, s0.heap.get? b = some o → (∀ pz, H b ≠ some (.tbl pz)) → s'.heap.get? b = some o) ∧ (∀ b, b < s0.heap.objs.size → H b = none → H1 b = none)
theorem lam_tail {T : List (Addr × Str)} {c P : Addr} {params : Arguments} {body : Expr} {scp : Scope} {pos : Pos} {ln : Nat} {dV : Value} {E : Value → Shared → Prop} (I : Inv X pn0 σ H s) (TB : TabB X.base X.mg c P) (hcode : X.env.code = .ref c)
    (hm : (P, lamQ X) ∈ T) (onlyP : ∀ p ∈ T, p.1 = P → p.2 = lamQ X) (hT : Tabs T H) (hfree : ∀ y ∈ scp.names, y.2 = .free → ∃ c, X.env.cells.lookup y.1 = some c) :
    wpAny (model X.prog X.w) X.A (makeTail "<lambda>" (lamQ X) params (.expr body) scp X.env dV .none none pos ln) (Made X pn0 σ H T params body scp dV s) E s := by
  obtain ⟨pz, eP, tr3, amg⟩ := hT _ hm
  have btP : s.heap.BuiltinsAt X.mg P := TB.bm.keeps I.bk
  have hP' : s.heap.get? P = some { cls := .none, data := .fields pz } := I.hok P _ eP
  have nofr : ∀ f, s.heap.objs.size ≤ f → f ∉ frs X.stack := by
    intro f hf z
    rcases List.mem_cons.mp (I.stkSub _ z) with e | e
    · have h1 := I.lt
      rw [← e] at h1
      exact absurd (Nat.lt_of_lt_of_le h1 hf) (Nat.lt_irrefl _)
    · exact I.nofs hf e
  cases fnd : codeAmong pos pz.toList with
  | none =>
    refine PySem.W.kdv_makeTail (mg := X.mg) (c := c) (P := P) (ps := pz) (closure_ok hfree) I.ok.glob (I.mod.glob.keeps I.bk) hcode (TB.code.keeps I.bk) hP' tr3 fnd TB.gP btP fun c' ctv doc h' tk stP gec ltc rcc tbb => ?_
    obtain ⟨cc2, oc, vs, t, e2, ocE, hd, ovE⟩ := rcc
    cases e2
    have szle : s.heap.objs.size ≤ h'.objs.size := Nat.le_trans gec (Nat.le_of_lt ltc)
    have ncn : H c' = none := I.hok.fresh gec
    have up : ∀ b o, b ≠ P → s.heap.get? b = some o → (h'.push (lamObj X params body scp dV doc ((X.mg "__name__").getD .none) c' ctv)).get? b = some o := fun b o hb e => Heap.get?_push_of_some _ (stP b o hb e)
    have I1 := inv_table (t' := tk) (more := #[rawInt pos.line, rawInt pos.col, .ref c']) (h' := h'.push (lamObj X params body scp dV doc ((X.mg "__name__").getD .none) c' ctv)) I eP up (Heap.get?_push_of_some _ tbb) gec ⟨oc, vs, t, Heap.get?_push_of_some _ ocE, hd, ovE⟩
    have exE : ExtN H (upd (upd H P (.tbl (pz ++ #[rawInt pos.line, rawInt pos.col, .ref c']))) c' (CodeO c' (lamQ X))) := by
      intro b o e n
      rw [upd_ne (ne_of_none e ncn), upd_ne (fun z => n pz (Option.some.inj (e.symm.trans (by rw [z]; exact eP))))]
      exact e
    have ell : (pz ++ #[rawInt pos.line, rawInt pos.col, .ref c']).toList = pz.toList ++ [rawInt pos.line, rawInt pos.col, .ref c'] := by simp
    refine ⟨h'.objs.size, c', doc, _, ctv, _, rfl, I1, exE, fun p hp => ?_, Heap.get?_push_size _ rfl, ?_, nofr _ szle, upd_same, fun b o e n => up b o (fun z => n pz (by rw [z]; exact eP)) e, fun b hb n => ?_⟩
    · by_cases hb : p.1 = P
      · rw [onlyP p hp hb, hb]
        refine ⟨_, by rw [upd_ne (ne_of_none eP ncn), upd_same], by rw [ell]; exact PySem.TriplesOk_snoc _ _ _ _ tr3, fun p' cwv cvE => ?_⟩
        rw [ell] at cvE
        rcases among_app _ tr3 cvE with z | z
        · obtain ⟨cq, e1, e2⟩ := amg p' cwv z
          exact ⟨cq, e1, exE _ _ e2 codeO_ne⟩
        · exact ⟨c', z, upd_same⟩
      · obtain ⟨ps', a1, a2, a3⟩ := hT p hp
        refine ⟨ps', by rw [upd_ne (ne_of_none a1 ncn), upd_ne hb]; exact a1, a2, fun p' cwv cvE => ?_⟩
        obtain ⟨cq, e1, e2⟩ := a3 p' cwv cvE
        exact ⟨cq, e1, exE _ _ e2 codeO_ne⟩
    · rw [upd_ne (Nat.ne_of_gt ltc), upd_ne (Nat.ne_of_gt (Nat.lt_of_lt_of_le (Heap.lt_size hP') szle))]
      exact I.hok.fresh szle
    · have n1 : b ≠ c' := Nat.ne_of_lt (Nat.lt_of_lt_of_le hb gec)
      have n2 : b ≠ P := fun z => by
        rw [z, eP] at n
        cases n
      rw [upd_ne n1, upd_ne n2]
      exact n
  | some cwv =>
    obtain ⟨c', e, hco⟩ := amg pos cwv fnd
    subst e
    refine PySem.W.kdv_makeTailHit (mg := X.mg) (c := c) (P := P) (ps := pz) (closure_ok hfree) I.ok.glob (I.mod.glob.keeps I.bk) hcode (TB.code.keeps I.bk) hP' tr3 fnd btP fun ctv doc h' tk stP szle => ?_
    refine ⟨h'.objs.size, c', doc, (X.mg "__name__").getD .none, ctv, H, rfl, I.kept fun b o e => Heap.get?_push_of_some _ (stP b o e), ExtN.refl H, hT, Heap.get?_push_size _ rfl, I.hok.fresh szle, nofr _ szle, hco, fun b o e _ => Heap.get?_push_of_some _ (stP b o e), fun _ _ n => n⟩
/-- .. with one default, 0 -/
theorem lam_makeD {T : List (Addr × Str)} {c P : Addr} {params : Arguments} {body : Expr} {scp : Scope} {pos cp : Pos} {j : Nat} {E : Value → Shared → Prop} {Qw : Value → Shared → Prop} (I : Inv X pn0 σ H s) (TB : TabB X.base X.mg c P) (hcode : X.env.code = .ref c)
    (hm : (P, lamQ X) ∈ T) (onlyP : ∀ p ∈ T, p.1 = P → p.2 = lamQ X) (hT : Tabs T H) (hfree : ∀ y ∈ scp.names, y.2 = .free → ∃ c, X.env.cells.lookup y.1 = some c)
    (hp : params.defaults = [.Constant (.int 0) j cp]) (hk : params.kw_defaults = [])
    (h : ∀ (t f c' : Addr) (tk : Tok) (doc pm ctv : Value) (H1 : Hp) (s' : Shared), Inv X pn0 σ H1 s' → ExtN H H1 → Tabs T H1 → s'.heap.get? t = some (PySem.W.kdv_tup [.int 0 tk]) → H1 t = none → t ∉ frs X.stack →
      s'.heap.get? f = some (lamObj X params body scp (.ref t) doc pm c' ctv) → H1 f = none → f ∉ frs X.stack → H1 c' = some (CodeO c' (lamQ X)) → Qw (.ref f) s') :
    wpAny (model X.prog X.w) X.A (eval (.Lambda params body scp pos) X.env) Qw E s := by
  refine PySem.W.kdv_lam (by rw [hp]; rfl) hk ?_
  rw [hp]
  refine PySem.W.kdv_all1 (thn ((pe_int (X := X) (i := 0) (j := j) (pos := cp)).run pn0 s σ H (fun v H1 => v = .int 0 ∧ H1 = H) I ⟨rfl, rfl⟩) fun u sB ⟨v, H1, I1, r, e1, e2⟩ => ?_)
  subst e1 e2
  obtain ⟨tk, rfl⟩ := r
  refine PySem.W.kdv_all0 ?_
  rw [makeFunction_eq]
  simp only [List.zip_nil_right, List.filterMap_nil, List.isEmpty_nil, if_true, pure_bind, List.isEmpty_cons, Bool.false_eq_true, if_false]
  refine wpAny_bind (wpAny_newTextTuple ?_)
  have fresh : H1 sB.heap.objs.size = none := I1.hok.fresh (Nat.le_refl _)
  have off : sB.heap.objs.size ∉ frs X.stack := by
    intro z
    rcases List.mem_cons.mp (I1.stkSub _ z) with e | e
    · exact absurd I1.lt (by rw [← e]; exact Nat.lt_irrefl _)
    · exact I1.nofs (Nat.le_refl _) e
  have I2 : Inv X pn0 σ H1 { sB with heap := sB.heap.push (PySem.W.kdv_tup [.int 0 tk]) } := I1.kept (t' := sB.toks) fun b o e => Heap.get?_push_of_some _ e
  refine thn (lam_tail I2 TB hcode hm onlyP hT hfree) fun v s2 ⟨f, c', doc, pm, ctv, H2, ev, I3, eN, T3, hf, nf, off2, hco, keep, fr⟩ => ?_
  subst ev
  refine h sB.heap.objs.size f c' tk doc pm ctv H2 s2 I3 eN T3 (keep _ _ (Heap.get?_push_size _ rfl) fun pz z => ?_) (fr _ ?_ fresh) off hf nf off2 hco
  · rw [fresh] at z
    cases z
  · show sB.heap.objs.size < (sB.heap.push _).objs.size
    rw [Heap.size_push]
    exact Nat.lt_succ_self _
/-! ### its body -/
/-- one parameter, z, with a default; else captured names and globals -/
structure LamP (sc scp : Scope) (z : Str) : Prop where
  kind : scp.kind = .function
  co : scp.isCoroutine = false
  gen : scp.isGenerator = false
  own : ∀ y ∈ scp.names, y.2 ≠ .cell ∧ (y.2 = .local → y.1 = z)
  par : scp.names.lookup z = some .local
  free : ∀ y ∈ scp.names, y.2 = .free → sc.names.lookup y.1 = some .cell ∨ sc.names.lookup y.1 = some .free
theorem LamP.has {X : Cx} {scp : Scope} {z : Str} (L : LamP X.env.scope scp z) (ok : X.Ok) : ∀ y ∈ scp.names, y.2 = .free → ∃ c, X.env.cells.lookup y.1 = some c := fun y hy e => ok.has _ ((L.free y hy e).imp id id)
/-- the slots' names without z -/
def hideN (z : Str) (N : List Str) : List Str := N.map fun y => if y = z then ("%" : Str) else y
/-- the context of such a body -/
def lamCxD (X : Cx) (A : Around) (outer : List Env) (s : Shared) (H : Hp) (E : XK) (scp : Scope) (z : Str) (f c' : Addr) : Cx := { lamCx X A outer s H E scp f c' with N := hideN z X.N }
theorem lam_startD {A : Around} {outer : List Env} {E : XK} {scp : Scope} {z : Str} {f c' : Addr} {h₁ : Heap} {tk : Nat} {u : Value} (I : Inv X pn0 σ H s) (L : LamP X.env.scope scp z) (hz : scp.names.lookup ("%" : Str) = none) (e0 : Env0 X.prog X.w X.K X.mg X.base A outer sB HZ)
    (hd : A.handled = none) (un : Un (frs X.stack) [] H HZ s.heap sB.heap) (hns : h₁.Ns sB.heap.objs.size fun y => ([(z, u)] : List (Str × Value)).reverse.lookup y) (kp : ∀ b o, sB.heap.get? b = some o → h₁.get? b = some o) :
    Inv (lamCxD X A outer sB HZ E scp z f c') [] σ HZ { sB with heap := h₁, toks := tk } := by
  have hfree := L.has I.ok
  have back : ∀ {y c}, (cloFrom X.env.cells scp.names []).lookup y = some c → X.env.cells.lookup y = some c := by
    intro y c e
    rcases cloFrom_mem (PySem.mem_of_lookup e) with hm | ⟨h1, h2⟩
    · cases hm
    · obtain ⟨cc1, fnd⟩ := hfree _ h1 rfl
      have hc' : X.env.cells.lookup y = some cc1 := fnd
      have e2 : c = cc1 := by
        rw [h2]
        show (X.env.cells.lookup y).getD 0 = cc1
        rw [hc'] <;> rfl
      rw [e2]
      exact hc'
  have there : ∀ {y}, scp.names.lookup y = some .free → ∃ c, (cloFrom X.env.cells scp.names []).lookup y = some c := fun {y} hl => mem_lookup (cloFrom_has (cells := X.env.cells) (acc := []) (PySem.mem_of_lookup hl))
  have cellK : ∀ {c : Addr} {v : Option Value}, H c = none → s.heap.IsCell c v → h₁.IsCell c v := by
    rintro c v n ⟨o, ho, hdat⟩
    obtain ⟨sl, q⟩ := un.any ho n List.not_mem_nil
    exact ⟨_, kp _ _ q, hdat⟩
  have noEx : ∀ b : Addr, b ∉ (lamCxD X A outer sB HZ E scp z f c').ex := fun b => List.not_mem_nil
  refine
    { ok :=
        { mod := e0.mod
          kind := L.kind
          glob := rfl
          blt := rfl
          above := Nat.le_refl _
          inj := fun y y2 c e1 e2 => I.ok.inj y y2 c (back e1) (back e2)
          has := fun y hy => ?has
          cab := fun y c q _ => absurd (show false = true from q) Bool.false_ne_true
          hd := fun _ => hd
          frames := Around.frames_deeper e0.frames
          stk := .inr ⟨rfl, rfl⟩
          exf := fun b q => absurd q (noEx b)
          bs := e0.bs
          bsz := e0.bsz
          noex := fun b _ _ => noEx b
          exfs := fun b q => absurd q (noEx b)
          funs := e0.funs
          frf := e0.frf }
      os := rfl
      bare := e0.bare
      base := Un.kept kp
      loc := ⟨_, hns, fun i y v e1 e2 e3 => ?loc⟩
      cell := fun y c e => ?cell
      free := e0.hok.fresh (Nat.le_refl _)
      freeC := fun y c e => ?freeC
      pin := fun q hq => absurd (show q ∈ ([] : List (Addr × Obj)) ++ [] from hq) List.not_mem_nil
      hok := e0.hok.kept kp
      len := ?len }
  case has =>
    rcases (show scp.names.lookup y = some .cell ∨ scp.names.lookup y = some .free from hy) with q | q
    · exact absurd rfl (L.own _ (PySem.mem_of_lookup q)).1
    · exact there q
  case loc =>
    have e3 : Vis scp y := e3
    have e1' : (hideN z X.N)[i]? = some y := e1
    rcases e3 with k | k | k
    · exfalso
      have ez : y = z := (L.own _ (PySem.mem_of_lookup k)).2 rfl
      unfold hideN at e1'
      rw [List.getElem?_map] at e1'
      cases q : X.N[i]? with
      | none =>
        rw [q] at e1'
        cases e1'
      | some n =>
        rw [q] at e1'
        have e4 : (if n = z then ("%" : Str) else n) = y := Option.some.inj e1'
        by_cases hn : n = z
        · rw [if_pos hn] at e4
          rw [← e4, hz] at k
          cases k
        · rw [if_neg hn] at e4
          exact hn (e4.trans ez)
    · exact absurd rfl (L.own _ (PySem.mem_of_lookup k)).1
    · have eN : X.N[i]? = some y := by
        unfold hideN at e1'
        rw [List.getElem?_map] at e1'
        cases q : X.N[i]? with
        | none =>
          rw [q] at e1'
          cases e1'
        | some n =>
          rw [q] at e1'
          have e4 : (if n = z then ("%" : Str) else n) = y := Option.some.inj e1'
          by_cases hn : n = z
          · rw [if_pos hn] at e4
            rw [← e4, hz] at k
            cases k
          · rw [if_neg hn] at e4
            rw [e4]
      obtain ⟨m, hn, hl⟩ := I.loc
      have vis : Vis X.env.scope y := (L.free _ (PySem.mem_of_lookup k) rfl).elim (fun q => .inr (.inl q)) fun q => .inr (.inr q)
      obtain ⟨w', r, q⟩ := hl i y v eN e2 vis
      obtain ⟨cc2, h2⟩ := there k
      refine ⟨w', r, .inr ⟨.inr k, cc2, h2, ?_⟩⟩
      have cc1 := back h2
      rcases q with ⟨k', _⟩ | ⟨_, c3, e', q3⟩
      · have k' : X.env.scope.names.lookup y = some .local := k'
        rcases L.free _ (PySem.mem_of_lookup k) rfl with kk2 | kk2 <;> rw [show X.env.scope.names.lookup y = _ from kk2] at k' <;> cases k'
      · rw [cc1] at e'
        cases e'
        exact cellK (I.freeC y _ cc1) q3
  case cell =>
    obtain ⟨w', q⟩ := I.cell y c (back e)
    exact ⟨w', cellK (I.freeC y c (back e)) q⟩
  case freeC =>
    obtain ⟨v, o, ho, _⟩ := I.cell y c (back e)
    exact un.free c o ho (I.freeC y c (back e)) List.not_mem_nil
  case len =>
    show σ.length = (hideN z X.N).length
    unfold hideN
    rw [List.length_map]
    exact I.len
end
end Kx
namespace Kx
open PySem PySem.Spec PyProof.Rows L2 SX LamX
section
variable {X : Cx} {pn0 : List (Addr × Obj)} {σ : L2.St} {Hm : Hp} {st : Shared}
/-- how the lambda's one default binds -/
def BindD (params : Arguments) (body : Expr) (scp : Scope) (z : Str) : Prop := ∀ (q : Str) (cl : List (Str × Addr)) (t : Addr) (doc pm cv ctv : Value) (tk : Tok), ∃ k,
  bindArgs (PySem.W.kdv_fn "<lambda>" q params (.expr body) scp cl (.ref t) doc pm cv ctv) ⟨[], []⟩ = seqItems? (.ref t) >>= k ∧ k (some #[.int 0 tk]) = pure [(z, .int 0 tk)]
theorem pe_actD {CXg : CXT} {Eg : XK} {Ng : List Str} {qg : Str} {sg : Scope} {g f c' t : Addr} {tk : Tok} {cdg doc pm ctv : Value} {params : Arguments} {body : Expr} {scp : Scope} {z : Str} {k i : Nat} {a : Str} {pn : List (Addr × Obj)} {xe : Value → Shared → Prop} {W : WX} {E : XK} {tb : TE} {p1 p2 : Pos}
    (I : Inv X pn0 σ Hm st) (L : LamP X.env.scope scp z) (hz : scp.names.lookup ("%" : Str) = none)
    (ht : st.heap.get? t = some (PySem.W.kdv_tup [.int 0 tk])) (htn : Hm t = none) (htr : t ∉ frs X.stack)
    (hf : st.heap.get? f = some (lamObj X params body scp (.ref t) doc pm c' ctv)) (hfn : Hm f = none) (hfr : f ∉ frs X.stack) (hbind : BindD params body scp z)
    (tk' : Takes ((cxOf CXg X.prog X.w X.K X.mg X.base Ng qg sg g cdg X.A X.stack st Hm Eg).tr pn xe) W) (hW : ∀ cls d σ' H', E cls d H' → W cls d σ' H') (hr : Room (k + 1) (X.A.deeper (envOfC qg sg st.heap.objs.size g cdg)))
    (hbody : ∀ (A : Around) (outer : List Env) (st : Shared) (Hm : Hp), Room k (A.deeper (lamEnv X scp st.heap.objs.size f c')) → PE (lamCxD X A outer st Hm E scp z f c') body tb)
    (ixN1 : Ng[i]? = some a) (visN : Vis sg a) (dbgN : (a == ("__debug__" : Str)) = false := by decide) (clsN : (a == ("__classdict__" : Str)) = false := by decide) :
    PE ((cxOf CXg X.prog X.w X.K X.mg X.base Ng qg sg g cdg X.A X.stack st Hm Eg).tr pn xe) (.Call (.Name a p1) [] [] p2)
      (fun σZ HZ Q => σZ[i]? = some (some (.ref f)) ∧ HZ c' = some (CodeO c' (lamQ X)) ∧ tb σ HZ Q) := by
  refine ⟨fun pnZ tZ σZ HZ Q IZ h => ?_⟩
  obtain ⟨hs, hc, hq⟩ := h
  refine wpAny_Call_Name_kw (thn ((pe_var (pos := p1) (i := i) ixN1 visN dbgN clsN).run pnZ tZ σZ HZ (fun v H1 => v = .ref f ∧ H1 = HZ) IZ ⟨.ref f, hs, rfl, rfl⟩) fun u s1 hh => ?_)
  obtain ⟨v, H1, I1, r1, rfl, rfl⟩ := hh
  obtain rfl : u = Value.ref f := r1
  have none_ex : ∀ {b : Addr}, b ∉ ([] : List Addr) := fun {b} => List.not_mem_nil
  have f1 := I1.base.keep f _ hf hfn hfr none_ex
  have t1 := I1.base.keep t _ ht htn htr none_ex
  refine PySem.W.callWith_F0 ⟨_, _, _, _, f1⟩ ?_
  have un : Un (frs X.stack) [] Hm H1 st.heap s1.heap := I1.base
  obtain ⟨⟨oc, vs, tq, e1, e2, e3⟩, _, _⟩ := I1.hok c' _ hc
  have run : codeAny (model X.prog X.w) (X.A.deeper (envOfC qg sg st.heap.objs.size g cdg)) (.call (.ref f) ⟨[], []⟩) (CR (L2.CX X.prog X.w) (envOfC qg sg st.heap.objs.size g cdg :: X.stack) X.prog X.w H1 s1 Q E) s1 := by
    refine PySem.W.kla_callFunE hr.depth f1 rfl L.co L.gen rfl ⟨c', oc, vs, tq, rfl, e1, e2, e3⟩ ?_
    obtain ⟨k2, b1, b2⟩ := hbind (lamQ X) (cloFrom X.env.cells scp.names []) t doc pm (.ref c') ctv tk
    refine BindsTo.of_defaults rfl t1 rfl b1 b2 _ _ _ _ ?_
    refine wpAny_newFunctionEnv (fun y hy => (L.own y hy).1) (fun y hy => ?_) (fun h₁ hns sbt => ⟨I1.nolimit.fresh _ sbt, ?_⟩) L.kind
    · obtain rfl := List.mem_singleton.mp hy
      exact L.par
    show codeAny _ _ (.expr body (lamEnv X scp s1.heap.objs.size f c')) _ _
    have kpt : ∀ b o, s1.heap.get? b = some o → h₁.get? b = some o := fun b o e => sbt.extBut b o (Nat.ne_of_lt (Heap.lt_size e)) (Heap.get?_push_of_some _ e)
    have J := lam_startD (E := E) (f := f) (c' := c') (tk := s1.toks + 1) I L hz I1.env0 hr.hd un hns kpt
    refine PySem.W.kla_codeExpr (wpAny_mono ((hbody _ _ s1 H1 (hr.deeper _)).run [] _ _ H1 Q J hq) (fun v s' q => ?_) fun _ _ q => q)
    obtain ⟨w', H', J', rv, q⟩ := q
    exact ⟨w', H', J'.os, J'.bare, J'.base, J'.hok, rv, q⟩
  have pass : Passes (L2.CX X.prog X.w) ((cxOf CXg X.prog X.w X.K X.mg X.base Ng qg sg g cdg X.A X.stack st Hm Eg).tr pn xe) E := passes_call tk' hW
  refine wpAny_call (codeAny_mono run fun r s' q => ?_)
  match r, q with
  | .error e, q => exact pass pnZ σZ H1 s1 e s' I1 q
  | .ok (.ret u), q => exact I1.after q
  | .ok .next, q => exact False.elim q
  | .ok .brk, q => exact False.elim q
  | .ok .cont, q => exact False.elim q
/-- x(lambda z=0: body) -/
theorem pe_lamcallD {T : List (Addr × Str)} {TT : (XK → Hp → VK → Prop) → Hp → VK → Prop} {x a z : Str} {g c P : Addr} {k : Nat} {pg : Arguments} {bg : List Stmt} {sg : Scope} {dV kV doc pm cdw ct oc : Value} {an od : Option Addr} {slg : Array (Option Value)} {Ng : List Str}
    {params : Arguments} {body : Expr} {scp : Scope} {t : XK → TE} {p lps pos cp : Pos} {j : Nat} (hg : Gl X x) (mgx : X.mg x = some (.ref g)) (hk : PySem.W.keepIn X.K (.ref g) = true)
    (lkg : X.K.lookup g = some ⟨oc, od, .func (PySem.W.fnOf x x pg bg sg dV kV doc pm an cdw ct), slg⟩) (cdg2 : PySem.W.codeIn X.K cdw x = true) (bdg : L2.Binds X.K (PySem.W.fnOf x x pg bg sg dV kV doc pm an cdw ct) [a] []) (Sg : FnScope Ng [a] sg) (hNg : Ng[0]? = some a) (hva : Vis sg a)
    (hG : GivesTo X Ng x sg g cdw bg a (lamQ X) TT) (TB : TabB X.base X.mg c P) (hcode : X.env.code = .ref c) (hmT : (P, lamQ X) ∈ T) (hu : ∀ p ∈ T, p.1 = P → p.2 = lamQ X) (hr : Room (k + 2) X.A)
    (L : LamP X.env.scope scp z) (hz : scp.names.lookup ("%" : Str) = none) (hp : params.defaults = [.Constant (.int 0) j cp]) (hkw : params.kw_defaults = []) (hbind : BindD params body scp z)
    (hbody : ∀ (A : Around) (outer : List Env) (st : Shared) (Hm : Hp) (E : XK) (f c' : Addr), Room k (A.deeper (lamEnv X scp st.heap.objs.size f c')) → PE (lamCxD X A outer st Hm E scp z f c') body (t E))
    (dbgX : (x == ("__debug__" : Str)) = false := by decide) (dbgN : (a == ("__debug__" : Str)) = false := by decide) (clsN : (a == ("__classdict__" : Str)) = false := by decide) :
    PE X (.Call (.Name x p) [.Lambda params body scp lps] [] pos) (tLam T TT t) := by
  refine ⟨fun pn0 st σ Hm Q I h => ?_⟩
  obtain ⟨hT, hq⟩ := h
  refine wpAny_Call_Name_kw (ld_glob I hg mgx ?_ dbgX)
  refine PySem.W.callWith_K (h₀ := X.base) I.ok.mod.kin hk ?_ (by rfl) (by rfl)
  show wpAny _ _ (spliced ((false, eval (.Lambda params body scp lps) X.env) :: backTo pos (starEach [] X.env))) _ _ st
  refine Calls.spliced_cons (lam_makeD I TB hcode hmT hu hT (L.has I.ok) hp hkw ?_)
  intro tt f c' tk doc' pm' ctv H1 s' I1 eN T1 ht nt ot hf nf of_ hco
  refine Calls.spliced_nil ⟨I1.kIn, ?_⟩
  have called : codeAny (model X.prog X.w) X.A (.call (.ref g) ⟨[.ref f], []⟩) (CR C8.CX0 X.stack X.prog X.w H1 s' Q C8.E0) s' := by
    refine run_ofS (N := Ng) (ps := [a]) (us := [.ref f]) (vs := [.ref f]) lkg cdg2 Sg hr I1.env0 (bdg s' [.ref f] I1.kIn rfl) (.cons rfl .nil) rfl fun hr' => ?_
    obtain ⟨t', d', q'⟩ := hG f c' s' H1 Q (fun E H' Q' => t E σ H' Q') (fun W pn xe E p1 p2 tk2 hW => pe_actD (i := 0) I1 L hz ht nt ot hf nf of_ hbind tk2 hW hr' (fun A outer st Hm hr2 => hbody A outer st Hm E f c' hr2) hNg hva dbgN clsN) hco (hq H1 eN T1)
    exact ⟨t', d'.nox, q'⟩
  refine wpAny_call (codeAny_mono called fun r s2 q => ?_)
  match r, q with
  | .error e, q => exact (show False from q).elim
  | .ok (.ret u), q => exact I1.after q
  | .ok .next, q => exact False.elim q
  | .ok .brk, q => exact False.elim q
  | .ok .cont, q => exact False.elim q
end
end Kx
namespace Kx
open PySem PySem.Spec PyProof.Rows L2 SX LamX
/-! ### the law's own call: guards told, tables of code objects known -/
section
variable {P : Program} {w : World} {K : PySem.W.Frag} {mg mb : Str → Option Value} {k : Nat} {fa a : Addr} {fd : FuncData} {x : Str} {sp : Sp} {s : Shared} {vs : List Value} {ns : List Int} {cs : List (Addr × Addr)}
abbrev tab0 : Obj := { cls := .none, data := .fields #[] }
abbrev scriptObj (vs : List Value) : Obj := { cls := .type "list", data := .seq vs.toArray }
/-- what is tracked when the law begins: the script, perhaps, and the tables -/
inductive Tr (cs : List (Addr × Addr)) (K : PySem.W.Frag) (a : Addr) (b : Addr) (u : HO) : Prop where
  | script (o : Obj) (xs : List V) (e : b = a) (k : K.lookup a = none) (h : u = .frz o (.lst xs))
  | table (p : Addr × Addr) (m : p ∈ cs) (e : b = p.2) (h : u = .tbl #[])
theorem lawT_of (KX : K.In s.heap) (G : s.heap.Ns mainGlobals mg) (B : s.heap.Ns builtinsNs mb) (BB : ∀ y : Str, y ≠ "__name__" → mb y = bootBuiltins y) (NL : s.heap.NoLimit) (g0 : s.gens = #[])
    (hT : ∀ p ∈ cs, s.heap.get? p.2 = some tab0 ∧ K.lookup p.2 = none ∧ PySem.W.CodeHd s.heap p.1 p.2)
    (bm : ∃ (m : Addr) (ob : Obj), mg "__builtins__" = some (.ref m) ∧ m ≠ builtinsNs ∧ s.heap.get? m = some ob ∧ ob.cls = .type "module" ∧ ob.dict = some builtinsNs ∧ ob.data = .plain)
    (ha : s.heap.get? a = some (scriptObj vs)) (hr : Room k callerA) (F : ∀ base : Heap, K.In base → base.Ns mainGlobals mg → (∀ p ∈ cs, TabB base mg p.1 p.2) → FnG P w K mg base CX0 k fa fd [x] sp)
    (bd : ∀ (t : Shared) (u : Value), BindsTo t fd ⟨[u], []⟩ [(x, u)]) (H : Hp) (tr : ∀ b u, H b = some u → Tr cs K a b u) (ok : HOk P w H s.heap) (all : ∀ p ∈ cs, H p.2 = some (.tbl #[]))
    (pr : sp [.ref a] H (fun v _ => v = .bl true) fun _ _ _ => False) : codeAny (model P w) callerA (.call (.ref fa) ⟨[.ref a], []⟩) (LawEnd s) s := by
  have stay : ∀ {b : Addr} {o : Obj}, s.heap.get? b = some o → H b = none → (hidT s.heap H).get? b = some o := fun e n => hidT_get e n
  -- what is neither a list nor an empty table is not tracked
  have off : ∀ {b : Addr} {o : Obj}, s.heap.get? b = some o → (∀ l n, o.data ≠ .seq l n) → o.data ≠ .fields #[] → H b = none := by
    intro b o e h1 h2
    cases q : H b with
    | none => rfl
    | some u =>
      exfalso
      cases tr b u q with
      | script ob xs eb _ _ =>
        rw [eb, ha] at e
        cases e
        exact h1 _ _ rfl
      | table p m eb _ =>
        rw [eb, (hT p m).1] at e
        cases e
        exact h2 rfl
  have nsK : ∀ {b : Addr} {m : Str → Option Value}, s.heap.Ns b m → (hidT s.heap H).Ns b m := by
    rintro b m ⟨o, es, ep, e, d, r⟩
    exact ⟨o, es, ep, stay e (off e (fun l n z => by rw [d] at z; cases z) (fun z => by rw [d] at z; cases z)), d, r⟩
  have Kb : K.In (hidT s.heap H) := by
    intro b o e
    refine stay (KX b o e) ?_
    cases q : H b with
    | none => rfl
    | some u =>
      exfalso
      cases tr b u q with
      | script ob xs eb kn _ =>
        rw [eb, kn] at e
        cases e
      | table p m eb _ =>
        rw [eb, (hT p m).2.1] at e
        cases e
  obtain ⟨ml, l1, l2⟩ := NL
  have TB : ∀ p ∈ cs, TabB (hidT s.heap H) mg p.1 p.2 := by
    intro p hp
    obtain ⟨t0, _, cd⟩ := hT p hp
    refine { code := ?_, bm := ?_, gP := ?_ }
    · obtain ⟨o, us, fl, tf, fg, tg, iF, tx, tt, e1, r1, r2, r3, r⟩ := cd
      refine ⟨o, us, fl, tf, fg, tg, iF, tx, tt, stay e1 (off e1 (fun l n z => by rw [r2] at z; cases z) fun z => ?_), r1, r2, r3, r⟩
      rw [r2] at z
      cases z
      simp at r3
    · obtain ⟨m, ob, b1, b2, b3, b4, b5, b6⟩ := bm
      have pl : ∀ d : Data, d = .plain → (∀ l n, d ≠ .seq l n) ∧ d ≠ .fields #[] := by
        rintro d rfl
        exact ⟨fun l n z => (by cases z), fun z => (by cases z)⟩
      refine ⟨m, ob, b1, b2, fun q => ?_, fun q => ?_, stay b3 (off b3 (pl _ b6).1 (pl _ b6).2), b4, b5, b6⟩
      · obtain ⟨o, es, ep, e, hd, _⟩ := G
        rw [q, e] at b3
        cases b3
        rw [hd] at b6
        cases b6
      · rw [q, t0] at b3
        cases b3
        cases b6
    · intro z
      obtain ⟨o, es, ep, e, hd, _⟩ := G
      rw [z, t0] at e
      cases e
      cases hd
  have E0 : Env0 P w K mg (hidT s.heap H) callerA [] s H :=
    { frames := rfl
      mod := { kin := Kb, glob := nsK G, blt := ⟨mb, nsK B, BB⟩, nolimit := ⟨ml, nsK l1, l2⟩ }
      bs := fun b o e => of_hidT e
      bsz := Nat.le_of_eq (hidT_size _ _)
      funs := trivial
      frf := fun b hb => absurd hb (List.not_mem_nil)
      hok := ok
      bare := .of_eq g0 }
  refine codeAny_mono ((F _ Kb (nsK G) TB).go callerA [] s H ⟨[.ref a], []⟩ [.ref a] [.ref a] _ _ rfl hr E0 (bd s (.ref a)) (.cons rfl .nil) pr) ?_
  intro r t h
  match r, h with
  | .error e, h =>
    exact (show False from h).elim
  | .ok .next, h => exact False.elim h
  | .ok .brk, h => exact False.elim h
  | .ok .cont, h => exact False.elim h
  | .ok (.ret u), h =>
    obtain ⟨v, H', h1, h2, un, ok', rv, rfl⟩ := h
    cases rv
    have grown : ∀ p ∈ cs, ∃ more : Array Value, t.heap.get? p.2 = some { cls := .none, data := .fields more } := by
      intro p hp
      obtain ⟨more, q⟩ := un.tbls p.2 #[] (all p hp)
      exact ⟨_, ok' p.2 _ q⟩
    have kept : ∀ b o, (∀ p ∈ cs, b ≠ p.2) → s.heap.get? b = some o → t.heap.get? b = some o := by
      intro b o nb e
      cases q : H b with
      | none => exact un.keep b o e q List.not_mem_nil List.not_mem_nil
      | some u =>
        cases tr b u q with
        | script ob xs eb _ eu =>
          rw [eu] at q
          have e1 := (ok b _ q).1
          have e2 := (ok' b _ (un.frzs b ob _ q)).1
          rw [e] at e1
          cases e1
          exact e2
        | table p m eb _ => exact absurd eb (nb p m)
    refine ⟨rfl, ⟨fun b o e => ?_, fun b o e => ?_⟩, h1, h2⟩
    · by_cases hb : ∃ p ∈ cs, b = p.2
      · obtain ⟨p, hp, rfl⟩ := hb
        obtain ⟨t0, _, cd⟩ := hT p hp
        obtain ⟨more, q⟩ := grown p hp
        rw [t0] at e
        cases e
        exact .inr (.inl ⟨(cd.tab t0).isCodeTable, rfl, #[], more, rfl, by rw [Array.empty_append]; exact q⟩)
      · exact .inl (kept b o (fun p hp z => hb ⟨p, hp, z⟩) e)
    · by_cases hb : ∃ p ∈ cs, b = p.2
      · obtain ⟨p, hp, rfl⟩ := hb
        obtain ⟨more, q⟩ := grown p hp
        exact ⟨_, q⟩
      · exact ⟨o, kept b o (fun p hp z => hb ⟨p, hp, z⟩) e⟩
theorem lawT (KX : K.In s.heap) (G : s.heap.Ns mainGlobals mg) (B : s.heap.Ns builtinsNs mb) (BB : ∀ y : Str, y ≠ "__name__" → mb y = bootBuiltins y) (NL : s.heap.NoLimit) (g0 : s.gens = #[])
    (hT : ∀ p ∈ cs, s.heap.get? p.2 = some tab0 ∧ K.lookup p.2 = none ∧ PySem.W.CodeHd s.heap p.1 p.2)
    (bm : ∃ (m : Addr) (ob : Obj), mg "__builtins__" = some (.ref m) ∧ m ≠ builtinsNs ∧ s.heap.get? m = some ob ∧ ob.cls = .type "module" ∧ ob.dict = some builtinsNs ∧ ob.data = .plain)
    (ha : s.heap.get? a = some (scriptObj vs)) (hi : IntsAre vs ns) (hl : ns.length ≤ sizeLine) (hr : Room k callerA)
    (F : ∀ base : Heap, K.In base → base.Ns mainGlobals mg → (∀ p ∈ cs, TabB base mg p.1 p.2) → FnG P w K mg base CX0 k fa fd [x] sp) (bd : ∀ (t : Shared) (u : Value), BindsTo t fd ⟨[u], []⟩ [(x, u)])
    (pr : ∀ H : Hp, (∀ p ∈ cs, H p.2 = some (.tbl #[])) → SqL K H a (ns.map V.int) → (∀ b u, H b = some u → Tr cs K a b u) → sp [.ref a] H (fun v _ => v = .bl true) fun _ _ _ => False) :
    codeAny (model P w) callerA (.call (.ref fa) ⟨[.ref a], []⟩) (LawEnd s) s := by
  have rv := vals_ints hi
  have na : ∀ p ∈ cs, p.2 ≠ a := by
    intro p hp z
    have e := (hT p hp).1
    rw [z, ha] at e
    cases e
  let tabs : Hp := fun b => if b ∈ cs.map (·.2) then some (.tbl #[]) else none
  have isT : ∀ p ∈ cs, tabs p.2 = some (.tbl #[]) := fun p hp => if_pos (List.mem_map.mpr ⟨p, hp, rfl⟩)
  have ofT : ∀ b u, tabs b = some u → ∃ p ∈ cs, b = p.2 ∧ u = .tbl #[] := by
    intro b u q
    by_cases hb : b ∈ cs.map (·.2)
    · obtain ⟨p, hp, e⟩ := List.mem_map.mp hb
      have q' : some (HO.tbl #[]) = some u := (if_pos hb).symm.trans q
      exact ⟨p, hp, e.symm, (Option.some.inj q').symm⟩
    · have q' : (none : Option HO) = some u := (if_neg hb).symm.trans q
      cases q'
  cases hk : K.lookup a with
  | some o =>
    have e := KX a o hk
    rw [ha] at e
    cases e
    have tr : ∀ b u, tabs b = some u → Tr cs K a b u := fun b u q => by
      obtain ⟨p, hp, e1, e2⟩ := ofT b u q
      exact .table p hp e1 e2
    refine lawT_of KX G B BB NL g0 hT bm ha hr F bd tabs tr (fun b u q => ?_) isT (pr tabs isT (.inr ⟨_, vs.toArray, _, hk, rfl, rfl, rfl, ?_, by simpa using rv⟩) tr)
    · obtain ⟨p, hp, rfl, rfl⟩ := ofT b u q
      exact (hT p hp).1
    · rw [List.size_toArray, hi.length]
      exact hl
  | none =>
    let Ha : Hp := fun b => if b = a then some (.frz (scriptObj vs) (.lst (ns.map V.int))) else tabs b
    have at_a : Ha a = some (.frz (scriptObj vs) (.lst (ns.map V.int))) := if_pos rfl
    have but : ∀ b, b ≠ a → Ha b = tabs b := fun b hb => if_neg hb
    have tr : ∀ b u, Ha b = some u → Tr cs K a b u := by
      intro b u q
      by_cases hb : b = a
      · rw [hb, at_a] at q
        exact .script _ _ hb hk (Option.some.inj q).symm
      · rw [but b hb] at q
        obtain ⟨p, hp, e1, e2⟩ := ofT b u q
        exact .table p hp e1 e2
    have isH : ∀ p ∈ cs, Ha p.2 = some (.tbl #[]) := fun p hp => (but _ (na p hp)).trans (isT p hp)
    refine lawT_of KX G B BB NL g0 hT bm ha hr F bd Ha tr (fun b u q => ?_) isH (pr Ha isH (.inl (.inr ⟨scriptObj vs, at_a⟩)) tr)
    by_cases hb : b = a
    · subst hb
      rw [at_a] at q
      cases q
      exact ⟨ha, by rw [List.length_map]; exact hl, vs, _, rv, ha⟩
    · rw [but b hb] at q
      obtain ⟨p, hp, rfl, rfl⟩ := ofT b u q
      exact (hT p hp).1
end
open PySem.W in
/-- the goal that the head leaves; cs: the defs that make lambdas, each with its code object and its table -/
theorem walkT {l : OpenLaw} {n k : Nat} {q : Program} {loose : List Str} {XP : (Str → Option Value) → Heap → Prop} {YP : World → Heap → Prop} {d : DefRec} {K : Params → Frag} {sp : Frag → Sp} {x : Str} {cs : Params → List (Str × Addr × Addr)}
    (hn : l.most = some n) (hz : n ≤ sizeLine) (h0 : d.params.defaults = []) (hr : Room k callerA) (hY : ∀ (w : World) (h : Heap), YP w h → (K w.params).In h)
    (hc : ∀ p, ∀ e ∈ cs p, (∃ r, (recsOf q).find? (fun r => r.name == e.1) = some r) ∧ tabIn (K p) e.1 = some e.2 ∧ (K p).lookup e.2.2 = none)
    (F : ∀ (w : World) (mg : Str → Option Value) (fa : Addr) (h : Heap), (K w.params).In h → h.Ns mainGlobals mg → mg d.name = some (.ref fa) → ∃ fd : FuncData,
      (∀ (t : Shared) (u : Value), BindsTo t fd ⟨[u], []⟩ [(x, u)]) ∧ ∀ base : Heap, (K w.params).In base → base.Ns mainGlobals mg → (∀ e ∈ cs w.params, TabB base mg e.2.1 e.2.2) → FnG l.prog w (K w.params) mg base CX0 k fa fd [x] (sp (K w.params)))
    (pr : ∀ (p : Params) (H : Hp) (a : Addr) (ns : List Int), ns.length ≤ n → (∀ e ∈ cs p, H e.2.2 = some (.tbl #[])) → SqL (K p) H a (ns.map V.int) → (∀ b u, H b = some u → Tr ((cs p).map (·.2)) (K p) a b u) → sp (K p) [.ref a] H (fun v _ => v = .bl true) fun _ _ _ => False) :
    WalkO q loose XP YP l.row.toRowW d [] (fun f us => PySem.call f us) := by
  refine Att.attach_call hn h0 ?_
  intro w s₀ s₁ mg mb fa o pm cd doc a us ns G Y ho hd hcd hm hobj hints hlen hg
  have KX := hY w _ Y
  obtain ⟨fd, hb, hF⟩ := F w mg fa _ KX G.T.g hm
  have lift : ∀ {φ : Addr × Addr → Prop}, (∀ p ∈ (cs w.params).map (·.2), φ p) ↔ ∀ e ∈ cs w.params, φ e.2 := by
    intro φ
    constructor
    · intro h e he
      exact h _ (List.mem_map.mpr ⟨e, he, rfl⟩)
    · intro h p hp
      obtain ⟨e, he, rfl⟩ := List.mem_map.mp hp
      exact h e he
  refine lawT (cs := (cs w.params).map (·.2)) KX G.T.g G.T.b G.T.builtins G.T.nolimit hg (lift.mpr fun e he => ?_) G.T.bmain hobj hints (Nat.le_trans hlen hz) hr (fun base h1 h2 h3 => hF base h1 h2 (lift.mp h3)) hb fun H h1 h2 h3 => pr _ H a ns hlen (lift.mp h1) h2 h3
  obtain ⟨⟨r, e1⟩, e2, e3⟩ := hc w.params e he
  obtain ⟨t1, t2⟩ := tab_of G.T KX e1 e2
  exact ⟨t2, e3, t1⟩
end Kx
namespace Kx
open PySem PySem.Spec PyProof.Rows L2 SX LamX
section
variable {X : Cx}
/-! ### repr of data -/
def rRepr (K : PySem.W.Frag) : List V → Hp → VK → Prop := fun xs H Q => ∃ (a : Addr) (d : PyData), xs = [.ref a] ∧ Dp K H (.ref a) d ∧ d.showable = true ∧ d.hasDict = false ∧ d.depth ≤ 60 ∧ d.shown.length ≤ sizeLine ∧ Q (.str d.shown) H
theorem call_reprD (hg : X.A.guards = some []) (hu : X.A.units + 64 < cLine) : CallR X (.builtin "repr") (rRepr X.K) := by
  intro pins s σ H xs us Q I r h
  obtain ⟨a, d, rfl, hd, hs, hn, hp, hl, q⟩ := h
  cases r with
  | cons r0 rr =>
    cases rr
    obtain ⟨as, rd⟩ := Dp.reads I d _ _ hd r0
    cases r0
    refine repr_of_reads' rd hs (PyData.noDict_hsm hn) hg (by omega) (fun _ _ e => e) (fun h' u tk k => ?_) hl
    exact ⟨.str d.shown, H, I.kept k, ⟨u, rfl⟩, q⟩
/-! ### f(k = v, ..): keywords alone -/
theorem pe_callK0 {CX : CXT} {k : Nat} {f : Addr} {fd : FuncData} {ps ks : List Str} {sp : Sp} {E : XK} {x : Str} {p pos : Pos} {kws : List Keyword} {tk : TA} {g : List Value → List Value → List Value} {gV : List V → List V → List V}
    (F : FnOk X.prog X.w X.K X.mg X.base CX k f fd ps sp) (hr : Room k X.A) (hg : Gl X x) (hm : X.mg x = some (.ref f)) (hk : PySem.W.keepIn X.K (.ref f) = true) (hb : KBinds X.K fd ps ks g gV) (hx : Passes CX X E) (hkw : PK X kws tk)
    (hall : (backToKw pos (keywordEach kws X.env)).all (·.1.isSome) = true := by rfl) (hks : (backToKw pos (keywordEach kws X.env)).filterMap (·.1) = ks := by rfl) (hdb : (x == ("__debug__" : Str)) = false := by decide)
    (hpl : ((backTo pos (starEach [] X.env)).any (·.1) || (backToKw pos (keywordEach kws X.env)).any (·.1.isNone)) = false := by rfl) : PE X (.Call (.Name x p) [] kws pos) (tCallK sp gV E tNil tk) := by
  refine ⟨fun pins s σ H Q I h => ?_⟩
  apply wpAny_Call_Name_kw
  refine ld_glob I hg hm ?_ hdb
  refine PySem.W.callWith_KW0 (h₀ := X.base) I.ok.mod.kin hk hall (thn (hkw.run pos pins s σ H _ I h) fun ws s2 hh => ?_) hpl
  obtain ⟨zs, H2, I2, rz, q2⟩ := hh
  refine ⟨I2.kIn, ?_⟩
  rw [hks]
  exact run_fnk (us := []) F hr hb hx I2 .nil rz q2
/-! ### an exception that a name holds -/
/-- isinstance of it -/
def rIsX (K : PySem.W.Frag) : List V → Hp → VK → Prop := fun xs H Q => ∃ (a D dd : Addr) (fs : List (Str × V)) (c : V) (cv : Value) (b : Bool), xs = [.ref a, c] ∧ H a = some (exT a (.ref D) (some dd)) ∧ H dd = some (.xd fs) ∧ ExcC K D ∧
  (∀ u, RelV c u → u = cv) ∧ PySem.W.kitOne K (.ref D) cv = some b ∧ Q (.bl b) H
theorem exT_at {P : Program} {w : World} {H : Hp} {h : Heap} {a : Addr} {cls : Value} {d : Option Addr} (hok : HOk P w H h) (e : H a = some (exT a cls d)) : ∃ (oe : Obj) (vs : Array Value), h.get? a = some oe ∧ Zc cls d oe ∧ oe.data = .fields vs := by
  have q : ObjOk P w H h a (exT a cls d) := hok a _ e
  exact q.1
theorem inst_at {pins : List (Addr × Obj)} {σ : L2.St} {H : Hp} {s : Shared} {a D dd : Addr} {fs : List (Str × V)} (I : Inv X pins σ H s) (e : H a = some (exT a (.ref D) (some dd))) (ed : H dd = some (.xd fs)) :
    ∃ (oe od : Obj) (mA : Str → Option Value), PySem.W.InstAt s.heap a oe D (some od) ∧ (∀ n, PySem.W.lookIn n od = some (mA n)) ∧ ∀ n, RelO (fs.lookup n) (mA n) := by
  obtain ⟨oe, vs, h1, h2, h3⟩ := exT_at I.hok e
  have hx : ObjOk X.prog X.w H s.heap dd (.xd fs) := I.hok dd _ ed
  obtain ⟨mA, hns, hr⟩ := hx
  obtain ⟨od, ho, hl⟩ := lookIn_ns hns
  refine ⟨oe, od, mA, { at_ := h1, cls := h2.1, no := ?_, dict := ?_ }, hl, hr⟩
  · unfold PySem.W.notCls
    rw [h3] <;> rfl
  · rw [h2.2]
    exact ho
theorem call_isX : CallR X (.builtin "isinstance") (rIsX X.K) := by
  intro pins s σ H xs us Q I r h
  obtain ⟨a, D, dd, fs, c, cv, b, rfl, e, ed, C, hc, hk, q⟩ := h
  obtain ⟨u1, u2, rfl, r1, r2⟩ := vals2 r
  obtain rfl : u1 = Value.ref a := r1
  obtain rfl := hc _ r2
  obtain ⟨oe, od, mA, J, _, _⟩ := inst_at I e ed
  have cls : (PySem.W.clsIn X.K D).isSome = true := by
    obtain ⟨cd, hcd, _⟩ := PySem.W.any_some C.hd
    rw [hcd]
    rfl
  exact PySem.W.kia_one (PySem.W.kitx_exc cls C.hg C.hk C.hs C.ha C.hn C.ht C.hm) I.kIn J hk (fun z => nomatch z) fun tk => ⟨.bl b, H, I.kept (t' := tk) fun _ _ z => z, rfl, q⟩
def rIsiX (K : PySem.W.Frag) : List V → Hp → VK → Prop := fun xs H Q => rIsi K xs H Q ∨ rIsX K xs H Q
theorem call_isiX : CallR X (.builtin "isinstance") (rIsiX X.K) := fun pins s σ H xs us Q I r h => h.elim (call_isi pins s σ H xs us Q I r) (call_isX pins s σ H xs us Q I r)
/-- e.n, e's value such an exception -/
def tXp (K : PySem.W.Frag) (n : Str) (te : TE) : TE := fun σ H Q => te σ H fun x H1 => ∃ (a D dd : Addr) (fs : List (Str × V)) (v : V), x = .ref a ∧ H1 a = some (exT a (.ref D) (some dd)) ∧ H1 dd = some (.xd fs) ∧ XfC K D ∧ PySem.W.findIn K (.ref D) n = some none ∧ fs.lookup n = some v ∧ Q v H1
theorem pe_xp {e : Expr} {te : TE} {n : Str} {pos : Pos} (he : PE X e te) (hb : attributeBase e n X.env (eval e X.env) = eval e X.env := by rfl) : PE X (.Attribute e n pos) (tXp X.K n te) := by
  refine ⟨fun pins s σ H Q I h => ?_⟩
  refine attr_of hb (thn (he.run pins s σ H _ I h) fun u s1 hh => ?_)
  obtain ⟨x, H1, I1, rx, a, D, dd, fs, v, rfl, e1, e2, T, hno, hl, q⟩ := hh
  obtain rfl : u = Value.ref a := rx
  obtain ⟨oe, od, mA, J, look, rel⟩ := inst_at I1 e1 e2
  obtain ⟨w, hw, rw'⟩ := RelO.some_of (v := v) (o := mA n) (by rw [← hl]; exact rel n)
  exact HandSPX.exc_get I1.kIn J T.ga T.gg T.exC (PySem.W.findObj_own T.hdC hno rfl (by rw [look, hw])) (handed_of rw') ⟨v, H1, I1.tok _, rw', q⟩
end
end Kx
namespace Kx
open PySem PySem.Spec PyProof.Rows L2 SX LamX
/-! ### an error class of the program: one field, part -/
structure Er (K : PySem.W.Frag) (mg : Str → Option Value) (x qual : Str) (st : Stmt) (base : Str) where
  C : Addr
  L : Addr
  fI : Addr
  fd : FuncData
  gC : mg x = some (.ref C)
  gL : mg base = some (.ref L)
  oex : OexC K C
  iC : PySem.W.findIn K (.ref C) "__init__" = some (some (.ref fI))
  tI : PySem.W.typeIn K (.ref fI) = some (.type "function")
  F : Fun K "__init__" qual st fI fd
  b : Binds K fd ["self", "part"] []
  np : PySem.W.findIn K (.ref C) "part" = some none
  exc : ExcC K C
  xf : XfC K C
  em : PySem.W.exmOne K (.ref C) (.ref L) = some true
/-- its making, out of what the top left -/
def er_mk {K : PySem.W.Frag} {h : Heap} {mg : Str → Option Value} (X : K.In h) (G : h.Ns mainGlobals mg) {x qual : Str} {st : Stmt} {base : Str} {C L fI N : Addr} {nm q : Str} {bs bm : List Value} {sn : List Str} {sub : List Value} {ab : Bool} {col : Option Bool} {dd : Option Addr} {m0 m1 m2 m3 m5 : Option Value}
    {od an : Option Addr} {sl : Array (Option Value)} {oc kV dc pm cd ct : Value} (aC : PySem.W.nsIn K mainGlobals x = some (some (.ref C))) (aL : PySem.W.nsIn K mainGlobals base = some (some (.ref L)))
    (xL : K.lookup C = some (excClassObj nm q C N bs bm true sn sub ab col dd m0 m1 m2 m3 m5 "ValueError.__new__")) (hbm : PySem.HandSPX.refsVE bm = true)
    (sa : PySem.W.findIn K (.ref C) "__setattr__" = some (some (.builtin "object.__setattr__"))) (eC : PySem.W.subIn K (.ref C) (.type "BaseException") = some true) (tC : PySem.W.typeIn K (.ref C) = some (.type "type")) (kC : PySem.W.keepIn K (.ref C) = true)
    (a1 : PySem.W.findIn K (.ref C) "__init__" = some (some (.ref fI))) (t1 : PySem.W.typeIn K (.ref fI) = some (.type "function"))
    (l1 : K.lookup fI = some ⟨oc, od, .func (PySem.W.fnOf "__init__" qual (defArgs st) (defBody st) (defScope st) .none kV dc pm an cd ct), sl⟩) (c1 : PySem.W.codeIn K cd qual = true) (k1 : PySem.W.keepIn K (.ref fI) = true)
    (b1 : ∀ (kV doc pm : Value) (an : Option Addr) (cdv ct : Value) (us : List Value), us.length = (["self", "part"] : List Str).length → bindArgs (PySem.W.fnOf "__init__" qual (defArgs st) (defBody st) (defScope st) .none kV doc pm an cdv ct) ⟨us, []⟩ = pure ((["self", "part"] : List Str).zip us))
    (nb : PySem.W.findIn K (.ref C) "part" = some none) (ga : PySem.W.findIn K (.ref C) "__getattribute__" = some (some (.builtin "BaseException.__getattribute__"))) (gg : PySem.W.findIn K (.ref C) "__getattr__" = some none) (hd : PySem.W.hasDictIn K C = true)
    (hc : PySem.W.findIn K (.ref C) "__class__" = some (some (.builtin "object.__class__"))) (hn : PySem.W.specialIn K (.builtin "object.__class__") "__get__" = some (some (.builtin "getset_descriptor.__get__"))) (ht : PySem.W.takesIn K (.builtin "object.__class__") = some true)
    (hm : PySem.W.mroIn K C (.type "object") = some true) (eL : PySem.W.subIn K (.ref L) (.type "BaseException") = some true) (dL : PySem.W.hasDictIn K L = true) (tL : PySem.W.typeIn K (.ref L) = some (.type "type")) (sCL : PySem.W.subIn K (.ref C) (.ref L) = some true) : Er K mg x qual st base where
  C := C
  L := L
  fI := fI
  fd := _
  gC := PySem.W.mg_of X G aC
  gL := PySem.W.mg_of X G aL
  oex := ⟨⟨nm, q, N, bs, bm, sn, sub, ab, col, dd, m0, m1, m2, m3, m5, xL, hbm⟩, sa, eC, tC, kC⟩
  iC := a1
  tI := t1
  F := fun_mk (st := st) l1 c1 k1
  b := (fun_mk (st := st) l1 c1 k1).binds (ps := ["self", "part"]) b1
  np := nb
  exc := ⟨ga, gg, eC, hd, hc, hn, ht, hm⟩
  xf := ⟨ga, gg, eC, hd⟩
  em := PySem.W.exm_ref eL dL tL sCL
theorem passF {X : Cx} : Passes (L2.CX X.prog X.w) X (fun _ _ _ => False) := fun _ _ _ _ _ _ _ z => by
  obtain ⟨_, _, _, _, _, _, _, _, _, _, _, _, f⟩ := z
  exact f.elim
/-- the promise of such an __init__: self.part = part -/
def sp_init (K : PySem.W.Frag) : Sp := fun vs H Q _ => ∃ (a C : Addr) (y : V), vs = [.ref a, y] ∧ OexC K C ∧ PySem.W.findIn K (.ref C) "part" = some none ∧ H a = some (exo a C none) ∧
  ∀ dx, H dx = none → dx ≠ a → Q .non (upd (upd H dx (exd dx [("part", y)])) a (exo a C (some dx)))
section
variable {P : Program} {w : World} {K : PySem.W.Frag} {mg : Str → Option Value} {base : Heap}
/-- the body of such an __init__ -/
def IsInit (st : Stmt) : Prop := ∃ p1 p2 p3 p4, defBody st = [.Assign [.Attribute (.Name "self" p1) "part" p2] (.Name "part" p3) p4] ∧ FnScope ["self", "part"] ["self", "part"] (defScope st) ∧ (defScope st).names.lookup ("self" : Str) = some .local ∧ (defScope st).names.lookup ("part" : Str) = some .local
theorem ok_init {x qual : Str} {st : Stmt} {bs : Str} (e : Er K mg x qual st bs) (h : IsInit st) : FnOk P w K mg base CX0 1 e.fI e.fd ["self", "part"] (sp_init K) := by
  obtain ⟨p1, p2, p3, p4, hb, sc, v1, v2⟩ := h
  refine e.F.ok sc (fun vs H Q E h => ?_) (fun cdv A outer s H vs Q E hr h => ?_)
  · obtain ⟨a, C, y, rfl, _⟩ := h
    rfl
  · obtain ⟨a, C, y, rfl, o, n, ha, q⟩ := h
    rw [hb]
    refine ⟨_, pss_one (ps_ost (pv 0 rfl (.inl v1)) (pv 1 rfl (.inl v2))), ?_⟩
    exact ⟨y, rfl, .ref a, rfl, a, C, rfl, o, n, .inl ⟨ha, q⟩⟩
end
/-! ### a choice of rules -/
section
variable {X : Cx}
theorem pi_either {tg it : Expr} {w1 w2 : TI} (h1 : PI X tg it w1) (h2 : PI X tg it w2) : PI X tg it (fun σ H R => w1 σ H R ∨ w2 σ H R) := ⟨fun pins s σ H R I h => h.elim (h1.run pins s σ H R I) (h2.run pins s σ H R I)⟩
theorem pe_either {e : Expr} {t1 t2 : TE} (h1 : PE X e t1) (h2 : PE X e t2) : PE X e (fun σ H Q => t1 σ H Q ∨ t2 σ H Q) := ⟨fun pins s σ H Q I h => h.elim (h1.run pins s σ H Q I) (h2.run pins s σ H Q I)⟩
theorem pi_seq {tg it : Expr} {tl : TE} (h : PE X it tl) : PI X tg it (fun σ H R => iList X.K tl σ H R ∨ iTup X.K tl σ H R) := pi_either (pi_list h) (pi_tup h)
end
end Kx
namespace Kx
open PySem PySem.Spec PyProof.Rows L2 SX LamX
theorem tyx_same {K : PySem.W.Frag} {H H' : Hp} {x : V} {n : String} (e : Same H H') (h : TyX K H x (.type n)) : TyX K H' x (.type n) := by
  cases h with
  | base b =>
    cases b with
    | non => exact .base .non
    | bl y => exact .base (.bl y)
    | int i => exact .base (.int i)
    | str z => exact .base (.str z)
    | flt z => exact .base (.flt z)
    | lst h => exact .base (.lst (e _ _ h))
    | frz h => exact .base (.frz (e _ _ h))
    | tup h => exact .base (.tup (e _ _ h))
    | dK h => exact .base (.dK (e _ _ h))
    | dT h => exact .base (.dT (e _ _ h))
  | byt b => exact .byt b
  | set h => exact .set (e _ _ h)
  | kList h c => exact .kList h c
  | kTuple h c => exact .kTuple h c
  | kDict h c => exact .kDict h c
  | fTuple h => exact .fTuple (e _ _ h)
  | fDict h => exact .fDict (e _ _ h)
/-! ### integers with bounds, of any value -/
def isIntV : V → Bool
  | .int _ => true
  | _ => false
/-- what the checks ask of a value's type -/
def HasInt (K : PySem.W.Frag) (H : Hp) (x : V) : Prop := ∃ (n : String) (a b : Bool), TyX K H x (.type n) ∧ kitB n "int" = some a ∧ kitB n "bool" = some b ∧ (a && !b) = isIntV x
theorem HasInt.same {K : PySem.W.Frag} {H H' : Hp} {x : V} (e : Same H H') (h : HasInt K H x) : HasInt K H' x := by
  obtain ⟨n, a, b, t, r⟩ := h
  exact ⟨n, a, b, tyx_same e t, r⟩
theorem hasInt_int {K : PySem.W.Frag} {H : Hp} (i : Int) : HasInt K H (.int i) := ⟨"int", true, false, .base (.int i), by decide +kernel, by decide +kernel, rfl⟩
theorem hasInt_bl {K : PySem.W.Frag} {H : Hp} (i : Bool) : HasInt K H (.bl i) := ⟨"bool", true, true, .base (.bl i), by decide +kernel, by decide +kernel, rfl⟩
theorem hasInt_str {K : PySem.W.Frag} {H : Hp} (i : Str) : HasInt K H (.str i) := ⟨"str", false, false, .base (.str i), by decide +kernel, by decide +kernel, rfl⟩
theorem hasInt_non {K : PySem.W.Frag} {H : Hp} : HasInt K H .non := ⟨"NoneType", false, false, .base .non, by decide +kernel, by decide +kernel, rfl⟩
theorem hasInt_lst {K : PySem.W.Frag} {H : Hp} {a : Addr} {xs : List V} (h : SqL K H a xs) : HasInt K H (.ref a) := ⟨"list", false, false, tyL h, by decide +kernel, by decide +kernel, rfl⟩
theorem hasInt_tup {K : PySem.W.Frag} {H : Hp} {a : Addr} {xs : List V} (h : SqT K H a xs) : HasInt K H (.ref a) := ⟨"tuple", false, false, tyT h, by decide +kernel, by decide +kernel, rfl⟩
/-- a bound: none, or an int -/
def bdV : Option Int → V
  | none => .non
  | some i => .int i
def loB (i : Int) : Option Int → Bool
  | none => true
  | some l => decide (l ≤ i)
def hiB (i : Int) : Option Int → Bool
  | none => true
  | some h => decide (i ≤ h)
def withinB (i : Int) (lo hi : Option Int) : Bool := loB i lo && hiB i hi
def withinV (x : V) (lo hi : Option Int) : Bool := match x with
  | .int i => withinB i lo hi
  | _ => false
end Kx
namespace Kx
open PySem PySem.Spec PyProof.Rows L2 SX LamX
/-! ### the draws' wheel: cells, how many were begun, what is left -/
def Wh (H : Hp) (a c : Addr) (n : Nat) : Prop := ∃ (cs : List Int) (t l : Int), H a = some (.lst [.ref c, .int t, .int l]) ∧ H c = some (.lst (cs.map V.int)) ∧ cs.length ≤ 60 ∧ 0 ≤ t ∧ t ≤ n
/-- all that was tracked, but for what stands at a, is as it was -/
def Mv (a : Addr) (H H' : Hp) : Prop := ∀ b o, b ≠ a → H b = some o → H' b = some o
theorem Mv.refl (a : Addr) (H : Hp) : Mv a H H := fun _ _ _ h => h
theorem Mv.trans {a : Addr} {H H1 H2 : Hp} (x : Mv a H H1) (y : Mv a H1 H2) : Mv a H H2 := fun b o n h => y b o n (x b o n h)
theorem Mv.of {a : Addr} {H H1 : Hp} (x : Same H H1) : Mv a H H1 := fun b o _ h => x b o h
theorem Mv.upd (a : Addr) (H : Hp) (o : HO) : Mv a H (upd H a o) := fun b p n h => by rw [upd_ne n]; exact h
theorem Mv.same {a : Addr} {H H1 : Hp} (x : Mv a H H1) (h : H a = none) : Same H H1 := fun b o e => x b o (fun z => by rw [z, h] at e; cases e) e
theorem Wh.lt {H : Hp} {a c : Addr} {n m : Nat} (h : Wh H a c n) (l : n ≤ m) : Wh H a c m := by
  obtain ⟨cs, t, l', h1, h2, h3, h4, h5⟩ := h
  exact ⟨cs, t, l', h1, h2, h3, h4, by omega⟩
theorem Wh.same {H H' : Hp} {a c : Addr} {n : Nat} (h : Wh H a c n) (e : Same H H') : Wh H' a c n := by
  obtain ⟨cs, t, l', h1, h2, h3⟩ := h
  exact ⟨cs, t, l', e _ _ h1, e _ _ h2, h3⟩
theorem wh_set {H : Hp} {a c : Addr} {cs : List Int} {t l : Int} {n : Nat} {u : List V} (h1 : H a = some (.lst u)) (h2 : H c = some (.lst (cs.map V.int))) (hac : a ≠ c) (h3 : cs.length ≤ 60) (h4 : 0 ≤ t) (h5 : t ≤ n) : Wh (upd H a (.lst [.ref c, .int t, .int l])) a c n :=
  ⟨cs, t, l, upd_same, by rw [upd_ne (fun e => hac e.symm)]; exact h2, h3, h4, h5⟩
theorem wh_ac {H : Hp} {a c : Addr} {cs : List Int} {t l : Int} (h1 : H a = some (.lst [.ref c, .int t, .int l])) (h2 : H c = some (.lst (cs.map V.int))) : a ≠ c := by
  intro e
  rw [← e, h1] at h2
  injection h2 with h2
  injection h2 with h2
  cases cs with
  | nil => cases h2
  | cons x xs => injection h2 with h2 _; cases h2
/-! ### data: lists that are laid, compared -/
theorem canLayAll_of : ∀ (ds : List PyData), (∀ d ∈ ds, d.canLay0 = true) → PyData.canLayAll0 ds = true
  | [], _ => rfl
  | d :: ds, h => by
    have h1 := h d (List.mem_cons_self ..)
    have h2 := canLayAll_of ds fun e m => h e (List.mem_cons_of_mem _ m)
    show (d.canLay0 && PyData.canLayAll0 ds) = true
    rw [h1, h2]
    rfl
theorem depthAll_of {k : Nat} : ∀ (ds : List PyData), (∀ d ∈ ds, d.depth ≤ k) → PyData.depthAll ds ≤ k
  | [], _ => Nat.zero_le _
  | d :: ds, h => by
    have h1 := h d (List.mem_cons_self ..)
    have h2 := depthAll_of ds fun e m => h e (List.mem_cons_of_mem _ m)
    show max d.depth (PyData.depthAll ds) ≤ k
    omega
/-- plain data of a depth -/
def Pl (k : Nat) (d : PyData) : Prop := d.canLay0 = true ∧ d.depth ≤ k
theorem Pl.lst {k : Nat} {ds : List PyData} (h : ∀ d ∈ ds, Pl k d) : Pl (k + 1) (.list ds) :=
  ⟨canLayAll_of ds fun d m => (h d m).1, Nat.succ_le_succ (depthAll_of ds fun d m => (h d m).2)⟩
theorem Pl.tup {k : Nat} {ds : List PyData} (h : ∀ d ∈ ds, Pl k d) : Pl (k + 1) (.tuple ds) :=
  ⟨canLayAll_of ds fun d m => (h d m).1, Nat.succ_le_succ (depthAll_of ds fun d m => (h d m).2)⟩
theorem Pl.shaped {k : Nat} {d : PyData} (h : Pl k d) (hk : k ≤ 64) : SeqAt.shaped d = true := by
  show (d.canLay0 && decide (d.depth ≤ 64)) = true
  rw [h.1, decide_eq_true (Nat.le_trans h.2 hk)]
  rfl
theorem pl_int (k : Nat) (i : Int) : Pl k (.int i) := ⟨rfl, Nat.zero_le _⟩
theorem pl_ints (xs : List Int) : Pl 1 (.list (xs.map PyData.int)) := Pl.lst fun d m => by
  obtain ⟨i, _, rfl⟩ := List.mem_map.mp m
  exact pl_int 0 i
theorem dpAll_map {K : PySem.W.Frag} {H : Hp} {α : Type} {f : α → V} {g : α → PyData} : ∀ (xs : List α), (∀ x ∈ xs, Dp K H (f x) (g x)) → DpAll K H (xs.map f) (xs.map g)
  | [], _ => .nil
  | x :: xs, h => .cons (h x (List.mem_cons_self ..)) (dpAll_map xs fun y m => h y (List.mem_cons_of_mem _ m))
theorem dp_ints {K : PySem.W.Frag} {H : Hp} {a : Addr} {xs : List Int} (h : SqL K H a (xs.map V.int)) : Dp K H (.ref a) (.list (xs.map PyData.int)) := .lst h (dpAll_map xs fun x _ => .int x)
theorem eqvAll_map {α : Type} [DecidableEq α] {g : α → PyData} (hg : ∀ x y, PyData.eqv (g x) (g y) = decide (x = y)) : ∀ (xs ys : List α), PyData.eqvAll (xs.map g) (ys.map g) = decide (xs = ys)
  | [], [] => rfl
  | [], _ :: _ => rfl
  | _ :: _, [] => rfl
  | x :: xs, y :: ys => by
    show (PyData.eqv (g x) (g y) && PyData.eqvAll (xs.map g) (ys.map g)) = _
    rw [hg, eqvAll_map hg xs ys]
    by_cases e : x = y
    · by_cases e2 : xs = ys
      · subst e e2; simp
      · simp [e, e2]
    · simp [e]
theorem eqv_int (x y : Int) : PyData.eqv (.int x) (.int y) = decide (x = y) := by
  show (x == y) = _
  by_cases e : x = y <;> simp [e]
theorem eqv_ints (xs ys : List Int) : PyData.eqv (.list (xs.map PyData.int)) (.list (ys.map PyData.int)) = decide (xs = ys) := eqvAll_map eqv_int xs ys
/-- «xs != []» -/
theorem ne_nil {K : PySem.W.Frag} {H : Hp} {a p : Addr} {xs : List Int} {Q : VK} (h1 : SqL K H a (xs.map V.int)) (h2 : H p = some (.lst [])) (q : Q (.bl (!decide (xs = []))) H) : rNeD K (.ref a) (.ref p) H Q :=
  ⟨_, _, dp_ints h1, dp_ints (xs := []) (.inl (.inl h2)), (pl_ints xs).shaped (by decide), (pl_ints []).shaped (by decide), by rw [eqv_ints]; exact q⟩
/-! ### places -/
theorem at_nat {α : Type} {xs : List α} {i : Nat} (h : i < xs.length) : atI xs (i : Int) = some xs[i] := by
  unfold atI ixN
  rw [if_pos (by omega), if_pos (by omega)]
  show xs[(i : Int).toNat]? = _
  rw [Int.toNat_natCast, List.getElem?_eq_getElem h]
theorem at_lt {α : Type} {xs : List α} {i : Int} (h0 : 0 ≤ i) (h : i < xs.length) : ∃ v, v ∈ xs ∧ atI xs i = some v := by
  obtain ⟨k, rfl⟩ : ∃ k : Nat, i = k := ⟨i.toNat, by omega⟩
  exact ⟨_, List.getElem_mem (by omega), at_nat (by omega)⟩
theorem at_last {α : Type} {xs : List α} {x : α} : atI (xs ++ [x]) (-1) = some x := by
  unfold atI ixN
  rw [if_neg (by omega), if_pos (by simp; omega)]
  show (xs ++ [x])[_]? = _
  rw [show (-1 + ((xs ++ [x]).length : Int)).toNat = xs.length by simp; omega]
  simp
/-- one way on from two branches, for all values that they leave -/
theorem cutI {c : Bool} {A B : Prop} {R : Int → Prop} (y : Int) (h2 : c = false → R y → B) (h1 : (∀ z, R z) → c = true → A) (key : ∀ z, R z) : if c = true then A else B := iteC (h1 key) fun e => h2 e (key y)
theorem genI {P : V → Prop} {x : Int} (h : ∀ z : Int, P (.int z)) : P (.int x) := h x
theorem genIB {P : V → Prop} {x M : Int} (hM : 0 < M) (h : ∀ z : Int, 0 ≤ z → z < M → P (.int z)) : P (.int (x.fmod M)) := h _ (Int.fmod_nonneg_of_pos _ hM) (Int.fmod_lt_of_pos _ hM)
theorem cutP {c : Bool} {X Y B : Prop} (h2 : c = false → B → Y) (h1 : B → c = true → X) (b : B) : if c = true then X else Y := iteC (h1 b) fun e => h2 e b
theorem mul_bnd {a b A B : Int} (a0 : 0 ≤ a) (a1 : a ≤ A) (b0 : 0 ≤ b) (b1 : b ≤ B) : 0 ≤ a * b ∧ a * b ≤ A * B :=
  ⟨Int.mul_nonneg a0 b0, Int.mul_le_mul a1 b1 b0 (Int.le_trans a0 a1)⟩
theorem bnd5 {c M k t l : Int} (hM : 0 < M) (hM2 : M ≤ 1099511627776) (t0 : 0 ≤ t) (t1 : t ≤ 1000000) (k0 : 0 ≤ k) (k1 : k ≤ 8388608) (l0 : 0 ≤ l) (l1 : l ≤ 1099511627776) : (c.fmod M + k * t + l).natAbs < 2 ^ 64 := by
  have h1 := Int.fmod_nonneg_of_pos c hM
  have h2 := Int.fmod_lt_of_pos c hM
  obtain ⟨h3, h4⟩ := mul_bnd k0 k1 t0 t1
  omega
theorem bnd3 {m t a k l : Int} (m0 : 0 ≤ m) (m1 : m ≤ 4294967296) (t0 : 0 ≤ t) (t1 : t ≤ 1000000) (a0 : 0 ≤ a) (a1 : a ≤ 8388608) (k0 : 0 ≤ k) (k1 : k ≤ 8388608) (l0 : 0 ≤ l) (l1 : l ≤ 1099511627776) : (m * (2 * t + a) + k * t * t + l).natAbs < 2 ^ 64 := by
  obtain ⟨h1, h2⟩ := mul_bnd (b := 2 * t + a) (B := 10388608) m0 m1 (by omega) (by omega)
  obtain ⟨h3, h4⟩ := mul_bnd k0 k1 t0 t1
  obtain ⟨h5, h6⟩ := mul_bnd h3 h4 t0 t1
  omega
/-! ### slices -/
theorem cut_to (xs : List V) (k : Nat) : cutV xs none (some (k : Int)) = xs.take k := by
  unfold cutV
  rw [HT.sIx_none, HT.sIx_nat, List.drop_zero, Nat.sub_zero]
  by_cases h : k ≤ xs.length
  · rw [Nat.min_eq_left h]
  · rw [Nat.min_eq_right (by omega), List.take_of_length_le (Nat.le_refl _), List.take_of_length_le (by omega)]
theorem cut_from (xs : List V) (k : Nat) : cutV xs (some (k : Int)) none = xs.drop k := by
  unfold cutV
  rw [HT.sIx_none, HT.sIx_nat]
  by_cases h : k ≤ xs.length
  · rw [Nat.min_eq_left h, List.take_of_length_le (by rw [List.length_drop]; omega)]
  · rw [Nat.min_eq_right (by omega), Nat.sub_self, List.take_zero, List.drop_eq_nil_of_le (by omega)]
/-! ### comprehensions, item by item -/
section
variable {K : PySem.W.Frag} {a : Addr} {xs : List V} {g : TG} {tt : TT} {te : TE} {vs : List Nat} {σ : L2.St} {H1 : Hp} {D : Addr} {Qd : Hp → Prop}
theorem lc_mapL (f : V → V) (hq : SqL K H1 a xs) (nD : H1 D = none) (len : xs.length ≤ 100000)
    (turn : ∀ (i : Nat) (x : V) (Hc : Hp) (Q' : VK) (R' : Hp → Prop), xs[i]? = some x → Same H1 Hc → (∀ H4, Same Hc H4 → Q' (f x) H4) → g x (wipe σ vs) Hc fun σ2 H2 => wipe σ2 vs = wipe σ vs ∧ tt σ2 H2 fun b H3 => if b = true then te σ2 H3 Q' else R' H3)
    (fin : ∀ Hc, Same H1 Hc → Hc D = some (.lst (xs.map f)) → Qd Hc) :
    ∃ W : Nat → Nat → Hp → Prop, (∃ m, W 0 m (upd H1 D (.lst []))) ∧ ∀ i m H, W i m H →
      ((Itl K a).stop i H ∧ Qd H) ∨ ((Itl K a).go i H ∧ ∃ Nx : Hp → Prop, (∀ H', Nx H' → ∃ m', m' < m ∧ W (i + 1) m' H') ∧ ∀ x H', (Itl K a).yld i H x H' → g x (wipe σ vs) H' fun σ2 H2 => wipe σ2 vs = wipe σ vs ∧ tt σ2 H2 fun b H3 =>
        if b = true then te σ2 H3 fun y H4 => ∃ acc, H4 D = some (.lst acc) ∧ acc.length < sizeLine ∧ Nx (upd H4 D (.lst (acc ++ [y]))) else Nx H3) := by
  refine lc_list (fun i Hc => Same H1 Hc ∧ Hc D = some (.lst ((xs.take i).map f))) ⟨same_new nD, upd_same⟩ (fun i H _ p => p.1.seq hq) (fun i x Hc hx p => ?_) (fun Hc p => ?_)
  · refine turn i x Hc _ _ hx p.1 (fun H4 e4 => ⟨_, e4 _ _ p.2, ?_, ?_⟩)
    · rw [List.length_map, List.length_take]
      exact Nat.lt_of_le_of_lt (Nat.min_le_right _ _) (Nat.lt_of_le_of_lt len (by decide))
    · refine ⟨fun b o z => ?_, ?_⟩
      · rw [upd_ne (ne_of_none z nD)]
        exact e4 _ _ (p.1 b o z)
      · rw [upd_same, List.take_add_one, hx, List.map_append]
        rfl
  · rw [List.take_length] at p
    exact fin Hc p.1 p.2
theorem lc_mapT (f : V → V) (hq : SqT K H1 a xs) (nD : H1 D = none) (len : xs.length ≤ 100000)
    (turn : ∀ (i : Nat) (x : V) (Hc : Hp) (Q' : VK) (R' : Hp → Prop), xs[i]? = some x → Same H1 Hc → (∀ H4, Same Hc H4 → Q' (f x) H4) → g x (wipe σ vs) Hc fun σ2 H2 => wipe σ2 vs = wipe σ vs ∧ tt σ2 H2 fun b H3 => if b = true then te σ2 H3 Q' else R' H3)
    (fin : ∀ Hc, Same H1 Hc → Hc D = some (.lst (xs.map f)) → Qd Hc) :
    ∃ W : Nat → Nat → Hp → Prop, (∃ m, W 0 m (upd H1 D (.lst []))) ∧ ∀ i m H, W i m H →
      ((Itt K a).stop i H ∧ Qd H) ∨ ((Itt K a).go i H ∧ ∃ Nx : Hp → Prop, (∀ H', Nx H' → ∃ m', m' < m ∧ W (i + 1) m' H') ∧ ∀ x H', (Itt K a).yld i H x H' → g x (wipe σ vs) H' fun σ2 H2 => wipe σ2 vs = wipe σ vs ∧ tt σ2 H2 fun b H3 =>
        if b = true then te σ2 H3 fun y H4 => ∃ acc, H4 D = some (.lst acc) ∧ acc.length < sizeLine ∧ Nx (upd H4 D (.lst (acc ++ [y]))) else Nx H3) := by
  refine lc_tup (fun i Hc => Same H1 Hc ∧ Hc D = some (.lst ((xs.take i).map f))) ⟨same_new nD, upd_same⟩ (fun i H _ p => Same.t p.1 hq) (fun i x Hc hx p => ?_) (fun Hc p => ?_)
  · refine turn i x Hc _ _ hx p.1 (fun H4 e4 => ⟨_, e4 _ _ p.2, ?_, ?_⟩)
    · rw [List.length_map, List.length_take]
      exact Nat.lt_of_le_of_lt (Nat.min_le_right _ _) (Nat.lt_of_le_of_lt len (by decide))
    · refine ⟨fun b o z => ?_, ?_⟩
      · rw [upd_ne (ne_of_none z nD)]
        exact e4 _ _ (p.1 b o z)
      · rw [upd_same, List.take_add_one, hx, List.map_append]
        rfl
  · rw [List.take_length] at p
    exact fin Hc p.1 p.2
end
end Kx
namespace Kx
open PySem PySem.Spec PyProof.Rows L2 SX LamX
theorem paired_get {α β : Type} {F : α → β → Prop} : ∀ {l : List α} {m : List β}, Paired F l m → ∀ {i : Nat} {a : α}, l[i]? = some a → ∃ b, m[i]? = some b ∧ F a b
  | _, _, .cons h t, 0, a, e => by
    simp at e
    subst e
    exact ⟨_, rfl, h⟩
  | _, _, .cons h t, i + 1, a, e => paired_get t (i := i) (by simpa using e)
theorem paired_split {α β : Type} {F : α → β → Prop} : ∀ {l : List α} (m : List β) {b : β}, Paired F l (m ++ [b]) → ∃ l' a, l = l' ++ [a] ∧ Paired F l' m ∧ F a b
  | _, [], _, .cons h .nil => ⟨[], _, rfl, .nil, h⟩
  | _, _ :: m, b, .cons h t => by
    obtain ⟨l', a, rfl, p, f⟩ := paired_split m t
    exact ⟨_ :: l', a, rfl, .cons h p, f⟩
theorem paired_nil {α β : Type} {F : α → β → Prop} {l : List α} (h : Paired F l []) : l = [] := by
  cases h
  rfl
theorem nil_or_snoc {α : Type} (l : List α) : l = [] ∨ ∃ l' a, l = l' ++ [a] := by
  rcases List.eq_nil_or_concat l with h | ⟨l', a, h⟩
  · exact .inl h
  · exact .inr ⟨l', a, by rw [h, List.concat_eq_append]⟩
theorem paired_map {α β γ : Type} {F : α → γ → Prop} {G : α → β → Prop} (f : β → γ) (h : ∀ a b, G a b → F a (f b)) : ∀ {l : List α} {m : List β}, Paired G l m → Paired F l (m.map f)
  | _, _, .nil => .nil
  | _, _, .cons x t => .cons (h _ _ x) (paired_map f h t)
theorem paired_of_map {α β γ : Type} {F : α → γ → Prop} (f : β → α) (g : β → γ) : ∀ {m : List β}, (∀ b ∈ m, F (f b) (g b)) → Paired F (m.map f) (m.map g)
  | [], _ => .nil
  | b :: m, h => .cons (h b (List.mem_cons_self ..)) (paired_of_map f g fun c hc => h c (List.mem_cons_of_mem _ hc))
theorem dpAll_of {K : PySem.W.Frag} {H : Hp} : ∀ {vs : List V} {ds : List PyData}, Paired (fun v d => Dp K H v d) vs ds → DpAll K H vs ds
  | _, _, .nil => .nil
  | _, _, .cons h t => .cons h (dpAll_of t)
/-- «xs != []», any laid items -/
theorem ne_nilD {K : PySem.W.Frag} {H : Hp} {a p : Addr} {vs : List V} {ds : List PyData} {k : Nat} {Q : VK} (h1 : SqL K H a vs) (hd : Paired (fun v d => Dp K H v d) vs ds) (hp : ∀ d ∈ ds, Pl k d) (hk : k ≤ 60) (h2 : H p = some (.lst [])) (q : Q (.bl (!decide (ds = []))) H) : rNeD K (.ref a) (.ref p) H Q :=
  ⟨_, _, .lst h1 (dpAll_of hd), dp_ints (xs := []) (.inl (.inl h2)), (Pl.lst hp).shaped (by omega), (pl_ints []).shaped (by decide), by
    have e : PyData.eqv (.list ds) (.list (([] : List Int).map PyData.int)) = decide (ds = []) := by
      cases ds with
      | nil => rfl
      | cons d t => rfl
    rw [e]
    exact q⟩
/-- a pair of ints -/
def Pr2 (H : Hp) (v : V) (r : Int × Int) : Prop := ∃ t, v = V.ref t ∧ H t = some (.tup [.int r.1, .int r.2])
theorem Pr2.same {H H' : Hp} {v : V} {r : Int × Int} (e : Same H H') (h : Pr2 H v r) : Pr2 H' v r := by
  obtain ⟨t, rfl, h⟩ := h
  exact ⟨t, rfl, e _ _ h⟩
def pr2D (r : Int × Int) : PyData := .tuple [.int r.1, .int r.2]
theorem Pr2.dp {K : PySem.W.Frag} {H : Hp} {v : V} {r : Int × Int} (h : Pr2 H v r) : Dp K H v (pr2D r) := by
  obtain ⟨t, rfl, h⟩ := h
  exact .tup (.inl (.inl h)) (.cons (.int _) (.cons (.int _) .nil))
theorem pl_pr2 (r : Int × Int) : Pl 1 (pr2D r) := Pl.tup fun d m => by
  rcases List.mem_cons.mp m with rfl | m
  · exact pl_int 0 _
  · rcases List.mem_cons.mp m with rfl | m
    · exact pl_int 0 _
    · cases m
/-! ### stretches of like numbers -/
def stepR (rs : List (Int × Int)) (n : Int) : List (Int × Int) :=
  match rs.reverse with
  | [] => [(n, 1)]
  | (m, k) :: t => if m = n then t.reverse ++ [(n, k + 1)] else rs ++ [(n, 1)]
theorem stepR_nil (n : Int) : stepR [] n = [(n, 1)] := rfl
theorem stepR_snoc (rs : List (Int × Int)) (m k n : Int) : stepR (rs ++ [(m, k)]) n = if m = n then rs ++ [(n, k + 1)] else rs ++ [(m, k)] ++ [(n, 1)] := by
  unfold stepR
  simp
def runs (row : List Int) : List (Int × Int) := row.foldl stepR []
theorem runs_snoc (row : List Int) (n : Int) : runs (row ++ [n]) = stepR (runs row) n := by
  unfold runs
  rw [List.foldl_append]
  rfl
theorem stepR_length (rs : List (Int × Int)) (n : Int) : (stepR rs n).length ≤ rs.length + 1 := by
  rcases nil_or_snoc rs with rfl | ⟨rs', ⟨m, k⟩, rfl⟩
  · simp [stepR_nil]
  · rw [stepR_snoc]
    split <;> simp
theorem fold_length : ∀ (row : List Int) (rs : List (Int × Int)), (row.foldl stepR rs).length ≤ rs.length + row.length
  | [], _ => Nat.le_refl _
  | x :: row, rs => by
    have h1 := fold_length row (stepR rs x)
    have h2 := stepR_length rs x
    show (row.foldl stepR (stepR rs x)).length ≤ rs.length + (row.length + 1)
    omega
theorem runs_length (row : List Int) : (runs row).length ≤ row.length := by
  have h := fold_length row []
  rw [List.length_nil, Nat.zero_add] at h
  exact h
/-! ### for and comprehension over a list or a tuple, held by a name -/
section
variable {K : PySem.W.Frag} {a : Addr} {xs : List V} {g : TG} {σ : L2.St} {H : Hp} {k : Nat}
theorem for_seq {tb : TS} {D : Ends} {H0 : Hp} (hi : σ[k]? = some (some (.ref a))) (hq : SqQ K H0 a xs) (e0 : Same H0 H) (Pv : Nat → L2.St → Hp → Prop) (h0 : Pv 0 σ H) (stay : ∀ i σ' H', i ≤ xs.length → Pv i σ' H' → Same H0 H')
    (hs : ∀ i x σ H, xs[i]? = some x → Pv i σ H → g x σ H fun σ2 H2 => tb { D with nx := Pv (i + 1), ct := Pv (i + 1), bk := D.nx } σ2 H2) (hd : ∀ σ H, Pv xs.length σ H → D.nx σ H) :
    tFor (fun σ H R => iList K (tVar k) σ H R ∨ iTup K (tVar k) σ H R) g tb D σ H := by
  rcases hq with h | h
  · exact .inl ⟨_, hi, a, rfl, ⟨_, e0.seq h⟩, for_list Pv h0 (fun i σ' H' l p => (stay i σ' H' l p).seq h) hs hd⟩
  · exact .inr ⟨_, hi, a, rfl, ⟨_, Same.t e0 h⟩, for_tup Pv h0 (fun i σ' H' l p => Same.t (stay i σ' H' l p) h) hs hd⟩
theorem lc_seqmap {tt : TT} {te : TE} {vs : List Nat} {Q : VK} (f : V → V) (hi : σ[k]? = some (some (.ref a))) (hq : SqQ K H a xs) (len : xs.length ≤ 100000)
    (turn : ∀ (i : Nat) (x : V) (Hc : Hp) (Q' : VK) (R' : Hp → Prop), xs[i]? = some x → Same H Hc → (∀ H4, Same Hc H4 → Q' (f x) H4) → g x (wipe σ vs) Hc fun σ2 H2 => wipe σ2 vs = wipe σ vs ∧ tt σ2 H2 fun b H3 => if b = true then te σ2 H3 Q' else R' H3)
    (fin : ∀ (D : Addr) (Hc : Hp), Same H Hc → Hc D = some (.lst (xs.map f)) → Q (.ref D) Hc) :
    tLc (fun σ H R => iList K (tVar k) σ H R ∨ iTup K (tVar k) σ H R) g tt te vs σ H Q := by
  rcases hq with h | h
  · exact .inl ⟨_, hi, a, rfl, ⟨_, h⟩, fun D nD => lc_mapL f h nD len turn (fin D)⟩
  · exact .inr ⟨_, hi, a, rfl, ⟨_, h⟩, fun D nD => lc_mapT f h nD len turn (fin D)⟩
theorem lc_lstmap {tt : TT} {te : TE} {vs : List Nat} {Q : VK} (f : V → V) (hi : σ[k]? = some (some (.ref a))) (hq : SqL K H a xs) (len : xs.length ≤ 100000)
    (turn : ∀ (i : Nat) (x : V) (Hc : Hp) (Q' : VK) (R' : Hp → Prop), xs[i]? = some x → Same H Hc → (∀ H4, Same Hc H4 → Q' (f x) H4) → g x (wipe σ vs) Hc fun σ2 H2 => wipe σ2 vs = wipe σ vs ∧ tt σ2 H2 fun b H3 => if b = true then te σ2 H3 Q' else R' H3)
    (fin : ∀ (D : Addr) (Hc : Hp), Same H Hc → Hc D = some (.lst (xs.map f)) → Q (.ref D) Hc) :
    tLc (iList K (tVar k)) g tt te vs σ H Q := ⟨_, hi, a, rfl, ⟨_, hq⟩, fun D nD => lc_mapL f hq nD len turn (fin D)⟩
end
theorem Pr2.set {H : Hp} {p : Addr} {us : List V} {v : V} {r : Int × Int} {o : HO} (hp : H p = some (.lst us)) (h : Pr2 H v r) : Pr2 (upd H p o) v r := by
  obtain ⟨t, rfl, h⟩ := h
  refine ⟨t, rfl, ?_⟩
  rw [upd_ne (fun e => by rw [e, hp] at h; cases h)]
  exact h
theorem same_set {H Hd : Hp} {p : Addr} {o : HO} (e : Same H Hd) (np : H p = none) : Same H (upd Hd p o) := fun b u h => by
  rw [upd_ne (ne_of_none h np)]
  exact e b u h
theorem Pr2.new {H : Hp} {t : Addr} {x y : Int} : Pr2 (upd H t (.tup [.int x, .int y])) (.ref t) (x, y) := ⟨t, rfl, upd_same⟩
theorem sz1 {x : V} : [x].length ≤ sizeLine := by
  show 1 ≤ sizeLine
  decide
theorem sz2 {x y : V} : [x, y].length ≤ sizeLine := by
  show 2 ≤ sizeLine
  decide
theorem sz3 {x y z : V} : [x, y, z].length ≤ sizeLine := by
  show 3 ≤ sizeLine
  decide
theorem sz4 {x y z u : V} : [x, y, z, u].length ≤ sizeLine := by
  show 4 ≤ sizeLine
  decide
theorem ix_last {n : Nat} : ixN (n + 1) (-1) = some n := by
  unfold ixN
  rw [if_neg (by omega), if_pos (by omega)]
  congr 1
  omega
/-- xs[-1] = y, what is set -/
theorem set_last {H : Hp} {p : Addr} {xs : List V} {x y : V} {Q : Hp → Prop} (hp : H p = some (.lst (xs ++ [x]))) (q : Q (upd H p (.lst (xs ++ [y])))) : rSetL (.ref p) (.int (-1)) y H Q :=
  ⟨p, _, -1, xs.length, rfl, rfl, hp, by rw [List.length_append]; exact ix_last, by rw [show (xs ++ [x]).set xs.length y = xs ++ [y] by simp]; exact q⟩
end Kx
namespace Kx
open PySem PySem.Spec PyProof.Rows L2 SX LamX
/-! ### rules that name the frame, within a comprehension -/
section
variable {X : Cx} {K : PySem.W.Frag}
theorem inK_ix_list (e : X.K = K) : IxR X (rIxL K) := e ▸ ix_list
theorem inK_ix_tup (e : X.K = K) : IxR X (rIxT K) := e ▸ ix_tup
theorem inK_call_len_seq (e : X.K = K) : CallR X (.builtin "len") (fun xs H Q => ∃ p ys, xs = [.ref p] ∧ (SqL K H p ys ∨ SqT K H p ys) ∧ Q (.int ys.length) H) := e ▸ call_len_seq
theorem inK_sl_list (e : X.K = K) : SlR X (rSlL K) := e ▸ sl_list
theorem inK_op_eqD (e : X.K = K) (hu : X.A.units + 64 < cLine) : OpR X (compareOp .Eq) (rEqD K) := e ▸ op_eqD hu
theorem inK_op_neD (e : X.K = K) (hu : X.A.units + 64 < cLine) : OpR X (compareOp .NotEq) (rNeD K) := e ▸ op_neD hu
theorem inK_pg_tup {es : List Expr} {k : Nat} {t : TGs} {n : Nat} {pos : Pos} (e : X.K = K) (hc : X.calm = true) (h : PGs X es t) (hn : (assignEach es X.env).length = n := by rfl) (hst : (assignEach es X.env).findIdx? (·.1) = none := by rfl) : PG X (.Tuple es k pos) (gTup K n t) := e ▸ pg_tup hc h hn hst
end
end Kx
namespace Kx
open PySem PySem.Spec PyProof.Rows L2 SX LamX
/-- an error is made with its part -/
theorem mk_part {K : PySem.W.Frag} {C : Addr} {σ : L2.St} {H : Hp} {Q : XK} {v : V} (o : OexC K C) (n : PySem.W.findIn K (.ref C) "part" = some none)
    (q : ∀ d H', Same H H' → H' d = some (.xd [("part", v)]) → Q (.ref C) (some d) H') : tMkO C (sp_init K) [] (tCons (tC v) tNil) σ H Q := by
  refine ⟨by show 1 ≤ 1000; decide, fun a na => ⟨a, C, v, rfl, o, n, upd_same, fun dx nd hne => ⟨rfl, dx, [("part", v)], upd_same, ?_, ?_, q dx _ ?_ upd_same⟩⟩⟩
  · rw [upd_ne hne, upd_same]
  · rw [upd_ne hne] at nd
    exact nd
  · rw [upd_ne hne] at nd
    intro b u h
    rw [upd_ne (ne_of_none h nd)]
    show (if b = a then none else _) = some u
    rw [if_neg (ne_of_none h na), upd_ne (ne_of_none h na), upd_ne (ne_of_none h nd), upd_ne (ne_of_none h na)]
    exact h
end Kx
namespace Kx
open PySem PySem.Spec PyProof.Rows L2 SX LamX
section
variable {K : PySem.W.Frag} {J : It} {n : Nat} {G : Hp → Prop} {Y : Nat → Hp → V → Hp → Prop} {g : TG} {tt : TT} {te : TE} {vs : List Nat} {σ : L2.St} {H1 : Hp} {D : Addr} {Qd : Hp → Prop}
/-- a comprehension whose items are told ahead -/
theorem lc_out (w : Walk J n G Y) (zs : List V) (hz : zs.length = n) (nD : H1 D = none) (len : n ≤ 100000) (hG : ∀ Hc, Same H1 Hc → G Hc)
    (turn : ∀ (i : Nat) (x z : V) (Hc Hx : Hp) (Q' : VK) (R' : Hp → Prop), i < n → zs[i]? = some z → Same H1 Hc → Y i Hc x Hx → (∀ H4, Same Hc H4 → Q' z H4) → g x (wipe σ vs) Hx fun σ2 H2 => wipe σ2 vs = wipe σ vs ∧ tt σ2 H2 fun b H3 => if b = true then te σ2 H3 Q' else R' H3)
    (fin : ∀ Hc, Same H1 Hc → Hc D = some (.lst zs) → Qd Hc) :
    ∃ W : Nat → Nat → Hp → Prop, (∃ m, W 0 m (upd H1 D (.lst []))) ∧ ∀ i m H, W i m H →
      (J.stop i H ∧ Qd H) ∨ (J.go i H ∧ ∃ Nx : Hp → Prop, (∀ H', Nx H' → ∃ m', m' < m ∧ W (i + 1) m' H') ∧ ∀ x H', J.yld i H x H' → g x (wipe σ vs) H' fun σ2 H2 => wipe σ2 vs = wipe σ vs ∧ tt σ2 H2 fun b H3 =>
        if b = true then te σ2 H3 fun y H4 => ∃ acc, H4 D = some (.lst acc) ∧ acc.length < sizeLine ∧ Nx (upd H4 D (.lst (acc ++ [y]))) else Nx H3) := by
  refine lc_it w (fun i Hc => Same H1 Hc ∧ Hc D = some (.lst (zs.take i))) ⟨same_new nD, upd_same⟩ (fun i H _ p => hG H p.1) (fun i x Hc Hx hi p y => ?_) (fun Hc p => ?_)
  · have hzi : zs[i]? = some (zs[i]'(by omega)) := List.getElem?_eq_getElem (by omega)
    refine turn i x _ Hc Hx _ _ hi hzi p.1 y (fun H4 e4 => ⟨_, e4 _ _ p.2, ?_, ?_⟩)
    · rw [List.length_take]
      exact Nat.lt_of_le_of_lt (Nat.min_le_right _ _) (Nat.lt_of_le_of_lt (by omega) (by decide : 100000 < sizeLine))
    · refine ⟨fun b o z => ?_, ?_⟩
      · rw [upd_ne (ne_of_none z nD)]
        exact e4 _ _ (p.1 b o z)
      · rw [upd_same, List.take_add_one, hzi]
        rfl
  · rw [← hz, List.take_length] at p
    exact fin Hc p.1 p.2
end
section
variable {K : PySem.W.Frag} {a b : Addr} {xs ys : List V} {g : TG} {tt : TT} {te : TE} {vs : List Nat} {σ : L2.St} {H : Hp} {k l : Nat} {Q : VK}
/-- [e for x in NAME], NAME a list: the items told ahead -/
theorem lc_lst (zs : List V) (hz : zs.length = xs.length) (hi : σ[k]? = some (some (.ref a))) (hq : SqL K H a xs) (len : xs.length ≤ 100000)
    (turn : ∀ (i : Nat) (x z : V) (Hc : Hp) (Q' : VK) (R' : Hp → Prop), xs[i]? = some x → zs[i]? = some z → Same H Hc → (∀ H4, Same Hc H4 → Q' z H4) → g x (wipe σ vs) Hc fun σ2 H2 => wipe σ2 vs = wipe σ vs ∧ tt σ2 H2 fun b H3 => if b = true then te σ2 H3 Q' else R' H3)
    (fin : ∀ (D : Addr) (Hc : Hp), Same H Hc → Hc D = some (.lst zs) → Q (.ref D) Hc) :
    tLc (iList K (tVar k)) g tt te vs σ H Q := ⟨_, hi, a, rfl, ⟨_, hq⟩, fun D nD => lc_out walk_list zs hz nD len (fun Hc e => e.seq hq) (fun i x z Hc Hx Q' R' _ hzi e y q => by
      obtain ⟨rfl, hx⟩ := y
      exact turn i x z _ Q' R' hx hzi e q) (fin D)⟩
/-- [e for x, y in zip(NAME, NAME)], both lists -/
theorem lc_zip (zs : List V) (hz : zs.length = min xs.length ys.length) (hi : σ[k]? = some (some (.ref a))) (hj : σ[l]? = some (some (.ref b))) (hq : SqL K H a xs) (hp : SqL K H b ys) (len : xs.length ≤ 100000)
    (turn : ∀ (i : Nat) (x y z : V) (t : Addr) (Hc : Hp) (Q' : VK) (R' : Hp → Prop), xs[i]? = some x → ys[i]? = some y → zs[i]? = some z → Same H Hc → Hc t = some (.tup [x, y]) → (∀ H4, Same Hc H4 → Q' z H4) → g (.ref t) (wipe σ vs) Hc fun σ2 H2 => wipe σ2 vs = wipe σ vs ∧ tt σ2 H2 fun b H3 => if b = true then te σ2 H3 Q' else R' H3)
    (fin : ∀ (D : Addr) (Hc : Hp), Same H Hc → Hc D = some (.lst zs) → Q (.ref D) Hc) :
    tLc (iZip K (tCons (tVar k) (tCons (tVar l) tNil))) g tt te vs σ H Q := ⟨_, hi, _, hj, a, b, xs, ys, rfl, hq, hp, fun D nD => lc_out (walk_zip rfl) zs hz nD (by omega) (fun Hc e => ⟨e.seq hq, e.seq hp⟩) (fun i x z Hc Hx Q' R' _ hzi e y q => by
      obtain ⟨t, x', y', rfl, nt, rfl, hx, hy⟩ := y
      exact turn i x' y' z t _ Q' R' hx hy hzi (e.trans (same_new nt)) upd_same (fun H4 e4 => q H4 ((same_new nt).trans e4))) (fin D)⟩
end
/-- «xs != ys», ints -/
theorem ne_ints {K : PySem.W.Frag} {H : Hp} {a b : Addr} {xs ys : List Int} {Q : VK} (h1 : SqL K H a (xs.map V.int)) (h2 : SqL K H b (ys.map V.int)) (q : Q (.bl (!decide (xs = ys))) H) : rNeD K (.ref a) (.ref b) H Q :=
  ⟨_, _, dp_ints h1, dp_ints h2, (pl_ints xs).shaped (by decide), (pl_ints ys).shaped (by decide), by rw [eqv_ints]; exact q⟩
theorem paired_at {α β : Type} {F : α → β → Prop} {l : List α} {m : List β} (h : Paired F l m) {i : Nat} {a : α} {b : β} (ha : l[i]? = some a) (hb : m[i]? = some b) : F a b := by
  obtain ⟨b', e, f⟩ := paired_get h ha
  rw [hb] at e
  cases e
  exact f
theorem map_at {α β : Type} {f : α → β} {l : List α} {i : Nat} {z : β} (h : (l.map f)[i]? = some z) : ∃ x, l[i]? = some x ∧ z = f x := by
  rw [List.getElem?_map] at h
  cases e : l[i]? with
  | none => rw [e] at h; cases h
  | some x => rw [e] at h; exact ⟨x, rfl, (Option.some.inj h).symm⟩
/-! ### one step into a reading -/
section
variable {D : Ends} {σ : L2.St} {H : Hp}
theorem go_seq {t u : TS} (h : t { D with nx := u D } σ H) : tSeq t u D σ H := h
theorem go_if {c : TT} {t u : TS} (h : c σ H fun b H1 => if b = true then t D σ H1 else u D σ H1) : tIfS c t u D σ H := h
theorem go_test {te : TE} {Q : Bool → Hp → Prop} (h : te σ H fun x H' => ∃ k, x = .bl k ∧ Q k H') : tTest te σ H Q := h
theorem go_op {r : R2} {ta tb : TE} {Q : VK} (h : ta σ H fun x H1 => tb σ H1 fun y H2 => r x y H2 Q) : tOp r ta tb σ H Q := h
theorem go_ret {te : TE} (h : te σ H D.rt) : tRet te D σ H := h
theorem go_asg {te : TE} {g : TG} (h : te σ H fun x H1 => g x σ H1 D.nx) : tAsg te g D σ H := h
theorem go_cb {r : List V → Hp → VK → Prop} {t : TA} {Q : VK} (h : t σ H fun vs H1 => r vs H1 Q) : tCB r t σ H Q := h
theorem go_cons {te : TE} {t : TA} {Q : List V → Hp → Prop} (h : te σ H fun x H1 => t σ H1 fun xs H2 => Q (x :: xs) H2) : tCons te t σ H Q := h
end
theorem cut_toI {xs : List Int} {k : Int} (h : 0 ≤ k) : cutV (xs.map V.int) none (some k) = (xs.take k.toNat).map V.int := by
  obtain ⟨n, rfl⟩ : ∃ n : Nat, k = n := ⟨k.toNat, by omega⟩
  rw [cut_to, List.map_take, Int.toNat_natCast]
theorem cut_fromI {xs : List Int} {k : Int} (h : 0 ≤ k) : cutV (xs.map V.int) (some k) none = (xs.drop k.toNat).map V.int := by
  obtain ⟨n, rfl⟩ : ∃ n : Nat, k = n := ⟨k.toNat, by omega⟩
  rw [cut_from, List.map_drop, Int.toNat_natCast]
theorem ne_of_two {H : Hp} {a b : Addr} {o u : HO} (ha : H a = some o) (hb : H b = some u) (h : o ≠ u) : a ≠ b := fun e => by
  rw [e, hb] at ha
  exact h (Option.some.inj ha).symm
theorem Wh.held {H : Hp} {a c : Addr} {n : Nat} (h : Wh H a c n) : ∃ o, H a = some o := by
  obtain ⟨cs, t, l, h1, _⟩ := h
  exact ⟨_, h1⟩
theorem Wh.ne {H : Hp} {a c p : Addr} {n : Nat} (h : Wh H a c n) (np : H p = none) : p ≠ a := fun e => by
  obtain ⟨o, h⟩ := h.held
  rw [← e, np] at h
  cases h
theorem Wh.new {H : Hp} {a c p : Addr} {n : Nat} {o : HO} (h : Wh H a c n) (np : H p = none) : Wh (upd H p o) a c n := h.same (same_new np)
theorem Mv.new {H H' : Hp} {a p : Addr} {o : HO} (h : Mv a H H') (np : H' p = none) : Mv a H (L2.upd H' p o) := h.trans (Mv.of (same_new np))
theorem Wh.cell {H : Hp} {a c : Addr} {n : Nat} (h : Wh H a c n) : ∃ o, H c = some o := by
  obtain ⟨cs, t, l, _, h2, _⟩ := h
  exact ⟨_, h2⟩
/-- a list of the law's own is written: the wheel stays -/
theorem Wh.set {H : Hp} {a c p : Addr} {n : Nat} {o : HO} (h : Wh H a c n) (h1 : p ≠ a) (h2 : p ≠ c) : Wh (upd H p o) a c n := by
  obtain ⟨cs, t, l, g1, g2, g3⟩ := h
  exact ⟨cs, t, l, by rw [upd_ne h1.symm]; exact g1, by rw [upd_ne h2.symm]; exact g2, g3⟩
theorem Wh.nc {H : Hp} {a c p : Addr} {n : Nat} (h : Wh H a c n) (np : H p = none) : p ≠ c := fun e => by
  obtain ⟨o, h⟩ := h.cell
  rw [← e, np] at h
  cases h
end Kx
namespace Kx
open PySem
/-- other can be cut into pieces, none empty, one for each number of row -/
inductive Th : List Int → List Int → Prop
  | nil : Th [] []
  | more {r o : List Int} (x : Int) (k : Nat) : Th r o → Th (r ++ [x]) (o ++ List.replicate (k + 1) x)
def LeR (p q : Int × Int) : Prop := p.1 = q.1 ∧ p.2 ≤ q.2
theorem snoc_inj {α : Type} {l m : List α} {a b : α} (h : l ++ [a] = m ++ [b]) : l = m ∧ a = b := by
  have h2 := List.append_inj' h rfl
  exact ⟨h2.1, by simpa using h2.2⟩
theorem snoc_ne {α : Type} {l : List α} {a : α} : l ++ [a] ≠ [] := by
  intro h
  have := congrArg List.length h
  simp at this
theorem stepR_le {rs ss : List (Int × Int)} (h : Paired LeR rs ss) (x : Int) : Paired LeR (stepR rs x) (stepR ss x) := by
  rcases nil_or_snoc ss with rfl | ⟨ss', ⟨m, d⟩, rfl⟩
  · cases paired_nil h
    exact .cons ⟨rfl, Int.le_refl _⟩ .nil
  · obtain ⟨rs', ⟨m', c⟩, rfl, h1, h2, h3⟩ := paired_split ss' h
    have e : m' = m := h2
    subst e
    rw [stepR_snoc, stepR_snoc]
    by_cases e : m' = x
    · rw [if_pos e, if_pos e]
      exact Paired.snoc h1 ⟨rfl, by have : c ≤ d := h3; show c + 1 ≤ d + 1; omega⟩
    · rw [if_neg e, if_neg e]
      exact Paired.snoc (Paired.snoc h1 ⟨rfl, h3⟩) ⟨rfl, Int.le_refl _⟩
theorem stepR_up (rs : List (Int × Int)) (x : Int) : ∃ rs' c, stepR rs x = rs' ++ [(x, c)] := by
  rcases nil_or_snoc rs with rfl | ⟨rs', ⟨m, d⟩, rfl⟩
  · exact ⟨[], 1, rfl⟩
  · rw [stepR_snoc]
    by_cases e : m = x
    · exact ⟨rs', d + 1, by rw [if_pos e]⟩
    · exact ⟨rs' ++ [(m, d)], 1, by rw [if_neg e]⟩
theorem more_le {rs ss : List (Int × Int)} {x c : Int} (h : Paired LeR (rs ++ [(x, c)]) ss) : Paired LeR (rs ++ [(x, c)]) (stepR ss x) := by
  rcases nil_or_snoc ss with rfl | ⟨ss', ⟨m, d⟩, rfl⟩
  · exact absurd (paired_nil h) snoc_ne
  · obtain ⟨rs', ⟨m', c'⟩, e, h1, h2, h3⟩ := paired_split ss' h
    obtain ⟨rfl, e2⟩ := snoc_inj e
    cases e2
    have e : x = m := h2
    subst e
    rw [stepR_snoc, if_pos rfl]
    exact Paired.snoc h1 ⟨rfl, by have : c ≤ d := h3; show c ≤ d + 1; omega⟩
theorem runs_rep (o : List Int) (x : Int) : ∀ k : Nat, runs (o ++ List.replicate (k + 1) x) = stepR (runs (o ++ List.replicate k x)) x := fun k => by
  rw [List.replicate_succ', ← List.append_assoc, runs_snoc]
theorem th_le {r o : List Int} (h : Th r o) : Paired LeR (runs r) (runs o) := by
  induction h with
  | nil => exact .nil
  | @more r o x k _ ih =>
    rw [runs_snoc]
    induction k with
    | zero =>
      rw [runs_rep]
      simp only [List.replicate_zero, List.append_nil]
      exact stepR_le ih x
    | succ k ihk =>
      rw [runs_rep]
      obtain ⟨rs', c, e⟩ := stepR_up (runs r) x
      rw [e] at ihk ⊢
      exact more_le ihk
theorem fold_pos : ∀ (o : List Int) (rs : List (Int × Int)), (∀ p ∈ rs, 1 ≤ p.2) → ∀ p ∈ o.foldl stepR rs, 1 ≤ p.2
  | [], _, h => h
  | x :: o, rs, h => by
    refine fold_pos o (stepR rs x) fun p m => ?_
    rcases nil_or_snoc rs with rfl | ⟨rs', ⟨y, d⟩, rfl⟩
    · rcases List.mem_singleton.mp m with rfl
      exact Int.le_refl _
    · have hd : (1 : Int) ≤ d := h (y, d) (by simp)
      rw [stepR_snoc] at m
      by_cases e : y = x
      · rw [if_pos e] at m
        rcases List.mem_append.mp m with m | m
        · exact h p (List.mem_append_left _ m)
        · rcases List.mem_singleton.mp m with rfl
          show (1 : Int) ≤ d + 1
          omega
      · rw [if_neg e] at m
        rcases List.mem_append.mp m with m | m
        · exact h p m
        · rcases List.mem_singleton.mp m with rfl
          exact Int.le_refl _
theorem runs_pos (o : List Int) : ∀ p ∈ runs o, 1 ≤ p.2 := fold_pos o [] (fun _ m => by cases m)
theorem runs_nil {o : List Int} (h : runs o = []) : o = [] := by
  rcases nil_or_snoc o with rfl | ⟨o', x, rfl⟩
  · rfl
  · rw [runs_snoc] at h
    obtain ⟨rs', c, e⟩ := stepR_up (runs o') x
    rw [e] at h
    exact absurd h snoc_ne
theorem runs_last {o : List Int} {ss : List (Int × Int)} {x d : Int} (h : runs o = ss ++ [(x, d)]) : ∃ o', o = o' ++ [x] ∧ ((d = 1 ∧ runs o' = ss) ∨ (2 ≤ d ∧ runs o' = ss ++ [(x, d - 1)])) := by
  rcases nil_or_snoc o with rfl | ⟨o', y, rfl⟩
  · exact absurd h.symm snoc_ne
  · rw [runs_snoc] at h
    rcases nil_or_snoc (runs o') with e | ⟨rs', ⟨m, c⟩, e⟩
    · rw [e] at h
      obtain ⟨h1, h2⟩ := snoc_inj (l := []) h
      cases h2
      exact ⟨o', rfl, .inl ⟨rfl, by rw [e, h1]⟩⟩
    · have hc : (1 : Int) ≤ c := runs_pos o' (m, c) (by rw [e]; simp)
      rw [e, stepR_snoc] at h
      by_cases em : m = y
      · rw [if_pos em] at h
        obtain ⟨h1, h2⟩ := snoc_inj h
        cases h2
        subst em h1
        exact ⟨o', rfl, .inr ⟨by omega, by rw [e, Int.add_sub_cancel]⟩⟩
      · rw [if_neg em] at h
        obtain ⟨h1, h2⟩ := snoc_inj h
        cases h2
        exact ⟨o', rfl, .inl ⟨rfl, by rw [e, h1]⟩⟩
theorem runs_piece {x : Int} {ss : List (Int × Int)} : ∀ (n : Nat) {o : List Int}, runs o = ss ++ [(x, (n : Int) + 1)] → ∃ o', o = o' ++ List.replicate (n + 1) x ∧ runs o' = ss
  | 0, o, h => by
    obtain ⟨o', e, h1 | h1⟩ := runs_last h
    · exact ⟨o', e, h1.2⟩
    · omega
  | n + 1, o, h => by
    obtain ⟨o', rfl, h1 | h1⟩ := runs_last h
    · omega
    · rw [show ((n + 1 : Nat) : Int) + 1 - 1 = (n : Int) + 1 by omega] at h1
      obtain ⟨o2, rfl, e2⟩ := runs_piece n h1.2
      exact ⟨o2, by rw [List.replicate_succ' (n := n + 1), List.append_assoc], e2⟩
theorem le_th : ∀ (n : Nat) {r o : List Int}, r.length = n → Paired LeR (runs r) (runs o) → Th r o
  | 0, r, o, hn, h => by
    cases r with
    | nil =>
      have e : runs o = [] := by
        cases h' : runs o with
        | nil => rfl
        | cons p t => rw [h'] at h; cases h
      rw [runs_nil e]
      exact .nil
    | cons _ _ => simp at hn
  | n + 1, r, o, hn, h => by
    rcases nil_or_snoc r with rfl | ⟨r', x, rfl⟩
    · simp at hn
    · have hn' : r'.length = n := by simpa using hn
      rw [runs_snoc] at h
      obtain ⟨rs', c, e⟩ := stepR_up (runs r') x
      rw [e] at h
      rcases nil_or_snoc (runs o) with eo | ⟨ss, ⟨y, d⟩, eo⟩
      · rw [eo] at h
        exact absurd (paired_nil h) snoc_ne
      · rw [eo] at h
        obtain ⟨q', ⟨x', c'⟩, e1, h1, h2, h3⟩ := paired_split ss h
        obtain ⟨e3, e2⟩ := snoc_inj e1
        cases e2
        subst e3
        have e4 : x = y := h2
        subst e4
        have h3 : c ≤ d := h3
        have hpos : (1 : Int) ≤ d := runs_pos o (x, d) (by rw [eo]; simp)
        rcases nil_or_snoc (runs r') with er | ⟨ts, ⟨m, c2⟩, er⟩
        · rw [er] at e
          obtain ⟨e5, e6⟩ := snoc_inj (l := []) e
          subst e5
          obtain ⟨o', rfl, eo'⟩ := runs_piece (d - 1).toNat (o := o) (ss := ss) (x := x) (by rw [eo]; congr 3; omega)
          exact .more x _ (le_th n hn' (by rw [er, eo']; exact h1))
        · have hc2 : (1 : Int) ≤ c2 := runs_pos r' (m, c2) (by rw [er]; simp)
          rw [er, stepR_snoc] at e
          by_cases em : m = x
          · rw [if_pos em] at e
            obtain ⟨e5, e6⟩ := snoc_inj e
            cases e6
            subst e5 em
            obtain ⟨o', rfl, hh | ⟨_, hh⟩⟩ := runs_last eo
            · omega
            · exact .more m 0 (le_th n hn' (by rw [er, hh]; exact Paired.snoc h1 ⟨rfl, by show c2 ≤ d - 1; omega⟩))
          · rw [if_neg em] at e
            obtain ⟨e5, e6⟩ := snoc_inj e
            cases e6
            subst e5
            obtain ⟨o', rfl, eo'⟩ := runs_piece (d - 1).toNat (o := o) (ss := ss) (x := x) (by rw [eo]; congr 3; omega)
            exact .more x _ (le_th n hn' (by rw [er, eo']; exact h1))
theorem leR_iff : ∀ (rs ss : List (Int × Int)), (decide (rs.map Prod.fst = ss.map Prod.fst) && (rs.zip ss).all fun p => decide (p.1.2 ≤ p.2.2)) = true ↔ Paired LeR rs ss
  | [], [] => ⟨fun _ => .nil, fun _ => rfl⟩
  | [], q :: ss => ⟨fun h => by simp at h, fun h => by cases h⟩
  | p :: rs, [] => ⟨fun h => by simp at h, fun h => by cases h⟩
  | p :: rs, q :: ss => by
    have ih := leR_iff rs ss
    constructor
    · intro h
      simp only [List.map_cons, List.zip_cons_cons, List.all_cons, Bool.and_eq_true, decide_eq_true_eq, List.cons.injEq] at h
      obtain ⟨⟨h1, h2⟩, h3, h4⟩ := h
      refine .cons ⟨h1, h3⟩ (ih.mp ?_)
      simp only [Bool.and_eq_true, decide_eq_true_eq]
      exact ⟨h2, h4⟩
    · intro h
      cases h with
      | cons h1 h2 =>
        have h3 := ih.mpr h2
        simp only [Bool.and_eq_true, decide_eq_true_eq] at h3
        simp only [List.map_cons, List.zip_cons_cons, List.all_cons, Bool.and_eq_true, decide_eq_true_eq, List.cons.injEq]
        exact ⟨⟨h1.1, h3.1⟩, h1.2, h3.2⟩
theorem th_iff (r o : List Int) : (decide ((runs r).map Prod.fst = (runs o).map Prod.fst) && ((runs r).zip (runs o)).all fun p => decide (p.1.2 ≤ p.2.2)) = true ↔ Th r o :=
  (leR_iff _ _).trans ⟨le_th _ rfl, th_le⟩
end Kx
namespace Kx
open PySem PySem.Spec PyProof.Rows L2 SX LamX
/-- a def whose code object is known -/
def FunC (K : PySem.W.Frag) (x qual : Str) (st : Stmt) (f : Addr) (fd : FuncData) (c : Addr) : Prop :=
  ∃ (oc : Value) (od : Option Addr) (kV doc pm : Value) (an : Option Addr) (ct : Value) (osl : Array (Option Value)), fd = PySem.W.fnOf x qual (defArgs st) (defBody st) (defScope st) .none kV doc pm an (.ref c) ct ∧
    K.lookup f = some ⟨oc, od, .func (PySem.W.fnOf x qual (defArgs st) (defBody st) (defScope st) .none kV doc pm an (.ref c) ct), osl⟩ ∧ PySem.W.codeIn K (.ref c) qual = true
section
variable {P : Program} {w : World} {K : PySem.W.Frag} {mg : Str → Option Value} {base : Heap}
/-- the body's rule: guards told, the code object known -/
theorem okC {x qual : Str} {st : Stmt} {f c : Addr} {fd : FuncData} {N ps : List Str} {k : Nat} {sp : Sp} (F : FunC K x qual st f fd c) (S : FnScope N ps (defScope st)) (len : ∀ vs H Q E, sp vs H Q E → vs.length = ps.length)
    (hbody : ∀ (A : Around) (outer : List Env) (s : Shared) (H : Hp) (vs : List V) (Q : VK) (E : XK), A.guards = some [] → Room k (A.deeper (envOfC qual (defScope st) s.heap.objs.size f (.ref c))) → sp vs H Q E →
      ∃ t, PSs (cxOf CX0 P w K mg base N qual (defScope st) f (.ref c) A outer s H E).nox (defBody st) t ∧ t { nx := fun _ H' => Q .non H', rt := Q } (start N vs) H) :
    FnG P w K mg base CX0 (k + 1) f fd ps sp := by
  obtain ⟨oc, od, kV, doc, pm, an, ct, osl, rfl, lk, hcd⟩ := F
  refine ⟨len, fun A outer s H args us vs Q E hg hr e0 hb r hsp => ?_⟩
  refine LamX.run_ofS lk hcd S hr e0 hb r (len _ _ _ _ hsp) fun hr' => ?_
  obtain ⟨t, h, q⟩ := hbody A outer s H vs Q E hg hr' hsp
  exact ⟨t, h.nox, q⟩
theorem funC_mk {x qual : Str} {st : Stmt} {f c : Addr} {oc : Value} {od an : Option Addr} {osl : Array (Option Value)} {kV doc pm ct : Value} (l : K.lookup f = some ⟨oc, od, .func (PySem.W.fnOf x qual (defArgs st) (defBody st) (defScope st) .none kV doc pm an (.ref c) ct), osl⟩)
    (h : PySem.W.codeIn K (.ref c) qual = true) : FunC K x qual st f (PySem.W.fnOf x qual (defArgs st) (defBody st) (defScope st) .none kV doc pm an (.ref c) ct) c := ⟨oc, od, kV, doc, pm, an, ct, osl, rfl, l, h⟩
theorem funC_of {x qual : Str} {st : Stmt} {f c Pt : Addr} {fd : FuncData} (F : Fun K x qual st f fd) (g : PySem.W.nsIn K mainGlobals x = some (some (.ref f))) (t : PySem.W.tabIn K x = some (c, Pt)) : FunC K x qual st f fd c := by
  obtain ⟨oc, od, kV, doc, pm, an, cdv, ct, osl, rfl, lk, hcd⟩ := F.ex
  unfold PySem.W.tabIn at t
  rw [g] at t
  simp only [lk] at t
  have e : (PySem.W.fnOf x qual (defArgs st) (defBody st) (defScope st) .none kV doc pm an cdv ct).code = cdv := rfl
  clear e
  cases cdv with
  | ref c' =>
    simp only at t
    split at t
    · split at t
      · injection t with t
        injection t with t1 t2
        subst t1
        exact ⟨oc, od, kV, doc, pm, an, ct, osl, rfl, lk, hcd⟩
      · cases t
    · cases t
  | _ => simp at t
end
/-- no positional value, two by name: exchanged -/
def swapG {α : Type} (us ws : List α) : List α := match us, ws with | [], [v, u] => [u, v] | _, _ => []
/-- f(b = .., a = ..): two parameters, both by name, the other way round -/
theorem kb_swap {K : PySem.W.Frag} {x qual : Str} {st : Stmt} {f : Addr} {fd : FuncData} {a b : Str} (F : Fun K x qual st f fd)
    (h : ∀ (kV doc pm : Value) (an : Option Addr) (cdv ct : Value) (u v : Value), bindArgs (PySem.W.fnOf x qual (defArgs st) (defBody st) (defScope st) .none kV doc pm an cdv ct) ⟨[], [(b, v), (a, u)]⟩ = pure [(a, u), (b, v)]) :
    KBinds K fd [a, b] [b, a] swapG swapG := by
  obtain ⟨oc, od, kV, doc, pm, an, cdv, ct, osl, rfl, lk, hcd⟩ := F.ex
  refine ⟨fun s us ws X l => ?_, fun {vs us zs ws} r1 r2 => ?_⟩
  · match us, ws, l with
    | [], [v, u], _ => exact .of_eq (h kV doc pm an cdv ct u v)
    | [], [], l => cases l
    | [], [_], l => cases l
    | [], _ :: _ :: _ :: _, l => cases l
    | _ :: _, _, l => cases l
  · cases r1 with
    | cons _ _ => exact .nil
    | nil =>
      cases r2 with
      | nil => exact .nil
      | cons h1 r2 =>
        cases r2 with
        | nil => exact .nil
        | cons h2 r2 =>
          cases r2 with
          | nil => exact .cons h2 (.cons h1 .nil)
          | cons _ _ => exact .nil
/-! ### the scope of a lambda with one default, checked -/
def lamPB (sc scope : Scope) (z : Str) : Bool :=
  decide (scope.kind = .function) && !scope.isCoroutine && !scope.isGenerator && decide (scope.names.lookup z = some .local) && scope.names.all fun y => !decide (y.2 = .cell) && (!decide (y.2 = .local) || decide (y.1 = z)) && (!decide (y.2 = .free) || decide (sc.names.lookup y.1 = some .cell) || decide (sc.names.lookup y.1 = some .free))
theorem lamP_by {sc scope : Scope} {z : Str} (h : lamPB sc scope z = true) : LamP sc scope z := by
  unfold lamPB at h
  simp only [Bool.and_eq_true, Bool.or_eq_true, Bool.not_eq_true', decide_eq_true_eq, decide_eq_false_iff_not, List.all_eq_true] at h
  obtain ⟨⟨⟨⟨h1, h2⟩, h3⟩, h5⟩, h4⟩ := h
  refine { kind := h1, co := h2, gen := h3, own := fun y hy => ⟨(h4 y hy).1.1, fun e => ?_⟩, par := h5, free := fun y hy e => ?_ }
  · rcases (h4 y hy).1.2 with z | z
    · exact absurd e z
    · exact z
  · rcases (h4 y hy).2 with (z | z) | z
    · exact absurd e z
    · exact .inl z
    · exact .inr z
open PySem.W in
/-- the goal that the head leaves, of a law that makes lambdas: x its def's name, P its table -/
theorem walkL {l : OpenLaw} {n k : Nat} {q : Program} {loose : List Str} {XP : (Str → Option Value) → Heap → Prop} {YP : World → Heap → Prop} {d : DefRec} {K : Params → Frag} {x y : Str} (sp : Frag → Addr → Sp)
    (hn : l.most = some n) (hz : n ≤ sizeLine) (h0 : d.params.defaults = []) (hr : Room k callerA) (hY : ∀ (w : World) (h : Heap), YP w h → (K w.params).In h)
    (hc : ∀ p, (∃ r, (recsOf q).find? (fun r => r.name == y) = some r) ∧ ∃ c Pt, tabIn (K p) y = some (c, Pt) ∧ (K p).lookup Pt = none)
    (F : ∀ (w : World) (mg : Str → Option Value) (fa : Addr) (h : Heap), (K w.params).In h → h.Ns mainGlobals mg → mg d.name = some (.ref fa) → ∃ fd : FuncData,
      (∀ (t : Shared) (u : Value), BindsTo t fd ⟨[u], []⟩ [(x, u)]) ∧ ∀ (c Pt : Addr), tabIn (K w.params) y = some (c, Pt) → ∀ base : Heap, (K w.params).In base → base.Ns mainGlobals mg → TabB base mg c Pt → FnG l.prog w (K w.params) mg base CX0 k fa fd [x] (sp (K w.params) Pt))
    (pr : ∀ (K : Frag) (Pt : Addr) (H : Hp) (a : Addr) (ns : List Int), ns.length ≤ n → H Pt = some (.tbl #[]) → SqL K H a (ns.map V.int) → sp K Pt [.ref a] H (fun v _ => v = .bl true) fun _ _ _ => False) :
    WalkO q loose XP YP l.row.toRowW d [] (fun f us => PySem.call f us) := by
  refine walkT (x := x) (K := K) (cs := fun p => [(y, ((tabIn (K p) y).getD (0, 0)))]) (sp := fun K => sp K ((tabIn K y).getD (0, 0)).2) hn hz h0 hr hY (fun p e he => ?_) (fun w mg fa h KX G hmg => ?_) (fun p H a ns hl ht hS _ => pr _ _ H a ns hl (ht _ (List.mem_singleton.mpr rfl)) hS)
  · obtain ⟨h1, c, Pt, h2, h3⟩ := hc p
    cases List.mem_singleton.mp he
    refine ⟨h1, ?_, ?_⟩
    · rw [h2]
      rfl
    · rw [h2]
      exact h3
  · obtain ⟨fd, hb, hF⟩ := F w mg fa h KX G hmg
    obtain ⟨_, c, Pt, h2, _⟩ := hc w.params
    refine ⟨fd, hb, fun base hk hg ht => ?_⟩
    have hT := ht _ (List.mem_singleton.mpr rfl)
    simp only [h2, Option.getD_some] at hT ⊢
    exact hF c Pt h2 base hk hg hT
theorem useIt {α : Type} {P : Prop} (x : α) (h : α → P) : P := h x
theorem binds_one {K : PySem.W.Frag} {x qual a : Str} {st : Stmt} {f : Addr} {fd : FuncData} (F : Fun K x qual st f fd)
    (h : ∀ (kV doc pm : Value) (an : Option Addr) (cdv ct u : Value), bindArgs (PySem.W.fnOf x qual (defArgs st) (defBody st) (defScope st) .none kV doc pm an cdv ct) ⟨[u], []⟩ = pure [(a, u)]) : ∀ (t : Shared) (u : Value), BindsTo t fd ⟨[u], []⟩ [(a, u)] := by
  obtain ⟨oc, od, kV, doc, pm, an, cdv, ct, osl, rfl, lk, hcd⟩ := F.ex
  exact fun t u => .of_eq (h kV doc pm an cdv ct u)
theorem same_ref {mg : Str → Option Value} {x : Str} {a b : Addr} (h : mg x = some (.ref a)) (k : mg x = some (.ref b)) : a = b := by
  rw [h] at k
  injection k with k
  injection k
theorem tabIn_of {K : PySem.W.Frag} {x : Str} {f c Pt : Addr} {oc oc2 : Value} {od od2 : Option Addr} {osl osl2 : Array (Option Value)} {fd : FuncData} {vs : Array Value} (a : PySem.W.nsIn K mainGlobals x = some (some (.ref f)))
    (l : K.lookup f = some ⟨oc, od, .func fd, osl⟩) (e : fd.code = .ref c) (l2 : K.lookup c = some ⟨oc2, od2, .fields vs, osl2⟩) (v : (vs[11]? : Option Value) = some (.ref Pt)) (n : K.lookup Pt = none) :
    ∃ c Pt, PySem.W.tabIn K x = some (c, Pt) ∧ K.lookup Pt = none := by
  refine ⟨c, Pt, ?_, n⟩
  unfold PySem.W.tabIn
  rw [a]
  simp only [l, e, l2, v]
end Kx
namespace Kx
open PySem PySem.Spec PyProof.Rows L2 SX LamX
/-! ### what stays through draws and through the making of lambdas -/
/-- H without what stands at a and without tables -/
def core (a : Addr) (H : Hp) : Hp := fun b => if b = a then none else match H b with | some (.tbl _) => none | o => o
theorem core_at {a b : Addr} {H : Hp} {o : HO} (h : H b = some o) (n : b ≠ a) (t : ∀ ps, o ≠ .tbl ps) : core a H b = some o := by
  unfold core
  rw [if_neg n, h]
  cases o with
  | tbl ps => exact absurd rfl (t ps)
  | _ => rfl
theorem of_core {a b : Addr} {H : Hp} {o : HO} (h : core a H b = some o) : b ≠ a ∧ H b = some o ∧ ∀ ps, o ≠ .tbl ps := by
  unfold core at h
  by_cases e : b = a
  · rw [if_pos e] at h
    cases h
  · rw [if_neg e] at h
    cases q : H b with
    | none => rw [q] at h; cases h
    | some u =>
      rw [q] at h
      cases u with
      | tbl ps => cases h
      | _ =>
        have h' := Option.some.inj h
        subst h'
        exact ⟨e, rfl, fun ps z => by cases z⟩
theorem core_mv {a : Addr} {H H' : Hp} (m : Mv a H H') : Same (core a H) H' := fun b o h => m b o (of_core h).1 (of_core h).2.1
theorem core_ext {a : Addr} {H0 H H' : Hp} (s : Same (core a H0) H) (e : ExtN H H') : Same (core a H0) H' := fun b o h => e b o (s b o h) (of_core h).2.2
theorem Wh.ext {H H' : Hp} {a c : Addr} {n : Nat} (h : Wh H a c n) (e : ExtN H H') : Wh H' a c n := by
  obtain ⟨cs, t, l', h1, h2, h3⟩ := h
  exact ⟨cs, t, l', e _ _ h1 (fun ps z => by cases z), e _ _ h2 (fun ps z => by cases z), h3⟩
theorem Wh.tab {H : Hp} {a c P : Addr} {n : Nat} {ps : Array Value} (h : Wh H a c n) (t : H P = some (.tbl ps)) : P ≠ a := by
  obtain ⟨cs, x, l', h1, _⟩ := h
  exact ne_of_two t h1 (fun z => by cases z)
/-! ### what never is a list or tuple -/
theorem no_list {K : PySem.W.Frag} {n : String} (h1 : kitB n "list" = some false) (h2 : kitB n "tuple" = some false) : PySem.W.kitAny K (.type n) [.type "list", .type "tuple"] = some false := kit_at h1 h2
theorem flat_rep (n : Nat) (xs : List Int) : (List.replicate n (xs.map V.int)).flatten = ((List.replicate n xs).flatten).map V.int := by
  rw [List.map_flatten, List.map_replicate]
theorem rep_one (n : Nat) (x : Int) : (List.replicate n [V.int x]).flatten = (List.replicate n x).map V.int := by
  rw [List.map_replicate]
  induction n with
  | zero => rfl
  | succ j ih => rw [List.replicate_succ, List.flatten_cons, ih, List.replicate_succ]; rfl
theorem flat_length (n : Nat) (xs : List Int) : ((List.replicate n xs).flatten).length = n * xs.length := by
  induction n with
  | zero => simp
  | succ j ih => rw [List.replicate_succ, List.flatten_cons, List.length_append, ih, Nat.succ_mul, Nat.add_comm]
theorem flat_mem {n : Nat} {xs : List Int} {i : Int} (h : i ∈ (List.replicate n xs).flatten) : i ∈ xs := by
  obtain ⟨l, hl, hi⟩ := List.mem_flatten.mp h
  rw [List.eq_of_mem_replicate hl] at hi
  exact hi
/-- one and the same truth, twice -/
theorem dp_bb {K : PySem.W.Frag} {H : Hp} {p : Addr} {b : Bool} (h : H p = some (.lst [.bl b, .bl b])) : Dp K H (.ref p) (.list [.bool b, .bool b]) := .lst (.inl (.inl h)) (.cons (.bl b) (.cons (.bl b) .nil))
/-- [b, b] is shown -/
theorem bb1 (b : Bool) : (PyData.list [.bool b, .bool b]).showable = true := by cases b <;> rfl
theorem bb2 (b : Bool) : (PyData.list [.bool b, .bool b]).hasDict = false := by cases b <;> rfl
theorem bb3 (b : Bool) : (PyData.list [.bool b, .bool b]).depth ≤ 60 := by cases b <;> decide
theorem bb4 (b : Bool) : (PyData.list [.bool b, .bool b]).shown.length ≤ sizeLine := by cases b <;> decide +kernel
theorem bool_of {P : Prop} {a b : Bool} (h1 : a = true ↔ P) (h2 : b = true ↔ P) : a = b := Bool.eq_iff_iff.mpr (h1.trans h2.symm)
theorem ne_self {x : V} : (!decide (x = x)) = false := by simp
theorem th_refl : ∀ (n : Nat) (r : List Int), r.length = n → Th r r
  | 0, r, h => by
    cases r with
    | nil => exact .nil
    | cons _ _ => simp at h
  | n + 1, r, h => by
    rcases nil_or_snoc r with rfl | ⟨r', x, rfl⟩
    · simp at h
    · exact .more x 0 (th_refl n r' (by simpa using h))
end Kx
namespace Kx
open PySem PySem.Spec PyProof.Rows L2 SX LamX
/-! ### a def that calls replace: a token is out when it begins -/
section
variable {X : Cx}
theorem pst_set {i : Nat} {x : Str} {e : Expr} {te : TE} {pos pos' : Pos} (hN : X.N.Nodup) (hi : X.N[i]? = some x) (hx : Loc X.env.scope x) (he : PET X e te) (hs : swapsWith e (some (.Name x pos')) pos.line X.env = pure false := by rfl)
    (hf : X.fn x = true ∨ X.env.scope.names.lookup x = some .local := by first | exact .inl rfl | exact .inr rfl | assumption) : PST X (.Assign [.Name x pos'] e pos) (tAsg te (gName i)) := by
  intro pins s σ H D h0 I h
  refine wpAny_Assign_Name (thn (he pins s σ H _ h0 I h) fun v s1 hh => ?_) hs
  obtain ⟨y, H1, I1, r1, q1⟩ := hh
  exact store_ok I1 hN hi hx r1 (fun s2 I2 => ⟨_, H1, I2, q1⟩) hf
end
theorem okT {P : Program} {w : World} {K : PySem.W.Frag} {mg : Str → Option Value} {base : Heap} {x qual : Str} {st : Stmt} {f : Addr} {fd : FuncData} {N ps : List Str} {k : Nat} {sp : Sp} (F : Fun K x qual st f fd) (S : FnScope N ps (defScope st))
    (hnc : ((defScope st).names.all fun y => !decide (y.2 = .cell)) = true) (hps : 1 ≤ ps.length) (len : ∀ vs H Q E, sp vs H Q E → vs.length = ps.length)
    (hbody : ∀ (cdv : Value) (A : Around) (outer : List Env) (s : Shared) (H : Hp) (vs : List V) (Q : VK) (E : XK), Room k (A.deeper (envOfC qual (defScope st) s.heap.objs.size f cdv)) → sp vs H Q E →
      ∃ t, PSsT (cxOf CX0 P w K mg base N qual (defScope st) f cdv A outer s H E) (defBody st) t ∧ t { nx := fun _ H' => Q .non H', rt := Q } (start N vs) H) :
    FnOk P w K mg base CX0 (k + 1) f fd ps sp := by
  obtain ⟨oc, od, kV, doc, pm, an, cdv, ct, osl, rfl, lk, hcd⟩ := F.ex
  refine fn_ofT lk hcd S (fun y hy e => ?_) hps len fun A outer s H vs Q E hr hsp => hbody cdv A outer s H vs Q E hr hsp
  have h := List.all_eq_true.mp hnc y hy
  rw [e] at h
  exact absurd h (by decide)
/-! ### texts -/
theorem replace_S (l : List Nat) : Txt.replace (S l) ⟨#[32]⟩ ⟨#[]⟩ = S (l.filter (· != 32)) := by
  have h := PyProof.Rows.replace_strikes (S l) 32
  refine TL.ext_tl ?_
  show (Txt.replace (S l) ⟨#[32]⟩ ⟨#[]⟩).cps.toList = (S (l.filter (· != 32))).cps.toList
  rw [h]
theorem S_nil (l : List Nat) : decide (V.str (S l) = V.str "") = l.isEmpty := by
  cases l with
  | nil => rfl
  | cons c t =>
    rw [decide_eq_false]
    · rfl
    · intro e
      injection e with e
      have := congrArg (fun z : Str => z.cps.size) e
      have e0 : (Str.ofString "").cps.size = 0 := rfl
      simp [S] at this
      omega
/-- letters and blanks alone -/
theorem text_filter (l : List Nat) : ((l.filter (· != 32)).isEmpty || lowB (l.filter (· != 32))) = l.all sg := by
  have h : (l.filter (· != 32)).all low = l.all sg := by
    induction l with
    | nil => rfl
    | cons c t ih =>
      by_cases e : c = 32
      · subst e
        rw [List.filter_cons_of_neg (by simp), ih]
        rfl
      · rw [List.filter_cons_of_pos (by simpa using e), List.all_cons, List.all_cons, ih]
        have : sg c = low c := by
          unfold sg
          rw [decide_eq_false e, Bool.false_or]
        rw [this]
  unfold lowB
  rw [h]
  cases hE : (l.filter (· != 32)).isEmpty with
  | true =>
    have : l.filter (· != 32) = [] := List.isEmpty_iff.mp hE
    rw [← h, this]
    rfl
  | false => simp
/-- as an error with its part is raised -/
def RaisedPart (E : XK) (C : Addr) (H : Hp) (part : Str) : Prop := ∀ d H', Same H H' → H' d = some (.xd [("part", .str part)]) → E (.ref C) (some d) H'
/-! ### items between blanks -/
def itemsA (acc : List Nat) : List Nat → List (List Nat)
  | [] => [acc]
  | c :: r => if c = 32 then acc :: itemsA [] r else itemsA (acc ++ [c]) r
theorem pre_blank (c : Nat) (r : List Nat) : TL.pre [32] (c :: r) = decide (c = 32) := by
  by_cases h : c = 32
  · subst h
    simp [TL.pre]
  · have h' : ¬ 32 = c := fun e => h e.symm
    simp [TL.pre, h, h']
theorem spl_items : ∀ (l acc : List Nat), TL.spl [32] 0 acc l = itemsA acc l
  | [], acc => TL.spl_nil _ _ _
  | c :: r, acc => by
    by_cases h : c = 32
    · rw [TL.spl_hit (by rw [pre_blank, decide_eq_true h])]
      show acc :: TL.spl [32] 0 [] r = if c = 32 then acc :: itemsA [] r else itemsA (acc ++ [c]) r
      rw [if_pos h, spl_items r []]
    · rw [TL.spl_miss (by rw [pre_blank, decide_eq_false h])]
      show TL.spl [32] 0 (acc ++ [c]) r = if c = 32 then acc :: itemsA [] r else itemsA (acc ++ [c]) r
      rw [if_neg h, spl_items r (acc ++ [c])]
theorem split_items (l : List Nat) : Txt.split (S l) " " = (itemsA [] l).map S := by
  have h := SX.split_S (a := l) (b := [32]) (by simp) (by decide)
  rw [spl_items] at h
  exact h
def beginsA : Nat → List (List Nat) → List Nat
  | _, [] => []
  | p, x :: xs => p :: beginsA (p + x.length + 1) xs
/-- how far items reach -/
def reachA : Nat → List (List Nat) → Nat
  | p, [] => p
  | p, x :: xs => reachA (p + x.length + 1) xs
theorem beginsA_snoc : ∀ (xs : List (List Nat)) (p : Nat) (x : List Nat), beginsA p (xs ++ [x]) = beginsA p xs ++ [reachA p xs]
  | [], _, _ => rfl
  | y :: ys, p, x => by
    show p :: beginsA (p + y.length + 1) (ys ++ [x]) = p :: (beginsA (p + y.length + 1) ys ++ [reachA (p + y.length + 1) ys])
    rw [beginsA_snoc ys]
theorem reachA_snoc : ∀ (xs : List (List Nat)) (p : Nat) (x : List Nat), reachA p (xs ++ [x]) = reachA p xs + x.length + 1
  | [], _, _ => rfl
  | y :: ys, p, x => reachA_snoc ys _ x
theorem reach_items : ∀ (l acc : List Nat) (p : Nat), reachA p (itemsA acc l) = p + acc.length + l.length + 1
  | [], acc, p => rfl
  | c :: r, acc, p => by
    show reachA p (if c = 32 then acc :: itemsA [] r else itemsA (acc ++ [c]) r) = _
    by_cases h : c = 32
    · rw [if_pos h]
      show reachA (p + acc.length + 1) (itemsA [] r) = _
      rw [reach_items]
      simp
      omega
    · rw [if_neg h, reach_items]
      simp
      omega
theorem items_blank : ∀ (l acc : List Nat), itemsA acc (l ++ [32]) = itemsA acc l ++ [[]]
  | [], acc => rfl
  | c :: r, acc => by
    show (if c = 32 then acc :: itemsA [] (r ++ [32]) else itemsA (acc ++ [c]) (r ++ [32])) = (if c = 32 then acc :: itemsA [] r else itemsA (acc ++ [c]) r) ++ [[]]
    by_cases h : c = 32
    · rw [if_pos h, if_pos h, items_blank]
      rfl
    · rw [if_neg h, if_neg h, items_blank]
theorem items_sign {s : Nat} (hs : s ≠ 32) : ∀ (l acc : List Nat), ∃ xs x, itemsA acc l = xs ++ [x] ∧ itemsA acc (l ++ [s]) = xs ++ [x ++ [s]]
  | [], acc => ⟨[], acc, rfl, by show (if s = 32 then _ else itemsA (acc ++ [s]) []) = _; rw [if_neg hs]; rfl⟩
  | c :: r, acc => by
    by_cases h : c = 32
    · obtain ⟨xs, x, h1, h2⟩ := items_sign hs r []
      refine ⟨acc :: xs, x, ?_, ?_⟩
      · show (if c = 32 then acc :: itemsA [] r else _) = _
        rw [if_pos h, h1]
        rfl
      · show (if c = 32 then acc :: itemsA [] (r ++ [s]) else _) = _
        rw [if_pos h, h2]
        rfl
    · obtain ⟨xs, x, h1, h2⟩ := items_sign hs r (acc ++ [c])
      refine ⟨xs, x, ?_, ?_⟩
      · show (if c = 32 then _ else itemsA (acc ++ [c]) r) = _
        rw [if_neg h, h1]
      · show (if c = 32 then _ else itemsA (acc ++ [c]) (r ++ [s])) = _
        rw [if_neg h, h2]
theorem items_length : ∀ (l acc : List Nat), (itemsA acc l).length = l.count 32 + 1
  | [], acc => rfl
  | c :: r, acc => by
    show (if c = 32 then acc :: itemsA [] r else itemsA (acc ++ [c]) r).length = _
    by_cases h : c = 32
    · subst h
      rw [if_pos rfl, List.length_cons, items_length, List.count_cons_self]
    · rw [if_neg h, items_length, List.count_cons_of_ne h]
theorem join_items : ∀ (l acc : List Nat), TL.joinL [32] (itemsA acc l) = acc ++ l
  | [], acc => by simp [itemsA, TL.joinL]
  | c :: r, acc => by
    show TL.joinL [32] (if c = 32 then acc :: itemsA [] r else itemsA (acc ++ [c]) r) = _
    by_cases h : c = 32
    · subst h
      rw [if_pos rfl]
      have ih := join_items r []
      cases hi : itemsA [] r with
      | nil =>
        have := items_length r []
        rw [hi] at this
        simp at this
      | cons x xs =>
        rw [hi] at ih
        show acc ++ ([32] ++ TL.joinL [32] (x :: xs)) = _
        rw [ih]
        simp
    · rw [if_neg h, join_items]
      simp
theorem beginsA_length : ∀ (xs : List (List Nat)) (p : Nat), (beginsA p xs).length = xs.length
  | [], _ => rfl
  | x :: xs, p => by
    show (beginsA (p + x.length + 1) xs).length + 1 = xs.length + 1
    rw [beginsA_length xs]
theorem item_le : ∀ (l acc it : List Nat), it ∈ itemsA acc l → it.length ≤ acc.length + l.length
  | [], acc, it, h => by
    rw [List.mem_singleton.mp h]
    simp
  | c :: r, acc, it, h => by
    have h : it ∈ (if c = 32 then acc :: itemsA [] r else itemsA (acc ++ [c]) r) := h
    by_cases e : c = 32
    · rw [if_pos e] at h
      rcases List.mem_cons.mp h with rfl | h
      · simp
      · have := item_le r [] it h
        simp at this ⊢
        omega
    · rw [if_neg e] at h
      have := item_le r _ it h
      simp at this ⊢
      omega
end Kx
namespace Kx
open PySem PySem.Spec PyProof.Rows L2 SX LamX
/-! ### an int or a truth is (not) a truth -/
def rNotBI : R2 := fun x y H Q => ∃ b : Bool, y = .bl b ∧ ((∃ i : Int, x = .int i ∧ Q (.bl true) H) ∨ ∃ a : Bool, x = .bl a ∧ Q (.bl (!decide (a = b))) H)
section
variable {X : Cx}
theorem op_notBI : OpR X (compareOp .IsNot) rNotBI := by
  intro pins s σ H x y v u Q I rx ry h
  obtain ⟨b, rfl, h⟩ := h
  rcases h with ⟨i, rfl, q⟩ | ⟨a, rfl, q⟩
  · obtain ⟨t, rfl⟩ := rx
    obtain rfl : u = Value.bool b := ry
    exact wpAny_isNot_other rfl (fun z => nomatch z) ⟨.bl true, H, I, rfl, q⟩
  · exact op_notBl pins s σ H _ _ v u Q I rx ry ⟨a, b, rfl, rfl, q⟩
/-! ### list(text) -/
def signsV (l : List Nat) : List V := l.map fun c => V.str (S [c])
theorem vals_signs : ∀ {l : List Nat} {its : List Value}, l.length = its.length → (∀ (i : Nat) (c : Nat), l[i]? = some c → ∃ u : Tok, its[i]? = some (Value.str (S [c]) u)) → Vals (signsV l) its
  | [], [], _, _ => .nil
  | [], _ :: _, h, _ => by simp at h
  | _ :: _, [], h, _ => by simp at h
  | c :: l, v :: its, hl, h => by
    obtain ⟨u, e⟩ := h 0 c rfl
    have e' : v = .str (S [c]) u := by simpa using e
    exact .cons ⟨u, e'⟩ (vals_signs (by simpa using hl) fun i d hd => by
      have := h (i + 1) d (by simpa using hd)
      simpa using this)
theorem call_list_txt (hc : X.calm = true) : CallR X (.type "list") (fun xs H Q => ∃ l : List Nat, xs = [.str (S l)] ∧ l.length ≤ 1000000 ∧ ∀ p, H p = none → Q (.ref p) (upd H p (.lst (signsV l)))) := by
  intro pins s σ H xs us Q I r h
  obtain ⟨l, rfl, hl, q⟩ := h
  obtain ⟨u, rfl, t, rfl⟩ := vals1 r
  have hz : (S l).cps.size = l.length := by simp [S]
  have hn : (S l).cps.size ≤ sizeLine := by
    rw [hz]
    exact Nat.le_trans hl (by decide)
  refine call_list_str (hn := hn) (I.ok.hd hc) (S l) t fun h' tk acc' c' k e1 e2 => ?_
  obtain ⟨z1, z2⟩ := e2
  rw [hz] at z1
  have rv : Vals (signsV l) acc'.toList := by
    refine vals_signs (l := l) (by have e := Array.length_toList (xs := acc'); omega) fun i c hi => ?_
    have il : i < l.length := by
      rcases Nat.lt_or_ge i l.length with h | h
      · exact h
      · rw [List.getElem?_eq_none h] at hi
        cases hi
    have ia : i < acc'.size := by omega
    obtain ⟨d, u, h3, h4⟩ := z2 i acc'[i] (by simp [ia])
    have h5 : (S l).cps[i]? = l[i]? := by simp [S]
    rw [h5, hi] at h3
    cases h3
    refine ⟨u, ?_⟩
    have h6 : acc'.toList[i]? = some acc'[i] := by simp [ia]
    rw [h6, h4]
  exact ⟨.ref s.heap.objs.size, upd H s.heap.objs.size (.lst (signsV l)), I.laid (t' := tk) k (Nat.le_refl _) (show ObjOk X.prog X.w _ h' _ (.lst (signsV l)) from ⟨by unfold signsV; rw [List.length_map]; exact Nat.le_trans hl (by decide), acc'.toList, c', rv, by simpa using e1⟩), rfl, q _ (I.hok.fresh (Nat.le_refl _))⟩
end
/-! ### enumerate(text) -/
def IteS (x : Str) : It :=
  ⟨fun i _ => i < x.cps.size, fun i H v H' => ∃ T c, v = .ref T ∧ H T = none ∧ H' = upd H T (.tup [.int (i : Nat), .str ⟨#[c]⟩]) ∧ x.cps[i]? = some c, fun i _ => i = x.cps.size⟩
theorem draws_str {prog : Program} {w : World} {A : Around} (hh : A.handled = none) (it : Addr) (x : Str) (t : Tok) :
    Draws prog w A it [it] x.cps.size (fun i v => ∃ c u, x.cps[i]? = some c ∧ v = .str ⟨#[c]⟩ u) (fun i h => h.IsStrIter it (strIterType x) x t i) := by
  unfold strIterType
  cases x.cps.all (· < 128)
  · exact Draws.strWide hh it x t
  · exact Draws.strAscii hh it x t
theorem turn_enumS {P : Program} {w : World} {K : PySem.W.Frag} {elts : List Expr} {kk : Nat} {tpos : Pos} (x : Str) (t : Tok) (e it : Addr) :
    Turn P w K (.Tuple elts kk tpos) (IteS x) [e, it] e (fun i h => (∃ old, IsEnum h e it ((i : Nat) : Int) old) ∧ h.IsStrIter it (strIterType x) x t i ∧ e ≠ it) where
  mem := by simp
  obj := fun i h st b hb => by
    obtain ⟨⟨old, he⟩, ⟨o, ho, hc, hd⟩, _⟩ := st
    rcases (show b = e ∨ b = it by simpa using hb) with z | z
    · rw [z]
      exact ⟨_, he, fun v q => nomatch q⟩
    · rw [z]
      exact ⟨o, ho, fun v q => by rw [hd] at q; cases q⟩
  keep := fun i h h' st k => by
    obtain ⟨⟨old, he⟩, ⟨o, ho, r⟩, hne⟩ := st
    exact ⟨⟨old, k e (by simp) _ he⟩, ⟨o, k it (by simp) _ ho, r⟩, hne⟩
  item := by
    intro X hP hw hK hc i pins s σ H E I hf st hg
    subst hP hw hK
    obtain ⟨⟨old, he⟩, hit, hne⟩ := st
    have el : e < s.heap.objs.size := Heap.lt_size he
    have il : it < s.heap.objs.size := by
      obtain ⟨_, q, _⟩ := hit
      exact Heap.lt_size q
    have D := draws_str (prog := X.prog) (w := X.w) (A := X.A.in1) (I.ok.hd hc) it x t
    refine wpAny_pyNext_enum_itemD D he hit hg hne (by simpa using hne) fun u h' tk hu ho hit' hT hz hk => ?_
    obtain ⟨c, tu, hcx, rfl⟩ := hu
    refine ⟨_, rfl, wpAny_letOwnedTupleGo_enum (s := { s with heap := h', toks := tk + 1 }) ho fun h2 he' sb => ?_⟩
    have T2 := (sb.2 _ (Nat.ne_of_gt el)).trans hT
    have new : ObjOk X.prog X.w (upd H s.heap.objs.size (.tup [.int (i : Nat), .str ⟨#[c]⟩])) h2 s.heap.objs.size (.tup [.int (i : Nat), .str ⟨#[c]⟩]) :=
      ⟨by show 2 ≤ sizeLine; decide, [.int i tk, .str ⟨#[c]⟩ tu], .cons ⟨_, rfl⟩ (.cons ⟨_, rfl⟩ .nil), ⟨_, T2, rfl, _, rfl⟩⟩
    have I1 : Inv X pins σ (upd H s.heap.objs.size (.tup [.int (i : Nat), .str ⟨#[c]⟩])) { s with heap := h2, toks := tk + 1 } :=
      I.turnedNew (ch := [e, it]) (fun b ob hb q => (sb.2 b (fun z => hb (by simp [z]))).trans (hk b ob (fun z => hb (by simp [z])) (fun z => hb (by simp [z])) q)) hf (Nat.le_refl _) new
    refine ⟨.ref s.heap.objs.size, _, I1, rfl, ⟨_, c, rfl, I.hok.fresh (Nat.le_refl _), rfl, hcx⟩, ⟨⟨.str ⟨#[c]⟩ tu, ?_⟩, ?_, hne⟩, fun b hb => ?_⟩
    · rw [show ((i + 1 : Nat) : Int) = (i : Int) + 1 by omega]
      exact he'
    · obtain ⟨o, ho2, r⟩ := hit'
      exact ⟨o, (sb.2 it (Ne.symm hne)).trans ho2, r⟩
    · have hb' : b < s.heap.objs.size := by
        rcases (show b = e ∨ b = it by simpa using hb) with z | z
        · rw [z]
          exact el
        · rw [z]
          exact il
      rw [upd_ne (Nat.ne_of_lt hb')]
      exact (hf b hb).1
  done := by
    intro X hP hw hK hc i pins s σ H E I hf st hg
    subst hP hw hK
    obtain ⟨⟨old, he⟩, hit, hne⟩ := st
    obtain ⟨f0, f1, f2, f3, f4, f5⟩ := hf it (by simp)
    have hg : i = x.cps.size := hg
    subst hg
    have D := draws_str (prog := X.prog) (w := X.w) (A := X.A.in1) (I.ok.hd hc) it x t
    exact wpAny_pyNext_enum_endD D he hit fun h' eb => ⟨rfl, I.turned (t' := s.toks) (fun b o hb q => eb b o hb q) f0 f1 f3 f4 f5⟩
  self := fun A i s Q E st h => by
    obtain ⟨⟨_, he⟩, _⟩ := st
    exact wpAny_pyIter_enum he h
def iEnumS (ta : TA) : TI := fun σ H R => ta σ H fun vs H1 => ∃ x : Str, vs = [.str x] ∧ R (IteS x) H1
theorem pi_enumS {X : Cx} {e : Expr} {ta : TA} {p pos tpos : Pos} {elts : List Expr} {kk : Nat} (hg : Gl X "enumerate") (hm : X.mg "enumerate" = none) (ha : PA X [e] ta) (hs : starEach [e] X.env = [(false, eval e X.env)] := by rfl) :
    PI X (.Tuple elts kk tpos) (.Call (.Name "enumerate" p) [e] [] pos) (iEnumS ta) := by
  refine ⟨fun pins s σ H R I h => ?_⟩
  refine Call_ (ld_blt I hg hm boot_enumerate (PyProof.Rows.callWith_type1 (thn (ha.run pos pins s σ H _ I h) fun us s1 hh => ?_) hs rfl))
  obtain ⟨vs, H1, I1, r1, x, rfl, q⟩ := hh
  obtain ⟨u, rfl, t, rfl⟩ := vals1 r1
  refine call_enumerate_str fun h' he hit hz hk => wpAny_pyIter_enum he ?_
  have I2 : Inv X pins σ H1 { s1 with heap := h' } := I1.kept (t' := s1.toks) hk
  refine ⟨s1.heap.objs.size + 1, [s1.heap.objs.size + 1, s1.heap.objs.size], _, _, H1, rfl, I2, turn_enumS x t (s1.heap.objs.size + 1) s1.heap.objs.size, ⟨⟨.none, he⟩, hit, Nat.succ_ne_self _⟩, fun b hb => ?_, q⟩
  have hle : s1.heap.objs.size ≤ b := by
    rcases (show b = s1.heap.objs.size + 1 ∨ b = s1.heap.objs.size by simpa using hb) with z | z
    · rw [z]
      exact Nat.le_add_right _ _
    · rw [z]
      exact Nat.le_refl _
  exact I1.fpOk hle (I1.hok.fresh hle)
theorem walk_enumS {x : Str} : Walk (IteS x) x.cps.size (fun _ => True) (fun i H v H' => ∃ T c, v = .ref T ∧ H T = none ∧ H' = upd H T (.tup [.int (i : Nat), .str ⟨#[c]⟩]) ∧ x.cps[i]? = some c) :=
  ⟨fun _ _ h _ => h, fun _ _ => rfl, fun _ _ _ _ _ _ y => y⟩
end Kx
namespace Kx
open PySem PySem.Spec PyProof.Rows L2 SX LamX
/-! ### values of all kinds -/
def KindIs (K : PySem.W.Frag) (H : Hp) (x : V) : Prop := (∃ i, x = .int i) ∨ (∃ b, x = .bl b) ∨ (isIntV x = false ∧ ∃ n, TyX K H x (.type n) ∧ kitB n "int" = some false)
section
variable {K : PySem.W.Frag} {H H' : Hp}
theorem KindIs.same {x : V} (e : Same H H') (h : KindIs K H x) : KindIs K H' x := by
  rcases h with h | h | ⟨h, n, h1, h2⟩
  · exact .inl h
  · exact .inr (.inl h)
  · exact .inr (.inr ⟨h, n, tyx_same e h1, h2⟩)
theorem kind_non : KindIs K H .non := .inr (.inr ⟨rfl, "NoneType", .base .non, by decide +kernel⟩)
theorem kind_str (x : Str) : KindIs K H (.str x) := .inr (.inr ⟨rfl, "str", .base (.str x), by decide +kernel⟩)
theorem kind_lst {a : Addr} {ws : List V} (h : SqL K H a ws) : KindIs K H (.ref a) := .inr (.inr ⟨rfl, "list", tyL h, by decide +kernel⟩)
theorem kind_tup {a : Addr} {ws : List V} (h : SqT K H a ws) : KindIs K H (.ref a) := .inr (.inr ⟨rfl, "tuple", tyT h, by decide +kernel⟩)
theorem kind_dk {a : Addr} {kvs : List (Key × V)} (h : H a = some (.dK kvs)) : KindIs K H (.ref a) := .inr (.inr ⟨rfl, "dict", .base (.dK h), by decide +kernel⟩)
theorem hasInt_dk {a : Addr} {kvs : List (Key × V)} (h : H a = some (.dK kvs)) : HasInt K H (.ref a) := ⟨"dict", false, false, .base (.dK h), by decide +kernel, by decide +kernel, rfl⟩
end
/-- an item: of what kind it is -/
def Itm (K : PySem.W.Frag) (H : Hp) (v : V) : Prop := HasInt K H v ∧ KindIs K H v
theorem Itm.same {K : PySem.W.Frag} {H H' : Hp} {x : V} (e : Same H H') (h : Itm K H x) : Itm K H' x := ⟨h.1.same e, h.2.same e⟩
/-- codes of signs -/
def cdC (l : List Nat) : Prop := l.all (fun c => decide (c < 1114112)) = true
theorem cdC.app {l m : List Nat} (h : cdC l) (k : cdC m) : cdC (l ++ m) := by
  unfold cdC at h k ⊢
  rw [List.all_append, h, k]
  rfl
theorem cdC.sub {l m : List Nat} (h : cdC l) (k : ∀ c ∈ m, c ∈ l) : cdC m := by
  unfold cdC at h ⊢
  exact List.all_eq_true.mpr fun c hc => List.all_eq_true.mp h c (k c hc)
theorem ok_ofString (s : String) : cdC (Str.ofString s).cps.toList := by
  rw [Str.ofString_eq_toList]
  unfold cdC
  refine List.all_eq_true.mpr fun n hn => ?_
  obtain ⟨c, _, rfl⟩ := List.mem_map.mp (by simpa using hn)
  refine decide_eq_true ?_
  have hv := c.valid
  show c.val.toNat < 1114112
  rcases hv with h | ⟨_, h⟩
  · have h' : c.val.toNat < 55296 := h
    omega
  · exact h
inductive AnyV (K : PySem.W.Frag) (H : Hp) : V → Prop where
  | non : AnyV K H .non
  | bl (b : Bool) : AnyV K H (.bl b)
  | int (i : Int) : AnyV K H (.int i)
  | str (l : List Nat) (h : l.length ≤ 5000) (v : cdC l) : AnyV K H (.str (S l))
  | lst {a : Addr} {ws : List V} (h : SqL K H a ws) (n : ws.length ≤ 1000) (t : ∀ v ∈ ws, Itm K H v) : AnyV K H (.ref a)
  | tup {a : Addr} {ws : List V} (h : SqT K H a ws) (n : ws.length ≤ 1000) (t : ∀ v ∈ ws, Itm K H v) : AnyV K H (.ref a)
  | dk {a : Addr} {kvs : List (Key × V)} (h : H a = some (.dK kvs)) : AnyV K H (.ref a)
section
variable {K : PySem.W.Frag} {H H' : Hp} {x : V}
theorem AnyV.same (e : Same H H') (h : AnyV K H x) : AnyV K H' x := by
  cases h with
  | non => exact .non
  | bl b => exact .bl b
  | int i => exact .int i
  | str l h v => exact .str l h v
  | lst h n t => exact .lst (e.seq h) n fun v m => (t v m).same e
  | tup h n t => exact .tup (Same.t e h) n fun v m => (t v m).same e
  | dk h => exact .dk (e _ _ h)
theorem AnyV.itm (h : AnyV K H x) : Itm K H x := by
  cases h with
  | non => exact ⟨hasInt_non, kind_non⟩
  | bl b => exact ⟨hasInt_bl b, .inr (.inl ⟨b, rfl⟩)⟩
  | int i => exact ⟨hasInt_int i, .inl ⟨i, rfl⟩⟩
  | str l h v => exact ⟨hasInt_str _, kind_str _⟩
  | lst h n t => exact ⟨hasInt_lst h, kind_lst h⟩
  | tup h n t => exact ⟨hasInt_tup h, kind_tup h⟩
  | dk h => exact ⟨hasInt_dk h, kind_dk h⟩
/-- is it a list or a tuple -/
theorem AnyV.seq (h : AnyV K H x) : (∃ n, TyX K H x (.type n) ∧ PySem.W.kitAny K (.type n) [.type "list", .type "tuple"] = some false) ∨
    ∃ (a : Addr) (ws : List V), x = .ref a ∧ SqQ K H a ws ∧ ws.length ≤ 1000 ∧ ∀ v ∈ ws, Itm K H v := by
  cases h with
  | non => exact .inl ⟨"NoneType", .base .non, no_list (by decide +kernel) (by decide +kernel)⟩
  | bl b => exact .inl ⟨"bool", .base (.bl b), no_list (by decide +kernel) (by decide +kernel)⟩
  | int i => exact .inl ⟨"int", .base (.int i), no_list (by decide +kernel) (by decide +kernel)⟩
  | str l h v => exact .inl ⟨"str", .base (.str _), no_list (by decide +kernel) (by decide +kernel)⟩
  | lst h n t => exact .inr ⟨_, _, rfl, .inl h, n, t⟩
  | tup h n t => exact .inr ⟨_, _, rfl, .inr h, n, t⟩
  | dk h => exact .inl ⟨"dict", .base (.dK h), no_list (by decide +kernel) (by decide +kernel)⟩
/-- is it a text -/
theorem AnyV.str? (h : AnyV K H x) : (∃ l : List Nat, x = .str (S l) ∧ l.length ≤ 5000 ∧ cdC l) ∨ ∃ n, TyX K H x (.type n) ∧ kitB n "str" = some false := by
  cases h with
  | non => exact .inr ⟨"NoneType", .base .non, by decide +kernel⟩
  | bl b => exact .inr ⟨"bool", .base (.bl b), by decide +kernel⟩
  | int i => exact .inr ⟨"int", .base (.int i), by decide +kernel⟩
  | str l h v => exact .inl ⟨l, rfl, h, v⟩
  | lst h n t => exact .inr ⟨"list", tyL h, by decide +kernel⟩
  | tup h n t => exact .inr ⟨"tuple", tyT h, by decide +kernel⟩
  | dk h => exact .inr ⟨"dict", .base (.dK h), by decide +kernel⟩
end
theorem S_of (x : Str) : S x.cps.toList = x := by
  cases x
  simp [S]
theorem any_text {K : PySem.W.Frag} {H : Hp} (x : Str) (h : x.length ≤ 5000) (v : cdC x.cps.toList) : AnyV K H (.str x) := by
  have e := AnyV.str (K := K) (H := H) x.cps.toList (by simpa [Str.length] using h) v
  rw [S_of] at e
  exact e
theorem itms_nil {K : PySem.W.Frag} {H : Hp} : ∀ v ∈ ([] : List V), Itm K H v := fun _ m => by cases m
theorem itms_cons {K : PySem.W.Frag} {H : Hp} {x : V} {xs : List V} (h : Itm K H x) (t : ∀ v ∈ xs, Itm K H v) : ∀ v ∈ x :: xs, Itm K H v := fun v m => by
  rcases List.mem_cons.mp m with rfl | m
  · exact h
  · exact t v m
theorem itm_int {K : PySem.W.Frag} {H : Hp} (i : Int) : Itm K H (.int i) := ⟨hasInt_int i, .inl ⟨i, rfl⟩⟩
theorem itm_bl {K : PySem.W.Frag} {H : Hp} (b : Bool) : Itm K H (.bl b) := ⟨hasInt_bl b, .inr (.inl ⟨b, rfl⟩)⟩
theorem joinL_nil : ∀ (l : List Nat), TL.joinL [] (l.map fun c => [c]) = l
  | [] => rfl
  | [c] => rfl
  | c :: d :: r => by
    have ih := joinL_nil (d :: r)
    show [c] ++ ([] ++ TL.joinL [] ((d :: r).map fun c => [c])) = c :: d :: r
    rw [ih]
    rfl
theorem join_signs (l : List Nat) : Txt.join "" (l.map fun c => S [c]) = S l := by
  have h := SX.join_S [] (l.map fun c => [c])
  rw [joinL_nil, List.map_map] at h
  exact h
theorem sum_signs : ∀ (l : List Nat), ((l.map fun c => S [c]).map (·.length)).sum = l.length
  | [] => rfl
  | c :: r => by
    show (S [c]).length + ((r.map fun c => S [c]).map (·.length)).sum = r.length + 1
    rw [sum_signs r, S_len]
    show 1 + r.length = _
    omega
theorem signs_map (l : List Nat) : signsV l = (l.map fun c => S [c]).map V.str := by
  unfold signsV
  rw [List.map_map]
  rfl
theorem in_signs {l : List Nat} {v : V} (h : v ∈ signsV l) : ∃ c, c ∈ l ∧ v = .str (S [c]) := by
  obtain ⟨c, hc, e⟩ := List.mem_map.mp h
  exact ⟨c, hc, e.symm⟩
end Kx
namespace Kx
open PySem PySem.Spec PyProof.Rows L2 SX LamX
section
variable {K : PySem.W.Frag} {J : It} {n : Nat} {G : Hp → Prop} {Y : Nat → Hp → V → Hp → Prop} {g : TG} {tt : TT} {te : TE} {vs : List Nat} {σ : L2.St} {H1 : Hp} {D : Addr} {Qd : Hp → Prop}
theorem keep_some {zs : List (Option V)} {i : Nat} {v : V} (h : zs[i]? = some (some v)) : (zs.take (i + 1)).filterMap id = (zs.take i).filterMap id ++ [v] := by
  rw [List.take_add_one, h, List.filterMap_append]
  rfl
theorem keep_none {zs : List (Option V)} {i : Nat} (h : zs[i]? = some none) : (zs.take (i + 1)).filterMap id = (zs.take i).filterMap id := by
  rw [List.take_add_one, h, List.filterMap_append]
  simp
/-- a comprehension with a test, its items told ahead: none where the test fails -/
theorem lc_keep (w : Walk J n G Y) (zs : List (Option V)) (hz : zs.length = n) (nD : H1 D = none) (len : n ≤ 1000000) (hG : ∀ Hc, Same H1 Hc → G Hc)
    (turn : ∀ (i : Nat) (x : V) (z : Option V) (Hc Hx : Hp) (Q' : VK) (R' : Hp → Prop), i < n → zs[i]? = some z → Same H1 Hc → Y i Hc x Hx → (∀ v H4, z = some v → Same Hc H4 → Q' v H4) → (∀ H4, z = none → Same Hc H4 → R' H4) → g x (wipe σ vs) Hx fun σ2 H2 => wipe σ2 vs = wipe σ vs ∧ tt σ2 H2 fun b H3 => if b = true then te σ2 H3 Q' else R' H3)
    (fin : ∀ Hc, Same H1 Hc → Hc D = some (.lst (zs.filterMap id)) → Qd Hc) :
    ∃ W : Nat → Nat → Hp → Prop, (∃ m, W 0 m (upd H1 D (.lst []))) ∧ ∀ i m H, W i m H →
      (J.stop i H ∧ Qd H) ∨ (J.go i H ∧ ∃ Nx : Hp → Prop, (∀ H', Nx H' → ∃ m', m' < m ∧ W (i + 1) m' H') ∧ ∀ x H', J.yld i H x H' → g x (wipe σ vs) H' fun σ2 H2 => wipe σ2 vs = wipe σ vs ∧ tt σ2 H2 fun b H3 =>
        if b = true then te σ2 H3 fun y H4 => ∃ acc, H4 D = some (.lst acc) ∧ acc.length < sizeLine ∧ Nx (upd H4 D (.lst (acc ++ [y]))) else Nx H3) := by
  refine lc_it w (fun i Hc => Same H1 Hc ∧ Hc D = some (.lst ((zs.take i).filterMap id))) ⟨same_new nD, upd_same⟩ (fun i H _ p => hG H p.1) (fun i x Hc Hx hi p y => ?_) (fun Hc p => ?_)
  · have hzi : zs[i]? = some (zs[i]'(by omega)) := List.getElem?_eq_getElem (by omega)
    refine turn i x _ Hc Hx _ _ hi hzi p.1 y (fun v H4 ev e4 => ⟨_, e4 _ _ p.2, ?_, ?_⟩) (fun H4 ev e4 => ⟨p.1.trans e4, ?_⟩)
    · have h1 : ((zs.take i).filterMap id).length ≤ (zs.take i).length := List.length_filterMap_le ..
      rw [List.length_take] at h1
      exact Nat.lt_of_le_of_lt (show _ ≤ 1000000 by omega) (by decide)
    · refine ⟨fun b o z => ?_, ?_⟩
      · rw [upd_ne (ne_of_none z nD)]
        exact e4 _ _ (p.1 b o z)
      · rw [upd_same, keep_some (by rw [hzi, ev])]
    · rw [keep_none (by rw [hzi, ev])]
      exact e4 _ _ p.2
  · rw [← hz, List.take_length] at p
    exact fin Hc p.1 p.2
end
section
variable {K : PySem.W.Frag} {a : Addr} {xs : List V} {g : TG} {tt : TT} {te : TE} {vs : List Nat} {σ : L2.St} {H : Hp} {k : Nat} {Q : VK} {l : List Nat}
/-- [e for c in NAME if t], NAME a text -/
theorem lc_txt (zs : List (Option V)) (hz : zs.length = l.length) (hi : σ[k]? = some (some (.str (S l)))) (len : l.length ≤ 1000000)
    (turn : ∀ (i : Nat) (c : Nat) (z : Option V) (Hc : Hp) (Q' : VK) (R' : Hp → Prop), l[i]? = some c → zs[i]? = some z → Same H Hc → (∀ v H4, z = some v → Same Hc H4 → Q' v H4) → (∀ H4, z = none → Same Hc H4 → R' H4) → g (.str (S [c])) (wipe σ vs) Hc fun σ2 H2 => wipe σ2 vs = wipe σ vs ∧ tt σ2 H2 fun b H3 => if b = true then te σ2 H3 Q' else R' H3)
    (fin : ∀ (D : Addr) (Hc : Hp), Same H Hc → Hc D = some (.lst (zs.filterMap id)) → Q (.ref D) Hc) :
    tLc (iStr (tVar k)) g tt te vs σ H Q := by
  have e : (S l).cps.size = l.length := by simp [S]
  refine ⟨_, hi, S l, rfl, fun D nD => lc_keep walk_str zs (by rw [hz, e]) nD (by rw [e]; exact len) (fun _ _ => trivial) (fun i x z Hc Hx Q' R' _ hzi e1 y q r => ?_) (fin D)⟩
  obtain ⟨rfl, c, hc, rfl⟩ := y
  have hc' : l[i]? = some c := by
    have : (S l).cps[i]? = l[i]? := by simp [S]
    rw [← this]
    exact hc
  exact turn i c z _ Q' R' hc' hzi e1 q r
/-- [e for x in NAME if t], NAME a list -/
theorem lc_lstk (zs : List (Option V)) (hz : zs.length = xs.length) (hi : σ[k]? = some (some (.ref a))) (hq : SqL K H a xs) (len : xs.length ≤ 1000000)
    (turn : ∀ (i : Nat) (x : V) (z : Option V) (Hc : Hp) (Q' : VK) (R' : Hp → Prop), xs[i]? = some x → zs[i]? = some z → Same H Hc → (∀ v H4, z = some v → Same Hc H4 → Q' v H4) → (∀ H4, z = none → Same Hc H4 → R' H4) → g x (wipe σ vs) Hc fun σ2 H2 => wipe σ2 vs = wipe σ vs ∧ tt σ2 H2 fun b H3 => if b = true then te σ2 H3 Q' else R' H3)
    (fin : ∀ (D : Addr) (Hc : Hp), Same H Hc → Hc D = some (.lst (zs.filterMap id)) → Q (.ref D) Hc) :
    tLc (iList K (tVar k)) g tt te vs σ H Q := ⟨_, hi, a, rfl, ⟨_, hq⟩, fun D nD => lc_keep walk_list zs hz nD len (fun Hc e => e.seq hq) (fun i x z Hc Hx Q' R' _ hzi e y q r => by
      obtain ⟨rfl, hx⟩ := y
      exact turn i x z _ Q' R' hx hzi e q r) (fin D)⟩
end
/-- texts of one sign each, laid -/
theorem pl_signs {l : List Nat} (h : cdC l) : ∀ d ∈ l.map (fun c => PyData.str (S [c])), Pl 0 d := fun d m => by
  obtain ⟨c, hc, rfl⟩ := List.mem_map.mp m
  refine ⟨?_, Nat.le_refl _⟩
  have h2 := List.all_eq_true.mp h c hc
  show (S [c]).cps.all (· < 0x110000) = true
  simpa [S] using of_decide_eq_true h2
theorem dp_signs {K : PySem.W.Frag} {H : Hp} (l : List Nat) : Paired (fun v d => Dp K H v d) (signsV l) (l.map fun c => PyData.str (S [c])) := paired_of_map _ _ fun c _ => .str (S [c])
/-- «xs == []», any laid items -/
theorem eq_nilD {K : PySem.W.Frag} {H : Hp} {a p : Addr} {vs : List V} {ds : List PyData} {k : Nat} {Q : VK} (h1 : SqL K H a vs) (hd : Paired (fun v d => Dp K H v d) vs ds) (hp : ∀ d ∈ ds, Pl k d) (hk : k ≤ 60) (h2 : H p = some (.lst [])) (q : Q (.bl (decide (ds = []))) H) : rEqD K (.ref a) (.ref p) H Q :=
  ⟨_, _, .lst h1 (dpAll_of hd), dp_ints (xs := []) (.inl (.inl h2)), (Pl.lst hp).shaped (by omega), (pl_ints []).shaped (by decide), by
    have e : PyData.eqv (.list ds) (.list (([] : List Int).map PyData.int)) = decide (ds = []) := by
      cases ds with
      | nil => rfl
      | cons d t => rfl
    rw [e]
    exact q⟩
theorem filt_map {α β : Type} (p : α → Bool) (f : α → β) : ∀ (l : List α), (l.map fun c => if p c = true then some (f c) else none).filterMap id = (l.filter p).map f
  | [] => rfl
  | c :: l => by
    rw [List.map_cons, List.filterMap_cons]
    cases h : p c with
    | true =>
      rw [List.filter_cons_of_pos h]
      show f c :: _ = f c :: _
      rw [filt_map p f l]
    | false =>
      rw [List.filter_cons_of_neg (by rw [h]; decide)]
      exact filt_map p f l
end Kx
namespace Kx
open PySem PySem.Spec PyProof.Rows L2 SX LamX
section
variable {D : Ends} {σ : L2.St} {H : Hp}
theorem go_and {ta tb : TE} {Q : VK} (h : ta σ H fun x H1 => ∃ c, x = .bl c ∧ if c = true then tb σ H1 Q else Q (.bl false) H1) : tAndV ta tb σ H Q := h
theorem go_chain {r r' : R2} {ta tb tc : TE} {Q : VK} (h : ta σ H fun x H1 => tb σ H1 fun y H2 => r x y H2 fun z H3 => ∃ k, z = .bl k ∧ if k = true then tc σ H3 fun w' H4 => r' y w' H4 Q else Q (.bl false) H3) : tChain r r' ta tb tc σ H Q := h
theorem go_or {ta tb : TE} {Q : VK} (h : ta σ H fun x H1 => ∃ c, x = .bl c ∧ if c = true then Q (.bl true) H1 else tb σ H1 Q) : tOrV ta tb σ H Q := h
theorem go_lst {t : TA} {Q : VK} (h : t σ H fun xs H1 => xs.length ≤ sizeLine ∧ ∀ p, H1 p = none → Q (.ref p) (upd H1 p (.lst xs))) : tLst t σ H Q := h
end
/-- both, told as one truth -/
theorem and_join {c : Bool} {tb : TE} {Q : VK} {σ : L2.St} {H : Hp} (d : Bool) (h : c = true → ∀ Q' : VK, Q' (.bl d) H → tb σ H Q') (q : Q (.bl (c && d)) H) : ∃ c', V.bl c = .bl c' ∧ if c' = true then tb σ H Q else Q (.bl false) H := by
  refine ⟨c, rfl, ?_⟩
  cases c with
  | true => exact h rfl _ q
  | false => exact q
theorem and_b {c : Bool} {A B : Prop} (h1 : c = true → A) (h2 : c = false → B) : if c = true then A else B := by
  cases c with
  | true => rw [if_pos rfl]; exact h1 rfl
  | false => rw [if_neg (by decide)]; exact h2 rfl
theorem map_nil_dec {α β : Type} (f : α → β) (l : List α) [Decidable (l.map f = [])] : decide (l.map f = []) = l.isEmpty := by
  cases l with
  | nil => exact decide_eq_true rfl
  | cons a t => exact decide_eq_false (fun e => nomatch e)
theorem filt_empty (p : Nat → Bool) (l : List Nat) : (l.filter fun c => !p c).isEmpty = l.all p := by
  induction l with
  | nil => rfl
  | cons c t ih =>
    cases h : p c with
    | true =>
      rw [List.filter_cons_of_neg (by rw [h]; decide), List.all_cons, h, ih]
      rfl
    | false =>
      rw [List.filter_cons_of_pos (by rw [h]; rfl), List.all_cons, h]
      rfl
/-- one sign is the blank -/
theorem is_blank (c : Nat) : decide (V.str (S [c]) = V.str (Str.ofString " ")) = decide (c = 32) := by
  by_cases hc : c = 32
  · subst hc
    rfl
  · rw [decide_eq_false hc, decide_eq_false]
    intro e
    injection e with e
    have := congrArg (fun z : Str => z.cps.toList) e
    simp [S] at this
    exact hc (by have h2 : (Str.ofString " ").cps.toList = [32] := rfl; rw [h2] at this; simpa using this)
theorem take_succ {α : Type} {l : List α} {i : Nat} {c : α} (h : l[i]? = some c) : l.take (i + 1) = l.take i ++ [c] := by
  rw [List.take_add_one, h]
  rfl
theorem ixN_last (n : Nat) : ixN (n + 1) (-1) = some n := by
  unfold ixN
  rw [if_neg (by decide), if_pos (by omega)]
  congr 1
  omega
end Kx
namespace Kx
open PySem PySem.Spec PyProof.Rows L2 SX LamX
section
variable {X : Cx} {k : Nat} {f : Addr} {fd : FuncData} {ps : List Str} {sp : Sp} {x : Str} {p pos : Pos} {e1 : Expr} {more : List Expr} {t : TA}
/-! ### a call of a def that is promised only where no repr runs around it; it raises nothing -/
theorem pe_callG (F : FnG X.prog X.w X.K X.mg X.base CX0 k f fd ps sp) (nog : X.A.guards = some []) (room : Room k X.A) (here : Gl X x) (at_f : X.mg x = some (.ref f)) (keeps : PySem.W.keepIn X.K (.ref f) = true) (bd : Binds X.K fd ps [])
    (args : PA X (e1 :: more) t) (nd : (x == ("__debug__" : Str)) = false := by decide) (h1 : starEach (e1 :: more) X.env = (false, eval e1 X.env) :: starEach more X.env := by rfl) (h2 : (backTo pos (starEach more X.env)).any (·.1) = false := by rfl) :
    PE X (.Call (.Name x p) (e1 :: more) [] pos) (tCall sp [] C8.E0 t) := by
  constructor
  intro pins s σ H Q I want
  apply wpAny_Call_Name_kw
  refine ld_glob I here at_f ?_ nd
  refine PySem.W.callWith_K (h₀ := X.base) I.ok.mod.kin keeps (thn (args.run pos pins s σ H _ I want) fun us st hh => ?_) h1 h2
  obtain ⟨vs, Hm, J, rv, promise⟩ := hh
  rw [List.append_nil] at promise
  have size : (us ++ []).length = ps.length := by
    rw [List.append_nil, ← rv.length]
    exact F.len _ _ _ _ promise
  have bound := bd st us J.kIn size
  rw [List.append_nil] at bound
  refine ⟨J.kIn, wpAny_call (codeAny_mono (F.go X.A X.stack st Hm ⟨us, []⟩ us vs Q C8.E0 nog room J.env0 bound rv promise) fun r st2 done => ?_)⟩
  match r, done with
  | .ok (.ret u), done => exact J.after done
  | .error e, done => exact (show False from done).elim
  | .ok .next, done => exact done.elim
  | .ok .brk, done => exact done.elim
  | .ok .cont, done => exact done.elim
end
/-! ### tables stay through draws -/
theorem Tabs.mv {T : List (Addr × Str)} {a c : Addr} {n : Nat} {H H' : Hp} (t : Tabs T H) (w : Wh H a c n) (m : Mv a H H') : Tabs T H' := fun p hp => by
  obtain ⟨ps, h1, h2, h3⟩ := t p hp
  obtain ⟨cs, x, l', g1, _⟩ := w
  refine ⟨ps, m _ _ (ne_of_two h1 g1 (fun z => by cases z)) h1, h2, fun pos cv hc => ?_⟩
  obtain ⟨c', e1, e2⟩ := h3 pos cv hc
  exact ⟨c', e1, m _ _ (ne_of_two e2 g1 (fun z => by cases z)) e2⟩
theorem Tabs.same {T : List (Addr × Str)} {H H' : Hp} (t : Tabs T H) (m : Same H H') : Tabs T H' := fun p hp => (t p hp).ext m
end Kx
namespace Kx
open PySem PySem.Spec PyProof.Rows L2 SX LamX
/-! ### data that repr shows -/
structure Sh (k m : Nat) (d : PyData) : Prop where
  sh : d.showable = true
  nd : d.hasDict = false
  dp : d.depth ≤ k
  lv : d.leavesShort 13 = true
  bk : d.bulk ≤ m
theorem Sh.len {k m : Nat} {d : PyData} (h : Sh k m d) (hm : m ≤ 1048576) : d.shown.length ≤ sizeLine :=
  PyData.shown_fits_bulk (B := 13) (by decide) (by decide) h.lv (Nat.le_trans h.bk hm)
theorem Sh.up {k l m n : Nat} {d : PyData} (h : Sh k m d) (hk : k ≤ l) (hm : m ≤ n) : Sh l n d := ⟨h.sh, h.nd, Nat.le_trans h.dp hk, h.lv, Nat.le_trans h.bk hm⟩
theorem sh_bool (b : Bool) : Sh 0 0 (.bool b) := ⟨rfl, rfl, Nat.le_refl _, rfl, Nat.le_refl _⟩
theorem sh_none : Sh 0 0 .none := ⟨rfl, rfl, Nat.le_refl _, rfl, Nat.le_refl _⟩
theorem sh_int {i : Int} (h : i.natAbs < 1000000000000) : Sh 0 0 (.int i) :=
  ⟨by
    simp only [PyData.showable, decide_eq_true_eq]
    by_cases z : i.natAbs = 0
    · rw [z]; decide
    · exact Nat.lt_of_lt_of_le ((Nat.log2_lt z).mpr (Nat.lt_of_lt_of_le h (by decide : 1000000000000 ≤ 2 ^ 40))) (by decide), rfl, Nat.le_refl _, by simp only [PyData.leavesShort, decide_eq_true_eq]; exact PyData.shown_int_le (by exact h), Nat.le_refl _⟩
theorem sh_str {x : Str} {l : List Nat} (e : x = S l) (h : cdC l) : Sh 0 l.length (.str x) :=
  ⟨rfl, rfl, Nat.le_refl _, by
    subst e
    simp only [PyData.leavesShort, List.all_eq_true, decide_eq_true_eq]
    intro c hc
    have h2 := List.all_eq_true.mp h c (by simpa [S] using hc)
    have h3 := of_decide_eq_true h2
    exact Nat.lt_of_lt_of_le h3 (by decide), by
    subst e
    simp [PyData.bulk, S]⟩
/-- items that are shown, m: their signs and one each -/
inductive ShA (k : Nat) : Nat → List PyData → Prop
  | nil : ShA k 0 []
  | cons {m n : Nat} {d : PyData} {ds : List PyData} : Sh k m d → ShA k n ds → ShA k (m + 1 + n) (d :: ds)
theorem ShA.all {k m : Nat} {ds : List PyData} (h : ShA k m ds) : PyData.showableAll ds = true ∧ PyData.hasDictAll ds = false ∧ PyData.depthAll ds ≤ k ∧ PyData.leavesShortAll 13 ds = true ∧ PyData.bulkAll ds ≤ m := by
  induction h with
  | nil => exact ⟨rfl, rfl, Nat.zero_le _, rfl, Nat.le_refl _⟩
  | cons h1 _ ih =>
    obtain ⟨a, b, c, d, e⟩ := ih
    refine ⟨?_, ?_, ?_, ?_, ?_⟩
    · simp only [PyData.showableAll, h1.sh, a, Bool.and_self]
    · simp only [PyData.hasDictAll, h1.nd, b, Bool.or_self]
    · simp only [PyData.depthAll]
      exact Nat.max_le.mpr ⟨h1.dp, c⟩
    · simp only [PyData.leavesShortAll, h1.lv, d, Bool.and_self]
    · simp only [PyData.bulkAll]
      have := h1.bk
      omega
theorem ShA.lst {k m : Nat} {ds : List PyData} (h : ShA k m ds) : Sh (k + 1) m (.list ds) := by
  obtain ⟨a, b, c, d, e⟩ := h.all
  exact ⟨by simp only [PyData.showable, a], by simp only [PyData.hasDict, b], by simp only [PyData.depth]; omega, by simp only [PyData.leavesShort, d], by simp only [PyData.bulk]; exact e⟩
theorem ShA.tup {k m : Nat} {ds : List PyData} (h : ShA k m ds) : Sh (k + 1) m (.tuple ds) := by
  obtain ⟨a, b, c, d, e⟩ := h.all
  exact ⟨by simp only [PyData.showable, a], by simp only [PyData.hasDict, b], by simp only [PyData.depth]; omega, by simp only [PyData.leavesShort, d], by simp only [PyData.bulk]; exact e⟩
theorem shA_ints {k : Nat} : ∀ (l : List Int), (∀ i ∈ l, i.natAbs < 1000000000000) → ShA k l.length (l.map PyData.int)
  | [], _ => .nil
  | i :: r, h => by
    have := ShA.cons ((sh_int (h i List.mem_cons_self)).up (Nat.zero_le k) (Nat.le_refl _)) (shA_ints r fun j m => h j (List.mem_cons_of_mem _ m))
    have e : 0 + 1 + r.length = (i :: r).length := by rw [List.length_cons]; omega
    rw [e] at this
    exact this
theorem shA_texts {k : Nat} : ∀ (xs : List (List Nat)), (∀ x ∈ xs, cdC x) → ShA k (reachA 0 xs) (xs.map fun x => PyData.str (S x))
  | [], _ => .nil
  | x :: r, h => by
    have := ShA.cons ((sh_str rfl (h x List.mem_cons_self)).up (Nat.zero_le k) (Nat.le_refl _)) (shA_texts r fun y m => h y (List.mem_cons_of_mem _ m))
    have e : ∀ (r : List (List Nat)) (p : Nat), reachA p r = p + reachA 0 r := fun r => by
      induction r with
      | nil => intro p; rfl
      | cons y r ih =>
        intro p
        show reachA (p + y.length + 1) r = p + reachA (0 + y.length + 1) r
        rw [ih, ih (0 + y.length + 1)]
        omega
    have e2 : x.length + 1 + reachA 0 r = reachA 0 (x :: r) := by
      show _ = reachA (0 + x.length + 1) r
      rw [e r (0 + x.length + 1)]
      omega
    rw [e2] at this
    exact this
theorem item_cd : ∀ (l acc it : List Nat), it ∈ itemsA acc l → ∀ c ∈ it, c ∈ acc ∨ c ∈ l
  | [], acc, it, h, c, hc => by
    rw [List.mem_singleton.mp h] at hc
    exact .inl hc
  | d :: r, acc, it, h, c, hc => by
    have h : it ∈ (if d = 32 then acc :: itemsA [] r else itemsA (acc ++ [d]) r) := h
    by_cases e : d = 32
    · rw [if_pos e] at h
      rcases List.mem_cons.mp h with rfl | h
      · exact .inl hc
      · rcases item_cd r [] it h c hc with z | z
        · cases z
        · exact .inr (List.mem_cons_of_mem _ z)
    · rw [if_neg e] at h
      rcases item_cd r _ it h c hc with z | z
      · rcases List.mem_append.mp z with z | z
        · exact .inl z
        · rw [List.mem_singleton.mp z]
          exact .inr List.mem_cons_self
      · exact .inr (List.mem_cons_of_mem _ z)
theorem begins_le : ∀ (xs : List (List Nat)) (p : Nat), ∀ b ∈ beginsA p xs, b ≤ reachA p xs
  | [], p, b, h => by cases h
  | x :: xs, p, b, h => by
    have r : ∀ (xs : List (List Nat)) (p : Nat), p ≤ reachA p xs := fun xs => by
      induction xs with
      | nil => exact fun p => Nat.le_refl _
      | cons y ys ih =>
        intro p
        show p ≤ reachA (p + y.length + 1) ys
        exact Nat.le_trans (by omega) (ih _)
    show b ≤ reachA (p + x.length + 1) xs
    rcases List.mem_cons.mp h with rfl | h
    · exact Nat.le_trans (by omega) (r xs _)
    · exact begins_le xs _ b h
/-- repr of data -/
theorem go_repr {K : PySem.W.Frag} {a : Addr} {d : PyData} {k m : Nat} {H : Hp} {Q : VK} (hd : Dp K H (.ref a) d) (h : Sh k m d) (hk : k ≤ 60) (hm : m ≤ 1048576) (q : Q (.str d.shown) H) : rRepr K [.ref a] H Q :=
  ⟨a, d, rfl, hd, h.sh, h.nd, Nat.le_trans h.dp hk, h.len hm, q⟩
/-- one and the same text is no other -/
theorem rne_self {x : Str} {H : Hp} {Q : Bool → Hp → Prop} (q : Q false H) : ∃ k, V.bl (!decide (V.str x = V.str x)) = .bl k ∧ Q k H := ⟨false, by simp, q⟩
theorem bools_dp {K : PySem.W.Frag} {H : Hp} {p : Addr} {bs : List Bool} (h : H p = some (.lst (bs.map V.bl))) : Dp K H (.ref p) (.list (bs.map PyData.bool)) := .lst (.inl (.inl h)) (by
  clear h
  induction bs with
  | nil => exact .nil
  | cons b t ih => exact .cons (.bl b) ih)
theorem shA_bools {k : Nat} : ∀ (l : List Bool), ShA k l.length (l.map PyData.bool)
  | [] => .nil
  | i :: r => by
    have := ShA.cons ((sh_bool i).up (Nat.zero_le k) (Nat.le_refl _)) (shA_bools r)
    have e : 0 + 1 + r.length = (i :: r).length := by rw [List.length_cons]; omega
    rw [e] at this
    exact this
theorem cnt_count : ∀ (l : List Nat), cnt 32 l = (l.count 32 : Nat)
  | [] => rfl
  | c :: r => by
    rw [cnt_cons, cnt_count r]
    by_cases h : c = 32
    · subst h
      rw [List.count_cons_self]
      simp
      omega
    · rw [List.count_cons_of_ne h]
      simp [h]
theorem count_blank (l : List Nat) : Txt.count (S l) " " = (l.count 32 : Nat) := by
  have h := count_cnt (S l) 32
  have e : (" " : Str) = ⟨#[32]⟩ := rfl
  rw [e, h]
  have e2 : (S l).cps.toList = l := by simp [S]
  rw [e2, cnt_count]
end Kx
namespace Kx
open PySem PySem.Spec PyProof.Rows L2 SX LamX
/-- no positional value, one by name -/
def oneG {α : Type} (us ws : List α) : List α := match us, ws with | [], [u] => [u] | _, _ => []
theorem kb_one {K : PySem.W.Frag} {x qual : Str} {st : Stmt} {f : Addr} {fd : FuncData} {a : Str} (F : Fun K x qual st f fd)
    (h : ∀ (kV doc pm : Value) (an : Option Addr) (cdv ct : Value) (u : Value), bindArgs (PySem.W.fnOf x qual (defArgs st) (defBody st) (defScope st) .none kV doc pm an cdv ct) ⟨[], [(a, u)]⟩ = pure [(a, u)]) :
    KBinds K fd [a] [a] oneG oneG := by
  obtain ⟨oc, od, kV, doc, pm, an, cdv, ct, osl, rfl, lk, hcd⟩ := F.ex
  refine ⟨fun s us ws X l => ?_, fun {vs us zs ws} r1 r2 => ?_⟩
  · match us, ws, l with
    | [], [u], _ => exact .of_eq (h kV doc pm an cdv ct u)
    | [], [], l => cases l
    | [], _ :: _ :: _, l => cases l
    | _ :: _, _, l => cases l
  · cases r1 with
    | cons _ _ => exact .nil
    | nil =>
      cases r2 with
      | nil => exact .nil
      | cons h1 r2 =>
        cases r2 with
        | nil => exact .cons h1 .nil
        | cons _ _ => exact .nil
/-- no positional value, three by name: c, a, b for a, b, c -/
def turnG {α : Type} (us ws : List α) : List α := match us, ws with | [], [c, a, b] => [a, b, c] | _, _ => []
theorem kb_turn {K : PySem.W.Frag} {x qual : Str} {st : Stmt} {f : Addr} {fd : FuncData} {a b c : Str} (F : Fun K x qual st f fd)
    (h : ∀ (kV doc pm : Value) (an : Option Addr) (cdv ct : Value) (u v w : Value), bindArgs (PySem.W.fnOf x qual (defArgs st) (defBody st) (defScope st) .none kV doc pm an cdv ct) ⟨[], [(c, w), (a, u), (b, v)]⟩ = pure [(a, u), (b, v), (c, w)]) :
    KBinds K fd [a, b, c] [c, a, b] turnG turnG := by
  obtain ⟨oc, od, kV, doc, pm, an, cdv, ct, osl, rfl, lk, hcd⟩ := F.ex
  refine ⟨fun s us ws X l => ?_, fun {vs us zs ws} r1 r2 => ?_⟩
  · match us, ws, l with
    | [], [w, u, v], _ => exact .of_eq (h kV doc pm an cdv ct u v w)
    | [], [], l => cases l
    | [], [_], l => cases l
    | [], [_, _], l => cases l
    | [], _ :: _ :: _ :: _ :: _, l => cases l
    | _ :: _, _, l => cases l
  · cases r1 with
    | cons _ _ => exact .nil
    | nil =>
      cases r2 with
      | nil => exact .nil
      | cons h1 r2 =>
        cases r2 with
        | nil => exact .nil
        | cons h2 r2 =>
          cases r2 with
          | nil => exact .nil
          | cons h3 r2 =>
            cases r2 with
            | nil => exact .cons h2 (.cons h3 (.cons h1 .nil))
            | cons _ _ => exact .nil
end Kx
namespace Kx
open PySem PySem.Spec PyProof.Rows L2 SX LamX
theorem go_nil {σ : L2.St} {H : Hp} {Q : List V → Hp → Prop} (h : Q [] H) : tNil σ H Q := h
theorem go_var {σ : L2.St} {H : Hp} {i : Nat} {v : V} {Q : VK} (e : σ[i]? = some (some v)) (h : Q v H) : tVar i σ H Q := ⟨v, e, h⟩
theorem go_or2 {ta tb : TT} {σ : L2.St} {H : Hp} {Q : Bool → Hp → Prop} (h : ta σ H fun b H1 => if b = true then Q true H1 else tb σ H1 Q) : tOr ta tb σ H Q := h
theorem go_not {ta : TT} {σ : L2.St} {H : Hp} {Q : Bool → Hp → Prop} (h : ta σ H fun b H1 => Q (!b) H1) : tNot ta σ H Q := h
theorem go_b {te : TE} {σ : L2.St} {H : Hp} {Q : Bool → Hp → Prop} (h : te σ H fun x H1 => ∃ c, x = .bl c ∧ Q c H1) : tB te σ H Q := h
end Kx
namespace Kx
open PySem PySem.Spec PyProof.Rows L2 SX LamX
theorem ext_at {H H' : Hp} {b : Addr} {o : HO} (e : ExtN H H') (h : H b = some o) (n : ∀ ps, o ≠ .tbl ps := by intro ps z; cases z) : H' b = some o := e b o h n
theorem tyx_ext {K : PySem.W.Frag} {H H' : Hp} {x : V} {n : String} (e : ExtN H H') (h : TyX K H x (.type n)) : TyX K H' x (.type n) := by
  cases h with
  | base b =>
    cases b with
    | non => exact .base .non
    | bl y => exact .base (.bl y)
    | int i => exact .base (.int i)
    | str z => exact .base (.str z)
    | flt z => exact .base (.flt z)
    | lst h => exact .base (.lst (ext_at e h))
    | frz h => exact .base (.frz (ext_at e h))
    | tup h => exact .base (.tup (ext_at e h))
    | dK h => exact .base (.dK (ext_at e h))
    | dT h => exact .base (.dT (ext_at e h))
  | byt b => exact .byt b
  | set h => exact .set (ext_at e h)
  | kList h c => exact .kList h c
  | kTuple h c => exact .kTuple h c
  | kDict h c => exact .kDict h c
  | fTuple h => exact .fTuple (ext_at e h)
  | fDict h => exact .fDict (ext_at e h)
theorem sqL_ext {K : PySem.W.Frag} {H H' : Hp} {a : Addr} {xs : List V} (e : ExtN H H') (h : SqL K H a xs) : SqL K H' a xs := by
  rcases h with (h | ⟨o, h⟩) | h
  · exact .inl (.inl (ext_at e h))
  · exact .inl (.inr ⟨o, ext_at e h⟩)
  · exact .inr h
theorem sqT_ext {K : PySem.W.Frag} {H H' : Hp} {a : Addr} {xs : List V} (e : ExtN H H') (h : SqT K H a xs) : SqT K H' a xs := by
  rcases h with (h | ⟨o, h⟩) | h
  · exact .inl (.inl (ext_at e h))
  · exact .inl (.inr ⟨o, ext_at e h⟩)
  · exact .inr h
/-- ["text", "text"] == ["text", "text"] -/
theorem eq_data {K : PySem.W.Frag} {H : Hp} {a b : Addr} {d e : PyData} {Q : VK} (h1 : Dp K H (.ref a) d) (h2 : Dp K H (.ref b) e) (s1 : SeqAt.shaped d = true) (s2 : SeqAt.shaped e = true) (q : Q (.bl (PyData.eqv d e)) H) : rEqD K (.ref a) (.ref b) H Q :=
  ⟨d, e, h1, h2, s1, s2, q⟩
end Kx
namespace Kx
open PySem PySem.Spec PyProof.Rows L2 SX LamX
theorem reachA_add : ∀ (r : List (List Nat)) (p : Nat), reachA p r = p + reachA 0 r
  | [], p => rfl
  | y :: r, p => by
    show reachA (p + y.length + 1) r = p + reachA (0 + y.length + 1) r
    rw [reachA_add r, reachA_add r (0 + y.length + 1)]
    omega
theorem sum_texts : ∀ xs : List (List Nat), ((xs.map S).map (·.length)).sum + xs.length = reachA 0 xs
  | [] => rfl
  | x :: r => by
    have e : reachA 0 (x :: r) = x.length + 1 + reachA 0 r := by
      show reachA (0 + x.length + 1) r = _
      rw [reachA_add]
      omega
    rw [e, ← sum_texts r]
    simp only [List.map_cons, List.sum_cons, List.length_cons, S_len]
    omega
end Kx
namespace Kx
open PySem PySem.Spec PyProof.Rows L2 SX LamX
theorem S_inj {a b : Str} (h : a.cps.toList = b.cps.toList) : a = b := by
  cases a with
  | mk a =>
    cases b with
    | mk b =>
      have : a = b := Array.toList_inj.mp h
      rw [this]
theorem fold_arr (a : Array Nat) : ∀ (n : Nat) (acc : Array Nat), ((List.replicate n a).foldl (· ++ ·) acc).toList = acc.toList ++ (List.replicate n a.toList).flatten
  | 0, acc => by simp
  | n + 1, acc => by
    rw [List.replicate_succ, List.foldl_cons, fold_arr a n, List.replicate_succ, List.flatten_cons, Array.toList_append, List.append_assoc]
theorem mul_S (l : List Nat) (n : Nat) : Txt.mul (S l) n = S ((List.replicate n l).flatten) := by
  refine S_inj ?_
  have e0 : ∀ m : List Nat, (S m).cps.toList = m := fun m => by simp [S]
  rw [e0]
  unfold Txt.mul
  by_cases h1 : (n : Int) < 1
  · rw [if_pos h1]
    have : n = 0 := by omega
    subst this
    rfl
  · rw [if_neg h1]
    by_cases h2 : ((n : Int) == 1 || (S l).length == 0) = true
    · rw [if_pos h2, e0]
      simp only [Bool.or_eq_true, beq_iff_eq] at h2
      rcases h2 with h2 | h2
      · have : n = 1 := by omega
        subst this
        simp
      · rw [S_len] at h2
        cases l with
        | nil => simp
        | cons _ _ => simp at h2
    · rw [if_neg h2]
      show ((List.replicate (n : Int).toNat (S l).cps).foldl (· ++ ·) #[]).toList = _
      rw [fold_arr, Int.toNat_natCast, e0]
      simp
section
variable {X : Cx}
/-- a text times an int -/
def rRepS : R2 := fun x y H Q => ∃ (l : List Nat) (n : Nat), x = .str (S l) ∧ y = .int n ∧ l.length ≤ 16 ∧ n ≤ 1048576 ∧ Q (.str (S ((List.replicate n l).flatten))) H
theorem op_repS : OpR X (binaryOp .Mult) rRepS := by
  intro pins s σ H x y v u Q I rx ry h
  obtain ⟨l, n, rfl, rfl, h1, h2, q⟩ := h
  obtain ⟨t, rfl⟩ := rx
  obtain ⟨t', rfl⟩ := ry
  refine PySem.W.KXi.mul (n := l.length) (S_len l) h1 (by omega) (by omega) (fun t2 tk _ _ => ⟨.str _, H, I.tok _, ⟨_, rfl⟩, ?_⟩)
  rw [mul_S]
  exact q
end
end Kx
namespace Kx
open PySem PySem.Spec PyProof.Rows L2 SX LamX
section
variable {X : Cx}
/-- a list of whatever values == [] -/
def rEqE : R2 := fun x y H Q => ∃ (a b : Addr) (xs : List V), x = .ref a ∧ y = .ref b ∧ H a = some (.lst xs) ∧ H b = some (.lst []) ∧ Q (.bl xs.isEmpty) H
theorem op_eqE (hu : X.A.units + 64 < cLine) : OpR X (compareOp .Eq) rEqE := by
  intro pins s σ H x y v u Q I rx ry h
  obtain ⟨a, b, xs, rfl, rfl, ha, hb, q⟩ := h
  cases rx
  cases ry
  obtain ⟨z, its, n, r, hl, e⟩ := I.lstM ha
  obtain ⟨z2, its2, n2, r2, hl2, e2⟩ := I.lstM hb
  have l2 : its2 = [] := by
    cases its2 with
    | nil => rfl
    | cons _ _ => simp at hl2
  subst l2
  cases xs with
  | nil =>
    have l1 : its = [] := by
      cases its with
      | nil => rfl
      | cons _ _ => simp at hl
    subst l1
    exact P.eq_list (e := fun _ => true) e e2 rfl (fun j h1 _ => absurd h1 (Nat.not_lt_zero j)) (by omega) ⟨.bl true, H, I, rfl, q⟩
  | cons x r' =>
    exact P.eq_list_lengths e e2 (by
      simp only [List.size_toArray, List.length_nil]
      rw [← hl]
      simp) (by omega) ⟨.bl false, H, I, rfl, q⟩
end
end Kx
namespace Kx
open PySem PySem.Spec PyProof.Rows L2 SX LamX
section
variable {K : PySem.W.Frag} {a : Addr} {xs : List V} {g : TG} {tt : TT} {te : TE} {vs : List Nat} {σ : L2.St} {H : Hp} {k : Nat} {Q : VK}
/-- [e for x in NAME if t], NAME a tuple -/
theorem lc_tupk (zs : List (Option V)) (hz : zs.length = xs.length) (hi : σ[k]? = some (some (.ref a))) (hq : SqT K H a xs) (len : xs.length ≤ 1000000)
    (turn : ∀ (i : Nat) (x : V) (z : Option V) (Hc : Hp) (Q' : VK) (R' : Hp → Prop), xs[i]? = some x → zs[i]? = some z → Same H Hc → (∀ v H4, z = some v → Same Hc H4 → Q' v H4) → (∀ H4, z = none → Same Hc H4 → R' H4) → g x (wipe σ vs) Hc fun σ2 H2 => wipe σ2 vs = wipe σ vs ∧ tt σ2 H2 fun b H3 => if b = true then te σ2 H3 Q' else R' H3)
    (fin : ∀ (D : Addr) (Hc : Hp), Same H Hc → Hc D = some (.lst (zs.filterMap id)) → Q (.ref D) Hc) :
    tLc (iTup K (tVar k)) g tt te vs σ H Q := ⟨_, hi, a, rfl, ⟨_, hq⟩, fun D nD => lc_keep walk_tup zs hz nD len (fun Hc e => Same.t e hq) (fun i x z Hc Hx Q' R' _ hzi e y q r => by
      obtain ⟨rfl, hx⟩ := y
      exact turn i x z _ Q' R' hx hzi e q r) (fin D)⟩
theorem lc_or {I J : TI} (h : tLc I g tt te vs σ H Q ∨ tLc J g tt te vs σ H Q) : tLc (fun σ H R => I σ H R ∨ J σ H R) g tt te vs σ H Q := h
/-- .. a list or a tuple -/
theorem lc_seqk (zs : List (Option V)) (hz : zs.length = xs.length) (hi : σ[k]? = some (some (.ref a))) (hq : SqQ K H a xs) (len : xs.length ≤ 1000000)
    (turn : ∀ (i : Nat) (x : V) (z : Option V) (Hc : Hp) (Q' : VK) (R' : Hp → Prop), xs[i]? = some x → zs[i]? = some z → Same H Hc → (∀ v H4, z = some v → Same Hc H4 → Q' v H4) → (∀ H4, z = none → Same Hc H4 → R' H4) → g x (wipe σ vs) Hc fun σ2 H2 => wipe σ2 vs = wipe σ vs ∧ tt σ2 H2 fun b H3 => if b = true then te σ2 H3 Q' else R' H3)
    (fin : ∀ (D : Addr) (Hc : Hp), Same H Hc → Hc D = some (.lst (zs.filterMap id)) → Q (.ref D) Hc) :
    tLc (fun σ H R => iList K (tVar k) σ H R ∨ iTup K (tVar k) σ H R) g tt te vs σ H Q :=
  lc_or (hq.imp (fun h => lc_lstk zs hz hi h len turn fin) (fun h => lc_tupk zs hz hi h len turn fin))
end
theorem filt_none {α : Type} (p : α → Bool) : ∀ (l : List α), ((l.map fun x => if p x = true then some x else none).filterMap id).isEmpty = l.all fun x => !p x
  | [] => rfl
  | x :: r => by
    cases h : p x with
    | true =>
      simp only [List.map_cons, h, if_true, List.filterMap_cons, id, List.all_cons, Bool.not_true, Bool.false_and]
      rfl
    | false =>
      have := filt_none p r
      simp only [List.map_cons, h, Bool.false_eq_true, if_false, List.filterMap_cons, id, List.all_cons, Bool.not_false, Bool.true_and]
      exact this
theorem core_same {a : Addr} {H H' : Hp} (e : Same (core a H) H') (h : ∀ b o, core a H b = some o → b ≠ a) : Same (core a H) (core a H') := fun b o k => core_at (e b o k) (h b o k) (of_core k).2.2
theorem core_core {a : Addr} {H0 H : Hp} (e : Same (core a H0) H) : Same (core a H0) (core a H) := fun b o k => core_at (e b o k) (of_core k).1 (of_core k).2.2
theorem go_par {i j : Nat} {t : TA} {D : Ends} {σ : L2.St} {H : Hp} (h : tPar i j t D σ H) : tPar i j t D σ H := h
end Kx
namespace Kx
open PySem PySem.Spec PyProof.Rows L2 SX LamX
section
variable {K : PySem.W.Frag} {σ : L2.St} {H : Hp} {ta tb : TE} {k m : Nat}
/-- repr(x) != repr(y), of one and the same data -/
theorem nerepr_t (d : PyData) (hd : Sh k m d) (hk : k ≤ 60) (hm : m ≤ 1048576) {Q : Bool → Hp → Prop}
    (ha : ∀ Q : VK, (∀ a H', Same H H' → Dp K H' (.ref a) d → Q (.ref a) H') → ta σ H Q)
    (hb : ∀ H0, Same H H0 → ∀ Q : VK, (∀ b H', Same H0 H' → Dp K H' (.ref b) d → Q (.ref b) H') → tb σ H0 Q)
    (h : ∀ H', Same H H' → Q false H') : tTest (tOp rNe (tCB (rRepr K) (tCons ta tNil)) (tCB (rRepr K) (tCons tb tNil))) σ H Q := by
  refine go_test (go_op (go_cb (go_cons (ha _ fun a H1 e1 h1 => go_nil (go_repr h1 hd hk hm (go_cb (go_cons (hb H1 e1 _ fun b H2 e2 h2 => go_nil (go_repr h2 hd hk hm ⟨rfl, false, ?_, h H2 (e1.trans e2)⟩)))))))))
  rw [ne_self]
theorem nerepr_if (d : PyData) (hd : Sh k m d) (hk : k ≤ 60) (hm : m ≤ 1048576) {D : Ends} {t u : TS}
    (ha : ∀ Q : VK, (∀ a H', Same H H' → Dp K H' (.ref a) d → Q (.ref a) H') → ta σ H Q)
    (hb : ∀ H0, Same H H0 → ∀ Q : VK, (∀ b H', Same H0 H' → Dp K H' (.ref b) d → Q (.ref b) H') → tb σ H0 Q)
    (h : ∀ H', Same H H' → u D σ H') : tIfS (tTest (tOp rNe (tCB (rRepr K) (tCons ta tNil)) (tCB (rRepr K) (tCons tb tNil)))) t u D σ H :=
  go_if (nerepr_t d hd hk hm ha hb fun H' e => iteF (A := _) (h H' e))
end
theorem sh_bb (b c : Bool) : Sh 1 2 (.list [.bool b, .bool c]) := (shA_bools (k := 0) [b, c]).lst
theorem dp_bc {K : PySem.W.Frag} {H : Hp} {p : Addr} {b c : Bool} (h : H p = some (.lst [.bl b, .bl c])) : Dp K H (.ref p) (.list [.bool b, .bool c]) := .lst (.inl (.inl h)) (.cons (.bl b) (.cons (.bl c) .nil))
end Kx
namespace Kx
open PySem PySem.Spec PyProof.Rows L2 SX LamX
theorem go_c {v : V} {σ : L2.St} {H : Hp} {Q : VK} (h : Q v H) : tC v σ H Q := h
theorem core_sub {a : Addr} {H : Hp} : Same (core a H) H := fun b o h => (of_core h).2.1
theorem core_mvO {a : Addr} {H0 H H' : Hp} (e : Same (core a H0) H) (m : Mv a H H') : Same (core a H0) H' := fun b o h => m b o (of_core h).1 (e b o h)
theorem sz5 : 5 ≤ sizeLine := by decide
theorem rep_flat (n x : Nat) : (List.replicate n [x]).flatten = List.replicate n x := by
  induction n with
  | zero => rfl
  | succ j ih => rw [List.replicate_succ, List.flatten_cons, ih, List.replicate_succ]; rfl
theorem rep_len (n : Nat) (l : List Nat) : ((List.replicate n l).flatten).length = n * l.length := by
  induction n with
  | zero => simp
  | succ j ih => rw [List.replicate_succ, List.flatten_cons, List.length_append, ih, Nat.succ_mul, Nat.add_comm]
theorem rep_mem {n : Nat} {l : List Nat} {i : Nat} (h : i ∈ (List.replicate n l).flatten) : i ∈ l := by
  obtain ⟨m, hm, hi⟩ := List.mem_flatten.mp h
  rw [List.eq_of_mem_replicate hm] at hi
  exact hi
end Kx
namespace Kx
open PySem PySem.Spec PyProof.Rows L2 SX LamX
section
variable {M : Model} {prog : Program} {w : World} {A : Around} {E : Value → Shared → Prop} {s : Shared} {K : PySem.W.Frag} {x C f : Addr} {ox : Obj} {od : Option Obj} {y : Value}
theorem objNe (X : K.In s.heap) (I : PySem.W.InstAt s.heap x ox C od) (hu : A.units < cLine) (hs : PySem.W.findIn K (.ref C) "__eq__" = some (some (.ref f))) (hf : PySem.W.isFn K (.ref f) = true) {Q : Fin → Shared → Prop}
    (hcall : wpAny (model prog w) A (call (.ref f) [.ref x, y]) (fun v s' => ∃ b, v = .bool b ∧ Q (.done (.ret (.bool (!b)))) s') E s) : wpAny (model prog w) A (Builtin.«object.__ne__» ⟨[.ref x, y], []⟩) Q E s := by
  unfold Builtin.«object.__ne__»
  repeat (first
    | with_reducible refine wpAny_cRoomFor hu ?_
    | (refine wpAny_bind (m := callSpecialIfBound? (.ref x) (Str.ofString "__eq__") [y])
        (PySem.W.ifBound_K X I hs hf (wpAny_mono hcall (fun r s' hr => by
          obtain ⟨b, rfl, hq⟩ := hr
          repeat (first | exact hq | exact wpAny_pure hq | exact wpAny_truthy_bool hq | (refine wpAny_bind (m := truthy (.bool _)) (wpAny_truthy_bool ?_)) | wp_step)) fun _ _ e => e)))
    | wp_step)
theorem call_ne {Q : Value → Shared → Prop} (X : K.In s.heap) (I : PySem.W.InstAt s.heap x ox C od) (hu : A.in1.units < cLine) (hm : PySem.W.mroIn K C (.type "object") = some true) (hs : PySem.W.findIn K (.ref C) "__eq__" = some (some (.ref f))) (hf : PySem.W.isFn K (.ref f) = true)
    (hcall : wpAny (model prog w) A.in1 (call (.ref f) [.ref x, y]) (fun v s' => ∃ b, v = .bool b ∧ Q (.bool (!b)) s') E s) : wpAny (model prog w) A (call (.builtin "object.__ne__") [.ref x, y]) Q E s :=
  wpAny_call (codeAny_call_builtin F.cmp_object.ne.plain F.cmpEntry_ne (PySem.W.check_slot F.cmpKind_ne F.cmpSplit_ne (I.type.andThen (PySem.W.looks_mroIn X hm)) (F.cmpArgs_ne _ _) (objNe X I hu hs hf hcall)))
theorem ifBound_objNe {args : List Value} {Q : Option Value → Shared → Prop} (X : K.In s.heap) (I : PySem.W.InstAt s.heap x ox C od) (hs : PySem.W.findIn K (.ref C) "__ne__" = some (some (.builtin "object.__ne__")))
    (h : wpAny M A (call (.builtin "object.__ne__") (.ref x :: args)) (fun v => Q (some v)) E s) : wpAny M A (callSpecialIfBound? (.ref x) "__ne__" args) Q E s := by
  simp only [callSpecialIfBound?, bindSpecialIfBound?]
  refine wpAny_holding (wpAny_bind (wpAny_bind (wpAny_bind (I.type.here ((PySem.W.looks_findIn X hs).here ?_)))))
  refine wpAny_bind (wpAny_askSetting (wpAny_ite ?_))
  have fin : wpAny M A (call (.builtin "object.__ne__") ([.ref x] ++ args) >>= fun v => pure (some v)) Q E s := wpAny_bind (wpAny_mono h (fun v s' h' => wpAny_pure h') fun _ _ h' => h')
  split
  · exact wpAny_bind (wpAny_of_eq (F.cmp_object.ne.bind _) (wpAny_pure (by exact fin)))
  · exact wpAny_tryCatch (wpAny_bind (wpAny_of_eq (F.cmp_object.ne.bind _) (wpAny_pure (by exact fin))))
/-- x != y, x an instance with an == of its own, no != -/
theorem rich_ne {Q : Value → Shared → Prop} {tb : Value} (hu : A.in1.units < cLine) (X : K.In s.heap) (I : PySem.W.InstAt s.heap x ox C od) (hb : PySem.W.Looks (model prog w) s.heap (typeOf y) tb) (hn : PySem.W.notFirst K C tb = true) (hm : PySem.W.mroIn K C (.type "object") = some true)
    (hs : PySem.W.findIn K (.ref C) "__eq__" = some (some (.ref f))) (hf : PySem.W.isFn K (.ref f) = true) (hne : PySem.W.findIn K (.ref C) "__ne__" = some (some (.builtin "object.__ne__")))
    (h : wpAny (model prog w) A.in1 (call (.ref f) [.ref x, y]) (fun v s' => ∃ b, v = .bool b ∧ Q (.bool (!b)) s') E s) : wpAny (model prog w) A (richCompare .NotEq (.ref x) y) Q E s := by
  have one : wpAny (model prog w) A (tryCompare (.ref x) "__ne__" y) (fun r s' => ∃ v, r = some v ∧ Q v s') E s := by
    unfold tryCompare
    refine wpAny_bind (ifBound_objNe X I hne (call_ne X I hu hm hs hf (wpAny_mono h (fun v s' hv => ?_) fun _ _ e => e)))
    obtain ⟨b, rfl, hq⟩ := hv
    exact ⟨b, rfl, wpAny_pure ⟨_, rfl, hq⟩⟩
  have hu0 : A.units < cLine := Nat.lt_of_succ_lt (show A.units + 1 < cLine from hu)
  unfold richCompare
  simp only [oneThing_ref]
  refine wpAny_holding (wpAny_bind (wpAny_cRoomFor hu0 ?_))
  rw [cmpInfo_NotEq]
  dsimp only
  refine wpAny_bind (I.type.here (wpAny_bind (hb.here ?_)))
  split
  · rename_i q
    have e : PySem.W.subIn K tb (.ref C) = some false := by
      rcases Bool.or_eq_true_iff.mp hn with e | e
      · rw [beq_iff_eq.mp e] at q; simp at q
      · exact beq_iff_eq.mp e
    refine wpAny_bind ((PySem.W.looks_subIn X e).here ?_)
    simp only [Bool.false_eq_true, if_false]
    refine wpAny_bind (wpAny_mono one (fun r s' z => ?_) fun _ _ e => e)
    obtain ⟨v, rfl, hq⟩ := z
    exact wpAny_pure hq
  · refine wpAny_bind (wpAny_pure ?_)
    simp only [Bool.false_eq_true, if_false]
    refine wpAny_bind (wpAny_mono one (fun r s' z => ?_) fun _ _ e => e)
    obtain ⟨v, rfl, hq⟩ := z
    exact wpAny_pure hq
theorem sub_list : PySem.W.subIn K (.type "list") (.ref C) = some false := by
  have e : fastBuiltinMro "list" = some [.type "list", .type "object"] := by decide +kernel
  show (fastBuiltinMro "list").map (·.contains (.ref C)) = some false
  rw [e]
  first
    | rfl
    | simp
theorem sub_tuple : PySem.W.subIn K (.type "tuple") (.ref C) = some false := by
  have e : fastBuiltinMro "tuple" = some [.type "tuple", .type "object"] := by decide +kernel
  show (fastBuiltinMro "tuple").map (·.contains (.ref C)) = some false
  rw [e]
  first
    | rfl
    | simp
end
end Kx
namespace Kx
open PySem PySem.Spec PyProof.Rows L2 SX LamX
section
variable {X : Cx} {pins : List (Addr × Obj)} {σ : L2.St} {H : Hp} {s : Shared}
/-- what stands at the other side of an own ==: an instance of the class, a list, a tuple -/
def OthV (K : PySem.W.Frag) (C : Addr) (H : Hp) (y : V) : Prop := ∃ b, y = .ref b ∧ ((∃ dx fs, H b = some (.ins C dx fs)) ∨ ∃ xs, SqQ K H b xs)
theorem oth_looks {C : Addr} {y : V} {u : Value} (I : Inv X pins σ H s) (ry : RelV y u) (h : OthV X.K C H y) : ∃ b tb, y = .ref b ∧ u = .ref b ∧ (∀ M, PySem.W.Looks M s.heap (typeOf u) tb) ∧ PySem.W.notFirst X.K C tb = true := by
  obtain ⟨b, rfl, h⟩ := h
  obtain rfl : u = Value.ref b := ry
  rcases h with ⟨dx, fs, h⟩ | ⟨xs, h | h⟩
  · obtain ⟨mA, J, _⟩ := ins_get I.hok h
    obtain ⟨od, J, _⟩ := J.look
    exact ⟨b, _, rfl, rfl, fun M => J.type, by simp [PySem.W.notFirst]⟩
  · obtain ⟨us, r1, p1, _⟩ := I.list h
    obtain ⟨o, n, e, c1, c2, d⟩ := p1
    have c : o.cls = .type "list" := by first | exact c1 | exact c2
    refine ⟨b, .type "list", rfl, rfl, fun M => c ▸ (PySem.W.Looks.ld e).andThen .now, ?_⟩
    unfold PySem.W.notFirst
    rw [sub_list]
    rfl
  · obtain ⟨us, r1, ⟨o, e, c, _⟩, _⟩ := I.tuple h
    refine ⟨b, .type "tuple", rfl, rfl, fun M => c ▸ (PySem.W.Looks.ld e).andThen .now, ?_⟩
    unfold PySem.W.notFirst
    rw [sub_tuple]
    rfl
end
end Kx
namespace Kx
open PySem PySem.Spec PyProof.Rows L2 SX LamX
section
variable {X : Cx}
/-- x == y by the class's own ==: what it promises, a truth -/
def rEqI (K : PySem.W.Frag) (C : Addr) (sp : Sp) : R2 := fun x y H Q => ∃ a dx fs, x = .ref a ∧ H a = some (.ins C dx fs) ∧ OthV K C H y ∧ sp [x, y] H (fun v H' => ∃ b, v = .bl b ∧ Q (.bl b) H') C8.E0
def rNeI (K : PySem.W.Frag) (C : Addr) (sp : Sp) : R2 := fun x y H Q => ∃ a dx fs, x = .ref a ∧ H a = some (.ins C dx fs) ∧ OthV K C H y ∧ sp [x, y] H (fun v H' => ∃ b, v = .bl b ∧ Q (.bl (!b)) H') C8.E0
theorem own_run {f : Addr} {fd : FuncData} {ps : List Str} {n : Nat} {sp : Sp} {A : Around} {pins : List (Addr × Obj)} {σ : L2.St} {H : Hp} {s : Shared} {a b : Addr} {Q : VK} {R : Value → Shared → Prop} {xe : Value → Shared → Prop}
    (F : FnOk X.prog X.w X.K X.mg X.base C8.CX0 n f fd ps sp) (hb : Binds X.K fd ps []) (hr : Room n A) (hf : A.frames = X.A.frames) (I : Inv X pins σ H s) (h : sp [.ref a, .ref b] H Q C8.E0)
    (back : ∀ u s', EP X pins σ Q u s' → R u s') : wpAny (model X.prog X.w) A (call (.ref f) [.ref a, .ref b]) R xe s := by
  have e0 : Env0 X.prog X.w X.K X.mg X.base A X.stack s H := by
    have e := I.env0
    exact ⟨by rw [hf]; exact e.frames, e.mod, e.bs, e.bsz, e.funs, e.frf, e.hok, e.bare⟩
  have hl := F.len _ _ _ _ h
  have r2 : Vals [V.ref a, V.ref b] [Value.ref a, Value.ref b] := .cons rfl (.cons rfl .nil)
  refine wpAny_call (codeAny_mono (F.run A X.stack s H ⟨[.ref a, .ref b], []⟩ [.ref a, .ref b] [.ref a, .ref b] _ C8.E0 hr e0 (by
    have := hb s [.ref a, .ref b] I.kIn (by simpa using hl)
    simpa using this) r2 h) fun r s' hq => ?_)
  match r, hq with
  | .error e, hq => exact (show False from hq).elim
  | .ok (.ret w), hq => exact back w s' (I.after hq)
  | .ok .next, hq => exact False.elim hq
  | .ok .brk, hq => exact False.elim hq
  | .ok .cont, hq => exact False.elim hq
theorem op_eqI {C f : Addr} {fd : FuncData} {ps : List Str} {n : Nat} {sp : Sp} (F : FnOk X.prog X.w X.K X.mg X.base C8.CX0 n f fd ps sp) (hb : Binds X.K fd ps []) (hr : Room n X.A)
    (hs : PySem.W.findIn X.K (.ref C) "__eq__" = some (some (.ref f))) (hf : PySem.W.isFn X.K (.ref f) = true) : OpR X (compareOp .Eq) (rEqI X.K C sp) := by
  intro pins s σ H x y v u Q I rx ry hq
  obtain ⟨a, dx, fs, rfl, ha, oth, h⟩ := hq
  cases rx
  obtain ⟨mA, J, _⟩ := ins_get I.hok ha
  obtain ⟨od, J, _⟩ := J.look
  obtain ⟨b, tb, rfl, rfl, lk, nf⟩ := oth_looks I ry oth
  obtain ⟨m, hF⟩ := I.fr
  show wpAny (model X.prog X.w) X.A (richCompare .Eq (.ref a) (.ref b)) _ _ s
  refine PySem.W.cmp_K (op := .Eq) (tb := tb) hr.units0 hF I.ok.mod.kin J (lk _) nf hs hf (own_run F hb hr rfl I h fun u s' ep => ?_)
  obtain ⟨z, H', I', rz, c, rfl, q⟩ := ep
  cases rz
  exact ⟨.bl c, H', I', rfl, q⟩
theorem op_neI {C f : Addr} {fd : FuncData} {ps : List Str} {n : Nat} {sp : Sp} (F : FnOk X.prog X.w X.K X.mg X.base C8.CX0 n f fd ps sp) (hb : Binds X.K fd ps []) (hr : Room (n + 1) X.A)
    (hs : PySem.W.findIn X.K (.ref C) "__eq__" = some (some (.ref f))) (hf : PySem.W.isFn X.K (.ref f) = true) (hm : PySem.W.mroIn X.K C (.type "object") = some true) (hne : PySem.W.findIn X.K (.ref C) "__ne__" = some (some (.builtin "object.__ne__"))) :
    OpR X (compareOp .NotEq) (rNeI X.K C sp) := by
  intro pins s σ H x y v u Q I rx ry hq
  obtain ⟨a, dx, fs, rfl, ha, oth, h⟩ := hq
  cases rx
  obtain ⟨mA, J, _⟩ := ins_get I.hok ha
  obtain ⟨od, J, _⟩ := J.look
  obtain ⟨b, tb, rfl, rfl, lk, nf⟩ := oth_looks I ry oth
  show wpAny (model X.prog X.w) X.A (richCompare .NotEq (.ref a) (.ref b)) _ _ s
  refine rich_ne hr.in1.units0 I.kIn J (lk _) nf hm hs hf hne (own_run F hb hr.in1 rfl I h fun u s' ep => ?_)
  obtain ⟨z, H', I', rz, c, rfl, q⟩ := ep
  cases rz
  exact ⟨c, rfl, .bl (!c), H', I', rfl, q⟩
end
end Kx
namespace Kx
open PySem PySem.Spec PyProof.Rows L2 SX LamX
/-! ### texts, each once -/
def onceStep (σ : List Str) (x : Str) : List Str := if σ.any (· == x) = true then σ else σ ++ [x]
def onceS (xs : List Str) : List Str := xs.foldl onceStep []
theorem once_any (σ : List Str) (v k : Str) : (onceStep σ v).any (· == k) = (σ.any (· == k) || decide (k = v)) := by
  unfold onceStep
  by_cases h : σ.any (· == v) = true
  · rw [if_pos h]
    by_cases e : k = v
    · rw [e, h]; simp
    · simp [e]
  · rw [if_neg h, List.any_append]
    by_cases e : k = v
    · rw [e]; simp
    · have hb : (v == k) = false := by simpa [beq_iff_eq] using (fun h' : v = k => e h'.symm)
      simp [hb, e]
theorem once_len (σ : List Str) (v : Str) : (onceStep σ v).length = if σ.any (· == v) = true then σ.length else σ.length + 1 := by
  unfold onceStep
  split <;> simp
theorem once_fold : ∀ (xs σ : List Str), (xs.foldl onceStep σ).length ≤ σ.length + xs.length
  | [], σ => Nat.le_refl _
  | x :: r, σ => by
    have h := once_fold r (onceStep σ x)
    have h2 := once_len σ x
    rw [List.foldl_cons, List.length_cons]
    split at h2 <;> omega
theorem onceS_le (xs : List Str) : (onceS xs).length ≤ xs.length := by
  have h := once_fold xs []
  simpa [onceS] using h
theorem onceS_take {xs : List Str} {i : Nat} {x : Str} (h : xs[i]? = some x) : onceS (xs.take (i + 1)) = onceStep (onceS (xs.take i)) x := by
  unfold onceS
  rw [List.take_add_one, h, List.foldl_append]
  rfl
section
variable {prog : Program} {w : World} {A : Around} {R : Result → Shared → Prop} {I : Addr} {fp wr : List Addr} {G : Array GenState → Array GenState → Prop} {n : Nat} {P : Nat → Value → Prop} {St : Nat → Shared → Prop}
def txSet (prog : Program) (w : World) (h : Heap) (S : Addr) (l : List Str) : Prop := h.SetOf (PySem.strKind prog w) S (fun k => l.any (· == k)) l.length
theorem txSet_at {h h' : Heap} {S : Addr} {l : List Str} (t : txSet prog w h S l) (k : ∀ o, h.get? S = some o → h'.get? S = some o) : txSet prog w h' S l := by
  obtain ⟨o, es, ep, tb, ho, rest⟩ := t
  exact ⟨o, es, ep, tb, k o ho, rest⟩
/-- set.update over texts, whatever walks over them -/
theorem upd_texts (W : WalksS prog w A.in1 I fp wr G n P St) (S : Addr) (hSf : S ∉ fp) (xs : List Str) (hn : n = xs.length) (hval : ∀ i v, P i v → ∃ x t, xs[i]? = some x ∧ v = .str x t) (hb : n + 1 < scanBound) :
    ∀ (k i : Nat) (s : Shared), n - i = k → i ≤ n → St i s → txSet prog w s.heap S (onceS (xs.take i)) →
      (∀ s', Moved (S :: wr) G s s' → txSet prog w s'.heap S (onceS xs) → R (.ok (.ret .none)) s') → codeAny (model prog w) A (.builtin "set.update.loop" ⟨[.ref S, .ref I], []⟩) R s := by
  have out : S ∉ wr := fun h => hSf (W.sub _ h)
  have more : ∀ b ∈ wr, b ∈ S :: wr := fun b hb => List.mem_cons_of_mem _ hb
  intro k
  induction k with
  | zero =>
    intro i s hk hi hst hS hR
    obtain rfl : i = n := by omega
    refine codeAny_builtin PyProof.Rows.F.entry_set_update_loop ?_
    rw [Around.under_plainId PyProof.Rows.F.plain_set_update_loop _]
    show wpAny _ A.in1 (pyNext (.ref I) >>= _) _ _ s
    refine wpAny_bind (W.done s _ _ hst fun s' hm => ?_)
    show wpAny _ A.in1 (ret Value.none) _ _ s'
    rw [hn, List.take_length] at hS
    exact wpAny_pure (hR s' (hm.mono more) (txSet_at hS fun o e => hm.heap S o out e))
  | succ k ih =>
    intro i s hk hi hst hS hR
    have hlt : i < n := by omega
    refine codeAny_builtin PyProof.Rows.F.entry_set_update_loop ?_
    rw [Around.under_plainId PyProof.Rows.F.plain_set_update_loop _]
    show wpAny _ A.in1 (pyNext (.ref I) >>= _) _ _ s
    refine wpAny_bind (W.item i s _ _ hlt hst fun v s' hP hst' hm => ?_)
    obtain ⟨x, t, hx, rfl⟩ := hval i v hP
    have hS' := txSet_at hS fun o e => hm.heap S o out e
    show wpAny _ A.in1 (holding [Value.str x t] (setAdd S (.str x t)) >>= _) _ _ s'
    refine wpAny_bind (wpAny_holding ?_)
    unfold setAdd
    refine wpAny_holding (wpAny_bind ((PySem.strKind prog w).pyHash (k := x) (strKind_is _ _ _ _) ?_))
    have room : (onceS (xs.take i)).length + 1 < scanBound := by
      have h1 := onceS_le (xs.take i)
      rw [List.length_take] at h1
      omega
    refine wpAny_setAddHashed_of (knd := PySem.strKind prog w) (s := { s' with toks := s'.toks + 1 }) (strKind_is _ _ _ _) rfl hS' room fun h' same hS2 => ?_
    have hS3 : txSet prog w h' S (onceS (xs.take (i + 1))) := PyProof.Rows.SetOf_congr hS2 (fun k' => by rw [onceS_take hx, once_any]) (by rw [onceS_take hx, once_len])
    refine wpAny_pure ⟨plainId_quiet PyProof.Rows.F.plain_set_update_loop _, ih (i + 1) _ (by omega) hlt (W.frame _ s' _ _ hst' (Nat.le_succ _) fun b hb o e => ?_) hS3 fun s2 hm2 hS4 => ?_⟩
    · rw [same.2 b (fun h : b = S => hSf (by rw [← h]; exact hb))]
      exact e
    · refine hR s2 (Moved.trans W.gtrans ((hm.mono more).then_heap (Nat.le_succ _) fun b o hb e => ?_) hm2) hS4
      rw [same.2 b (fun h : b = S => hb (by rw [h]; exact List.mem_cons_self))]
      exact e
end
section
variable {prog : Program} {w : World} {A : Around} {E : Value → Shared → Prop} {s : Shared}
abbrev freshSet (led : Bool) : Obj := { cls := .type "set", dict := none, data := .set #[] 0 (.fresh 0 0 led) }
/-- what a set of these texts leaves -/
def MadeTx (prog : Program) (w : World) (s : Shared) (xs : List Str) (h' : Heap) : Prop := txSet prog w h' s.heap.objs.size (onceS xs) ∧ ∀ b o, s.heap.get? b = some o → h'.get? b = some o
/-- set(x): what its __init__ has to do -/
theorem set_made {x : Value} {xs : List Str} {Q : Value → Shared → Prop}
    (hin : ∀ (led : Bool) (A' : Around) (E' : Value → Shared → Prop) (Q' : Fin → Shared → Prop), A'.handled = A.handled → (∀ h' tk, MadeTx prog w s xs h' → Q' (.done (.ret .none)) { s with heap := h', toks := tk }) →
      wpAny (model prog w) A' (Builtin.«set.__init__» ⟨[.ref s.heap.objs.size, x], []⟩) Q' E' { s with heap := s.heap.push (freshSet led) })
    (h : ∀ (h' : Heap) (tk : Nat), MadeTx prog w s xs h' → Q (.ref s.heap.objs.size) { s with heap := h', toks := tk }) : wpAny (model prog w) A (call (.type "set") [x]) Q E s := by
  obtain ⟨c, tl, hmro⟩ := PySem.F.called_set.mro
  have hmade := PySem.F.called_set.made
  have hsub := PySem.F.called_set.sub
  refine wpAny_call (codeAny_of_tree ?_)
  show wpAny _ _ (callAny (.type "set") _) _ _ _
  refine wpAny_pure ⟨Code.quiet_builtin _ (by decide +kernel), codeAny_builtin PySem.F.entry_type_call ?_⟩
  rw [Around.under_plain (weight_type_call_type "set" [x] []) rfl]
  have h1 := PySem.F.called_set.notType
  have h2 := PySem.F.called_set.canCreate
  have hct := PySem.F.typeCall_set_1 x
  repeat (any_goals (first | assumption | wp_step))
  refine codeAny_mono (code_set_new_1 x (E := E) (Q₁ := fun obj s₁ => ∃ led : Bool, obj = .ref s.heap.objs.size ∧ s₁ = { s with heap := s.heap.push (freshSet led) }) fun led => ⟨led, rfl, rfl⟩) fun r s₁ hr => ?_
  match r, hr with
  | .error e, hr => exact hr
  | .ok .next, hr => exact hr.elim
  | .ok .brk, hr => exact hr.elim
  | .ok .cont, hr => exact hr.elim
  | .ok (.ret obj), hr =>
    obtain ⟨led, rfl, rfl⟩ := hr
    have hS : (s.heap.push (freshSet led)).get? s.heap.objs.size = some (freshSet led) := Heap.get?_push_size _ rfl
    have hT : Shared.TypeIs { s with heap := s.heap.push (freshSet led) } (.ref s.heap.objs.size) "set" := ⟨_, hS, rfl⟩
    have hli := PySem.F.called_set.init.lookup
    have hbi := PySem.F.called_set.init.bind (.ref s.heap.objs.size)
    repeat (any_goals (first | assumption | wp_step))
    refine codeAny_mono (codeAny_call_builtin (R := wants (fun r s₂ => r = .none ∧ ∃ h' tk, s₂ = { s with heap := h', toks := tk } ∧ MadeTx prog w s xs h') E) PySem.F.called_set.init.plain PySem.F.entry_set_init (check_set_init_1 hT ?_)) fun r₂ s₂ hr₂ => ?_
    · exact hin led _ _ _ rfl fun h' tk m => ⟨rfl, h', tk, rfl, m⟩
    · match r₂, hr₂ with
      | .error e, hr₂ => exact hr₂
      | .ok .next, hr₂ => exact hr₂.elim
      | .ok .brk, hr₂ => exact hr₂.elim
      | .ok .cont, hr₂ => exact hr₂.elim
      | .ok (.ret r), hr₂ =>
        obtain ⟨rfl, h', tk, rfl, m⟩ := hr₂
        repeat (any_goals (first | assumption | wp_step))
        exact h _ _ m
end
end Kx
namespace Kx
open PySem PySem.Spec PyProof.Rows L2 SX LamX
section
variable {prog : Program} {w : World} {A : Around} {E : Value → Shared → Prop} {s : Shared}
theorem strs_get : ∀ {us : List Value} {xs : List Str}, StrsAre us xs → ∀ (i : Nat) (v : Value), us[i]? = some v → ∃ x t, xs[i]? = some x ∧ v = .str x t
  | _, _, .nil, i, v, h => by simp at h
  | _, _, .cons y t hr, 0, v, h => by
    simp at h
    exact ⟨y, t, rfl, h.symm⟩
  | _, _, .cons y t hr, i + 1, v, h => by
    simp only [List.getElem?_cons_succ] at h
    exact strs_get hr i v h
theorem strs_len : ∀ {us : List Value} {xs : List Str}, StrsAre us xs → us.length = xs.length
  | _, _, .nil => rfl
  | _, _, .cons _ _ r => by rw [List.length_cons, List.length_cons, strs_len r]
/-- set(x), a list or a tuple of texts -/
theorem call_set_texts {l : Addr} {items : Array Value} {xs : List Str} {Q : Value → Shared → Prop} (hh : A.handled = none) (hl : s.heap.IsList l items ∨ s.heap.IsTuple l items) (hi : StrsAre items.toList xs) (hb : xs.length + 1 < scanBound)
    (h : ∀ (h' : Heap) (tk : Nat), MadeTx prog w s xs h' → Q (.ref s.heap.objs.size) { s with heap := h', toks := tk }) : wpAny (model prog w) A (call (.type "set") [.ref l]) Q E s := by
  refine set_made (xs := xs) (fun led A' E' Q' hA q => ?_) h
  have isz : items.size = xs.length := by rw [← strs_len hi, Array.length_toList]
  have hS : (s.heap.push (freshSet led)).get? s.heap.objs.size = some (freshSet led) := Heap.get?_push_size _ rfl
  have hlS : l < s.heap.objs.size := by
    rcases hl with ⟨o, ho, _⟩ | ⟨o, ho, _⟩ <;> exact Heap.lt_size ho
  have hneI : l ≠ (s.heap.push (freshSet led)).objs.size := by
    rw [Heap.size_push]
    exact Nat.ne_of_lt (Nat.lt_succ_of_lt hlS)
  have hSf : s.heap.objs.size ∉ [(s.heap.push (freshSet led)).objs.size, l] := by
    rw [Heap.size_push]
    simp only [List.mem_cons, List.not_mem_nil, or_false, not_or]
    exact ⟨Nat.ne_of_lt (Nat.lt_succ_self _), Nat.ne_of_gt hlS⟩
  have hval : ∀ (i : Nat) (v : Value), items[i]? = some v → ∃ x t, xs[i]? = some x ∧ v = .str x t := fun i v hv => strs_get hi i v (by rw [Array.getElem?_toList]; exact hv)
  have hh3 : A'.in1.handled = none := by simp [hA, hh]
  have done : ∀ (it : Obj) (s' : Shared), Moved (s.heap.objs.size :: [(s.heap.push (freshSet led)).objs.size]) (fun a b => b = a) { s with heap := (s.heap.push (freshSet led)).push it } s' → txSet prog w s'.heap s.heap.objs.size (onceS xs) →
      wpAny (model prog w) A' (ret Value.none) Q' E' s' := fun it s' hm hS' => by
    obtain ⟨h', g', d', tk', os'⟩ := s'
    have eg : g' = s.gens := hm.gens
    have ed : d' = s.drawn := hm.drawn
    have eo : os' = s.os := hm.os
    subst eg
    subst ed
    subst eo
    refine wpAny_pure (q h' tk' ⟨hS', fun b o e => ?_⟩)
    have hb0 : b < s.heap.objs.size := Heap.lt_size e
    have hb1 : b ≠ s.heap.objs.size := Nat.ne_of_lt hb0
    have hb2 : b ≠ (s.heap.push (freshSet led)).objs.size := by
      rw [Heap.size_push]
      exact Nat.ne_of_lt (Nat.lt_succ_of_lt hb0)
    exact hm.heap b o (by simp only [List.mem_cons, List.not_mem_nil, or_false, not_or]; exact ⟨hb1, hb2⟩) (Heap.get?_push_of_some _ (Heap.get?_push_of_some _ e))
  unfold Builtin.«set.__init__» noKeywords Builtin.Frozenset.updateFrom
  rcases hl with hl | hl
  · obtain ⟨ol, hol, hcl, nl, hdl⟩ := hl
    obtain ⟨ocls, odict, odata, oslots⟩ := ol
    simp only at hcl hdl
    subst hcl
    subst hdl
    have hol' : (s.heap.push (freshSet led)).get? l = some { cls := .type "list", dict := odict, data := .seq items nl, slots := oslots } := Heap.get?_push_of_some _ hol
    have hsls := PySem.F.sub_list_set
    have hslf := PySem.F.sub_list_frozenset
    have hne : (Value.type "list" == Value.type "dict") = false := by decide
    have hl1 : (s.heap.push (freshSet led)).IsList l items := ⟨_, hol', rfl, nl, rfl⟩
    generalize hPI : pyIter = PI
    wp_walk
    subst hPI
    refine wpAny_pyIter_list hl1 ?_
    refine wpAny_bind (wpAny_runValue ?_)
    refine upd_texts ((Walks.list hh3 _ l hneI items).toS) s.heap.objs.size hSf xs isz hval (by omega) (items.size - 0) 0 _ (by omega) (Nat.zero_le _) ⟨⟨_, Heap.get?_push_size _ rfl, rfl, rfl⟩, (hl1.push _)⟩ ?_ (fun s' hm hS' => ?_)
    · have hget : ((s.heap.push (freshSet led)).push { cls := .type "list_iterator", data := .fields #[.ref l, .int 0 0] }).get? s.heap.objs.size = some (freshSet led) := Heap.get?_push_of_some _ hS
      exact PyProof.Rows.SetOf_congr ((PyProof.Rows.setObjOf_fresh (knd := PySem.strKind prog w) led).setOf hget (by unfold scanBound; omega)) (fun _ => rfl) rfl
    · exact wpAny_pure (done _ s' hm hS')
  · obtain ⟨ol, hol, hcl, nl, hdl⟩ := hl
    obtain ⟨ocls, odict, odata, oslots⟩ := ol
    simp only at hcl hdl
    subst hcl
    subst hdl
    have hol' : (s.heap.push (freshSet led)).get? l = some { cls := .type "tuple", dict := odict, data := .seq items nl, slots := oslots } := Heap.get?_push_of_some _ hol
    have hsls := PySem.F.sub_tuple_set
    have hslf := PySem.F.sub_tuple_frozenset
    have hne : (Value.type "tuple" == Value.type "dict") = false := by decide
    have hl1 : (s.heap.push (freshSet led)).IsTuple l items := ⟨_, hol', rfl, nl, rfl⟩
    generalize hPI : pyIter = PI
    wp_walk
    subst hPI
    refine wpAny_pyIter_tuple hl1 ?_
    refine wpAny_bind (wpAny_runValue ?_)
    refine upd_texts ((Walks.tuple hh3 _ l hneI items).toS) s.heap.objs.size hSf xs isz hval (by omega) (items.size - 0) 0 _ (by omega) (Nat.zero_le _) ⟨⟨_, Heap.get?_push_size _ rfl, rfl, rfl⟩, (hl1.push _)⟩ ?_ (fun s' hm hS' => ?_)
    · have hget : ((s.heap.push (freshSet led)).push { cls := .type "tuple_iterator", data := .fields #[.ref l, .int 0 0] }).get? s.heap.objs.size = some (freshSet led) := Heap.get?_push_of_some _ hS
      exact PyProof.Rows.SetOf_congr ((PyProof.Rows.setObjOf_fresh (knd := PySem.strKind prog w) led).setOf hget (by unfold scanBound; omega)) (fun _ => rfl) rfl
    · exact wpAny_pure (done _ s' hm hS')
end
end Kx
namespace Kx
open PySem PySem.Spec PyProof.Rows L2 SX LamX
section
variable {X : Cx}
/-- len(set(e)), e a list or a tuple of texts -/
def tLenSetN (K : PySem.W.Frag) (ta : TE) : TE := fun σ H Q => ta σ H fun x H1 => ∃ (l : Addr) (xs : List Str), x = .ref l ∧ SqQ K H1 l (xs.map V.str) ∧ xs.length ≤ 4000 ∧ Q (.int ((onceS xs).length : Nat)) H1
theorem pe_lenSetN {a : Expr} {ta : TE} {p p2 q pos : Pos} (hg : Gl X "len") (hm : X.mg "len" = none) (hg2 : Gl X "set") (hm2 : X.mg "set" = none) (ha : PE X a ta) (hc : X.calm = true := by rfl)
    (na : starEach [a] X.env = (false, eval a X.env) :: starEach [] X.env := by rfl) : PE X (.Call (.Name "len" p) [.Call (.Name "set" p2) [a] [] q] [] pos) (tLenSetN X.K ta) := by
  refine ⟨fun pins s σ H Q I h => ?_⟩
  refine Call_ (ld_blt I hg hm boot_len ?_)
  refine PyProof.Rows.callWith_builtin1 (PyProof.Rows.args_cons ?_ rfl) rfl rfl
  refine Call_ (ld_blt I hg2 hm2 boot_set ?_)
  refine PyProof.Rows.callWith_type1 (PyProof.Rows.args_cons (thn (ha.run pins s σ H _ I h) fun v s1 ⟨x, H1, I1, r1, q1⟩ => PyProof.Rows.args_nil ?_) na) na rfl
  obtain ⟨l, xs, rfl, hq, h1, q1⟩ := q1
  cases r1
  have fin : ∀ (h' : Heap) (tk : Nat), MadeTx X.prog X.w s1 xs h' →
      wpAny (model X.prog X.w) X.A (spliced (backTo pos (starEach [] X.env))) (fun vs s₂ => wpAny (model X.prog X.w) X.A (call (.builtin "len") (Value.ref s1.heap.objs.size :: vs)) (EP X pins σ Q) X.xe s₂) X.xe { s1 with heap := h', toks := tk } := fun h' tk m => by
    refine PyProof.Rows.args_nil ?_
    obtain ⟨⟨o, es, ep, t, ho, hex, hd, _, _, _, hf, hn⟩, hk⟩ := m
    have I2 : Inv X pins σ H1 { s1 with heap := h', toks := tk } := I1.kept fun b o e => hk b o e
    have h2 := onceS_le xs
    exact call_len_set ho hex hd hf (by rw [hn] <;> omega) ⟨.int ((onceS xs).length : Nat), H1, I2.tok _, ⟨_, by rw [hn]⟩, q1⟩
  rcases hq with hq | hq
  · obtain ⟨its, r, pl, hz⟩ := I1.list hq
    exact call_set_texts (I1.ok.hd hc) (.inl pl.isList) (by simpa using strsAre_of r) (by unfold scanBound; omega) fin
  · obtain ⟨its, r, pl, hz⟩ := I1.tuple hq
    exact call_set_texts (I1.ok.hd hc) (.inr pl) (by simpa using strsAre_of r) (by unfold scanBound; omega) fin
end
theorem onceS_nodup : ∀ (xs : List Str), (onceS xs).length = xs.length ↔ xs.Nodup := by
  have key : ∀ (xs σ : List Str), σ.Nodup → ((xs.foldl onceStep σ).length = σ.length + xs.length ↔ (xs.Nodup ∧ ∀ x ∈ xs, x ∉ σ)) := by
    intro xs
    induction xs with
    | nil => intro σ _; simp
    | cons x r ih =>
      intro σ hσ
      rw [List.foldl_cons, List.length_cons]
      by_cases hx : σ.any (· == x) = true
      · have e : onceStep σ x = σ := by unfold onceStep; rw [if_pos hx]
        have hm : x ∈ σ := by
          obtain ⟨y, hy, e⟩ := List.any_eq_true.mp hx
          rw [← beq_iff_eq.mp e]
          exact hy
        rw [e]
        have := once_fold r σ
        constructor
        · intro h; omega
        · intro ⟨_, h⟩
          exact absurd hm (h x List.mem_cons_self)
      · have e : onceStep σ x = σ ++ [x] := by unfold onceStep; rw [if_neg hx]
        have hm : x ∉ σ := fun hm => hx (List.any_eq_true.mpr ⟨x, hm, by simp⟩)
        rw [e]
        have hn : (σ ++ [x]).Nodup := List.nodup_append.mpr ⟨hσ, by simp, fun a ha b hb => by
          rw [List.mem_singleton.mp hb]
          exact fun e => hm (e ▸ ha)⟩
        have h := ih (σ ++ [x]) hn
        rw [List.length_append, List.length_singleton] at h
        have e2 : σ.length + 1 + r.length = σ.length + (r.length + 1) := by omega
        rw [e2] at h
        rw [h, List.nodup_cons]
        constructor
        · rintro ⟨h1, h2⟩
          refine ⟨⟨fun hr => h2 x hr (List.mem_append_right _ (List.mem_singleton.mpr rfl)), h1⟩, fun y hy => ?_⟩
          rcases List.mem_cons.mp hy with rfl | hy
          · exact hm
          · exact fun z => h2 y hy (List.mem_append_left _ z)
        · rintro ⟨⟨h1, h2⟩, h3⟩
          refine ⟨h2, fun y hy z => ?_⟩
          rcases List.mem_append.mp z with z | z
          · exact h3 y (List.mem_cons_of_mem _ hy) z
          · rw [List.mem_singleton.mp z] at hy
            exact h1 hy
  intro xs
  have h := key xs [] List.nodup_nil
  simpa [onceS] using h
end Kx
namespace Kx
open PySem PySem.Spec PyProof.Rows L2 SX LamX
section
variable {X : Cx}
/-- tuple(list): the tuple is known to the object -/
theorem call_tuple_frz : CallR X (.type "tuple") (fun xs H Q => ∃ p ys, xs = [.ref p] ∧ ((SqL X.K H p ys ∧ ∀ l o, H l = none → o.dict = none → Q (.ref l) (upd H l (.frz o (.tup ys)))) ∨ (SqT X.K H p ys ∧ Q (.ref p) H))) := by
  intro pins s σ H xs us Q I r h
  obtain ⟨p, ys, rfl, h⟩ := h
  obtain ⟨u, rfl, rx⟩ := vals1 r
  cases rx
  rcases h with ⟨hq, q⟩ | ⟨hq, q⟩
  · obtain ⟨its, r', pl, hz⟩ := I.list hq
    have hlen := r'.length
    refine call_tuple_list pl.isList (fun h' kp => ?_) (by simp only [List.size_toArray] <;> omega)
    have I1 : Inv X pins σ H { s with heap := h' } := I.kept (t' := s.toks) kp
    have I2 : Inv X pins σ (upd H h'.objs.size (.frz { cls := .type "tuple", data := .seq its.toArray } (.tup ys))) { s with heap := h'.push { cls := .type "tuple", data := .seq its.toArray } } :=
      I1.laid (t' := s.toks) (fun b o e => Heap.get?_push_of_some _ e) (Nat.le_refl _) (show ObjOk X.prog X.w _ _ _ (.frz _ (.tup ys)) from ⟨Heap.get?_push_size _ rfl, hz, its, r', IsTup.new _ _⟩)
    exact ⟨.ref h'.objs.size, _, I2, rfl, q _ _ (I1.hok.fresh (Nat.le_refl _)) rfl⟩
  · obtain ⟨its, r', pl, hz⟩ := I.tuple hq
    exact call_tuple_same pl ⟨.ref p, H, I, rfl, q⟩
/-- a tuple that has no dict -/
def TupN (K : PySem.W.Frag) (H : Hp) (p : Addr) : Prop := (∃ o xs, H p = some (.frz o (.tup xs)) ∧ o.dict = none) ∨ ∃ o, K.lookup p = some o ∧ o.cls = .type "tuple" ∧ o.dict = none
theorem TupN.same {K : PySem.W.Frag} {H H' : Hp} {p : Addr} (e : Same H H') (h : TupN K H p) : TupN K H' p := by
  rcases h with ⟨o, xs, h1, h2⟩ | h
  · exact .inl ⟨o, xs, e _ _ h1, h2⟩
  · exact .inr h
theorem TupN.ext {K : PySem.W.Frag} {H H' : Hp} {p : Addr} (e : ExtN H H') (h : TupN K H p) : TupN K H' p := by
  rcases h with ⟨o, xs, h1, h2⟩ | h
  · exact .inl ⟨o, xs, ext_at e h1, h2⟩
  · exact .inr h
theorem tupN_ty {pins : List (Addr × Obj)} {σ : L2.St} {H : Hp} {s : Shared} {y : V} {v : Value} (I : Inv X pins σ H s) (r : RelV y v) (ty : ∃ p, y = .ref p ∧ TupN X.K H p) :
    s.TypeIs v "tuple" ∧ ∀ a, v = .ref a → ∃ ob, s.heap.get? a = some ob ∧ ob.dict = none := by
  obtain ⟨p, rfl, h⟩ := ty
  cases r
  have key : ∃ ob, s.heap.get? p = some ob ∧ ob.cls = .type "tuple" ∧ ob.dict = none := by
    rcases h with ⟨o, xs, e, d⟩ | ⟨o, e, c, d⟩
    · have h1 : ObjOk X.prog X.w H s.heap p (.frz o (.tup xs)) := I.hok p _ e
      obtain ⟨g, _, its, _, ⟨o2, g2, c2, _⟩⟩ := h1
      rw [g] at g2
      cases g2
      exact ⟨o, g, c2, d⟩
    · exact ⟨o, I.kIn _ _ e, c, d⟩
  obtain ⟨ob, g, c, d⟩ := key
  refine ⟨⟨ob, g, c⟩, fun b hb => ?_⟩
  cases hb
  exact ⟨ob, g, d⟩
def tTM (K : PySem.W.Frag) (r : V → List V → Hp → VK → Prop) (to : TE) (t : TA) : TE := fun σ H Q => to σ H fun x H1 => (∃ p, x = .ref p ∧ TupN K H1 p) ∧ t σ H1 fun xs H2 => r x xs H2 Q
variable {o e : Expr} {es : List Expr} {to : TE} {t : TA} {name : Str} {apos cpos : Pos} {id : String} {r : V → List V → Hp → VK → Prop}
/-- o.m(e, ..), o a tuple -/
theorem pe_tm (slot : Slot "tuple" name id) (hty : typeOf (.builtin id) = pure (.type "method_descriptor")) (hm : MtR X id r) (ho : PE X o to) (ha : PA X (e :: es) t)
    (hbase : attributeBase o name X.env (eval o X.env) = eval o X.env := by rfl)
    (hfew : ((backTo cpos (starEach (e :: es) X.env)).all (fun x => !x.1) && (backToKw cpos (keywordEach [] X.env)).all (fun x => x.1.isSome)
      && decide ((e :: es).length + ([] : List Keyword).length + (if ([] : List Keyword).isEmpty then 0 else 1) < 30)) = true := by rfl)
    (hline : (apos.endLine == cpos.line) = true := by rfl) (hs : starEach (e :: es) X.env = (false, eval e X.env) :: starEach es X.env := by rfl) (hplain : (backTo cpos (starEach es X.env)).any (·.1) = false := by rfl) :
    PE X (.Call (.Attribute o name apos) (e :: es) [] cpos) (tTM X.K r to t) := by
  refine ⟨fun pins s σ H Q I h => ?_⟩
  refine wpAny_Call_method_late hbase hfew hline rfl (thn (ho.run pins s σ H _ I h) fun v s1 ⟨x, H1, I1, r1, ty, q1⟩ => ?_)
  obtain ⟨h1, h2⟩ := tupN_ty I1 r1 ty
  refine ⟨"tuple", id, PySem.F.plainAttrs_tuple, slot, hty, h1, h2, ?_⟩
  have hA := ha.run cpos pins s1 σ H1 _ I1 q1
  rw [hs] at hA ⊢
  refine Calls.callWith_builtin (by show (false || (backTo cpos (starEach es X.env)).any (·.1)) = false; rw [hplain] <;> rfl) (Calls.evalArgs_plain ?_)
  exact thn hA fun us s2 ⟨vs, H2, I2, r2, q2⟩ => hm pins s2 σ H2 x vs v us Q I2 r1 r2 q2
end
section
variable {X : Cx} {CX : CXT} {k : Nat} {f C : Addr} {fd : FuncData} {ps ks : List Str} {sp : Sp} {E : XK} {o : Expr} {m : Str} {apos pos : Pos} {kws : List Keyword} {ta : TE} {tk : TA} {g : List Value → List Value → List Value} {gV : List V → List V → List V}
def tMethK (C : Addr) (m : Str) (sp : Sp) (gV : List V → List V → List V) (E : XK) (ta : TE) (tk : TA) : TE := fun σ H Q => ta σ H fun x H1 => ∃ a dx fs, x = .ref a ∧ H1 a = some (.ins C dx fs) ∧ fs.lookup m = none ∧ tk σ H1 fun zs H2 => sp (gV [x] zs) H2 Q E
/-- o.m(k = v) -/
theorem pe_methK0 {pl : Sem Bool} (he : PE X o ta) (c : Cls X.K C) (hm : Meth X.K C m f) (F : FnOk X.prog X.w X.K X.mg X.base CX k f fd ps sp) (hr : Room k X.A) (hb : KBinds X.K fd ps ks g gV) (hx : Passes CX X E) (hkw : PK X kws tk)
    (hall : (backToKw pos (keywordEach kws X.env)).all (·.1.isSome) = true := by rfl) (hks : (backToKw pos (keywordEach kws X.env)).filterMap (·.1) = ks := by rfl)
    (hpl : ((backTo pos (starEach [] X.env)).any (·.1) || (backToKw pos (keywordEach kws X.env)).any (·.1.isNone)) = false := by rfl)
    (ht : eval (.Call (.Attribute o m apos) [] kws pos) X.env = (do
      let ov ← eval o X.env
      standAt apos.atName
      let (f, first) ← holding [ov] (getMethod ov m pl)
      callWith pos f first (backTo pos (starEach [] X.env)) (backToKw pos (keywordEach kws X.env))) := by rfl) :
    PE X (.Call (.Attribute o m apos) [] kws pos) (tMethK C m sp gV E ta tk) := by
  refine ⟨fun pins s σ H Q I h => ?_⟩
  refine PySem.W.methodCall_KW (pl := pl) (thn (he.run pins s σ H _ I h) fun u s1 ⟨x, H1, I1, rx, a, dx, fs, ex, ea, l, q⟩ => ?_) ht
  subst ex
  obtain rfl : u = Value.ref a := rx
  refine getmeth_ok I1 ea c hm l ?_
  show wpAny _ _ (callWith pos (.ref f) [.ref a] (backTo pos (starEach [] X.env)) (backToKw pos (keywordEach kws X.env))) _ _ _
  refine PySem.W.callWith_KW0 (first := [.ref a]) (h₀ := X.base) I.ok.mod.kin hm.kp hall (thn (hkw.run pos pins s1 σ H1 _ I1 q) fun ws s2 ⟨zs, H2, I2, rz, q2⟩ => ⟨I2.kIn, ?_⟩) hpl
  rw [hks]
  exact run_fnk (us := [.ref a]) (vs := [.ref a]) F hr hb hx I2 (.cons rfl .nil) rz q2
end
/-- self, and one by name -/
def selfG {α : Type} (us ws : List α) : List α := match us, ws with | [s], [u] => [s, u] | _, _ => []
theorem kb_self {K : PySem.W.Frag} {x qual : Str} {st : Stmt} {f : Addr} {fd : FuncData} {a b : Str} (F : Fun K x qual st f fd)
    (h : ∀ (kV doc pm : Value) (an : Option Addr) (cdv ct : Value) (s u : Value), bindArgs (PySem.W.fnOf x qual (defArgs st) (defBody st) (defScope st) .none kV doc pm an cdv ct) ⟨[s], [(b, u)]⟩ = pure [(a, s), (b, u)]) :
    KBinds K fd [a, b] [b] selfG selfG := by
  obtain ⟨oc, od, kV, doc, pm, an, cdv, ct, osl, rfl, lk, hcd⟩ := F.ex
  refine ⟨fun s us ws X l => ?_, fun {vs us zs ws} r1 r2 => ?_⟩
  · match us, ws, l with
    | [s], [u], _ => exact .of_eq (h kV doc pm an cdv ct s u)
    | [], _, l => cases l
    | [_], [], l => cases l
    | [_], _ :: _ :: _, l => cases l
    | _ :: _ :: _, _, l => cases l
  · cases r1 with
    | nil => exact .nil
    | cons h1 r1 =>
      cases r1 with
      | cons _ _ => exact .nil
      | nil =>
        cases r2 with
        | nil => exact .nil
        | cons h2 r2 =>
          cases r2 with
          | nil => exact .cons h1 (.cons h2 .nil)
          | cons _ _ => exact .nil
/-- .. the same for the making of an instance -/
theorem kbn_self {K : PySem.W.Frag} {x qual : Str} {st : Stmt} {f : Addr} {fd : FuncData} {a b : Str} (F : Fun K x qual st f fd)
    (h : ∀ (kV doc pm : Value) (an : Option Addr) (cdv ct : Value) (s u : Value), bindArgs (PySem.W.fnOf x qual (defArgs st) (defBody st) (defScope st) .none kV doc pm an cdv ct) ⟨[s], [(b, u)]⟩ = pure [(a, s), (b, u)]) :
    KBn K fd [a, b] 1 [b] selfG selfG := by
  have kb := kb_self F h
  refine ⟨fun s us ws X l1 l2 => kb.to s us ws X ?_, kb.rel⟩
  match us, ws, l1, l2 with
  | [_], [_], _, _ => rfl
end Kx
namespace Kx
open PySem PySem.Spec PyProof.Rows L2 SX LamX
theorem sqT_put {K : PySem.W.Frag} {H : Hp} {p a C dx : Addr} {fs : List (Str × V)} {o : HO} {xs : List V} (hp : H p = some (.ins C dx fs)) (h : SqT K H a xs) : SqT K (upd H p o) a xs := by
  rcases h with (h | ⟨ob, h⟩) | h
  · exact .inl (.inl (by rw [upd_ne (ne_of_two h hp (fun z => by cases z))]; exact h))
  · exact .inl (.inr ⟨ob, by rw [upd_ne (ne_of_two h hp (fun z => by cases z))]; exact h⟩)
  · exact .inr h
theorem tupN_put {K : PySem.W.Frag} {H : Hp} {p a C dx : Addr} {fs : List (Str × V)} {o : HO} (hp : H p = some (.ins C dx fs)) (h : TupN K H a) : TupN K (upd H p o) a := by
  rcases h with ⟨ob, xs, h, d⟩ | h
  · exact .inl ⟨ob, xs, by rw [upd_ne (ne_of_two h hp (fun z => by cases z))]; exact h, d⟩
  · exact .inr h
theorem kitOne_no {K : PySem.W.Frag} {C : Addr} {n : String} (h1 : PySem.W.isClsIn K C = true) (h2 : PySem.W.typeIn K (.ref C) = some (.type "type")) (h3 : PySem.W.subIn K (.type n) (.ref C) = some false) : PySem.W.kitOne K (.type n) (.ref C) = some false := by
  unfold PySem.W.kitOne
  rw [if_neg (by simp)]
  unfold PySem.W.kitCls
  have h1' : (PySem.W.clsIn K C).isSome = true := h1
  dsimp only
  rw [h1', h2]
  exact h3
theorem kitOne_self {K : PySem.W.Frag} {C : Addr} : PySem.W.kitOne K (.ref C) (.ref C) = some true := by
  unfold PySem.W.kitOne
  simp
theorem kitOne_other {K : PySem.W.Frag} {C D : Addr} (h1 : PySem.W.isClsIn K C = true) (h2 : PySem.W.typeIn K (.ref C) = some (.type "type")) (h3 : PySem.W.subIn K (.ref D) (.ref C) = some false) (h4 : PySem.W.subIn K (.ref D) (.ref D) = some true) : PySem.W.kitOne K (.ref D) (.ref C) = some false := by
  have ne : D ≠ C := fun e => by
    rw [e] at h3 h4
    rw [h3] at h4
    cases h4
  unfold PySem.W.kitOne
  rw [if_neg (by simpa using ne)]
  unfold PySem.W.kitCls
  have h1' : (PySem.W.clsIn K C).isSome = true := h1
  dsimp only
  rw [h1', h2]
  exact h3
theorem sub_non {K : PySem.W.Frag} {C : Addr} : PySem.W.subIn K (.type "NoneType") (.ref C) = some false := HN.sub_none
theorem eqv_text (a b : List Nat) : PyData.eqv (.str (S a)) (.str (S b)) = decide (a = b) := by
  show (S a == S b) = _
  by_cases h : a = b
  · rw [h, decide_eq_true rfl]
    simp
  · rw [decide_eq_false h, beq_eq_false_iff_ne]
    intro e
    have := congrArg (fun z : Str => z.cps.toList) e
    exact h (by simpa [S] using this)
theorem eqv_texts (xs ys : List (List Nat)) : PyData.eqv (.tuple (xs.map fun l => PyData.str (S l))) (.tuple (ys.map fun l => PyData.str (S l))) = decide (xs = ys) := eqvAll_map eqv_text xs ys
theorem pl_text {l : List Nat} (h : cdC l) : Pl 0 (.str (S l)) := ⟨by
  show (S l).cps.all (· < 0x110000) = true
  have e : (S l).cps.all (· < 0x110000) = l.all (fun c => decide (c < 1114112)) := by simp [S]
  rw [e]
  exact h, Nat.le_refl _⟩
theorem low_cd {l : List Nat} (h : l.all low = true) : cdC l := by
  unfold cdC
  rw [List.all_eq_true] at h ⊢
  intro c hc
  have := low_lt (h c hc)
  exact decide_eq_true (by omega)
theorem inV_texts {v : V} (ws : List (List Nat)) : inV v (ws.map fun l => V.str (S l)) = true ↔ ∃ w ∈ ws, v = .str (S w) := by
  unfold inV
  rw [List.any_map, List.any_eq_true]
  constructor
  · rintro ⟨w, hw, h⟩
    refine ⟨w, hw, ?_⟩
    cases v with
    | str x =>
      have h' : (S w == x) = true := h
      rw [beq_iff_eq.mp h']
    | _ => cases h
  · rintro ⟨w, hw, rfl⟩
    exact ⟨w, hw, by show (S w == S w) = true; simp⟩
end Kx
namespace Kx
open PySem PySem.Spec PyProof.Rows L2 SX LamX
section
variable {X : Cx}
theorem rev_pick (z : Str) : ((Builtin.Str.strSliceIndices none none (-1) z.length).filterMap (z.cps[·]?)).toArray = z.cps.toList.reverse.toArray := by
  have e : Builtin.Str.strSliceIndices none none (-1) z.length = sliceRange ((z.cps.size : Int) - 1) (-1) (-1) := rfl
  rw [e, PySem.W.krv_sliceRange, PySem.W.krv_range, List.filterMap_reverse, PySem.W.krv_all]
/-- x[::-1], a text -/
def tRevS (te : TE) : TE := fun σ H Q => te σ H fun x H1 => ∃ l : List Nat, x = .str (S l) ∧ l.length ≤ 1000000 ∧ Q (.str (S l.reverse)) H1
theorem pe_revS {e : Expr} {te : TE} {k : Nat} {p1 p2 p3 pos : Pos} (he : PE X e te) : PE X (.Subscript e (.Slice none none (some (.UnaryOp .USub (.Constant (.int 1) k p1) p2)) p3) pos) (tRevS te) := by
  refine ⟨fun pins s σ H Q I h => ?_⟩
  refine Subscript_ (thn (he.run pins s σ H _ I h) fun v s1 ⟨x, H1, I1, r1, q1⟩ => ?_)
  obtain ⟨z, ex, hz, q⟩ := q1
  subst ex
  obtain ⟨t, rfl⟩ := r1
  have hst : PO X (some (.UnaryOp .USub (.Constant (.int 1) k p1) p2)) (tPart (tUn (rU fun i => .int (-i)) (tC (.int 1)))) := po_some (pe_un un_neg pe_int)
  refine wpAny_Slice (thn (po_none.run pins s1 σ H1 (fun o H2 => o = none ∧ H2 = H1) I1 ⟨rfl, rfl⟩) fun vl s2 ⟨l, H2, I2, pl, el, e2⟩ => ?_)
  subst el e2
  refine thn (po_none.run pins s2 σ H2 (fun o H3 => o = none ∧ H3 = H2) I2 ⟨rfl, rfl⟩) fun vu s3 ⟨u, H3, I3, pu, eu, e3⟩ => ?_
  subst eu e3
  refine thn (hst.run pins s3 σ H3 (fun o H4 => o = some (-1) ∧ H4 = H3) I3 ⟨1, rfl, -1, rfl, rfl, rfl⟩) fun vs s4 ⟨o, H4, I4, ps, eo, e4⟩ => ?_
  subst eo e4
  have I5 : Inv X pins σ H4 { s4 with heap := s4.heap.push { cls := .type "slice", data := .fields #[vl, vu, vs] } } := I4.kept (t' := s4.toks) fun b ob q => Heap.get?_push_of_some _ q
  obtain ⟨l', rfl, e1⟩ := IsPart.raw pl
  obtain ⟨u', rfl, e2⟩ := IsPart.raw pu
  obtain ⟨w', rfl, e3⟩ := IsPart.raw ps
  show wpAny (model X.prog X.w) X.A (subscriptTail e (.Slice none none (some (.UnaryOp .USub (.Constant (.int 1) k p1) p2)) p3) (.str (S z) t) (.ref s4.heap.objs.size)) (EP X pins σ Q) X.xe _
  refine tail_any (ops := [.str (S z) t, .ref s4.heap.objs.size]) (typeIs_str _ _ _) (PySem.F.slot_str_getitem.lookup) ?_ (by with_unfolding_all rfl)
  refine wpAny_getItem_str_slice (l := l') (u := u') (st := w') ⟨_, Heap.get?_push_size _ rfl, rfl, rfl⟩ (by rw [e3]; decide) ?_
  have hm : l'.map (·.1) = none := e1
  have hu : u'.map (·.1) = none := e2
  have made : sliceMade (S z) t l' u' w' = Made.str (S z.reverse) := by
    unfold sliceMade slicePicked
    rw [hm, hu, e3]
    show (if ((-1 : Int) == 1 && _) = true then _ else _) = _
    rw [if_neg (by simp)]
    have e0 : (S z).cps.toList = z := by simp [S]
    have e5 := rev_pick (S z)
    rw [e0] at e5
    exact congrArg (fun a => Made.str ⟨a⟩) e5
  rw [made]
  exact ⟨by rw [S_len, List.length_reverse]; exact Nat.le_trans hz (by decide), .str _, _, I5.tok _, ⟨_, rfl⟩, q⟩
end
end Kx
namespace Kx
open PySem PySem.Spec PyProof.Rows L2 SX LamX
theorem go_set {te : TE} {u : TS} {D : Ends} {σ : L2.St} {H : Hp} {i : Nat} (h : te σ H fun x H1 => u D (σ.set i (some x)) H1) : tSeq (tAsg te (gName i)) u D σ H := h
theorem go_next {D : Ends} {σ : L2.St} {H : Hp} (h : D.nx σ H) : tNext D σ H := h
theorem go_and2 {ta tb : TT} {σ : L2.St} {H : Hp} {Q : Bool → Hp → Prop} (h : ta σ H fun b H1 => if b = true then tb σ H1 Q else Q false H1) : tAnd ta tb σ H Q := h
end Kx
namespace Kx
open PySem PySem.Spec PyProof.Rows L2 SX LamX
/-- a test that fails -/
theorem if_same {c : TT} {t u : TS} {D : Ends} {σ : L2.St} {H : Hp} (hc : ∀ Q : Bool → Hp → Prop, (∀ H', Same H H' → Q false H') → c σ H Q) (h : ∀ H', Same H H' → u D σ H') : tIfS c t u D σ H := go_if (hc _ fun H' e => iteF (A := _) (h H' e))
theorem nodup_rev {α : Type} {l : List α} (h : l.Nodup) : l.reverse.Nodup := by
  unfold List.Nodup at h ⊢
  rw [List.pairwise_reverse]
  exact h.imp fun h e => h e.symm
end Kx
namespace Kx
open PySem PySem.Spec PyProof.Rows L2 SX LamX
open PySem.W in
/-- the goal that the head leaves, of a law in which two defs make lambdas -/
theorem walkL2 {l : OpenLaw} {n k : Nat} {q : Program} {loose : List Str} {XP : (Str → Option Value) → Heap → Prop} {YP : World → Heap → Prop} {d : DefRec} {K : Params → Frag} {x y z : Str} (sp : Frag → Addr → Addr → Sp)
    (hn : l.most = some n) (hz : n ≤ sizeLine) (h0 : d.params.defaults = []) (hr : Room k callerA) (hY : ∀ (w : World) (h : Heap), YP w h → (K w.params).In h)
    (hc : ∀ p, ((∃ r, (recsOf q).find? (fun r => r.name == y) = some r) ∧ ∃ r, (recsOf q).find? (fun r => r.name == z) = some r) ∧ ∃ c Pt c2 Pu, (tabIn (K p) y = some (c, Pt) ∧ (K p).lookup Pt = none) ∧ (tabIn (K p) z = some (c2, Pu) ∧ (K p).lookup Pu = none) ∧ Pt ≠ Pu)
    (F : ∀ (w : World) (mg : Str → Option Value) (fa : Addr) (h : Heap), (K w.params).In h → h.Ns mainGlobals mg → mg d.name = some (.ref fa) → ∃ fd : FuncData,
      (∀ (t : Shared) (u : Value), BindsTo t fd ⟨[u], []⟩ [(x, u)]) ∧ ∀ (c Pt c2 Pu : Addr), tabIn (K w.params) y = some (c, Pt) → tabIn (K w.params) z = some (c2, Pu) → Pt ≠ Pu → ∀ base : Heap, (K w.params).In base → base.Ns mainGlobals mg → TabB base mg c Pt → TabB base mg c2 Pu → FnG l.prog w (K w.params) mg base CX0 k fa fd [x] (sp (K w.params) Pt Pu))
    (pr : ∀ (K : Frag) (Pt Pu : Addr) (H : Hp) (a : Addr) (ns : List Int), ns.length ≤ n → H Pt = some (.tbl #[]) → H Pu = some (.tbl #[]) → SqL K H a (ns.map V.int) → sp K Pt Pu [.ref a] H (fun v _ => v = .bl true) fun _ _ _ => False) :
    WalkO q loose XP YP l.row.toRowW d [] (fun f us => PySem.call f us) := by
  refine walkT (x := x) (K := K) (cs := fun p => [(y, ((tabIn (K p) y).getD (0, 0))), (z, ((tabIn (K p) z).getD (0, 0)))]) (sp := fun K => sp K ((tabIn K y).getD (0, 0)).2 ((tabIn K z).getD (0, 0)).2) hn hz h0 hr hY (fun p e he => ?_) (fun w mg fa h KX G hmg => ?_) (fun p H a ns hl ht hS _ => pr _ _ _ H a ns hl (ht _ List.mem_cons_self) (ht _ (List.mem_cons_of_mem _ List.mem_cons_self)) hS)
  · obtain ⟨⟨r1, r2⟩, c, Pt, c2, Pu, ⟨h2, h3⟩, ⟨h4, h5⟩, _⟩ := hc p
    rcases List.mem_cons.mp he with rfl | he
    · refine ⟨r1, ?_, ?_⟩
      · rw [h2]
        rfl
      · rw [h2]
        exact h3
    · cases List.mem_singleton.mp he
      refine ⟨r2, ?_, ?_⟩
      · rw [h4]
        rfl
      · rw [h4]
        exact h5
  · obtain ⟨fd, hb, hF⟩ := F w mg fa h KX G hmg
    obtain ⟨_, c, Pt, c2, Pu, ⟨h2, _⟩, ⟨h4, _⟩, hne⟩ := hc w.params
    refine ⟨fd, hb, fun base hk hg ht => ?_⟩
    have hT := ht _ List.mem_cons_self
    have hU := ht _ (List.mem_cons_of_mem _ List.mem_cons_self)
    simp only [h2, h4, Option.getD_some] at hT hU ⊢
    exact hF c Pt c2 Pu h2 h4 hne base hk hg hT hU
theorem tab_at {K : PySem.W.Frag} {x : Str} {f c Pt : Addr} {oc oc2 : Value} {od od2 : Option Addr} {osl osl2 : Array (Option Value)} {fd : FuncData} {vs : Array Value} (a : PySem.W.nsIn K mainGlobals x = some (some (.ref f)))
    (l : K.lookup f = some ⟨oc, od, .func fd, osl⟩) (e : fd.code = .ref c) (l2 : K.lookup c = some ⟨oc2, od2, .fields vs, osl2⟩) (v : (vs[11]? : Option Value) = some (.ref Pt)) (n : K.lookup Pt = none) :
    PySem.W.tabIn K x = some (c, Pt) ∧ K.lookup Pt = none := by
  refine ⟨?_, n⟩
  unfold PySem.W.tabIn
  rw [a]
  simp only [l, e, l2, v]
end Kx
namespace Kx
open PySem PySem.Spec PyProof.Rows L2 SX LamX
section
variable {X : Cx} {K : PySem.W.Frag}
theorem inK_op_in_seq (e : X.K = K) : OpR X (compareOp .In) (rIn K false) := e ▸ op_in_seq
theorem inK_op_notIn_seq (e : X.K = K) : OpR X (compareOp .NotIn) (rIn K true) := e ▸ op_notIn_seq
theorem inK_call_tuple_frz (e : X.K = K) : CallR X (.type "tuple") (fun xs H Q => ∃ p ys, xs = [.ref p] ∧ ((SqL K H p ys ∧ ∀ l o, H l = none → o.dict = none → Q (.ref l) (upd H l (.frz o (.tup ys)))) ∨ (SqT K H p ys ∧ Q (.ref p) H))) := e ▸ call_tuple_frz
end
theorem sub_int {K : PySem.W.Frag} {C : Addr} : PySem.W.subIn K (.type "int") (.ref C) = some false := by
  have e : fastBuiltinMro "int" = some [.type "int", .type "object"] := by decide +kernel
  show (fastBuiltinMro "int").map (·.contains (.ref C)) = some false
  rw [e]
  first
    | rfl
    | simp
end Kx
namespace PySem
open Sem (wp)
open AutoSeq1 (wpAny_loadPart')
theorem meets_enumerate_newT (l : Addr) (items : Array Value) (n : Nat) (dct : Option Addr) (sl : Array (Option Value)) :
    Meets (Builtin.«enumerate.__new__» ⟨[.type "enumerate", .ref l], []⟩) (fun _ R s => s.heap.get? l = some { cls := .type "tuple", dict := dct, data := .seq items n, slots := sl } ∧
      R (.ok (.ret (.ref (s.heap.push { cls := .type "tuple_iterator", data := .fields #[.ref l, .int 0 0] }).objs.size)))
        { s with heap := (s.heap.push { cls := .type "tuple_iterator", data := .fields #[.ref l, .int 0 0] }).push { cls := .type "enumerate", data := .fields #[.none, .bool false, .ref s.heap.objs.size, rawInt 0, .none, .none] } }) :=
  .of_wp fun prog w A R s h => by
    obtain ⟨hp, g, d, tk, os⟩ := s
    obtain ⟨hl, h⟩ := h
    have hsub := sub_enumerate
    have hL : Heap.IsTuple (Shared.heap ⟨hp, g, d, tk, os⟩) l items := ⟨_, hl, rfl, n, rfl⟩
    wp_walk using wpAny_loadPart' hl
    refine wpAny_stack_any fun st => wpAny_pure ?_
    split
    · rename_i c _ _ _ _ _
      cases (c == Value.type "enumerate")
      · wp_walk using wpAny_loadPart' hl, wpAny_pyIter_tuple hL
        exact ⟨_, rfl, h⟩
      · wp_walk using wpAny_loadPart' hl, wpAny_pyIter_tuple hL
        exact ⟨_, rfl, h⟩
    · wp_walk using wpAny_loadPart' hl, wpAny_pyIter_tuple hL
      exact ⟨_, rfl, h⟩
section
variable {prog : Program} {w : World} {A : Around} {E : Value → Shared → Prop} {s : Shared}
theorem call_enumerate_tuple {l : Addr} {items : Array Value} {Q : Value → Shared → Prop} (hL : s.heap.IsTuple l items)
    (h : ∀ h', IsEnum h' (s.heap.objs.size + 1) s.heap.objs.size 0 .none → h'.IsTupleIter s.heap.objs.size l 0 → h'.objs.size = s.heap.objs.size + 2 →
      (∀ b o, s.heap.get? b = some o → h'.get? b = some o) → Q (.ref (s.heap.objs.size + 1)) { s with heap := h' }) :
    wpAny (model prog w) A (call (.type "enumerate") [.ref l]) Q E s := by
  obtain ⟨⟨c, dct, dt, sl⟩, hl, hc, n, hd⟩ := hL
  replace hc : c = .type "tuple" := hc
  replace hd : dt = .seq items n := hd
  subst hc hd
  refine callType_new F.called_enumerate (by decide) (F.typeCall_enumerate_1 _) (F.newCall_enumerate_1 _) (fun obj => F.args_object_init_2 obj _) F.entry_enumerate_new
    (meets_enumerate_newT l items n dct sl) ⟨hl, ?_⟩
  have hz : (s.heap.push { cls := .type "tuple_iterator", data := .fields #[.ref l, .int 0 0] }).objs.size = s.heap.objs.size + 1 := Heap.size_push ..
  show _ ∧ _
  rw [hz]
  have he : IsEnum ((s.heap.push { cls := .type "tuple_iterator", data := .fields #[.ref l, .int 0 0] }).push
      { cls := .type "enumerate", data := .fields #[.none, .bool false, .ref s.heap.objs.size, rawInt 0, .none, .none] }) (s.heap.objs.size + 1) s.heap.objs.size 0 .none := by
    have := Heap.get?_push_size (s.heap.push { cls := .type "tuple_iterator", data := .fields #[.ref l, .int 0 0] })
      (o := { cls := .type "enumerate", data := .fields #[.none, .bool false, .ref s.heap.objs.size, rawInt 0, .none, .none] }) rfl
    rw [hz] at this; exact this
  refine ⟨⟨_, he, rfl⟩, h _ he ⟨_, Heap.get?_push_of_some _ (Heap.get?_push_size _ rfl), rfl, rfl⟩ (by rw [Heap.size_push, hz]) fun b o x => Heap.get?_push_of_some _ (Heap.get?_push_of_some _ x)⟩
end
end PySem
namespace Kx
open PySem PySem.Spec PyProof.Rows L2 SX LamX
/-! ### enumerate(tuple) -/
def IteT (K : PySem.W.Frag) (a : Addr) : It :=
  ⟨fun i H => ∃ (xs : List V) (x : V), SqT K H a xs ∧ xs[i]? = some x, fun i H v H' => ∃ T x, v = .ref T ∧ H T = none ∧ H' = upd H T (.tup [.int (i : Nat), x]) ∧ ∀ xs, SqT K H a xs → xs[i]? = some x, fun i H => ∃ xs : List V, SqT K H a xs ∧ i = xs.length⟩
theorem turn_enumT {P : Program} {w : World} {K : PySem.W.Frag} {elts : List Expr} {kk : Nat} {tpos : Pos} (a e it : Addr) :
    Turn P w K (.Tuple elts kk tpos) (IteT K a) [e, it] e (fun i h => (∃ old, IsEnum h e it ((i : Nat) : Int) old) ∧ h.IsTupleIter it a i ∧ e ≠ it ∧ a ≠ it ∧ a ≠ e) where
  mem := by simp
  obj := fun i h st b hb => by
    obtain ⟨⟨old, he⟩, ⟨o, ho, hc, hd⟩, _⟩ := st
    rcases (show b = e ∨ b = it by simpa using hb) with z | z
    · rw [z]
      exact ⟨_, he, fun v q => nomatch q⟩
    · rw [z]
      exact ⟨o, ho, fun v q => by rw [hd] at q; cases q⟩
  keep := fun i h h' st k => by
    obtain ⟨⟨old, he⟩, ⟨o, ho, r⟩, hne⟩ := st
    exact ⟨⟨old, k e (by simp) _ he⟩, ⟨o, k it (by simp) _ ho, r⟩, hne⟩
  item := by
    intro X hP hw hK hc i pins s σ H E I hf st hg
    subst hP hw hK
    obtain ⟨⟨old, he⟩, hit, hne, n1, n2⟩ := st
    obtain ⟨xs, x, hq, hx⟩ := hg
    obtain ⟨its, rv, p, hz⟩ := I.tuple hq
    obtain ⟨u, hu, ru⟩ := rv.get hx
    have el : e < s.heap.objs.size := Heap.lt_size he
    have il : it < s.heap.objs.size := by
      obtain ⟨_, q, _⟩ := hit
      exact Heap.lt_size q
    have D := Draws.tuple (prog := X.prog) (w := X.w) (A := X.A.in1) (I.ok.hd hc) it a n1 its.toArray
    have hlt : i < its.toArray.size := by
      have := (List.getElem?_eq_some_iff.mp hu).1
      simpa using this
    refine wpAny_pyNext_enum_itemD D he ⟨hit, p⟩ hlt hne (by simp [hne, Ne.symm n2]) fun u' h' tk hu' ho hit' hT hz' hk => ?_
    obtain rfl : u = u' := by
      have h1 : its.toArray[i]? = some u := by simpa using hu
      rw [h1] at hu'
      exact Option.some.inj hu'
    refine ⟨_, rfl, wpAny_letOwnedTupleGo_enum (s := { s with heap := h', toks := tk + 1 }) ho fun h2 he' sb => ?_⟩
    have T2 := (sb.2 _ (Nat.ne_of_gt el)).trans hT
    have new : ObjOk X.prog X.w (upd H s.heap.objs.size (.tup [.int (i : Nat), x])) h2 s.heap.objs.size (.tup [.int (i : Nat), x]) :=
      ⟨by show 2 ≤ sizeLine; decide, [.int i tk, u], .cons ⟨_, rfl⟩ (.cons ru .nil), ⟨_, T2, rfl, _, rfl⟩⟩
    have I1 : Inv X pins σ (upd H s.heap.objs.size (.tup [.int (i : Nat), x])) { s with heap := h2, toks := tk + 1 } :=
      I.turnedNew (ch := [e, it]) (fun b ob hb q => (sb.2 b (fun z => hb (by simp [z]))).trans (hk b ob (fun z => hb (by simp [z])) (fun z => hb (by simp [z])) q)) hf (Nat.le_refl _) new
    refine ⟨.ref s.heap.objs.size, _, I1, rfl, ⟨_, x, rfl, I.hok.fresh (Nat.le_refl _), rfl, fun ys hy => by rw [I.tuple_inj hy hq]; exact hx⟩, ⟨⟨u, ?_⟩, ?_, hne, n1, n2⟩, fun b hb => ?_⟩
    · rw [show ((i + 1 : Nat) : Int) = (i : Int) + 1 by omega]
      exact he'
    · obtain ⟨⟨o, ho2, r⟩, _⟩ := hit'
      exact ⟨o, (sb.2 it (Ne.symm hne)).trans ho2, r⟩
    · have hb' : b < s.heap.objs.size := by
        rcases (show b = e ∨ b = it by simpa using hb) with z | z
        · rw [z]
          exact el
        · rw [z]
          exact il
      rw [upd_ne (Nat.ne_of_lt hb')]
      exact (hf b hb).1
  done := by
    intro X hP hw hK hc i pins s σ H E I hf st hg
    subst hP hw hK
    obtain ⟨⟨old, he⟩, hit, hne, n1, n2⟩ := st
    obtain ⟨xs, hq, hx⟩ := hg
    obtain ⟨its, rv, p, hz⟩ := I.tuple hq
    obtain ⟨f0, f1, f2, f3, f4, f5⟩ := hf it (by simp)
    have hl : i = its.toArray.size := by
      rw [hx, rv.length]
      simp
    have D := Draws.tuple (prog := X.prog) (w := X.w) (A := X.A.in1) (I.ok.hd hc) it a n1 its.toArray
    rw [hl] at hit he
    exact wpAny_pyNext_enum_endD D he ⟨hit, p⟩ fun h' eb => ⟨rfl, I.turned (t' := s.toks) (fun b o hb q => eb b o hb q) f0 f1 f3 f4 f5⟩
  self := fun A i s Q E st h => by
    obtain ⟨⟨_, he⟩, _⟩ := st
    exact wpAny_pyIter_enum he h
def iEnumT (K : PySem.W.Frag) (ta : TA) : TI := fun σ H R => ta σ H fun vs H1 => ∃ a xs, vs = [.ref a] ∧ SqT K H1 a xs ∧ R (IteT K a) H1
theorem pi_enumT {X : Cx} {e : Expr} {ta : TA} {p pos tpos : Pos} {elts : List Expr} {kk : Nat} (hg : Gl X "enumerate") (hm : X.mg "enumerate" = none) (ha : PA X [e] ta) (hs : starEach [e] X.env = [(false, eval e X.env)] := by rfl) :
    PI X (.Tuple elts kk tpos) (.Call (.Name "enumerate" p) [e] [] pos) (iEnumT X.K ta) := by
  refine ⟨fun pins s σ H R I h => ?_⟩
  refine Call_ (ld_blt I hg hm boot_enumerate (PyProof.Rows.callWith_type1 (thn (ha.run pos pins s σ H _ I h) fun us s1 hh => ?_) hs rfl))
  obtain ⟨vs, H1, I1, r1, a, xs, rfl, hq, q⟩ := hh
  obtain ⟨u, rfl, rx⟩ := vals1 r1
  cases rx
  obtain ⟨its, rv, pp, hz⟩ := I1.tuple hq
  have hla : a < s1.heap.objs.size := by
    obtain ⟨_, q, _⟩ := pp
    exact Heap.lt_size q
  refine call_enumerate_tuple pp fun h' he hit hsz hk => wpAny_pyIter_enum he ?_
  have I2 : Inv X pins σ H1 { s1 with heap := h' } := I1.kept (t' := s1.toks) hk
  refine ⟨s1.heap.objs.size + 1, [s1.heap.objs.size + 1, s1.heap.objs.size], _, _, H1, rfl, I2, turn_enumT a (s1.heap.objs.size + 1) s1.heap.objs.size, ⟨⟨.none, he⟩, hit, Nat.succ_ne_self _, Nat.ne_of_lt hla, Nat.ne_of_lt (Nat.lt_succ_of_lt hla)⟩, fun b hb => ?_, q⟩
  have hle : s1.heap.objs.size ≤ b := by
    rcases (show b = s1.heap.objs.size + 1 ∨ b = s1.heap.objs.size by simpa using hb) with z | z
    · rw [z]
      exact Nat.le_add_right _ _
    · rw [z]
      exact Nat.le_refl _
  exact I1.fpOk hle (I1.hok.fresh hle)
theorem walk_enumT {K : PySem.W.Frag} {a : Addr} {xs : List V} : Walk (IteT K a) xs.length (fun H => SqT K H a xs) (fun i H v H' => ∃ T x, v = .ref T ∧ H T = none ∧ H' = upd H T (.tup [.int (i : Nat), x]) ∧ xs[i]? = some x) :=
  ⟨fun i _ hi q => ⟨xs, xs[i], q, by simp [hi]⟩, fun _ q => ⟨xs, q, rfl⟩, fun _ _ _ _ _ q y => by
    obtain ⟨T, x, h1, h2, h3, h4⟩ := y
    exact ⟨T, x, h1, h2, h3, h4 xs q⟩⟩
section
variable {J : It} {n : Nat} {G : Hp → Prop} {Y : Nat → Hp → V → Hp → Prop}
/-- a dict comprehension over whatever walks: Pv by the turn and the heap (the new dict at D within) -/
theorem dc_it (w : Walk J n G Y) {g : TG} {tt : TT} {tk tv : TE} {vs : List Nat} {σ : L2.St} {H1 : Hp} {D : Addr} {Qd : Hp → Prop} (Pv : Nat → Hp → Prop) (h0 : Pv 0 (upd H1 D (.dK []))) (hG : ∀ i H, i ≤ n → Pv i H → G H)
    (hs : ∀ i x H H', i < n → Pv i H → Y i H x H' → g x (wipe σ vs) H' fun σ2 H2 => wipe σ2 vs = wipe σ vs ∧ tt σ2 H2 fun b H3 =>
      if b = true then tk σ2 H3 fun y H4 => tv σ2 H4 fun z H5 => ∃ kvs k, y = kV k ∧ H5 D = some (.dK kvs) ∧ kvs.length < sizeLine ∧ Pv (i + 1) (upd H5 D (.dK (putK kvs k z))) else Pv (i + 1) H3) (hd : ∀ H, Pv n H → Qd H) :
    ∃ W : Nat → Nat → Hp → Prop, (∃ m, W 0 m (upd H1 D (.dK []))) ∧ ∀ i m H, W i m H →
      (J.stop i H ∧ Qd H) ∨ (J.go i H ∧ ∃ Nx : Hp → Prop, (∀ H', Nx H' → ∃ m', m' < m ∧ W (i + 1) m' H') ∧ ∀ x H', J.yld i H x H' → g x (wipe σ vs) H' fun σ2 H2 => wipe σ2 vs = wipe σ vs ∧ tt σ2 H2 fun b H3 =>
        if b = true then tk σ2 H3 fun y H4 => tv σ2 H4 fun z H5 => ∃ kvs k, y = kV k ∧ H5 D = some (.dK kvs) ∧ kvs.length < sizeLine ∧ Nx (upd H5 D (.dK (putK kvs k z))) else Nx H3) := by
  refine ⟨fun i m H => m = n - i ∧ i ≤ n ∧ Pv i H, ⟨n, by simp, Nat.zero_le _, h0⟩, ?_⟩
  rintro i m H ⟨rfl, hi, p⟩
  have q := hG i H hi p
  by_cases hlt : i < n
  · refine .inr ⟨w.goes i H hlt q, Pv (i + 1), fun H' p' => ⟨n - (i + 1), by omega, rfl, hlt, p'⟩, fun x H' y => hs i x H H' hlt p (w.yields i H x H' hlt q y)⟩
  · have e : i = n := by omega
    subst e
    exact .inl ⟨w.stops H q, hd H p⟩
end
theorem inK_pe_fld {X : Cx} {K : PySem.W.Frag} {e : Expr} {ta : TE} {f : Str} {pos : Pos} (q : X.K = K) (he : PE X e ta) (hb : attributeBase e f X.env (eval e X.env) = eval e X.env) : PE X (.Attribute e f pos) (tFld K ta f) := q ▸ pe_fld he hb
end Kx
namespace Kx
open PySem PySem.Spec PyProof.Rows L2 SX LamX
/-- a method called by two names, the other way round -/
def selfSwapG {α : Type} (us ws : List α) : List α := match us, ws with | [s], [v, u] => [s, u, v] | _, _ => []
theorem kb_selfSwap {K : PySem.W.Frag} {x qual : Str} {st : Stmt} {f : Addr} {fd : FuncData} {a b c : Str} (F : Fun K x qual st f fd)
    (h : ∀ (kV doc pm : Value) (an : Option Addr) (cdv ct : Value) (s u v : Value), bindArgs (PySem.W.fnOf x qual (defArgs st) (defBody st) (defScope st) .none kV doc pm an cdv ct) ⟨[s], [(c, v), (b, u)]⟩ = pure [(a, s), (b, u), (c, v)]) :
    KBinds K fd [a, b, c] [c, b] selfSwapG selfSwapG := by
  obtain ⟨oc, od, kV, doc, pm, an, cdv, ct, osl, rfl, lk, hcd⟩ := F.ex
  refine ⟨fun s us ws X l => ?_, fun {vs us zs ws} r1 r2 => ?_⟩
  · match us, ws, l with
    | [s], [v, u], _ => exact .of_eq (h kV doc pm an cdv ct s u v)
    | [], _, l => cases l
    | [_], [], l => cases l
    | [_], [_], l => cases l
    | [_], _ :: _ :: _ :: _, l => cases l
    | _ :: _ :: _, _, l => cases l
  · cases r1 with
    | nil => exact .nil
    | cons h1 r1 =>
      cases r1 with
      | cons _ _ => exact .nil
      | nil =>
        cases r2 with
        | nil => exact .nil
        | cons h2 r2 =>
          cases r2 with
          | nil => exact .nil
          | cons h3 r2 =>
            cases r2 with
            | nil => exact .cons h1 (.cons h3 (.cons h2 .nil))
            | cons _ _ => exact .nil
theorem kbn_selfSwap {K : PySem.W.Frag} {x qual : Str} {st : Stmt} {f : Addr} {fd : FuncData} {a b c : Str} (F : Fun K x qual st f fd)
    (h : ∀ (kV doc pm : Value) (an : Option Addr) (cdv ct : Value) (s u v : Value), bindArgs (PySem.W.fnOf x qual (defArgs st) (defBody st) (defScope st) .none kV doc pm an cdv ct) ⟨[s], [(c, v), (b, u)]⟩ = pure [(a, s), (b, u), (c, v)]) :
    KBn K fd [a, b, c] 1 [c, b] selfSwapG selfSwapG := by
  have kb := kb_selfSwap F h
  refine ⟨fun s us ws X l1 l2 => kb.to s us ws X ?_, kb.rel⟩
  match us, ws, l1, l2 with
  | [_], [_, _], _, _ => rfl
end Kx
namespace Kx
open PySem PySem.Spec PyProof.Rows L2 SX LamX
/-! ### texts joined by blanks -/
theorem itemsA_app : ∀ (x acc r : List Nat), 32 ∉ x → itemsA acc (x ++ r) = itemsA (acc ++ x) r
  | [], acc, r, _ => by rw [List.append_nil, List.nil_append]
  | c :: x, acc, r, h => by
    have hc : c ≠ 32 := fun e => h (by rw [e]; exact List.mem_cons_self)
    show (if c = 32 then acc :: itemsA [] (x ++ r) else itemsA (acc ++ [c]) (x ++ r)) = _
    rw [if_neg hc, itemsA_app x (acc ++ [c]) r (fun m => h (List.mem_cons_of_mem _ m)), List.append_assoc]
    rfl
theorem itemsA_one {x acc : List Nat} (h : 32 ∉ x) : itemsA acc x = [acc ++ x] := by
  have := itemsA_app x acc [] h
  rw [List.append_nil] at this
  rw [this]
  rfl
theorem items_join : ∀ (its : List (List Nat)), its ≠ [] → (∀ it ∈ its, 32 ∉ it) → itemsA [] (TL.joinL [32] its) = its
  | [], h, _ => absurd rfl h
  | [x], _, h => by
    show itemsA [] x = [x]
    rw [itemsA_one (h x (List.mem_singleton.mpr rfl))]
    rfl
  | x :: y :: r, _, h => by
    show itemsA [] (x ++ (32 :: TL.joinL [32] (y :: r))) = _
    rw [itemsA_app x [] _ (h x List.mem_cons_self)]
    show (if (32 : Nat) = 32 then ([] ++ x) :: itemsA [] (TL.joinL [32] (y :: r)) else _) = _
    rw [if_pos rfl, items_join (y :: r) (List.cons_ne_nil _ _) (fun it m => h it (List.mem_cons_of_mem _ m))]
    rfl
theorem joinL_all {p : Nat → Bool} (h32 : p 32 = true) : ∀ (its : List (List Nat)), (∀ it ∈ its, it.all p = true) → (TL.joinL [32] its).all p = true
  | [], _ => rfl
  | [x], h => by
    show x.all p = true
    exact h x (List.mem_singleton.mpr rfl)
  | x :: y :: r, h => by
    show (x ++ (32 :: TL.joinL [32] (y :: r))).all p = true
    rw [List.all_append, List.all_cons, h32, joinL_all h32 (y :: r) (fun it m => h it (List.mem_cons_of_mem _ m)), h x List.mem_cons_self]
    rfl
theorem joinL_len {k : Nat} : ∀ (its : List (List Nat)), (∀ it ∈ its, it.length ≤ k) → (TL.joinL [32] its).length ≤ its.length * (k + 1)
  | [], _ => Nat.zero_le _
  | [x], h => by
    show x.length ≤ _
    have := h x (List.mem_singleton.mpr rfl)
    simp only [List.length_cons, List.length_nil]
    omega
  | x :: y :: r, h => by
    have h1 := joinL_len (y :: r) (fun it m => h it (List.mem_cons_of_mem _ m))
    have h2 := h x List.mem_cons_self
    show (x ++ (32 :: TL.joinL [32] (y :: r))).length ≤ _
    rw [List.length_append, List.length_cons]
    rw [List.length_cons (a := x), Nat.succ_mul]
    omega
/-- the length of a joined text -/
theorem joinL_sum : ∀ (its : List (List Nat)), its ≠ [] → (TL.joinL [32] its).length + 1 = (its.map fun it => it.length + 1).sum
  | [], h => absurd rfl h
  | [x], _ => by simp [TL.joinL]
  | x :: y :: r, _ => by
    have h1 := joinL_sum (y :: r) (List.cons_ne_nil _ _)
    show (x ++ (32 :: TL.joinL [32] (y :: r))).length + 1 = (x.length + 1) + ((y :: r).map fun it => it.length + 1).sum
    rw [List.length_append, List.length_cons, ← h1]
    omega
/-! ### slices of texts -/
theorem slice_S (l : List Nat) (lo hi : Option Int) : Txt.slice (S l) lo hi = S ((l.drop (HT.sIx l.length 0 lo)).take (HT.sIx l.length l.length hi - HT.sIx l.length 0 lo)) := by
  rw [← C8.cutS_slice]
  unfold cutS
  rw [S_len]
theorem slice_part {l : List Nat} {lo hi : Option Int} : ∃ m : List Nat, Txt.slice (S l) lo hi = S m ∧ m.length ≤ l.length ∧ ∀ c ∈ m, c ∈ l :=
  ⟨_, slice_S l lo hi, by rw [List.length_take, List.length_drop]; omega, fun c h => List.mem_of_mem_drop (List.mem_of_mem_take h)⟩
theorem slice_fromS (l : List Nat) (k : Nat) : Txt.slice (S l) (some (k : Int)) none = S (l.drop k) := by
  rw [slice_S, HT.sIx_none, HT.sIx_nat]
  by_cases h : k ≤ l.length
  · rw [Nat.min_eq_left h, List.take_of_length_le (by rw [List.length_drop]; omega)]
  · rw [Nat.min_eq_right (by omega), List.drop_of_length_le (Nat.le_refl _), List.drop_of_length_le (by omega), List.take_nil]
theorem slice_toS (l : List Nat) (k : Nat) : Txt.slice (S l) none (some (k : Int)) = S (l.take k) := by
  rw [slice_S, HT.sIx_none, HT.sIx_nat, List.drop_zero, Nat.sub_zero]
  by_cases h : k ≤ l.length
  · rw [Nat.min_eq_left h]
  · rw [Nat.min_eq_right (by omega), List.take_of_length_le (Nat.le_refl _), List.take_of_length_le (by omega)]
theorem sum_S_le {k : Nat} : ∀ its : List (List Nat), (∀ it ∈ its, it.length ≤ k) → ((its.map S).map (·.length)).sum ≤ its.length * k
  | [], _ => Nat.zero_le _
  | x :: r, h => by
    have h1 := sum_S_le r (fun it m => h it (List.mem_cons_of_mem _ m))
    have h2 := h x List.mem_cons_self
    have h3 : (S x).length = x.length := S_len x
    show (S x).length + ((r.map S).map (·.length)).sum ≤ (r.length + 1) * k
    rw [h3, Nat.succ_mul]
    omega
theorem inK_call_list_of {X : Cx} {K : PySem.W.Frag} (e : X.K = K) : CallR X (.type "list") (fun xs H Q => ∃ p ys, xs = [.ref p] ∧ (SqL K H p ys ∨ SqT K H p ys) ∧ ∀ l, H l = none → Q (.ref l) (upd H l (.lst ys))) := e ▸ call_list_of
end Kx
/-! ### replace of one written text, once -/
namespace Kx
open PySem PySem.Spec PyProof.Rows L2 SX LamX PySem.Builtin PySem.Builtin.Str
theorem gives_str_replace_n (x y z : Str) (t u v w : Tok) (n : Nat) (hn : n < 1000)
    (hf : ((occurrences x y 0 x.length n).isEmpty || (y.length == 0 && z.length == 0)) = false →
      (u == 0 || v == 0) = false ∧ (u == v) = false ∧ (y == z) = false ∧ tooLong (x.length + (occurrences x y 0 x.length n).length * z.length) = false) :
    Gives («str.replace» ⟨[.str x t, .str y u, .str z v, .int n w], []⟩) (if ((occurrences x y 0 x.length n).isEmpty || (y.length == 0 && z.length == 0)) = true then .val (.str x t) else .str (glued z (partsBetween x (occurrences x y 0 x.length n) y.length))) := by
  have key : «str.replace» ⟨[.str x t, .str y u, .str z v, .int n w], []⟩ = (do
      let limit ← countLimit "str.replace" (some (.int n w)) (x.length + 1)
      if ((occurrences x y 0 x.length limit).isEmpty || (y.length == 0 && z.length == 0)) = true then (do rule "str.replace.nothing"; ret (.str x t)) else
          (do let same ← isSame (.str y u) (.str z v)
              if same = true then (do rule "str.replace.old-is-new"; ret (.str x t)) else
              if tooLong (x.length + (occurrences x y 0 x.length limit).length * z.length) = true then unsupported "str.replace:memory" else
              retStr (glued z (partsBetween x (occurrences x y 0 x.length limit) y.length)))) := rfl
  have cl : countLimit "str.replace" (some (.int n w)) (x.length + 1) = pure n := by
    rw [countLimit_int _ _ _ _ (by rw [decide_eq_false (show ¬ ((n : Int) < -(2 ^ 63 : Int)) by omega), decide_eq_false (show ¬ ((n : Int) ≥ 2 ^ 63) by omega)]; rfl), if_neg (by omega)]
    rfl
  rw [key, cl]
  show Gives (if ((occurrences x y 0 x.length n).isEmpty || (y.length == 0 && z.length == 0)) = true then (do rule "str.replace.nothing"; ret (.str x t)) else
          (do let same ← isSame (.str y u) (.str z v)
              if same = true then (do rule "str.replace.old-is-new"; ret (.str x t)) else
              if tooLong (x.length + (occurrences x y 0 x.length n).length * z.length) = true then unsupported "str.replace:memory" else
              retStr (glued z (partsBetween x (occurrences x y 0 x.length n) y.length)))) _
  cases hc : ((occurrences x y 0 x.length n).isEmpty || (y.length == 0 && z.length == 0))
  · obtain ⟨h0, huv, hyz, hl⟩ := hf hc
    rw [isSame_str_other y z u v h0 huv hyz, hl]
    exact .of_eq rfl
  · exact .rule (.of_eq rfl)
/-- what is left of x when the first y is gone, of one sign -/
def repOne (x y : Str) : Str := if (occurrences x y 0 x.length 1).isEmpty = true then x else glued ⟨#[]⟩ (partsBetween x (occurrences x y 0 x.length 1) y.length)
theorem repOne_eq (x y : Str) : repOne x y = x ∨ ∃ i, repOne x y = ⟨x.cps.extract 0 i ++ #[] ++ x.cps.extract (i + y.length) x.length⟩ := by
  unfold repOne
  cases hc : (occurrences x y 0 x.length 1) with
  | nil => exact .inl rfl
  | cons i r =>
    have h1 := StrLaws.occ_length_le x y 0 x.length 1
    rw [hc] at h1
    cases r with
    | nil => exact .inr ⟨i, rfl⟩
    | cons j t => simp at h1
theorem repOne_S (l : List Nat) (y : Str) : ∃ m : List Nat, repOne (S l) y = S m ∧ m.length ≤ l.length + l.length ∧ ∀ c ∈ m, c ∈ l := by
  rcases repOne_eq (S l) y with h | ⟨i, h⟩
  · exact ⟨l, h, by omega, fun c m => m⟩
  · refine ⟨((S l).cps.extract 0 i ++ #[] ++ (S l).cps.extract (i + y.length) (S l).length).toList, ?_, ?_, fun c m => ?_⟩
    · rw [h]
    · simp [S]
      omega
    · simp [S] at m
      rcases m with m | m
      · exact List.mem_of_mem_take m
      · exact List.mem_of_mem_drop (List.mem_of_mem_take m)
theorem SC_replace1 {prog : Program} {w : World} {A : Around} {E : Value → Shared → Prop} {s : Shared} {x y : Str} {t u v w1 : Tok} {Q : Value → Shared → Prop} (hu : u ≠ 0) (hv : v ≠ 0) (huv : u ≠ v) (hyz : (y == (⟨#[]⟩ : Str)) = false) (hy : (y.length == 0) = false) (hb : x.length ≤ 1000000)
    (hq : ∀ t' k, Q (.str (repOne x y) t') { s with toks := k }) : wpAny (model prog w) A (call (.builtin "str.replace") [.str x t, .str y u, .str ⟨#[]⟩ v, .int 1 w1]) Q E s := by
  have hl : tooLong (x.length + (occurrences x y 0 x.length 1).length * Str.length ⟨#[]⟩) = false := by
    show decide (x.length + (occurrences x y 0 x.length 1).length * 0 > sizeLine) = false
    rw [Nat.mul_zero]
    exact decide_eq_false (by show ¬ (sizeLine < x.length + 0); have : (1000000 : Nat) ≤ sizeLine := by decide
                              omega)
  refine call_gives F.slot_str_replace (typeIs_str _ _ _) F.entry_str_replace (F.args_str_replace_4 _ _ _ _)
    (gives_str_replace_n x y ⟨#[]⟩ t u v w1 1 (by decide) fun _ => ⟨by simp [hu, hv], by simp [huv], hyz, hl⟩) ?_
  have hq' := hq
  unfold repOne at hq'
  cases hc : (occurrences x y 0 x.length 1).isEmpty
  · rw [hc] at hq'
    rw [hy]
    simp only [Bool.false_eq_true, if_false, Bool.false_and, Bool.or_false] at hq' ⊢
    have hr : (glued ⟨#[]⟩ (partsBetween x (occurrences x y 0 x.length 1) y.length)).length ≤ x.length + x.length := by
      have h1 := repOne_eq x y
      unfold repOne at h1
      rw [hc] at h1
      simp only [Bool.false_eq_true, if_false] at h1
      rcases h1 with h1 | ⟨i, h1⟩
      · rw [h1]
        omega
      · rw [h1]
        show (x.cps.extract 0 i ++ #[] ++ x.cps.extract (i + y.length) x.length).size ≤ _
        have hx : x.length = x.cps.size := rfl
        simp [hx]
        omega
    exact ⟨Nat.le_trans hr (by have : (2000000 : Nat) ≤ sizeLine := by decide
                               omega), hq' _ _⟩
  · rw [hc] at hq'
    simp only [if_true, Bool.true_or] at hq' ⊢
    exact hq' t s.toks
end Kx
namespace Kx
open PySem PySem.Spec PyProof.Rows L2 CwR
def tRep1 (to : TE) (y : Str) : TE := fun σ H Q => to σ H fun v H1 => ∃ x, v = .str x ∧ x.length ≤ 1000000 ∧ Q (.str (repOne x y)) H1
section
variable {X : Cx} {o : Expr} {to : TE} {y z : Str} {j k l : Nat} {c0 c1 c2 apos pos : Pos}
theorem pet_repl1 (ho : PE X o to) (hz : z = ⟨#[]⟩) (hyz : (y == (⟨#[]⟩ : Str)) = false) (hy : (y.length == 0) = false)
    (hst : starEach [.Constant (.str y) j c0, .Constant (.str z) k c1, .Constant (.int 1) l c2] X.env = [(false, eval (.Constant (.str y) j c0) X.env), (false, eval (.Constant (.str z) k c1) X.env), (false, eval (.Constant (.int 1) l c2) X.env)])
    (hbase : attributeBase o "replace" X.env (eval o X.env) = eval o X.env) (hline : (apos.endLine == pos.line) = true) :
    PET X (.Call (.Attribute o "replace" apos) [.Constant (.str y) j c0, .Constant (.str z) k c1, .Constant (.int 1) l c2] [] pos) (tRep1 to y) := by
  intro pins s σ H Q h0 I h
  refine PySem.wpAny_Call_method_lateS hbase (by rw [hst]; rfl) hline ?_
  rw [hst]
  refine (wpAny_mono (PySem.wpAny_toks (ho.run pins s σ H _ I h)) (fun v s1 q => ?_) fun _ _ z => z.2)
  obtain ⟨hk, v', H1, I1, r1, x, e1, hb, q⟩ := q
  subst e1
  obtain ⟨tx, e2⟩ := r1
  subst e2
  refine ⟨"str", _, PySem.F.plainAttrs_str, PySem.F.slot_str_replace, PySem.F.type_str_replace, typeIs_str _ _ _, (fun _ e => nomatch e), Calls.callWith_builtin rfl (Calls.evalArgs_plain (Calls.spliced_cons ?_))⟩
  refine Calls.Constant_str (k := j) (pos := c0) (Calls.spliced_cons (Calls.Constant_str (k := k) (pos := c1) (Calls.spliced_cons (PySem.wpAny_Constant_int (i := 1) (k := l) (pos := c2) (Calls.spliced_nil ?_)))))
  subst hz
  exact SC_replace1 (by show s1.toks ≠ 0; omega) (by show s1.toks + 1 ≠ 0; omega) (by show s1.toks ≠ s1.toks + 1; omega) hyz hy hb fun t' k => ⟨.str (repOne x y), H1, I1.tok k, ⟨t', rfl⟩, q⟩
end
theorem inK_ix_seq {X : Cx} {K : PySem.W.Frag} (e : X.K = K) : IxR X (rIx K) := e ▸ ix_seq
end Kx
namespace Kx
open PySem PySem.Spec PyProof.Rows L2 SX LamX
section
variable {X : Cx}
/-- repr of a text -/
def rReprS : List V → Hp → VK → Prop := fun xs H Q => ∃ (x : Str), xs = [.str x] ∧ (PyData.str x).shown.length ≤ sizeLine ∧ Q (.str (PyData.str x).shown) H
theorem call_reprS : CallR X (.builtin "repr") rReprS := by
  intro pins s σ H xs us Q I r h
  obtain ⟨x, rfl, hl, q⟩ := h
  obtain ⟨u, rfl, t, rfl⟩ := vals1 r
  exact PySem.P.repr_of_str (x := x) ⟨.str (PyData.str x).shown, H, I.tok _, ⟨_, rfl⟩, q⟩ hl
end
/-- repr(x) != repr(y), of one and the same text -/
theorem nerepr_s {σ : L2.St} {H : Hp} {ta tb : TE} (l : List Nat) (hl : cdC l) (hm : l.length ≤ 1048576) {Q : Bool → Hp → Prop}
    (ha : ∀ Q : VK, (∀ H', Same H H' → Q (.str (S l)) H') → ta σ H Q)
    (hb : ∀ H0, Same H H0 → ∀ Q : VK, (∀ H', Same H0 H' → Q (.str (S l)) H') → tb σ H0 Q)
    (h : ∀ H', Same H H' → Q false H') : tTest (tOp rNe (tCB rReprS (tCons ta tNil)) (tCB rReprS (tCons tb tNil))) σ H Q := by
  have sz := (sh_str (x := S l) rfl hl).len hm
  refine go_test (go_op (go_cb (go_cons (ha _ fun H1 e1 => go_nil ⟨S l, rfl, sz, go_cb (go_cons (hb H1 e1 _ fun H2 e2 => go_nil ⟨S l, rfl, sz, rfl, false, ?_, h H2 (e1.trans e2)⟩))⟩))))
  rw [ne_self]
def rev3G {α : Type} (us ws : List α) : List α := match us, ws with | [], [c, b, a] => [a, b, c] | _, _ => []
theorem kb_rev3 {K : PySem.W.Frag} {x qual : Str} {st : Stmt} {f : Addr} {fd : FuncData} {a b c : Str} (F : Fun K x qual st f fd)
    (h : ∀ (kV doc pm : Value) (an : Option Addr) (cdv ct : Value) (u v w : Value), bindArgs (PySem.W.fnOf x qual (defArgs st) (defBody st) (defScope st) .none kV doc pm an cdv ct) ⟨[], [(c, w), (b, v), (a, u)]⟩ = pure [(a, u), (b, v), (c, w)]) :
    KBinds K fd [a, b, c] [c, b, a] rev3G rev3G := by
  obtain ⟨oc, od, kV, doc, pm, an, cdv, ct, osl, rfl, lk, hcd⟩ := F.ex
  refine ⟨fun s us ws X l => ?_, fun {vs us zs ws} r1 r2 => ?_⟩
  · match us, ws, l with
    | [], [w, v, u], _ => exact .of_eq (h kV doc pm an cdv ct u v w)
    | [], [], l => cases l
    | [], [_], l => cases l
    | [], [_, _], l => cases l
    | [], _ :: _ :: _ :: _ :: _, l => cases l
    | _ :: _, _, l => cases l
  · cases r1 with
    | cons _ _ => exact .nil
    | nil =>
      cases r2 with
      | nil => exact .nil
      | cons h1 r2 =>
        cases r2 with
        | nil => exact .nil
        | cons h2 r2 =>
          cases r2 with
          | nil => exact .nil
          | cons h3 r2 =>
            cases r2 with
            | nil => exact .cons h3 (.cons h2 (.cons h1 .nil))
            | cons _ _ => exact .nil
end Kx
namespace Kx
open PySem PySem.Spec PyProof.Rows L2 SX LamX
/-! zip of a list with a tuple -/
def ItzM (K : PySem.W.Frag) (a b : Addr) : It where
  go i H := ∃ (xs ys : List V) (x y : V), SqL K H a xs ∧ SqT K H b ys ∧ xs[i]? = some x ∧ ys[i]? = some y
  yld i H v H' := ∃ T x y, v = .ref T ∧ H T = none ∧ H' = upd H T (.tup [x, y]) ∧ (∀ xs, SqL K H a xs → xs[i]? = some x) ∧ ∀ ys, SqT K H b ys → ys[i]? = some y
  stop i H := ∃ xs ys : List V, SqL K H a xs ∧ SqT K H b ys ∧ i = min xs.length ys.length
structure Aps (z TI TO i1 i2 a b : Addr) : Prop where
  s : ZipSep2 z TI TO i1 i2 [i1, a] [i2, b]
  a1 : a ≠ i1
  b2 : b ≠ i2
theorem aps_new {n a b : Nat} (ha : a < n) (hb : b < n) : Aps (n + 4) (n + 2) (n + 3) n (n + 1) a b := by
  have ne : ∀ {x y : Nat}, (x < y ∨ y < x) → (show Addr from x) ≠ y := fun {x y} h e => by
    have e : x = y := e
    omega
  have no : ∀ {x p q : Nat}, (x < p ∨ p < x) → (x < q ∨ q < x) → (show Addr from x) ∉ ([p, q] : List Addr) := fun h1 h2 m => by
    simp only [List.mem_cons, List.not_mem_nil, or_false] at m
    rcases m with e | e
    · exact ne h1 e
    · exact ne h2 e
  exact ⟨⟨ne (by omega), ne (by omega), ne (by omega), ne (by omega), List.mem_cons_self, no (by omega) (by omega), no (by omega) (by omega), ne (by omega), List.mem_cons_self, no (by omega) (by omega), no (by omega) (by omega), no (by omega) (by omega), no (by omega) (by omega)⟩, ne (by omega), ne (by omega)⟩
theorem turn_zipM {P : Program} {w : World} {K : PySem.W.Frag} {elts : List Expr} {kk : Nat} {tpos : Pos} {a b z TI TO i1 i2 : Addr} (D : Aps z TI TO i1 i2 a b) :
    Turn P w K (.Tuple elts kk tpos) (ItzM K a b) [z, TI, TO, i1, i2] z (fun i h => IsZip h z TI TO .none ∧ IsTupOf2 h TI (.ref i1) (.ref i2) ∧ (∃ x y, IsTupOf2 h TO x y) ∧ h.IsListIter i1 a i ∧ h.IsTupleIter i2 b i) where
  mem := List.mem_cons_self
  obj := fun i h ⟨hz, hI, ⟨x, y, hO⟩, ⟨o1, e1, _, d1⟩, ⟨o2, e2, _, d2⟩⟩ c hc => by
    simp only [List.mem_cons, List.not_mem_nil, or_false] at hc
    rcases hc with rfl | rfl | rfl | rfl | rfl
    · exact ⟨_, hz, fun v q => by cases q⟩
    · exact ⟨_, hI, fun v q => by cases q⟩
    · exact ⟨_, hO, fun v q => by cases q⟩
    · exact ⟨o1, e1, fun v q => by rw [d1] at q; cases q⟩
    · exact ⟨o2, e2, fun v q => by rw [d2] at q; cases q⟩
  keep := fun i h h' ⟨hz, hI, ⟨x, y, hO⟩, h1, h2⟩ k =>
    ⟨k z (by simp) _ hz, k TI (by simp) _ hI, ⟨x, y, k TO (by simp) _ hO⟩, h1.at fun o => k i1 (by simp) o, h2.at fun o => k i2 (by simp) o⟩
  item := by
    intro X hP hw hK hc i pins s σ H E I hf st hg
    subst hP hw hK
    obtain ⟨hz, hI, ⟨x0, y0, hO⟩, h1, h2⟩ := st
    obtain ⟨xs, ys, x, y, hqx, hqy, hx, hy⟩ := hg
    obtain ⟨us, rv, pl, _⟩ := I.list hqx
    obtain ⟨vs, rw_, pt, _⟩ := I.tuple hqy
    obtain ⟨u, hu, ru⟩ := rv.get hx
    obtain ⟨v, hv, rv'⟩ := rw_.get hy
    have lz : z < s.heap.objs.size := Heap.lt_size hz
    have hd : X.A.in1.handled = none := I.ok.hd hc
    have iu := (List.getElem?_eq_some_iff.mp hu).1
    have iv := (List.getElem?_eq_some_iff.mp hv).1
    refine wpAny_pyNext_zipD2_item D.s (Draws.list hd i1 a D.a1 us.toArray) (Draws.tuple hd i2 b D.b2 vs.toArray) hz hI hO ⟨h1, pl.isList⟩ ⟨h2, pt⟩ (by simpa using iu) (by simpa using iv) fun x1 x2 g tk e1 e2 g1 g2 g3 g4 g5 g6 gk => ?_
    have hu' : us.toArray[i]? = some u := by simpa using hu
    have hv' : vs.toArray[i]? = some v := by simpa using hv
    rw [hu'] at e1
    rw [hv'] at e2
    cases e1
    cases e2
    refine ⟨_, rfl, wpAny_letOwnedTupleGo_zip (s := { s with heap := g, toks := tk }) g1 fun k k1 sb => ?_⟩
    have kT : k.get? s.heap.objs.size = some { cls := .type "tuple", data := .seq #[u, v] } := (sb.2 _ (Nat.ne_of_gt lz)).trans g5
    have lt : ∀ c ∈ [z, TI, TO, i1, i2], c < s.heap.objs.size := fun c hc => by
      simp only [List.mem_cons, List.not_mem_nil, or_false] at hc
      rcases hc with rfl | rfl | rfl | rfl | rfl
      · exact lz
      · exact Heap.lt_size hI
      · exact Heap.lt_size hO
      · obtain ⟨_, e, _⟩ := h1
        exact Heap.lt_size e
      · obtain ⟨_, e, _⟩ := h2
        exact Heap.lt_size e
    have J : Inv X pins σ (upd H s.heap.objs.size (.tup [x, y])) { s with heap := k, toks := tk } :=
      I.turnedNew (t' := tk) (ch := [z, TI, TO, i1, i2]) (fun c o hb q => by
        simp only [List.mem_cons, List.not_mem_nil, or_false, not_or] at hb
        exact (sb.2 c hb.1).trans (gk c o hb.1 hb.2.2.1 hb.2.2.2.1 hb.2.2.2.2 q)) hf (Nat.le_refl _) ⟨by show 2 ≤ sizeLine; decide, [u, v], .cons ru (.cons rv' .nil), ⟨_, kT, rfl, _, rfl⟩⟩
    refine ⟨.ref s.heap.objs.size, _, J, rfl, ⟨_, x, y, rfl, I.hok.fresh (Nat.le_refl _), rfl, fun l hl => by rw [I.list_inj hl hqx]; exact hx, fun l hl => by rw [I.tuple_inj hl hqy]; exact hy⟩,
      ⟨k1, (sb.2 _ D.s.TIz).trans (gk _ _ D.s.TIz D.s.TITO D.s.TIi1 D.s.TIi2 hI), ⟨u, v, (sb.2 _ D.s.TOz).trans g2⟩, g3.1.at fun o q => (sb.2 _ D.s.zi1.symm).trans q, g4.1.at fun o q => (sb.2 _ D.s.zi2.symm).trans q⟩, fun c hc => ?_⟩
    rw [upd_ne (Nat.ne_of_lt (lt c hc))]
    exact (hf c hc).1
  done := by
    intro X hP hw hK hc i pins s σ H E I hf st hg
    subst hP hw hK
    obtain ⟨hz, hI, ⟨x0, y0, hO⟩, h1, h2⟩ := st
    obtain ⟨xs, ys, hqx, hqy, hend⟩ := hg
    obtain ⟨us, rv, pl, _⟩ := I.list hqx
    obtain ⟨vs, rw_, pt, _⟩ := I.tuple hqy
    have l1 := rv.length
    have l2 := rw_.length
    have hd : X.A.in1.handled = none := I.ok.hd hc
    exact wpAny_pyNext_zipD2_end D.s (Draws.list hd i1 a D.a1 us.toArray) (Draws.tuple hd i2 b D.b2 vs.toArray) hz hI hO ⟨h1, pl.isList⟩ ⟨h2, pt⟩ (by simp; omega) (by simp; omega) (by simp; omega) fun g tk gk =>
      ⟨rfl, I.turnedL (t' := tk) (ch := [z, TI, TO, i1, i2]) (fun c o hb q => by
        simp only [List.mem_cons, List.not_mem_nil, or_false, not_or] at hb
        exact gk c o hb.1 hb.2.2.1 hb.2.2.2.1 hb.2.2.2.2 q) hf⟩
  self := fun A i s Q E st h => wpAny_pyIter_zip st.1 h
/-- zip(LIST, LIST OR TUPLE) -/
def iZipM (K : PySem.W.Frag) (ta : TA) : TI := fun σ H R => ta σ H fun vs H1 => ∃ a b xs ys, vs = [.ref a, .ref b] ∧ SqL K H1 a xs ∧ ((SqL K H1 b ys ∧ R (Itz K a b) H1) ∨ (SqT K H1 b ys ∧ R (ItzM K a b) H1))
theorem pi_zipM {X : Cx} {e e2 : Expr} {ta : TA} {p pos tpos : Pos} {elts : List Expr} {kk : Nat} (hg : Gl X "zip") (hm : X.mg "zip" = none) (ha : PA X [e, e2] ta)
    (st : starEach [e, e2] X.env = (false, eval e X.env) :: starEach [e2] X.env := by rfl) (pl : (backTo pos (starEach [e2] X.env)).any (·.1) = false := by rfl) :
    PI X (.Tuple elts kk tpos) (.Call (.Name "zip" p) [e, e2] [] pos) (iZipM X.K ta) := by
  constructor
  intro pins s σ H R I h
  refine Call_ (ld_blt I hg hm PyProof.Rows.boot_zip (PyProof.Rows.callWith_type1 (thn (ha.run pos pins s σ H _ I h) fun us s1 hq => ?_) st pl))
  obtain ⟨vs, H1, I1, r1, a, b, xs, ys, rfl, hx, q⟩ := hq
  obtain ⟨ua, ub, rfl, ra, rb⟩ : ∃ x y, us = [x, y] ∧ RelV (.ref a) x ∧ RelV (.ref b) y := by
    match us, r1 with
    | [x, y], .cons h1 (.cons h2 .nil) => exact ⟨x, y, rfl, h1, h2⟩
  cases ra
  cases rb
  have up : ∀ c, s1.heap.objs.size ≤ c → FpOk X pins H1 c := fun c l => I1.fpOk l (I1.hok.fresh l)
  have ups : ∀ c ∈ [s1.heap.objs.size + 4, s1.heap.objs.size + 2, s1.heap.objs.size + 3, s1.heap.objs.size, s1.heap.objs.size + 1], FpOk X pins H1 c := fun c m => up c (by
    simp only [List.mem_cons, List.not_mem_nil, or_false] at m
    rcases m with e | e | e | e | e <;> rw [e] <;> first | exact Nat.le_refl _ | exact Nat.le_add_right _ _)
  obtain ⟨us, rv, pa, _⟩ := I1.list hx
  rcases q with ⟨hy, q⟩ | ⟨hy, q⟩
  · obtain ⟨vs, rw_, pb, _⟩ := I1.list hy
    refine call_zip_2 pa.isList pb.isList fun g g1 g2 g3 g4 g5 _ gk => wpAny_pyIter_zip g1 ?_
    exact ⟨_, [s1.heap.objs.size + 4, s1.heap.objs.size + 2, s1.heap.objs.size + 3, s1.heap.objs.size, s1.heap.objs.size + 1], _, _, H1, rfl, I1.kept (t' := s1.toks) gk, turn_zip (PySem.W.ktu_apart _ a b pa.lt pb.lt), ⟨g1, g2, ⟨_, _, g3⟩, g4, g5⟩, ups, q⟩
  · obtain ⟨vs, rw_, pb, _⟩ := I1.tuple hy
    have lb : b < s1.heap.objs.size := by
      obtain ⟨_, e, _⟩ := id pb
      exact Heap.lt_size e
    refine zip_begins2 (begins_list a us.toArray) (begins_tuple b vs.toArray) pa.isList pb fun g g1 g2 g3 g4 g5 _ gk => wpAny_pyIter_zip g1 ?_
    exact ⟨_, [s1.heap.objs.size + 4, s1.heap.objs.size + 2, s1.heap.objs.size + 3, s1.heap.objs.size, s1.heap.objs.size + 1], _, _, H1, rfl, I1.kept (t' := s1.toks) gk, turn_zipM (aps_new pa.lt lb), ⟨g1, g2, ⟨_, _, g3⟩, ⟨_, g4, rfl, rfl⟩, ⟨_, g5, rfl, rfl⟩⟩, ups, q⟩
theorem walk_zipM {K : PySem.W.Frag} {a b : Addr} {xs ys : List V} {n : Nat} (hn : n = min xs.length ys.length) : Walk (ItzM K a b) n (fun H => SqL K H a xs ∧ SqT K H b ys) (YPair (fun i => xs[i]?) (fun i => ys[i]?)) where
  goes i H hi q := ⟨xs, ys, xs[i]'(by omega), ys[i]'(by omega), q.1, q.2, List.getElem?_eq_getElem (by omega), List.getElem?_eq_getElem (by omega)⟩
  stops H q := ⟨xs, ys, q.1, q.2, hn⟩
  yields i H v H' _ q y := by
    obtain ⟨T, x, z, h1, h2, h3, h4, h5⟩ := y
    exact ⟨T, x, z, h1, h2, h3, h4 xs q.1, h5 ys q.2⟩
section
variable {K : PySem.W.Frag} {a b : Addr} {xs ys : List V} {g : TG} {tt : TT} {te : TE} {vs : List Nat} {σ : L2.St} {H : Hp} {k l : Nat} {Q : VK}
/-- [e for x, y in zip(LIST NAME, SEQUENCE NAME)]: by the turn and the heap -/
theorem lc_zipM (hi : σ[k]? = some (some (.ref a))) (hj : σ[l]? = some (some (.ref b))) (hq : SqL K H a xs) (hp : SqQ K H b ys)
    (Pv : Addr → Nat → Hp → Prop) (h0 : ∀ D, H D = none → Pv D 0 (upd H D (.lst []))) (hG : ∀ D i H', Pv D i H' → Same H H')
    (hs : ∀ D i x y t H', H D = none → xs[i]? = some x → ys[i]? = some y → Pv D i H' → H' t = none → g (.ref t) (wipe σ vs) (upd H' t (.tup [x, y])) fun σ2 H2 => wipe σ2 vs = wipe σ vs ∧ tt σ2 H2 fun b H3 => if b = true then te σ2 H3 fun y H4 => ∃ acc, H4 D = some (.lst acc) ∧ acc.length < sizeLine ∧ Pv D (i + 1) (upd H4 D (.lst (acc ++ [y]))) else Pv D (i + 1) H3)
    (hd : ∀ D H', H D = none → Pv D (min xs.length ys.length) H' → Q (.ref D) H') : tLc (iZipM K (tCons (tVar k) (tCons (tVar l) tNil))) g tt te vs σ H Q := by
  rcases hp with hp | hp
  · exact ⟨_, hi, _, hj, a, b, xs, ys, rfl, hq, .inl ⟨hp, fun D nD => lc_it (walk_zip rfl) (Pv D) (h0 D nD) (fun i H' _ p => ⟨(hG D i H' p).seq hq, (hG D i H' p).seq hp⟩) (fun i x Hc Hx hi p y => by
      obtain ⟨t, x', y', rfl, nt, rfl, e1, e2⟩ := y
      exact hs D i x' y' t _ nD e1 e2 p nt) (fun H' p => hd D H' nD p)⟩⟩
  · exact ⟨_, hi, _, hj, a, b, xs, ys, rfl, hq, .inr ⟨hp, fun D nD => lc_it (walk_zipM rfl) (Pv D) (h0 D nD) (fun i H' _ p => ⟨(hG D i H' p).seq hq, Same.t (hG D i H' p) hp⟩) (fun i x Hc Hx hi p y => by
      obtain ⟨t, x', y', rfl, nt, rfl, e1, e2⟩ := y
      exact hs D i x' y' t _ nD e1 e2 p nt) (fun H' p => hd D H' nD p)⟩⟩
end
end Kx
namespace Kx
open PySem PySem.Spec PyProof.Rows L2 SX LamX
/-! ### a call of a name that holds one of some functions -/
/-- f, called with what sp wishes, gives what is promised -/
def RunF (X : Cx) (f : Addr) (sp : Sp) (E : XK) : Prop := PySem.W.keepIn X.K (.ref f) = true ∧ ∀ (pins : List (Addr × Obj)) (σ : L2.St) (H : Hp) (s : Shared) (Q : VK) (us : List Value) (vs : List V),
  Inv X pins σ H s → Vals vs us → sp vs H Q E → wpAny (model X.prog X.w) X.A (call (.ref f) us) (EP X pins σ Q) X.xe s
section
variable {X : Cx} {CX : CXT} {k i : Nat} {f : Addr} {fd : FuncData} {ps : List Str} {sp sp2 : Sp} {E : XK} {x : Str} {p pos : Pos} {e : Expr} {es : List Expr} {t : TA}
theorem RunF.of (F : FnOk X.prog X.w X.K X.mg X.base CX k f fd ps sp) (hr : Room k X.A) (hk : PySem.W.keepIn X.K (.ref f) = true) (hb : Binds X.K fd ps []) (hx : Passes CX X E) : RunF X f sp E :=
  ⟨hk, fun pins σ H s Q us vs I r h => run_fn F hr hb .nil hx I r (by rw [List.append_nil]; exact h)⟩
theorem RunF.mono (R : RunF X f sp E) (h : ∀ vs H Q, sp2 vs H Q E → sp vs H Q E) : RunF X f sp2 E := ⟨R.1, fun pins σ H s Q us vs I r q => R.2 pins σ H s Q us vs I r (h vs H Q q)⟩
theorem pe_callV {fs : List Addr} (hN : X.N[i]? = some x) (hv : Vis X.env.scope x) (hF : ∀ f ∈ fs, RunF X f sp E) (ha : PA X (e :: es) t) (hd : (x == ("__debug__" : Str)) = false := by decide) (hcd : (x == ("__classdict__" : Str)) = false := by decide)
    (he : starEach (e :: es) X.env = (false, eval e X.env) :: starEach es X.env := by rfl) (hpl : (backTo pos (starEach es X.env)).any (·.1) = false := by rfl) :
    PE X (.Call (.Name x p) (e :: es) [] pos) (fun σ H Q => ∃ f, f ∈ fs ∧ σ[i]? = some (some (.ref f)) ∧ t σ H fun vs H1 => sp vs H1 Q E) := by
  refine ⟨fun pins s σ H Q I h => ?_⟩
  obtain ⟨f, hf, hs, hq⟩ := h
  refine wpAny_Call_Name_kw (thn ((pe_var (pos := p) (i := i) hN hv hd hcd).run pins s σ H (fun v H1 => v = .ref f ∧ H1 = H) I ⟨.ref f, hs, rfl, rfl⟩) fun u s1 hh => ?_)
  obtain ⟨v, H1, I1, r1, rfl, rfl⟩ := hh
  obtain rfl : u = Value.ref f := r1
  refine PySem.W.callWith_K (h₀ := X.base) I1.ok.mod.kin (hF f hf).1 (thn (ha.run pos pins s1 σ H1 _ I1 hq) fun us s2 ⟨vs, H2, I2, r, q⟩ => ⟨I2.kIn, ?_⟩) he hpl
  exact (hF f hf).2 pins σ H2 s2 Q us vs I2 r q
end
end Kx
namespace Kx
open PySem PySem.Spec PyProof.Rows L2 SX LamX
/-! ### x[::2], a tuple -/
def evens {α : Type} : List α → List α
  | [] => []
  | [a] => [a]
  | a :: _ :: r => a :: evens r
theorem evens_len {α : Type} : ∀ xs : List α, (evens xs).length = (xs.length + 1) / 2
  | [] => by simp [evens]
  | [a] => by simp [evens]
  | a :: b :: r => by
    show (evens r).length + 1 = (r.length + 1 + 1 + 1) / 2
    rw [evens_len r]
    omega
theorem evens_pick {α : Type} : ∀ xs : List α, (List.range ((xs.length + 1) / 2)).filterMap (fun m => xs[2 * m]?) = evens xs
  | [] => by simp [evens]
  | [a] => by simp [evens, List.range_succ]
  | a :: b :: r => by
    have ih := evens_pick r
    have e : ((a :: b :: r).length + 1) / 2 = (r.length + 1) / 2 + 1 := by
      simp only [List.length_cons]
      omega
    rw [e, List.range_succ_eq_map, List.filterMap_cons, List.filterMap_map]
    show a :: List.filterMap ((fun m => (a :: b :: r)[2 * m]?) ∘ Nat.succ) (List.range ((r.length + 1) / 2)) = a :: evens r
    rw [← ih]
    congr 1
theorem adjust_two (n : Nat) : Builtin.Slice.sliceAdjust none none 2 (n : Int) = (0, (n : Int)) := rfl
theorem places_two (n : Nat) : Builtin.Slice.slicePlaces (0 : Int) (n : Int) 2 = (n + 1) / 2 := by
  unfold Builtin.Slice.slicePlaces
  have h1 : (2 : Int) > 0 := by omega
  simp only [h1, if_true]
  split <;> omega
section
variable {prog : Program} {w : World} {A : Around} {E : Value → Shared → Prop} {s : Shared}
theorem sliceApplied_two {sl : Addr} {vl vu vs : Value} {n : Nat} {Q : Int × Int × Nat → Shared → Prop} (hs : s.heap.IsSliceOf sl vl vu vs) (pl : IsPart vl none) (pu : IsPart vu none) (ps : IsPart vs (some 2))
    (h : Q (0, 2, (n + 1) / 2) s) : wpAny (model prog w) A (Builtin.Slice.sliceApplied (.ref sl) (pure (n : Int))) Q E s := by
  obtain ⟨os, hos, hcs, hds⟩ := id hs
  unfold Builtin.Slice.sliceApplied Builtin.Slice.sliceFields
  refine wpAny_bind (wpAny_bind (wpAny_field hos hds (x := vl) rfl (wpAny_bind (wpAny_field hos hds (x := vu) rfl (wpAny_bind (wpAny_field hos hds (x := vs) rfl (wpAny_pure ?_)))))))
  refine wpAny_bind (HT.slicePart_ ps ?_)
  show wpAny _ _ (if ((2 : Int) == 0) = true then _ else _) _ _ s
  rw [if_neg (by decide)]
  refine wpAny_bind (HT.slicePart_ pl (wpAny_bind (HT.slicePart_ pu (wpAny_bind (wpAny_pure ?_)))))
  show wpAny _ _ (match Builtin.Slice.sliceAdjust none none 2 (n : Int) with | (lo, hi) => pure (lo, (2 : Int), Builtin.Slice.slicePlaces lo hi 2)) _ _ s
  rw [adjust_two n]
  show wpAny _ _ (pure ((0 : Int), (2 : Int), Builtin.Slice.slicePlaces (0 : Int) (n : Int) 2)) _ _ s
  rw [places_two]
  exact wpAny_pure h
theorem pick_two (xs : Array Value) : ((List.range ((xs.size + 1) / 2)).filterMap fun (m : Nat) => xs[((0 : Int) + (m : Int) * 2).toNat]?).toArray = (evens xs.toList).toArray := by
  have e : (fun (m : Nat) => xs[((0 : Int) + (m : Int) * 2).toNat]?) = fun m => xs.toList[2 * m]? := by
    funext m
    have : ((0 : Int) + (m : Int) * 2).toNat = 2 * m := by omega
    rw [this, Array.getElem?_toList]
  rw [e, ← evens_pick, Array.length_toList]
theorem getItem_tuple_two {t sl : Addr} {items : Array Value} {vl vu vs : Value} {Q : Value → Shared → Prop} (ht : IsTup s.heap t items) (hs : s.heap.IsSliceOf sl vl vu vs) (pl : IsPart vl none) (pu : IsPart vu none) (ps : IsPart vs (some 2))
    (h : Q (.ref s.heap.objs.size) { s with heap := s.heap.push { cls := .type "tuple", data := .seq (evens items.toList).toArray } })
    (hsz : items.size ≤ sizeLine) : wpAny (model prog w) A (getItem (.ref t) (.ref sl)) Q E s := by
  have htake : sizeOk (.seq (evens items.toList).toArray) := by
    show (evens items.toList).toArray.size ≤ sizeLine
    rw [List.size_toArray, evens_len, Array.length_toList]
    omega
  obtain ⟨os, hos, hcs, hds⟩ := id hs
  have hTs : s.TypeIs (.ref sl) "slice" := ⟨os, hos, hcs⟩
  unfold getItem
  try with_reducible refine wpAny_holding ?_
  first | refine wpAny_bind (wpAny_pure ?_) | skip
  refine wpAny_bind (wpAny_sequenceKey ht.typeIs (by decide) ?_)
  refine wpAny_bind (wpAny_callSpecial?_slot (name := Str.ofString "__getitem__") ht.typeIs PyProof.Rows.slot_tuple_getitem
    (wpAny_call_entry PyProof.Rows.slot_tuple_getitem ht.typeIs entry_tuple_getitem ?_ (args_tuple_getitem _ _)))
  show wpAny _ _ (Builtin.Tuple.tupleItemsOf (.ref t) >>= _) _ _ s
  refine wpAny_bind (tupleItemsOf_ ht ?_)
  refine wpAny_bind (wpAny_typeOf hTs ?_)
  rw [if_pos (by decide)]
  refine wpAny_bind (sliceApplied_two hs pl pu ps ?_)
  show wpAny _ _ (if (((0 : Int)) == 0 && (2 : Int) == 1 && ((items.size + 1) / 2) == items.size) = true then _ else _) _ _ s
  rw [if_neg (by simp), pick_two]
  first
    | exact wpAny_bind (m := Builtin.Tuple.tupleExact _) (wpAny_newObj_type (wpAny_pure ⟨_, rfl, wpAny_pure h⟩) htake)
    | exact wpAny_bind (m := Builtin.Tuple.tupleExact _) (wpAny_newObj_type (wpAny_bind (wpAny_pure (wpAny_pure ⟨_, rfl, wpAny_pure h⟩))) htake)
    | exact wpAny_bind (wpAny_bind (m := Builtin.Tuple.tupleExact _) (wpAny_newObj_type (wpAny_pure (wpAny_pure ⟨_, rfl, wpAny_pure h⟩)) htake))
    | exact wpAny_bind (wpAny_bind (m := Builtin.Tuple.tupleExact _) (wpAny_newObj_type (wpAny_pure ⟨_, rfl, wpAny_pure h⟩) htake))
end
section
variable {X : Cx}
theorem evens_vals : ∀ {xs : List V} {us : List Value}, Vals xs us → Vals (evens xs) (evens us)
  | [], [], _ => .nil
  | [a], [u], h => h
  | a :: b :: r, u :: v :: s, .cons h1 (.cons h2 h3) => .cons h1 (evens_vals h3)
def tTwoT (K : PySem.W.Frag) (te : TE) : TE := fun σ H Q => te σ H fun x H1 => ∃ a xs, x = .ref a ∧ SqT K H1 a xs ∧ ∀ p, H1 p = none → Q (.ref p) (upd H1 p (.tup (evens xs)))
theorem pe_two {e : Expr} {te : TE} {k : Nat} {p1 p3 pos : Pos} (he : PE X e te) : PE X (.Subscript e (.Slice none none (some (.Constant (.int 2) k p1)) p3) pos) (tTwoT X.K te) := by
  refine ⟨fun pins s σ H Q I h => ?_⟩
  refine Subscript_ (thn (he.run pins s σ H _ I h) fun v s1 ⟨x, H1, I1, r1, q1⟩ => ?_)
  obtain ⟨a, xs, ex, hx, q⟩ := q1
  subst ex
  cases r1
  have hst : PO X (some (.Constant (.int 2) k p1)) (tPart (tC (.int 2))) := po_some pe_int
  refine wpAny_Slice (thn (po_none.run pins s1 σ H1 (fun o H2 => o = none ∧ H2 = H1) I1 ⟨rfl, rfl⟩) fun vl s2 ⟨l, H2, I2, pl, el, e2⟩ => ?_)
  subst el e2
  refine thn (po_none.run pins s2 σ H2 (fun o H3 => o = none ∧ H3 = H2) I2 ⟨rfl, rfl⟩) fun vu s3 ⟨u, H3, I3, pu, eu, e3⟩ => ?_
  subst eu e3
  refine thn (hst.run pins s3 σ H3 (fun o H4 => o = some 2 ∧ H4 = H3) I3 ⟨2, rfl, rfl, rfl⟩) fun vs s4 ⟨o, H4, I4, ps, eo, e4⟩ => ?_
  subst eo e4
  have I5 : Inv X pins σ H4 { s4 with heap := s4.heap.push { cls := .type "slice", data := .fields #[vl, vu, vs] } } := I4.kept (t' := s4.toks) fun b ob q => Heap.get?_push_of_some _ q
  obtain ⟨its, r, ht, hz⟩ := I5.tuple hx
  have hlen : its.toArray.size = xs.length := by rw [List.size_toArray]; exact r.length.symm
  show wpAny (model X.prog X.w) X.A (subscriptTail e (.Slice none none (some (.Constant (.int 2) k p1)) p3) (.ref a) (.ref s4.heap.objs.size)) (EP X pins σ Q) X.xe { s4 with heap := s4.heap.push { cls := .type "slice", data := .fields #[vl, vu, vs] } }
  refine tail_any (ops := [.ref a, .ref s4.heap.objs.size]) ht.typeIs (PyProof.Rows.slot_tuple_getitem.lookup) ?_ (by with_unfolding_all rfl)
  refine getItem_tuple_two ht (Heap.IsSliceOf.new _ vl vu vs) pl pu ps ?_ (by rw [hlen]; exact hz)
  refine ⟨.ref _, _, I5.laid (t' := s4.toks) (o := .tup (evens xs)) (fun b ob q => Heap.get?_push_of_some _ q) (Nat.le_refl _) ?_, rfl, q _ (I5.hok.fresh (Nat.le_refl _))⟩
  exact ⟨by rw [evens_len]; omega, _, evens_vals r, IsTup.new _ _⟩
end
end Kx
namespace Kx
open PySem PySem.Spec PyProof.Rows L2 SX LamX
open PySem.W (EachIs)
/-! ### sorted texts, however many -/
def leT (a b : Str) : Bool := decide (a.cps.toList ≤ b.cps.toList)
theorem leT_enc : PySem.W.dataLe false (fun x : Str => PyData.str x) = leT := PySem.W.dataLe_str fun x : Str => x
def IsT (v : Value) (x : Str) : Prop := ∃ t, v = Value.str x t
theorem eachT : ∀ {vs : List Value} {xs : List Str}, StrsAre vs xs → EachIs IsT vs xs
  | _, _, .nil => .nil
  | _, _, .cons y t h => .cons ⟨t, rfl⟩ (eachT h)
theorem eachT_strs : ∀ {vs : List Value} {xs : List Str}, EachIs IsT vs xs → StrsAre vs xs
  | _, _, .nil => .nil
  | _, _, .cons ⟨t, e⟩ h => by subst e; exact .cons _ t (eachT_strs h)
theorem eachT_reads {h : Heap} : ∀ {vs : List Value} {xs : List Str}, EachIs IsT vs xs → EachIs (fun v x => ∃ as, Reads h v (PyData.str x) as) vs xs
  | _, _, .nil => .nil
  | _, _, .cons ⟨t, e⟩ r => by subst e; exact .cons ⟨[], .str _ _⟩ (eachT_reads r)
theorem eachT_readsN {h : Heap} {p : Addr} : ∀ {vs : List Value} {xs : List Str}, EachIs IsT vs xs → EachIs (fun v x => ∃ as, Reads h v (PyData.str x) as ∧ p ∉ as) vs xs
  | _, _, .nil => .nil
  | _, _, .cons ⟨t, e⟩ r => by subst e; exact .cons ⟨[], .str _ _, List.not_mem_nil⟩ (eachT_readsN r)
theorem alikeT (xs : List Str) : PySem.W.AllAlike (xs.map fun x : Str => PyData.str x) := PySem.W.AllAlike.of fun b b' => by simp only [PySem.W.alike]
theorem sortableT (xs : List Str) : PySem.W.Sortable (xs.map fun x : Str => PyData.str x) := PySem.W.Sortable.others fun b => ⟨(fun e => by cases e), fun xs e => by cases e⟩
section
variable {X : Cx}
theorem depthT (hu : X.A.units + 64 < cLine) (x : Str) : X.A.units + 2 + (PyData.str x).depth < cLine := by
  have : (PyData.str x).depth = 0 := by simp [PyData.depth]
  omega
theorem call_sortedT (hu : X.A.units + 64 < cLine) : CallR X (.builtin "sorted") (fun vs H Q => ∃ (a : Addr) (xs : List Str), vs = [V.ref a] ∧ SqL X.K H a (xs.map V.str) ∧ ∀ p, H p = none → Q (.ref p) (upd H p (.lst ((xs.mergeSort leT).map V.str)))) := by
  intro pins s σ H x us Q I r h
  obtain ⟨a, xs, rfl, hs, q⟩ := h
  obtain ⟨its, rv, hl, hz⟩ := I.list hs
  rw [Vals.ref1 r]
  have hlen0 := rv.length
  rw [List.length_map] at hlen0
  have eT := eachT rv.strs
  refine PySem.W.sorted_data (enc := fun x : Str => PyData.str x) (R := IsT) hl.isList eT (eachT_reads eT) (alikeT _) (sortableT _) (by rw [List.length_map] at hz; exact hz) (fun b _ => depthT hu b) fun out ho eo => ?_
  rw [leT_enc] at eo
  obtain ⟨ep, he'⟩ := PyProof.Rows.sortedAll_at s.heap its out.toArray
  have hlen : ((xs.mergeSort leT).map V.str).length ≤ sizeLine := by rw [List.length_map, List.length_mergeSort]; rw [List.length_map] at hz; exact hz
  exact ⟨.ref _, upd H (s.heap.objs.size + 1) (.lst ((xs.mergeSort leT).map V.str)), I.laid (t' := s.toks) (fun _ _ => PyProof.Rows.sortedAll_old) (Nat.le_succ _) ⟨hlen, out.toArray.toList, ep, vals_of_strs (by simpa using eachT_strs eo), he'⟩, rfl, q _ (I.hok.fresh (Nat.le_succ _))⟩
theorem call_sortedDT (hcalm : X.calm = true) (hu : X.A.units + 64 < cLine) : CallR X (.builtin "sorted") (fun xs H Q => ∃ (a : Addr) (kvs : List (Key × V)) (ks : List Str), xs = [.ref a] ∧ Rd H a (.dK kvs) ∧ kvs.map (·.1) = ks.map Sum.inr ∧
    ∀ p, H p = none → Q (.ref p) (upd H p (.lst ((ks.mergeSort leT).map V.str)))) := by
  intro pins s σ H xs us Q I r q
  obtain ⟨a, kvs, ks, ex, hd, hks, q⟩ := q
  subst ex
  obtain ⟨u, eu, rx⟩ := vals1 r
  subst eu
  cases rx
  obtain ⟨z, lo, vs, rel, dd⟩ := dk_rd I.hok hd
  obtain ⟨ep, hat⟩ := dd.dictAt
  have hkeys : vs.map (·.1) = ks.map Sum.inr := rel.keys.symm.trans hks
  have hl : vs.length = ks.length := by
    have e := congrArg List.length hkeys
    rw [List.length_map, List.length_map] at e
    exact e
  have h16 : vs.length ≤ sizeLine := by rw [← rel.length]; exact z
  refine Calls.call_function_entry PyProof.Rows.kind_sorted PyProof.Rows.plain_sorted PyProof.Rows.entry_sorted (PyProof.Rows.args_sorted1 _) ?_
  unfold Builtin.«sorted»
  refine wpAny_bind (m := checkCount "sorted" 1 1 _) (wpAny_pure ?_)
  refine wpAny_bind (PySem.W.kdu_collect (A := X.A.in1) (PySem.W.kdl_dict (knd := mixKind X.prog X.w) (kvs := vs) (ep := ep) lo) (I.ok.hd hcalm) hat h16 fun h' tk acc hk hacc => ?_)
  have hal : acc.toList.length = ks.length := by rw [Array.length_toList, hacc.1, hl]
  have hS : StrsAre acc.toList ks := strs_at hal fun j v e => by
    obtain ⟨k, x, e1, e2⟩ := hacc.2 j v (by rw [← Array.getElem?_toList]; exact e)
    have e3 : (vs.map (·.1))[j]? = some k := by rw [List.getElem?_map, e1]; all_goals rfl
    rw [hkeys, List.getElem?_map] at e3
    cases e4 : ks[j]? with
    | none => rw [e4] at e3; cases e3
    | some y =>
      rw [e4] at e3
      have e5 : Sum.inr y = k := Option.some.inj e3
      subst e5
      obtain ⟨t, ev⟩ := Value.isStrOf_shape (x := y) (v := v) e2
      exact ⟨y, t, rfl, ev⟩
  have hkl : ks.length ≤ sizeLine := by omega
  have I1 : Inv X pins σ H { s with heap := h', toks := tk } := I.kept hk
  refine wpAny_bind (wpAny_newList ?_ (by rw [hal]; exact hkl))
  have hoL : (h'.push (seqObj "list" acc.toList.toArray 0)).get? h'.objs.size = some (seqObj "list" acc.toList.toArray 0) := Heap.get?_push_size _ rfl
  show wpAny _ _ _ _ _ { s with heap := h'.push (seqObj "list" acc.toList.toArray 0), toks := tk }
  have eT := eachT hS
  refine wpAny_bind (wpAny_holding (PySem.W.list_sort_data (s := { s with heap := h'.push (seqObj "list" acc.toList.toArray 0), toks := tk }) (enc := fun x : Str => PyData.str x) (R := IsT) hoL eT ?er (alikeT _) (sortableT _) hkl (fun b _ => ?du) fun out ho eo => ?fin))
  case er => exact eachT_readsN eT
  case du =>
    have h1 : X.A.in1.units = X.A.units + 1 := rfl
    have : (PyData.str b).depth = 0 := by simp [PyData.depth]
    omega
  case fin =>
    rw [leT_enc] at eo
    obtain ⟨e', he'⟩ := PyProof.Rows.sortedHeap_at (vs := acc.toList) (out := out.toArray) hoL
    have hlen : ((ks.mergeSort leT).map V.str).length ≤ sizeLine := by rw [List.length_map, List.length_mergeSort]; exact hkl
    refine wpAny_pure ⟨_, rfl, .ref h'.objs.size, upd H h'.objs.size (.lst ((ks.mergeSort leT).map V.str)), I1.laid (t' := tk) (fun b u e => ?_) (Nat.le_refl _)
      (show ObjOk X.prog X.w _ _ _ (.lst ((ks.mergeSort leT).map V.str)) from ⟨hlen, out.toArray.toList, e', vals_of_strs (by simpa using eachT_strs eo), by rw [Array.toArray_toList]; exact he'⟩), rfl, q _ (I1.hok.fresh (Nat.le_refl _))⟩
    have hb : b < h'.objs.size := Heap.lt_size e
    show (sortedHeap (h'.push (seqObj "list" acc.toList.toArray 0)) h'.objs.size acc.toList out.toArray).get? b = some u
    rw [PyProof.Rows.sortedHeap_old (Nat.ne_of_lt hb) (by rw [size_push']; exact Nat.lt_succ_of_lt hb)]
    exact Heap.get?_push_of_some _ e
end
end Kx
namespace Kx
open PySem PySem.Spec PyProof.Rows L2 SX LamX
/-! ### len(set(text)) -/
def signsT (l : List Nat) : List Str := l.map fun c => S [c]
theorem signsT_at {l : List Nat} {t : Tok} {i : Nat} {v : Value} (h : PySem.SignAt (S l) i v) : ∃ x u, (signsT l)[i]? = some x ∧ v = .str x u := by
  obtain ⟨c, u, h1, h2⟩ := h
  have h5 : (S l).cps[i]? = l[i]? := by simp [S]
  rw [h5] at h1
  exact ⟨S [c], u, by unfold signsT; rw [List.getElem?_map, h1]; rfl, h2⟩
section
variable {prog : Program} {w : World} {A : Around} {E : Value → Shared → Prop} {s : Shared}
theorem call_set_text {l : List Nat} {t : Tok} {Q : Value → Shared → Prop} (hh : A.handled = none) (hb : l.length + 1 < scanBound)
    (h : ∀ (h' : Heap) (tk : Nat), MadeTx prog w s (signsT l) h' → Q (.ref s.heap.objs.size) { s with heap := h', toks := tk }) : wpAny (model prog w) A (call (.type "set") [.str (S l) t]) Q E s := by
  refine set_made (xs := signsT l) (fun led A' E' Q' hA q => ?_) h
  have isz : (S l).cps.size = (signsT l).length := by unfold signsT; simp [S]
  have isz2 : (S l).cps.size = l.length := by simp [S]
  have hS : (s.heap.push (freshSet led)).get? s.heap.objs.size = some (freshSet led) := Heap.get?_push_size _ rfl
  have hSf : s.heap.objs.size ∉ [(s.heap.push (freshSet led)).objs.size] := by
    rw [Heap.size_push]
    simp only [List.mem_cons, List.not_mem_nil, or_false]
    exact Nat.ne_of_lt (Nat.lt_succ_self _)
  have hh3 : A'.in1.handled = none := by simp [hA, hh]
  have done : ∀ (it : Obj) (s' : Shared), Moved (s.heap.objs.size :: [(s.heap.push (freshSet led)).objs.size]) (fun a b => b = a) { s with heap := (s.heap.push (freshSet led)).push it } s' → txSet prog w s'.heap s.heap.objs.size (onceS (signsT l)) →
      wpAny (model prog w) A' (ret Value.none) Q' E' s' := fun it s' hm hS' => by
    obtain ⟨h', g', d', tk', os'⟩ := s'
    have eg : g' = s.gens := hm.gens
    have ed : d' = s.drawn := hm.drawn
    have eo : os' = s.os := hm.os
    subst eg
    subst ed
    subst eo
    refine wpAny_pure (q h' tk' ⟨hS', fun b o e => ?_⟩)
    have hb0 : b < s.heap.objs.size := Heap.lt_size e
    have hb1 : b ≠ s.heap.objs.size := Nat.ne_of_lt hb0
    have hb2 : b ≠ (s.heap.push (freshSet led)).objs.size := by
      rw [Heap.size_push]
      exact Nat.ne_of_lt (Nat.lt_succ_of_lt hb0)
    exact hm.heap b o (by simp only [List.mem_cons, List.not_mem_nil, or_false, not_or]; exact ⟨hb1, hb2⟩) (Heap.get?_push_of_some _ (Heap.get?_push_of_some _ e))
  unfold Builtin.«set.__init__» noKeywords Builtin.Frozenset.updateFrom
  have hsls := PySem.F.sub_str_set
  have hslf := PySem.F.sub_str_frozenset
  have hne : (Value.type "str" == Value.type "dict") = false := by decide
  generalize hPI : pyIter = PI
  wp_walk
  subst hPI
  refine PySem.wpAny_pyIter_str fun o St W st0 => ?_
  refine wpAny_bind (wpAny_runValue ?_)
  refine upd_texts ((W _ hh3).toS) s.heap.objs.size hSf (signsT l) isz (fun i v hv => signsT_at (t := t) hv) (by omega) ((S l).cps.size - 0) 0 _ (by omega) (Nat.zero_le _) st0 ?_ (fun s' hm hS' => ?_)
  · have hget : ((s.heap.push (freshSet led)).push o).get? s.heap.objs.size = some (freshSet led) := Heap.get?_push_of_some _ hS
    exact PyProof.Rows.SetOf_congr ((PyProof.Rows.setObjOf_fresh (knd := PySem.strKind prog w) led).setOf hget (by unfold scanBound; omega)) (fun _ => rfl) rfl
  · exact wpAny_pure (done _ s' hm hS')
end
section
variable {X : Cx}
/-- len(set(e)), e a text -/
def tLenSetT (ta : TE) : TE := fun σ H Q => ta σ H fun x H1 => ∃ l : List Nat, x = .str (S l) ∧ l.length ≤ 4000 ∧ Q (.int ((onceS (signsT l)).length : Nat)) H1
theorem pe_lenSetT {a : Expr} {ta : TE} {p p2 q pos : Pos} (hg : Gl X "len") (hm : X.mg "len" = none) (hg2 : Gl X "set") (hm2 : X.mg "set" = none) (ha : PE X a ta) (hc : X.calm = true := by rfl)
    (na : starEach [a] X.env = (false, eval a X.env) :: starEach [] X.env := by rfl) : PE X (.Call (.Name "len" p) [.Call (.Name "set" p2) [a] [] q] [] pos) (tLenSetT ta) := by
  refine ⟨fun pins s σ H Q I h => ?_⟩
  refine Call_ (ld_blt I hg hm boot_len ?_)
  refine PyProof.Rows.callWith_builtin1 (PyProof.Rows.args_cons ?_ rfl) rfl rfl
  refine Call_ (ld_blt I hg2 hm2 boot_set ?_)
  refine PyProof.Rows.callWith_type1 (PyProof.Rows.args_cons (thn (ha.run pins s σ H _ I h) fun v s1 ⟨x, H1, I1, r1, q1⟩ => PyProof.Rows.args_nil ?_) na) na rfl
  obtain ⟨l, rfl, h1, q1⟩ := q1
  obtain ⟨t, rfl⟩ := r1
  refine call_set_text (I1.ok.hd hc) (by unfold scanBound; omega) fun h' tk m => ?_
  refine PyProof.Rows.args_nil ?_
  obtain ⟨⟨o, es, ep, t, ho, hex, hd, _, _, _, hf, hn⟩, hk⟩ := m
  have I2 : Inv X pins σ H1 { s1 with heap := h', toks := tk } := I1.kept fun b o e => hk b o e
  have h2 := onceS_le (signsT l)
  have h3 : (signsT l).length = l.length := by unfold signsT; rw [List.length_map]
  exact call_len_set ho hex hd hf (by rw [hn] <;> omega) ⟨.int ((onceS (signsT l)).length : Nat), H1, I2.tok _, ⟨_, by rw [hn]⟩, q1⟩
end
end Kx
namespace Kx
open PySem PySem.Spec PyProof.Rows L2 SX LamX
/-! ### an error class of the program: two fields -/
structure Er2 (K : PySem.W.Frag) (mg : Str → Option Value) (x qual : Str) (st : Stmt) (base f1 f2 : Str) where
  C : Addr
  L : Addr
  fI : Addr
  fd : FuncData
  gC : mg x = some (.ref C)
  gL : mg base = some (.ref L)
  oex : OexC K C
  iC : PySem.W.findIn K (.ref C) "__init__" = some (some (.ref fI))
  tI : PySem.W.typeIn K (.ref fI) = some (.type "function")
  F : Fun K "__init__" qual st fI fd
  b : Binds K fd ["self", f1, f2] []
  np : PySem.W.findIn K (.ref C) f1 = some none
  np2 : PySem.W.findIn K (.ref C) f2 = some none
  exc : ExcC K C
  xf : XfC K C
  em : PySem.W.exmOne K (.ref C) (.ref L) = some true
/-- its making, out of what the top left -/
def er2_mk {K : PySem.W.Frag} {h : Heap} {mg : Str → Option Value} (X : K.In h) (G : h.Ns mainGlobals mg) {x qual : Str} {st : Stmt} {base f1 f2 : Str} {C L fI N : Addr} {nm q : Str} {bs bm : List Value} {sn : List Str} {sub : List Value} {ab : Bool} {col : Option Bool} {dd : Option Addr} {m0 m1 m2 m3 m5 : Option Value}
    {od an : Option Addr} {sl : Array (Option Value)} {oc kV dc pm cd ct : Value} (aC : PySem.W.nsIn K mainGlobals x = some (some (.ref C))) (aL : PySem.W.nsIn K mainGlobals base = some (some (.ref L)))
    (xL : K.lookup C = some (excClassObj nm q C N bs bm true sn sub ab col dd m0 m1 m2 m3 m5 "ValueError.__new__")) (hbm : PySem.HandSPX.refsVE bm = true)
    (sa : PySem.W.findIn K (.ref C) "__setattr__" = some (some (.builtin "object.__setattr__"))) (eC : PySem.W.subIn K (.ref C) (.type "BaseException") = some true) (tC : PySem.W.typeIn K (.ref C) = some (.type "type")) (kC : PySem.W.keepIn K (.ref C) = true)
    (a1 : PySem.W.findIn K (.ref C) "__init__" = some (some (.ref fI))) (t1 : PySem.W.typeIn K (.ref fI) = some (.type "function"))
    (l1 : K.lookup fI = some ⟨oc, od, .func (PySem.W.fnOf "__init__" qual (defArgs st) (defBody st) (defScope st) .none kV dc pm an cd ct), sl⟩) (c1 : PySem.W.codeIn K cd qual = true) (k1 : PySem.W.keepIn K (.ref fI) = true)
    (b1 : ∀ (kV doc pm : Value) (an : Option Addr) (cdv ct : Value) (us : List Value), us.length = (["self", f1, f2] : List Str).length → bindArgs (PySem.W.fnOf "__init__" qual (defArgs st) (defBody st) (defScope st) .none kV doc pm an cdv ct) ⟨us, []⟩ = pure ((["self", f1, f2] : List Str).zip us))
    (nb : PySem.W.findIn K (.ref C) f1 = some none) (nb2 : PySem.W.findIn K (.ref C) f2 = some none) (ga : PySem.W.findIn K (.ref C) "__getattribute__" = some (some (.builtin "BaseException.__getattribute__"))) (gg : PySem.W.findIn K (.ref C) "__getattr__" = some none) (hd : PySem.W.hasDictIn K C = true)
    (hc : PySem.W.findIn K (.ref C) "__class__" = some (some (.builtin "object.__class__"))) (hn : PySem.W.specialIn K (.builtin "object.__class__") "__get__" = some (some (.builtin "getset_descriptor.__get__"))) (ht : PySem.W.takesIn K (.builtin "object.__class__") = some true)
    (hm : PySem.W.mroIn K C (.type "object") = some true) (eL : PySem.W.subIn K (.ref L) (.type "BaseException") = some true) (dL : PySem.W.hasDictIn K L = true) (tL : PySem.W.typeIn K (.ref L) = some (.type "type")) (sCL : PySem.W.subIn K (.ref C) (.ref L) = some true) : Er2 K mg x qual st base f1 f2 where
  C := C
  L := L
  fI := fI
  fd := _
  gC := PySem.W.mg_of X G aC
  gL := PySem.W.mg_of X G aL
  oex := ⟨⟨nm, q, N, bs, bm, sn, sub, ab, col, dd, m0, m1, m2, m3, m5, xL, hbm⟩, sa, eC, tC, kC⟩
  iC := a1
  tI := t1
  F := fun_mk (st := st) l1 c1 k1
  b := (fun_mk (st := st) l1 c1 k1).binds (ps := ["self", f1, f2]) b1
  np := nb
  np2 := nb2
  exc := ⟨ga, gg, eC, hd, hc, hn, ht, hm⟩
  xf := ⟨ga, gg, eC, hd⟩
  em := PySem.W.exm_ref eL dL tL sCL
/-- the promise of such an __init__ -/
def sp_init2 (K : PySem.W.Frag) (f1 f2 : Str) : Sp := fun vs H Q _ => ∃ (a C : Addr) (y z : V), vs = [.ref a, y, z] ∧ OexC K C ∧ PySem.W.findIn K (.ref C) f1 = some none ∧ PySem.W.findIn K (.ref C) f2 = some none ∧ H a = some (exo a C none) ∧
  ∀ dx, H dx = none → dx ≠ a → Q .non (upd (upd (upd H dx (exd dx [(f1, y)])) a (exo a C (some dx))) dx (exd dx [(f2, z), (f1, y)]))
section
variable {P : Program} {w : World} {K : PySem.W.Frag} {mg : Str → Option Value} {base : Heap}
/-- the body of such an __init__ -/
def IsInit2 (st : Stmt) (f1 f2 : Str) : Prop := ∃ p1 p2 p3 p4 p5 p6 p7 p8, defBody st = [.Assign [.Attribute (.Name "self" p1) f1 p2] (.Name f1 p3) p4, .Assign [.Attribute (.Name "self" p5) f2 p6] (.Name f2 p7) p8] ∧
  FnScope ["self", f1, f2] ["self", f1, f2] (defScope st) ∧ (defScope st).names.lookup ("self" : Str) = some .local ∧ (defScope st).names.lookup f1 = some .local ∧ (defScope st).names.lookup f2 = some .local ∧
  (f1 == ("__debug__" : Str)) = false ∧ (f1 == ("__classdict__" : Str)) = false ∧ (f2 == ("__debug__" : Str)) = false ∧ (f2 == ("__classdict__" : Str)) = false
theorem ok_init2 {x qual : Str} {st : Stmt} {bs f1 f2 : Str} (e : Er2 K mg x qual st bs f1 f2) (h : IsInit2 st f1 f2) : FnOk P w K mg base CX0 1 e.fI e.fd ["self", f1, f2] (sp_init2 K f1 f2) := by
  obtain ⟨p1, p2, p3, p4, p5, p6, p7, p8, hb, sc, v1, v2, v3, d1, d2, d3, d4⟩ := h
  refine e.F.ok sc (fun vs H Q E h => ?_) (fun cdv A outer s H vs Q E hr h => ?_)
  · obtain ⟨a, C, y, z, rfl, _⟩ := h
    rfl
  · obtain ⟨a, C, y, z, rfl, o, n1, n2, ha, q⟩ := h
    rw [hb]
    refine ⟨_, pss_cons (ps_ost (pv 0 rfl (.inl v1)) (pv 1 rfl (.inl v2) (hd := d1) (hcd := d2))) (pss_one (ps_ost (pv 0 rfl (.inl v1)) (pv 2 rfl (.inl v3) (hd := d3) (hcd := d4)))), ?_⟩
    refine ⟨y, rfl, .ref a, rfl, a, C, rfl, o, n1, .inl ⟨ha, fun dx hdx ne => ?_⟩⟩
    exact ⟨z, rfl, .ref a, rfl, a, C, rfl, o, n2, .inr ⟨dx, [(f1, y)], upd_same, by rw [upd_ne ne, upd_same], (show 1 ≤ 900 by decide), q dx hdx ne⟩⟩
end
theorem mk_part2 {K : PySem.W.Frag} {C : Addr} {f1 f2 : Str} {σ : L2.St} {H : Hp} {Q : XK} {v z : V} (o : OexC K C) (n : PySem.W.findIn K (.ref C) f1 = some none) (n2 : PySem.W.findIn K (.ref C) f2 = some none)
    (q : ∀ d H', Same H H' → H' d = some (.xd [(f2, z), (f1, v)]) → Q (.ref C) (some d) H') : tMkO C (sp_init2 K f1 f2) [] (tCons (tC v) (tCons (tC z) tNil)) σ H Q := by
  refine ⟨by show 2 ≤ 1000; decide, fun a na => ⟨a, C, v, z, rfl, o, n, n2, upd_same, fun dx nd hne => ⟨rfl, dx, [(f2, z), (f1, v)], ?_, upd_same, ?_, q dx _ ?_ upd_same⟩⟩⟩
  · rw [upd_ne (Ne.symm hne), upd_same]
  · rw [upd_ne hne] at nd
    exact nd
  · rw [upd_ne hne] at nd
    intro b u h
    rw [upd_ne (ne_of_none h nd)]
    show (if b = a then none else _) = some u
    rw [if_neg (ne_of_none h na), upd_ne (ne_of_none h nd), upd_ne (ne_of_none h na), upd_ne (ne_of_none h nd), upd_ne (ne_of_none h na)]
    exact h
/-- an error of two fields, told on -/
def RaisedTwo (E : XK) (C : Addr) (f1 f2 : Str) (H : Hp) (v z : V) : Prop := ∀ d H', Same H H' → H' d = some (.xd [(f2, z), (f1, v)]) → E (.ref C) (some d) H'
end Kx
namespace Kx
open PySem PySem.Spec PyProof.Rows L2 SX LamX
/-! ### d.update(e) -/
theorem putK_len {κ : Type} [DecidableEq κ] (kvs : List (κ × V)) (k : κ) (v : V) : (putK kvs k v).length ≤ kvs.length + 1 := by
  unfold putK
  split
  · rw [List.length_map]; omega
  · rw [List.length_append]; exact Nat.le_refl _
theorem mergeK_len : ∀ (more kvs : List (Key × V)), (mergeK kvs more).length ≤ kvs.length + more.length
  | [], kvs => Nat.le_refl _
  | p :: r, kvs => by
    have h1 := mergeK_len r (putK kvs p.1 p.2)
    have h2 := putK_len kvs p.1 p.2
    show (mergeK (putK kvs p.1 p.2) r).length ≤ _
    rw [List.length_cons]
    omega
def rDUpd : V → List V → Hp → VK → Prop := fun x vs H Q => ∃ (a b : Addr) (kvs more : List (Key × V)), x = .ref a ∧ vs = [.ref b] ∧ a ≠ b ∧ H a = some (.dK kvs) ∧ H b = some (.dK more) ∧ kvs.length + more.length ≤ sizeLine ∧ Q .non (upd H a (.dK (mergeK kvs more)))
theorem mtd_update {X : Cx} : MtR X "dict.update" rDUpd := by
  intro pins s σ H x vs v us Q I rx rv h
  obtain ⟨a, b, kvs, more, ex, ev, ne, e1, e2, hl, q⟩ := h
  subst ex
  subst ev
  obtain rfl : v = Value.ref a := rx
  obtain ⟨u, rfl, ru⟩ := vals1 rv
  obtain rfl : u = Value.ref b := ru
  obtain ⟨z1, hd1, vs1, rel1, dd1⟩ := dk_of I.hok e1
  obtain ⟨z2, hd2, vs2, rel2, dd2⟩ := dk_of I.hok e2
  refine call_meetsIn PySem.F.slot_dict_update dd1.typeIs PySem.F.entry_dict_update (PySem.F.args_dict_update_2 _ _) (meets_dict_update (mixKind X.prog X.w) a b ne hd2)
    ⟨vs1, vs2, dd1, dd2, by rw [← rel1.length, ← rel2.length]; exact hl, fun h' dd' _ hs => ?_⟩
  have he : ∃ q, h'.get? a = some q := let ⟨q, _, _, hq, _⟩ := dd'; ⟨q, hq⟩
  exact ⟨.non, _, d_write (t' := s.toks) I (by rw [e1]; exact True.intro) hs he (dk_new (Nat.le_trans (mergeK_len more kvs) hl) hd1 (rel2.merge rel1) dd'), rfl, q⟩
/-! ### a dict of the top with int keys -/
def keyI (e : DictEntry) : Option Int := match e.key with
  | .int i _ => if e.hash = hashInt i then some i else none
  | _ => none
def keysI (es : List DictEntry) : Bool := es.all fun e => (keyI e).isSome
def DctI (K : PySem.W.Frag) (a : Addr) (kvs : List (Int × V)) : Prop :=
  ∃ (es : Array DictEntry) (n : Nat), K.lookup a = some ⟨.type "dict", none, .dict es n, #[]⟩ ∧ keysI es.toList = true ∧ ∃ us : List Value, es.toList.map (fun e => (keyI e, e.val)) = (kvs.zip us).map (fun p => (some p.1.1, p.2)) ∧ Vals (kvs.map (·.2)) us
theorem keyI_some {e : DictEntry} {i : Int} (h : keyI e = some i) : (∃ t, e.key = .int i t) ∧ e.hash = hashInt i := by
  unfold keyI at h
  split at h
  · rename_i j t hk
    split at h
    · cases h
      exact ⟨⟨t, hk⟩, by assumption⟩
    · cases h
  · cases h
theorem dctI_find : ∀ (es : List DictEntry) (kvs : List (Int × V)) (us : List Value) (i : Int) (v : V), es.map (fun e => (keyI e, e.val)) = (kvs.zip us).map (fun p => (some p.1.1, p.2)) → Vals (kvs.map (·.2)) us → valV kvs i = some v →
    ∃ e, es.find? (fun e => e.key.isInt i) = some e ∧ RelV v e.val
  | es, [], us, i, v, _, _, h => by cases h
  | es, p :: r, [], i, v, _, hv, _ => by cases hv
  | [], p :: r, u :: us, i, v, h, _, _ => by cases h
  | e :: es, p :: r, u :: us, i, v, h, hv, hi => by
    simp only [List.map_cons, List.zip_cons_cons] at h
    injection h with h1 h2
    injection h1 with h3 h4
    obtain ⟨⟨t, hk⟩, _⟩ := keyI_some h3
    cases hv with
    | cons r1 r2 =>
      by_cases e1 : p.1 = i
      · refine ⟨e, ?_, ?_⟩
        · rw [List.find?_cons_of_pos]
          rw [hk]
          show (Value.int p.1 t).isInt i = true
          simp [Value.isInt, e1]
        · rw [valV_pos e1] at hi
          cases hi
          rw [h4]
          exact r1
      · rw [valV_neg e1] at hi
        obtain ⟨e', g1, g2⟩ := dctI_find es r us i v h2 r2 hi
        refine ⟨e', ?_, g2⟩
        rw [List.find?_cons_of_neg]
        · exact g1
        rw [hk]
        show ¬ (Value.int p.1 t).isInt i = true
        simp [Value.isInt, e1]
def rIxI (K : PySem.W.Frag) : R2 := fun x y H Q => ∃ (p : Addr) (kvs : List (Int × V)) (i : Int) (v : V), x = .ref p ∧ y = .int i ∧ DctI K p kvs ∧ valV kvs i = some v ∧ Q v H
section
variable {X : Cx}
theorem ix_dctI : IxR X (rIxI X.K) := by
  intro value slice pins s σ H x y v u Q I rx ry h hs
  obtain ⟨p, kvs, i, r, rfl, rfl, ⟨es, n, hl, hk, us, hm, hv⟩, e, q⟩ := h
  obtain rfl : v = Value.ref p := rx
  obtain ⟨t, rfl⟩ := ry
  obtain ⟨en, he, ru⟩ := dctI_find _ _ _ _ _ hm hv e
  have hmap : s.heap.MapOf (intKind X.prog X.w) p (fun k => findBy (intKind X.prog X.w).is es k) := ⟨_, es, n, I.kIn _ _ hl, ⟨rfl, rfl, rfl⟩, rfl, fun en hen => by
    have := List.all_eq_true.mp hk en (Array.mem_toList_iff.mpr hen)
    obtain ⟨j, hj⟩ := Option.isSome_iff_exists.mp this
    obtain ⟨⟨t, e1⟩, e2⟩ := keyI_some hj
    exact ⟨j, by rw [e1]; exact intKind_is X.prog X.w j t, e2⟩, fun _ => rfl⟩
  have hf : findBy (intKind X.prog X.w).is es i = some en.val := by
    unfold findBy
    have : es.find? (fun e => (intKind X.prog X.w).is i e.key) = some en := by
      rw [← Array.find?_toList]
      exact he
    rw [this]
    rfl
  exact tail_any hmap.typeIs slot_dict_getitem.lookup (wpAny_getItem_of (intKind_is X.prog X.w i t) hmap hf ⟨r, H, I.tok _, ru, q⟩) hs
end
/-! ### o.f within a target -/
def gFld (K : PySem.W.Frag) (ta : TE) (f : Str) : TG := fun v σ H Q => ta σ H fun x H1 => ∃ a C dx fs, x = .ref a ∧ H1 a = some (.ins C dx fs) ∧ Cls K C ∧ NoAttr K C f ∧ fs.length < 1000 ∧ Q σ (upd H1 a (.ins C dx (putF f v fs)))
section
variable {X : Cx} {o : Expr} {f : Str} {pos : Pos} {ta : TE}
theorem pg_fld (ha : PE X o ta) : PG X (.Attribute o f pos) (gFld X.K ta f) := by
  refine ⟨fun pins s σ H v u Q I r h => ?_⟩
  rw [assign_Attribute]
  refine wpAny_bind (wpAny_holding (thn (ha.run pins s σ H _ I h) fun ov s1 ⟨x, H1, I1, r1, a, C, dx, fs, ex, ea, c, n, l, q2⟩ => ?_))
  subst ex
  obtain rfl : ov = Value.ref a := r1
  refine wpAny_bind (wpAny_standAt (wpAny_bind (wpAny_holding (setattr_ok I1 ea c n l r fun s3 I3 => ?_))))
  exact wpAny_release ⟨σ, _, I3, q2⟩
end
/-! ### a call of a name that holds one of the functions of a table -/
section
variable {X : Cx} {i : Nat} {E : XK} {x : Str} {p pos : Pos} {e : Expr} {es : List Expr} {t : TA}
theorem pe_callF {D : Nat → Prop} {fa : Nat → Addr} {sps : Nat → Sp} (hN : X.N[i]? = some x) (hv : Vis X.env.scope x) (hF : ∀ n, D n → RunF X (fa n) (sps n) E) (ha : PA X (e :: es) t) (hd : (x == ("__debug__" : Str)) = false := by decide) (hcd : (x == ("__classdict__" : Str)) = false := by decide)
    (he : starEach (e :: es) X.env = (false, eval e X.env) :: starEach es X.env := by rfl) (hpl : (backTo pos (starEach es X.env)).any (·.1) = false := by rfl) :
    PE X (.Call (.Name x p) (e :: es) [] pos) (fun σ H Q => ∃ n, D n ∧ σ[i]? = some (some (.ref (fa n))) ∧ t σ H fun vs H1 => sps n vs H1 Q E) := by
  refine ⟨fun pins s σ H Q I h => ?_⟩
  obtain ⟨n, hf, hs, hq⟩ := h
  exact (pe_callV (fs := [fa n]) (sp := sps n) hN hv (fun f hm => by rw [List.mem_singleton.mp hm]; exact hF n hf) ha hd hcd he hpl).run pins s σ H Q I ⟨fa n, List.mem_singleton.mpr rfl, hs, hq⟩
end
end Kx
namespace Ms
structure Mst where
  block : Int
  room : Int
  tick : Bool
  flag : Bool
  test : Bool
  mode : Int
  first : Int
  second : Int
  cells : Int → Int
  heard : Nat
  said : List Int
  isd : Bool
def putC (f : Int → Int) (k v : Int) : Int → Int := fun c => if c = k then v else f c
/-- a word that wants the flag, which was up and is down now -/
def flagW (s : Mst) (n : Nat) (ns : List Int) : Mst :=
  if n = 4 then { s with first := s.first + s.second }
  else if n = 5 then { s with first := s.first - s.second }
  else if n = 6 then { s with first := s.first * s.second }
  else if n = 7 then { s with first := if s.second = 0 then 0 else s.first.fdiv s.second }
  else if n = 8 then { s with first := s.second, second := s.first }
  else if n = 9 then { s with first := if s.heard < ns.length then ns.getD s.heard 0 else 0, heard := if s.heard < ns.length then s.heard + 1 else s.heard }
  else if n = 10 then { s with said := s.said ++ [s.first] }
  else if n = 11 then { s with first := s.cells s.first }
  else { s with first := 8 * s.first + (n : Int) - 12 }
/-- a word that wants none -/
def bareW (s : Mst) (n : Nat) : Mst :=
  if n = 20 then { s with first := 0 }
  else if n = 21 then { s with second := s.first }
  else if n = 22 then { s with cells := putC s.cells s.second s.first }
  else if n = 23 then { s with test := decide (s.first = 0) }
  else if n = 24 then { s with test := decide (s.first < 0) }
  else if n < 28 then { s with mode := (n : Int) - 25 }
  else if n = 29 then { s with isd := true }
  else { s with room := if s.mode = 2 ∨ s.test = decide (s.mode = 0) then s.first else s.room }
def doW (ns : List Int) (s : Mst) (n : Nat) : Mst :=
  if s.isd = true then s
  else if n = 0 then { s with block := -1 }
  else if n = 1 then { s with tick := true }
  else if n = 2 then { s with block := if s.tick = true then s.block + 1 else s.block, tick := false }
  else if s.block ≠ s.room then s
  else if n = 3 then { s with flag := true }
  else if n < 20 then (if s.flag = true then flagW { s with flag := false } n ns else s)
  else bareW s n
theorem doW_twice (ns : List Int) (s : Mst) (n : Nat) (h : n < 30) : doW ns (doW ns s n) n = doW ns s n := by
  by_cases hd : s.isd = true
  · have e : doW ns s n = s := by unfold doW; rw [if_pos hd]
    rw [e, e]
  by_cases h0 : n = 0
  · subst h0; simp [doW, hd]
  by_cases h1 : n = 1
  · subst h1; simp [doW, hd]
  by_cases h2 : n = 2
  · subst h2; simp [doW, hd]
  by_cases hb : s.block ≠ s.room
  · have e : doW ns s n = s := by unfold doW; rw [if_neg hd, if_neg h0, if_neg h1, if_neg h2, if_pos hb]
    rw [e, e]
  by_cases h3 : n = 3
  · subst h3
    have hb : s.block = s.room := Decidable.not_not.mp hb
    simp [doW, hd, hb]
  by_cases h4 : n < 20
  · by_cases hf : s.flag = true
    · have e : doW ns s n = flagW { s with flag := false } n ns := by unfold doW; rw [if_neg hd, if_neg h0, if_neg h1, if_neg h2, if_neg hb, if_neg h3, if_pos h4, if_pos hf]
      have f : (flagW { s with flag := false } n ns).flag = false := by unfold flagW; (repeat' split) <;> rfl
      rw [e]
      unfold doW
      rw [f]
      simp only [h0, h1, h2, h3, h4, if_true, if_false, Bool.false_eq_true, ite_self]
    · have e : doW ns s n = s := by unfold doW; rw [if_neg hd, if_neg h0, if_neg h1, if_neg h2, if_neg hb, if_neg h3, if_pos h4, if_neg hf]
      rw [e, e]
  have hb : s.block = s.room := Decidable.not_not.mp hb
  have : n = 20 ∨ n = 21 ∨ n = 22 ∨ n = 23 ∨ n = 24 ∨ n = 25 ∨ n = 26 ∨ n = 27 ∨ n = 28 ∨ n = 29 := by omega
  rcases this with rfl | rfl | rfl | rfl | rfl | rfl | rfl | rfl | rfl | rfl
  · simp [doW, bareW, hd, hb]
  · simp [doW, bareW, hd, hb]
  · simp [doW, bareW, hd, hb]
    funext c
    simp only [putC]
    split <;> rfl
  · simp [doW, bareW, hd, hb]
  · simp [doW, bareW, hd, hb]
  · simp [doW, bareW, hd, hb]
  · simp [doW, bareW, hd, hb]
  · simp [doW, bareW, hd, hb]
  · by_cases hm : s.mode = 2 ∨ s.test = decide (s.mode = 0)
    · by_cases hr : s.room = s.first
      · simp [doW, bareW, hd, hb, hm, hr]
      · simp [doW, bareW, hd, hb, hm, hr]
    · simp [doW, bareW, hd, hb, hm]
  · simp [doW, bareW, hd, hb]
def doR (ns : List Int) (s : Mst) (row : List Nat) : Mst := row.foldl (doW ns) s
theorem doR_app (ns : List Int) (s : Mst) (a b : List Nat) : doR ns s (a ++ b) = doR ns (doR ns s a) b := List.foldl_append ..
theorem doR_rep (ns : List Int) (n : Nat) (h : n < 30) : ∀ (k : Nat) (s : Mst), doR ns s (List.replicate (k + 1) n) = doW ns s n
  | 0, s => rfl
  | k + 1, s => by
    show doR ns (doW ns s n) (List.replicate (k + 1) n) = _
    rw [doR_rep ns n h k, doW_twice ns s n h]
end Ms
namespace Ms
/-! ### the deed alone, and whether it is done -/
def rawW (ns : List Int) (s : Mst) (n : Nat) : Mst :=
  if n = 0 then { s with block := -1 }
  else if n = 1 then { s with tick := true }
  else if n = 2 then { s with block := if s.tick = true then s.block + 1 else s.block, tick := false }
  else if n = 3 then { s with flag := true }
  else if n < 20 then flagW s n ns
  else bareW s n
def mayB (s : Mst) (n : Nat) : Bool := !s.isd && (decide (n < 3) || decide (s.block = s.room)) && (!(decide (4 ≤ n) && decide (n ≤ 19)) || s.flag)
def mayS (s : Mst) (n : Nat) : Mst := if (!s.isd && decide (s.block = s.room) && (decide (4 ≤ n) && decide (n ≤ 19))) = true then { s with flag := false } else s
theorem doW_may (ns : List Int) (s : Mst) (n : Nat) : doW ns s n = if mayB s n = true then rawW ns (mayS s n) n else mayS s n := by
  have eta : s.flag = false → { s with flag := false } = s := fun h => by
    cases s
    cases h
    rfl
  unfold doW mayB mayS
  by_cases hd : s.isd = true
  · simp [hd]
  have hd : s.isd = false := by simpa using hd
  by_cases h0 : n = 0
  · subst h0; simp [hd, rawW]
  by_cases h1 : n = 1
  · subst h1; simp [hd, rawW]
  by_cases h2 : n = 2
  · subst h2; simp [hd, rawW]
  by_cases hb : s.block = s.room
  · by_cases h3 : n = 3
    · subst h3; simp [hd, hb, rawW]
    · by_cases h4 : n < 20
      · have h4' : 4 ≤ n := by omega
        have h5' : n ≤ 19 := by omega
        cases hf : s.flag with
        | true => simp [hd, h0, h1, h2, hb, h3, h4, h4', h5', rawW, hf]
        | false =>
          have e := eta hf
          have e2 : s = { block := s.room, room := s.room, tick := s.tick, flag := false, test := s.test, mode := s.mode, first := s.first, second := s.second, cells := s.cells, heard := s.heard, said := s.said, isd := false } := by
            cases s
            cases hb
            cases hd
            cases hf
            rfl
          simp only [hd, h0, h1, h2, hb, h3, h4, h4', h5', hf, Bool.false_eq_true, if_false, ne_eq, not_true_eq_false, if_true, Bool.not_false, decide_true, Bool.true_and, Bool.and_self, Bool.not_true, Bool.or_false, Bool.or_true, Bool.and_false, Bool.or_self]
          exact e2
      · have h5' : ¬ n ≤ 19 := by omega
        simp [hd, h0, h1, h2, hb, h3, h4, h5', rawW]
  · have h3 : ¬ n < 3 := by omega
    simp [hd, h0, h1, h2, hb, h3]
/-! ### how great numbers come to be -/
def Bi (b : Nat) (i : Int) : Prop := i.natAbs < 2 ^ b
theorem Bi.mono {a b : Nat} {i : Int} (h : Bi a i) (l : a ≤ b) : Bi b i := Nat.lt_of_lt_of_le h (Nat.pow_le_pow_right (by decide) l)
theorem Bi.add {a : Nat} {i j : Int} (h : Bi a i) (k : Bi a j) : Bi (a + 1) (i + j) := by
  unfold Bi at *
  rw [Nat.pow_succ]
  omega
theorem Bi.sub {a : Nat} {i j : Int} (h : Bi a i) (k : Bi a j) : Bi (a + 1) (i - j) := by
  unfold Bi at *
  rw [Nat.pow_succ]
  omega
theorem Bi.mul {a b : Nat} {i j : Int} (h : Bi a i) (k : Bi b j) : Bi (a + b) (i * j) := by
  unfold Bi at *
  rw [Int.natAbs_mul, Nat.pow_add]
  exact Nat.mul_lt_mul'' h k
theorem Bi.div {a : Nat} {i j : Int} (h : Bi a i) (hj : j ≠ 0) : Bi (a + 1) (i.fdiv j) := by
  unfold Bi at *
  rw [Nat.pow_succ]
  have : (i.fdiv j).natAbs ≤ i.natAbs + 1 := by
    have h1 := Int.natAbs_fdiv_le_natAbs i j
    omega
  have : 0 < 2 ^ a := Nat.pow_pos (by decide)
  omega
theorem Bi.eight {a : Nat} {i : Int} {d : Nat} (h : Bi a i) (hd : d < 8) : Bi (a + 3) (8 * i + d) := by
  unfold Bi at *
  rw [Nat.pow_add]
  show _ < 2 ^ a * 8
  omega
structure Bd (b : Nat) (s : Mst) : Prop where
  block : Bi b s.block
  room : Bi b s.room
  first : Bi b s.first
  second : Bi b s.second
  cells : ∀ c, Bi b (s.cells c)
  keys : ∀ c, s.cells c ≠ 0 → Bi b c
  said : ∀ i ∈ s.said, Bi b i
  mode : 0 ≤ s.mode ∧ s.mode ≤ 2
  heard : s.heard ≤ 100000
  low : -1 ≤ s.block
theorem Bd.mono {a b : Nat} {s : Mst} (h : Bd a s) (l : a ≤ b) : Bd b s :=
  ⟨h.block.mono l, h.room.mono l, h.first.mono l, h.second.mono l, fun c => (h.cells c).mono l, fun c z => (h.keys c z).mono l, fun i m => (h.said i m).mono l, h.mode, h.heard, h.low⟩
def grow (n b : Nat) : Nat := if n = 6 then 2 * b else b + 3
theorem bi_getD {b : Nat} {ns : List Int} (hn : ∀ i ∈ ns, Bi b i) (k : Nat) : Bi b (ns.getD k 0) := by
  rw [List.getD_eq_getElem?_getD]
  cases h : ns[k]? with
  | none => exact Nat.pow_pos (by decide)
  | some i => exact hn i (List.mem_of_getElem? h)
theorem bd_flag {b : Nat} {s : Mst} {n : Nat} {ns : List Int} (h : Bd b s) (hb : 3 ≤ b) (hn : ∀ i ∈ ns, Bi b i) (hl : ns.length ≤ 100000) (h4 : 4 ≤ n) (h20 : n < 20) : Bd (grow n b) (flagW s n ns) := by
  have z : Bi b 0 := Nat.pow_pos (by decide)
  have g : b ≤ grow n b := by unfold grow; split <;> omega
  have hg := h.mono g
  unfold flagW
  split
  · exact { hg with first := (h.first.add h.second).mono (by unfold grow; split <;> omega) }
  split
  · exact { hg with first := (h.first.sub h.second).mono (by unfold grow; split <;> omega) }
  split
  · rename_i e
    exact { hg with first := (h.first.mul h.second).mono (by unfold grow; rw [if_pos e]; omega) }
  split
  · refine { hg with first := ?_ }
    show Bi _ (if s.second = 0 then 0 else s.first.fdiv s.second)
    split
    · exact z.mono g
    · rename_i e
      exact (h.first.div e).mono (by unfold grow; split <;> omega)
  split
  · exact { hg with first := hg.second, second := hg.first }
  split
  · refine { hg with first := ?_, heard := ?_ }
    · show Bi _ (if s.heard < ns.length then ns.getD s.heard 0 else 0)
      split
      · exact (bi_getD hn _).mono g
      · exact z.mono g
    · show (if s.heard < ns.length then s.heard + 1 else s.heard) ≤ 100000
      split
      · omega
      · exact h.heard
  split
  · refine { hg with said := fun i m => ?_ }
    rcases List.mem_append.mp m with m | m
    · exact hg.said i m
    · rw [List.mem_singleton.mp m]
      exact hg.first
  split
  · exact { hg with first := hg.cells _ }
  · refine { hg with first := ?_ }
    obtain ⟨d, rfl⟩ : ∃ d, n = 12 + d := ⟨n - 12, by omega⟩
    have e : 8 * s.first + ((12 + d : Nat) : Int) - 12 = 8 * s.first + (d : Int) := by omega
    show Bi _ (8 * s.first + ((12 + d : Nat) : Int) - 12)
    rw [e]
    exact (h.first.eight (by omega)).mono (by unfold grow; split <;> omega)
theorem bd_bare {b : Nat} {s : Mst} {n : Nat} (h : Bd b s) (h20 : 20 ≤ n) : Bd b (bareW s n) := by
  have z : Bi b 0 := Nat.pow_pos (by decide)
  unfold bareW
  split
  · exact { h with first := z }
  split
  · exact { h with second := h.first }
  split
  · refine { h with cells := fun c => ?_, keys := fun c => ?_ }
    · show Bi b (putC s.cells s.second s.first c)
      unfold putC
      split
      · exact h.first
      · exact h.cells c
    · show putC s.cells s.second s.first c ≠ 0 → Bi b c
      unfold putC
      split
      · rename_i e
        exact fun _ => e ▸ h.second
      · exact h.keys c
  split
  · exact { h with }
  split
  · exact { h with }
  split
  · exact { h with mode := by show 0 ≤ (n : Int) - 25 ∧ (n : Int) - 25 ≤ 2; omega }
  split
  · exact { h with }
  · refine { h with room := ?_ }
    show Bi b (if _ then s.first else s.room)
    split
    · exact h.first
    · exact h.room
end Ms
namespace Ms
theorem bd_do {b : Nat} {s : Mst} {n : Nat} {ns : List Int} (h : Bd b s) (hb : 3 ≤ b) (hn : ∀ i ∈ ns, Bi b i) (hl : ns.length ≤ 100000) : Bd (grow n b) (doW ns s n) := by
  have g : b ≤ grow n b := by unfold grow; split <;> omega
  have hg := h.mono g
  have one : Bi (grow n b) (-1) := by
    unfold Bi
    exact Nat.lt_of_lt_of_le (show (-1 : Int).natAbs < 2 ^ 3 by decide) (Nat.pow_le_pow_right (by decide) (by omega))
  unfold doW
  split
  · exact hg
  split
  · exact { hg with block := one, low := Int.le_refl _ }
  split
  · exact { hg with }
  split
  · refine { hg with block := ?_, low := ?_ }
    · show Bi _ (if s.tick = true then s.block + 1 else s.block)
      split
      · exact (h.block.add (j := 1) (Nat.lt_of_lt_of_le (show (1 : Int).natAbs < 2 ^ 3 by decide) (Nat.pow_le_pow_right (by decide) hb))).mono (by unfold grow; split <;> omega)
      · exact hg.block
    · show -1 ≤ (if s.tick = true then s.block + 1 else s.block)
      have := h.low
      split <;> omega
  split
  · exact hg
  split
  · exact { hg with }
  split
  · split
    · exact bd_flag (s := { s with flag := false }) { h with } hb hn hl (by omega) (by assumption)
    · exact hg
  · exact (bd_bare h (by omega)).mono g
/-- a row without multiply, and one with one at most -/
def lastB : List Nat → Nat → Nat
  | [], b => b
  | n :: r, b => lastB r (grow n b)
theorem lastB_mono : ∀ (r : List Nat) (b : Nat), b ≤ lastB r b
  | [], b => Nat.le_refl _
  | n :: r, b => Nat.le_trans (by unfold grow; split <;> omega) (lastB_mono r (grow n b))
theorem bd_row {ns : List Int} (hl : ns.length ≤ 100000) : ∀ (r : List Nat) (b : Nat) (s : Mst), Bd b s → 3 ≤ b → (∀ i ∈ ns, Bi b i) → ∀ k, Bd (lastB r b) (doR ns s (r.take k))
  | [], b, s, h, hb, hn, k => by rw [List.take_nil]; exact h
  | n :: r, b, s, h, hb, hn, 0 => h.mono (lastB_mono (n :: r) b)
  | n :: r, b, s, h, hb, hn, k + 1 => by
    have g : b ≤ grow n b := by unfold grow; split <;> omega
    exact bd_row hl r (grow n b) (doW ns s n) (bd_do h hb hn hl) (by omega) (fun i m => (hn i m).mono g) k
theorem lastB_none : ∀ (r : List Nat) (b : Nat), 6 ∉ r → lastB r b = b + 3 * r.length
  | [], b, _ => by simp [lastB]
  | n :: r, b, h => by
    have h1 : n ≠ 6 := fun e => h (by rw [e]; exact List.mem_cons_self)
    show lastB r (grow n b) = _
    rw [lastB_none r _ fun m => h (List.mem_cons_of_mem _ m)]
    unfold grow
    rw [if_neg h1, List.length_cons]
    omega
theorem lastB_one : ∀ (r : List Nat) (b : Nat), r.count 6 ≤ 1 → lastB r b ≤ 2 * (b + 3 * r.length)
  | [], b, _ => by simp [lastB]; omega
  | n :: r, b, h => by
    show lastB r (grow n b) ≤ _
    by_cases h1 : n = 6
    · subst h1
      have h6 : 6 ∉ r := by
        rw [List.count_cons_self] at h
        exact List.count_eq_zero.mp (by omega)
      rw [lastB_none r _ h6]
      unfold grow
      rw [if_pos rfl, List.length_cons]
      omega
    · rw [List.count_cons_of_ne h1] at h
      have := lastB_one r (grow n b) h
      unfold grow at this ⊢
      rw [if_neg h1] at this ⊢
      rw [List.length_cons]
      omega
/-! ### cells -/
def lkp : List (Int × Int) → Int → Option Int
  | [], _ => none
  | p :: r, c => if p.1 = c then some p.2 else lkp r c
theorem lkp_none : ∀ {es : List (Int × Int)} {c : Int}, lkp es c = none ↔ c ∉ es.map (·.1)
  | [], c => by simp [lkp]
  | p :: r, c => by
    unfold lkp
    by_cases e : p.1 = c
    · simp [e]
    · rw [if_neg e, lkp_none]
      simp only [List.map_cons, List.mem_cons, not_or]
      exact ⟨fun h => ⟨fun z => e z.symm, h⟩, fun h => h.2⟩
theorem lkp_mem : ∀ {es : List (Int × Int)} {c v : Int}, (es.map (·.1)).Nodup → (lkp es c = some v ↔ (c, v) ∈ es)
  | [], c, v, _ => by simp [lkp]
  | p :: r, c, v, nd => by
    have nd' := List.nodup_cons.mp nd
    unfold lkp
    by_cases e : p.1 = c
    · rw [if_pos e]
      constructor
      · intro h
        cases h
        subst e
        exact List.mem_cons_self
      · intro h
        rcases List.mem_cons.mp h with h | h
        · rw [← h]
        · exact absurd (List.mem_map.mpr ⟨_, h, rfl⟩) (by rw [← e]; exact nd'.1)
    · rw [if_neg e, lkp_mem nd'.2]
      constructor
      · exact fun h => List.mem_cons_of_mem _ h
      · intro h
        rcases List.mem_cons.mp h with h | h
        · exact absurd (by rw [← h]) e
        · exact h
def putI (es : List (Int × Int)) (c v : Int) : List (Int × Int) := if (lkp es c).isSome = true then es.map (fun p => if p.1 = c then (p.1, v) else p) else es ++ [(c, v)]
theorem map_keys (es : List (Int × Int)) (c v : Int) : (es.map (fun p => if p.1 = c then (p.1, v) else p)).map (·.1) = es.map (·.1) := by
  rw [List.map_map]
  refine List.map_congr_left fun p _ => ?_
  show (if p.1 = c then (p.1, v) else p).1 = p.1
  split <;> rfl
theorem putI_nodup {es : List (Int × Int)} {c v : Int} (nd : (es.map (·.1)).Nodup) : ((putI es c v).map (·.1)).Nodup := by
  unfold putI
  split
  · rw [map_keys]; exact nd
  · rename_i h
    have hn : lkp es c = none := by cases hh : lkp es c with
      | none => rfl
      | some _ => rw [hh] at h; exact absurd rfl h
    rw [List.map_append]
    refine List.nodup_append.mpr ⟨nd, by simp, fun a ha b hb => ?_⟩
    rw [List.mem_singleton.mp hb]
    intro e
    rw [e] at ha
    exact lkp_none.mp hn ha
theorem lkp_map (c v d : Int) : ∀ es : List (Int × Int), lkp (es.map (fun p => if p.1 = c then (p.1, v) else p)) d = if d = c then (lkp es d).map (fun _ => v) else lkp es d
  | [] => by simp [lkp]
  | p :: r => by
    have ih := lkp_map c v d r
    rw [List.map_cons]
    unfold lkp
    by_cases e : p.1 = c
    · rw [if_pos e]
      show (if p.1 = d then some v else lkp _ d) = _
      by_cases e2 : p.1 = d
      · rw [if_pos e2, if_pos e2, if_pos (e2.symm.trans e)]
        rfl
      · rw [if_neg e2, if_neg e2]
        exact ih
    · rw [if_neg e]
      by_cases e2 : p.1 = d
      · rw [if_pos e2, if_pos e2, if_neg (fun z => e (e2.trans z))]
      · rw [if_neg e2, if_neg e2]
        exact ih
theorem lkp_app (c v d : Int) : ∀ es : List (Int × Int), lkp es c = none → lkp (es ++ [(c, v)]) d = if d = c then some v else lkp es d
  | [], _ => by
    show (if c = d then some v else none) = _
    by_cases e : c = d
    · rw [if_pos e, if_pos e.symm]
    · rw [if_neg e, if_neg (fun z => e z.symm)]
      rfl
  | p :: r, h => by
    unfold lkp at h
    by_cases e : p.1 = c
    · rw [if_pos e] at h
      cases h
    · rw [if_neg e] at h
      have ih := lkp_app c v d r h
      show (if p.1 = d then some p.2 else lkp (r ++ [(c, v)]) d) = if d = c then some v else (if p.1 = d then some p.2 else lkp r d)
      rw [ih]
      by_cases e2 : p.1 = d
      · rw [if_pos e2, if_pos e2, if_neg (fun z => e (e2.trans z))]
      · rw [if_neg e2, if_neg e2]
theorem lkp_put (es : List (Int × Int)) (c v d : Int) : lkp (putI es c v) d = if d = c then some v else lkp es d := by
  unfold putI
  split
  · rename_i h
    rw [lkp_map]
    by_cases e : d = c
    · rw [if_pos e, if_pos e, e]
      cases hh : lkp es c with
      | none => rw [hh] at h; cases h
      | some _ => rfl
    · rw [if_neg e, if_neg e]
  · rename_i h
    refine lkp_app c v d es ?_
    cases hh : lkp es c with
    | none => rfl
    | some _ => rw [hh] at h; exact absurd rfl h
theorem putI_len (es : List (Int × Int)) (c v : Int) : (putI es c v).length ≤ es.length + 1 := by
  unfold putI
  split
  · rw [List.length_map]; omega
  · rw [List.length_append]; exact Nat.le_refl _
def dropI (es : List (Int × Int)) (c : Int) : List (Int × Int) := es.filter fun p => decide (p.1 ≠ c)
theorem lkp_drop (c d : Int) : ∀ es : List (Int × Int), lkp (dropI es c) d = if d = c then none else lkp es d
  | [] => by simp [lkp, dropI]
  | p :: r => by
    have ih := lkp_drop c d r
    unfold dropI at ih ⊢
    by_cases e : p.1 = c
    · rw [List.filter_cons_of_neg (by simp [e]), ih]
      by_cases e2 : d = c
      · rw [if_pos e2, if_pos e2]
      · rw [if_neg e2, if_neg e2]
        unfold lkp
        rw [if_neg (fun z => e2 (z.symm.trans e))]
        cases r <;> rfl
    · rw [List.filter_cons_of_pos (by simp [e])]
      show (if p.1 = d then some p.2 else lkp (r.filter fun p => decide (p.1 ≠ c)) d) = if d = c then none else (if p.1 = d then some p.2 else lkp r d)
      rw [ih]
      by_cases e2 : p.1 = d
      · rw [if_pos e2, if_pos e2, if_neg (fun z => e (e2.trans z))]
      · rw [if_neg e2, if_neg e2]
theorem dropI_nodup {es : List (Int × Int)} {c : Int} (nd : (es.map (·.1)).Nodup) : ((dropI es c).map (·.1)).Nodup :=
  List.Sublist.nodup (List.Sublist.map _ (List.filter_sublist ..)) nd
/-- cells as the law keeps them, and as a work keeps them -/
structure CellsL (es : List (Int × Int)) (f : Int → Int) : Prop where
  nd : (es.map (·.1)).Nodup
  at_ : ∀ c, (lkp es c).getD 0 = f c
structure CellsW (es : List (Int × Int)) (f : Int → Int) : Prop where
  nd : (es.map (·.1)).Nodup
  no : ∀ p ∈ es, p.2 ≠ 0
  at_ : ∀ c, (lkp es c).getD 0 = f c
theorem CellsL.put {es : List (Int × Int)} {f : Int → Int} (h : CellsL es f) (c v : Int) : CellsL (putI es c v) (putC f c v) := by
  refine ⟨putI_nodup h.nd, fun d => ?_⟩
  rw [lkp_put]
  unfold putC
  split
  · rfl
  · exact h.at_ d
theorem CellsW.put {es : List (Int × Int)} {f : Int → Int} (h : CellsW es f) (c : Int) {v : Int} (hv : v ≠ 0) : CellsW (putI es c v) (putC f c v) := by
  have h2 := (CellsL.put ⟨h.nd, h.at_⟩ c v)
  refine ⟨h2.nd, fun p hp => ?_, h2.at_⟩
  obtain ⟨a, b⟩ := p
  have := (lkp_mem h2.nd).mpr hp
  rw [lkp_put] at this
  split at this
  · cases this
    exact hv
  · exact h.no _ ((lkp_mem h.nd).mp this)
theorem CellsW.drop {es : List (Int × Int)} {f : Int → Int} (h : CellsW es f) (c : Int) : CellsW (dropI es c) (putC f c 0) := by
  refine ⟨dropI_nodup h.nd, fun p hp => h.no p (List.mem_filter.mp hp).1, fun d => ?_⟩
  rw [lkp_drop]
  unfold putC
  split
  · rfl
  · exact h.at_ d
theorem CellsW.skip {es : List (Int × Int)} {f : Int → Int} (h : CellsW es f) {c : Int} (hc : lkp es c = none) : CellsW es (putC f c 0) := by
  refine ⟨h.nd, h.no, fun d => ?_⟩
  unfold putC
  split
  · rename_i e
    rw [e, hc]
    rfl
  · exact h.at_ d
/-- cells, ascending -/
structure IsC (l : List (Int × Int)) (f : Int → Int) : Prop where
  up : l.Pairwise fun p q => p.1 < q.1
  mem : ∀ c v, (c, v) ∈ l ↔ f c = v ∧ v ≠ 0
theorem isC_uniq {f : Int → Int} : ∀ {l m : List (Int × Int)}, l.Pairwise (fun p q => p.1 < q.1) → m.Pairwise (fun p q => p.1 < q.1) → (∀ p, p ∈ l ↔ p ∈ m) → l = m
  | [], [], _, _, _ => rfl
  | [], q :: m, _, _, h => absurd ((h q).mpr List.mem_cons_self) (by simp)
  | p :: l, [], _, _, h => absurd ((h p).mp List.mem_cons_self) (by simp)
  | p :: l, q :: m, hl, hm, h => by
    have hl' := List.pairwise_cons.mp hl
    have hm' := List.pairwise_cons.mp hm
    have e : p = q := by
      rcases List.mem_cons.mp ((h p).mp List.mem_cons_self) with e | h1
      · exact e
      · rcases List.mem_cons.mp ((h q).mpr List.mem_cons_self) with e | h2
        · exact e.symm
        · have a := hm'.1 _ h1
          have b := hl'.1 _ h2
          omega
    subst e
    rw [isC_uniq (f := f) hl'.2 hm'.2 fun x => ?_]
    constructor
    · intro hx
      rcases List.mem_cons.mp ((h x).mp (List.mem_cons_of_mem _ hx)) with e | h1
      · have := hl'.1 _ hx
        rw [e] at this
        omega
      · exact h1
    · intro hx
      rcases List.mem_cons.mp ((h x).mpr (List.mem_cons_of_mem _ hx)) with e | h1
      · have := hm'.1 _ hx
        rw [e] at this
        omega
      · exact h1
theorem IsC.uniq {l m : List (Int × Int)} {f : Int → Int} (h : IsC l f) (k : IsC m f) : l = m := isC_uniq (f := f) h.up k.up fun p => (h.mem p.1 p.2).trans (k.mem p.1 p.2).symm
theorem CellsL.mem {es : List (Int × Int)} {f : Int → Int} (h : CellsL es f) (c v : Int) : (c, v) ∈ es.filter (fun p => decide (p.2 ≠ 0)) ↔ f c = v ∧ v ≠ 0 := by
  rw [List.mem_filter, ← lkp_mem h.nd, ← h.at_]
  simp only [decide_eq_true_eq]
  constructor
  · rintro ⟨h1, h2⟩
    rw [h1]
    exact ⟨rfl, h2⟩
  · rintro ⟨h1, h2⟩
    refine ⟨?_, h2⟩
    cases hh : lkp es c with
    | none => rw [hh] at h1; exact absurd h1.symm h2
    | some w =>
      rw [hh] at h1
      exact congrArg some h1
theorem CellsW.mem {es : List (Int × Int)} {f : Int → Int} (h : CellsW es f) (c v : Int) : (c, v) ∈ es ↔ f c = v ∧ v ≠ 0 := by
  have h1 := CellsL.mem ⟨h.nd, h.at_⟩ c v
  rw [← h1, List.mem_filter]
  simp only [decide_eq_true_eq]
  exact ⟨fun m => ⟨m, h.no _ m⟩, fun m => m.1⟩
/-- what is sorted of unlike keys ascends -/
theorem isC_of {l es : List (Int × Int)} {f : Int → Int} (hp : l.Perm es) (nd : (es.map (·.1)).Nodup) (hm : ∀ c v, (c, v) ∈ es ↔ f c = v ∧ v ≠ 0) (hs : l.Pairwise fun p q => p.1 ≤ q.1) : IsC l f := by
  refine ⟨?_, fun c v => (hp.mem_iff).trans (hm c v)⟩
  have nd2 : (l.map (·.1)).Nodup := (hp.map _).nodup_iff.mpr nd
  have nd3 := List.pairwise_map.mp nd2
  exact (hs.and nd3).imp fun h => by omega
end Ms
namespace Kx
open PySem PySem.Spec PyProof.Rows L2 SX LamX Ms
/-! ### // of great ints, any sign -/
def CDivA (_ j : Int) : Prop := j ≠ 0 ∧ j.natAbs.log2 < 9000
theorem op_fdivA {X : Cx} : OpR X (binaryOp .FloorDiv) (rI CDivA fun i j => .int (i.fdiv j)) := opI fun i j _ _ _ _ _ hc q => by
  exact floordiv_int hc.1 q (.inl (PyProof.noPylong_of_log2 hc.2))
theorem log_lt {b k : Nat} {i : Int} (h : Bi b i) (hb : b ≤ k) (hk : 0 < k) : i.natAbs.log2 < k := by
  by_cases z : i.natAbs = 0
  · rw [z]
    exact Nat.lt_of_le_of_lt (show Nat.log2 0 ≤ 0 by decide) hk
  · exact (Nat.log2_lt z).mpr (h.mono hb)
theorem cdivA {b : Nat} {i j : Int} (h : Bi b j) (hj : j ≠ 0) (hb : b ≤ 8000) : CDivA i j := ⟨hj, log_lt h (by omega : b ≤ 9000) (by decide)⟩
theorem cmulW {b : Nat} {i j : Int} (h : Bi b i) (k : Bi b j) (hb : b ≤ 8000) : CMulW i j := by
  have x := log_lt h (by omega : b ≤ 9000) (by decide)
  have y := log_lt k (by omega : b ≤ 9000) (by decide)
  unfold CMulW
  omega
/-! ### cells as dicts -/
def kvI (es : List (Int × Int)) : List (Key × V) := es.map fun p => (Sum.inl p.1, V.int p.2)
theorem valV_kvI (c : Int) : ∀ es : List (Int × Int), valV (kvI es) (Sum.inl c) = (lkp es c).map V.int
  | [] => rfl
  | p :: r => by
    have ih := valV_kvI c r
    by_cases e : p.1 = c
    · have e1 : valV (kvI (p :: r)) (Sum.inl c) = some (V.int p.2) := valV_pos (p := ((Sum.inl p.1 : Key), V.int p.2)) (by rw [e])
      rw [e1]
      show _ = (if p.1 = c then some p.2 else lkp r c).map V.int
      rw [if_pos e]
      rfl
    · have e1 : valV (kvI (p :: r)) (Sum.inl c) = valV (kvI r) (Sum.inl c) := valV_neg (p := ((Sum.inl p.1 : Key), V.int p.2)) (fun z => e (Sum.inl.inj z))
      rw [e1, ih]
      show _ = (if p.1 = c then some p.2 else lkp r c).map V.int
      rw [if_neg e]
theorem putK_kvI (es : List (Int × Int)) (c v : Int) : putK (kvI es) (Sum.inl c) (V.int v) = kvI (putI es c v) := by
  unfold putK putI
  rw [valV_any, valV_kvI]
  cases h : lkp es c with
  | none =>
    show (kvI es ++ [(Sum.inl c, V.int v)]) = kvI (es ++ [(c, v)])
    unfold kvI
    rw [List.map_append]
    rfl
  | some w =>
    show (kvI es).map _ = kvI (es.map _)
    unfold kvI
    rw [List.map_map, List.map_map]
    refine List.map_congr_left fun p _ => ?_
    show (if (Sum.inl p.1 : Key) = Sum.inl c then ((Sum.inl p.1 : Key), V.int v) else (Sum.inl p.1, V.int p.2)) = _
    by_cases e : p.1 = c
    · rw [if_pos (by rw [e])]
      show _ = (Sum.inl (if p.1 = c then (p.1, v) else p).1, V.int (if p.1 = c then (p.1, v) else p).2)
      rw [if_pos e]
    · rw [if_neg (fun z => e (Sum.inl.inj z))]
      show _ = (Sum.inl (if p.1 = c then (p.1, v) else p).1, V.int (if p.1 = c then (p.1, v) else p).2)
      rw [if_neg e]
theorem dropK_kvI (es : List (Int × Int)) (c : Int) : dropK (kvI es) (Sum.inl c) = kvI (dropI es c) := by
  unfold dropK dropI kvI
  rw [List.filter_map]
  congr 1
  refine List.filter_congr fun p _ => ?_
  show decide ((Sum.inl p.1 : Key) ≠ Sum.inl c) = decide (p.1 ≠ c)
  simp
theorem kvI_len (es : List (Int × Int)) : (kvI es).length = es.length := List.length_map ..
/-! ### the law's stand, a dict -/
def liveK (s : Mst) (pc ps : Addr) : List (Key × V) := [(.inr "block", .int s.block), (.inr "room", .int s.room), (.inr "tick", .bl s.tick), (.inr "flag", .bl s.flag), (.inr "test", .bl s.test), (.inr "mode", .int s.mode),
  (.inr "first", .int s.first), (.inr "second", .int s.second), (.inr "cells", .ref pc), (.inr "heard", .int (s.heard : Nat)), (.inr "said", .ref ps), (.inr "done", .bl s.isd)]
theorem lv_block {s : Mst} {pc ps : Addr} : valV (liveK s pc ps) (.inr "block") = some (.int s.block) := rfl
theorem lv_room {s : Mst} {pc ps : Addr} : valV (liveK s pc ps) (.inr "room") = some (.int s.room) := rfl
theorem lv_tick {s : Mst} {pc ps : Addr} : valV (liveK s pc ps) (.inr "tick") = some (.bl s.tick) := rfl
theorem lv_flag {s : Mst} {pc ps : Addr} : valV (liveK s pc ps) (.inr "flag") = some (.bl s.flag) := rfl
theorem lv_test {s : Mst} {pc ps : Addr} : valV (liveK s pc ps) (.inr "test") = some (.bl s.test) := rfl
theorem lv_mode {s : Mst} {pc ps : Addr} : valV (liveK s pc ps) (.inr "mode") = some (.int s.mode) := rfl
theorem lv_first {s : Mst} {pc ps : Addr} : valV (liveK s pc ps) (.inr "first") = some (.int s.first) := rfl
theorem lv_second {s : Mst} {pc ps : Addr} : valV (liveK s pc ps) (.inr "second") = some (.int s.second) := rfl
theorem lv_cells {s : Mst} {pc ps : Addr} : valV (liveK s pc ps) (.inr "cells") = some (.ref pc) := rfl
theorem lv_heard {s : Mst} {pc ps : Addr} : valV (liveK s pc ps) (.inr "heard") = some (.int (s.heard : Nat)) := rfl
theorem lv_said {s : Mst} {pc ps : Addr} : valV (liveK s pc ps) (.inr "said") = some (.ref ps) := rfl
theorem lv_done {s : Mst} {pc ps : Addr} : valV (liveK s pc ps) (.inr "done") = some (.bl s.isd) := rfl
theorem lp_block {s : Mst} {pc ps : Addr} (i : Int) : putK (liveK s pc ps) (.inr "block") (.int i) = liveK { s with block := i } pc ps := rfl
theorem lp_room {s : Mst} {pc ps : Addr} (i : Int) : putK (liveK s pc ps) (.inr "room") (.int i) = liveK { s with room := i } pc ps := rfl
theorem lp_tick {s : Mst} {pc ps : Addr} (i : Bool) : putK (liveK s pc ps) (.inr "tick") (.bl i) = liveK { s with tick := i } pc ps := rfl
theorem lp_flag {s : Mst} {pc ps : Addr} (i : Bool) : putK (liveK s pc ps) (.inr "flag") (.bl i) = liveK { s with flag := i } pc ps := rfl
theorem lp_test {s : Mst} {pc ps : Addr} (i : Bool) : putK (liveK s pc ps) (.inr "test") (.bl i) = liveK { s with test := i } pc ps := rfl
theorem lp_mode {s : Mst} {pc ps : Addr} (i : Int) : putK (liveK s pc ps) (.inr "mode") (.int i) = liveK { s with mode := i } pc ps := rfl
theorem lp_first {s : Mst} {pc ps : Addr} (i : Int) : putK (liveK s pc ps) (.inr "first") (.int i) = liveK { s with first := i } pc ps := rfl
theorem lp_second {s : Mst} {pc ps : Addr} (i : Int) : putK (liveK s pc ps) (.inr "second") (.int i) = liveK { s with second := i } pc ps := rfl
theorem lp_heard {s : Mst} {pc ps : Addr} (i : Nat) : putK (liveK s pc ps) (.inr "heard") (.int (i : Nat)) = liveK { s with heard := i } pc ps := rfl
theorem lp_said {s : Mst} {pc ps : Addr} (q : Addr) (l : List Int) : putK (liveK s pc ps) (.inr "said") (.ref q) = liveK { s with said := l } pc q := rfl
theorem lp_cells {s : Mst} {pc ps : Addr} (q : Addr) : putK (liveK s pc ps) (.inr "cells") (.ref q) = liveK s q ps := rfl
theorem lp_done {s : Mst} {pc ps : Addr} (i : Bool) : putK (liveK s pc ps) (.inr "done") (.bl i) = liveK { s with isd := i } pc ps := rfl
structure LiveAt (H : Hp) (L pc : Addr) (s : Mst) (m : Nat) (ps : Addr) (es : List (Int × Int)) : Prop where
  at_ : H L = some (.dK (liveK s pc ps))
  cat : H pc = some (.dK (kvI es))
  cl : CellsL es s.cells
  sat : H ps = some (.lst (s.said.map V.int))
  cn : es.length ≤ m
  sn : s.said.length ≤ m
  ne : L ≠ pc
/-- all but the dicts at L and pc stays -/
def Mv2 (L pc : Addr) (H H' : Hp) : Prop := ∀ b o, b ≠ L → b ≠ pc → H b = some o → H' b = some o
theorem Mv2.refl (L pc : Addr) (H : Hp) : Mv2 L pc H H := fun _ _ _ _ h => h
theorem Mv2.trans {L pc : Addr} {H H1 H2 : Hp} (x : Mv2 L pc H H1) (y : Mv2 L pc H1 H2) : Mv2 L pc H H2 := fun b o n k h => y b o n k (x b o n k h)
theorem Mv2.of {L pc : Addr} {H H1 : Hp} (x : Same H H1) : Mv2 L pc H H1 := fun b o _ _ h => x b o h
theorem Mv2.l {L pc : Addr} {H : Hp} {o : HO} : Mv2 L pc H (upd H L o) := fun b u n _ h => by rw [upd_ne n]; exact h
theorem Mv2.c {L pc : Addr} {H : Hp} {o : HO} : Mv2 L pc H (upd H pc o) := fun b u _ n h => by rw [upd_ne n]; exact h
theorem LiveAt.same {H H' : Hp} {L pc ps : Addr} {s : Mst} {m : Nat} {es : List (Int × Int)} (h : LiveAt H L pc s m ps es) (e : Same H H') : LiveAt H' L pc s m ps es :=
  { h with at_ := e _ _ h.at_, cat := e _ _ h.cat, sat := e _ _ h.sat }
theorem LiveAt.mono {H : Hp} {L pc ps : Addr} {s : Mst} {m n : Nat} {es : List (Int × Int)} (h : LiveAt H L pc s m ps es) (l : m ≤ n) : LiveAt H L pc s n ps es := { h with cn := Nat.le_trans h.cn l, sn := Nat.le_trans h.sn l }
/-- a field of the law's stand is set -/
theorem LiveAt.put {H : Hp} {L pc ps : Addr} {s t : Mst} {m : Nat} {es : List (Int × Int)} {k : Key} {v : V} (h : LiveAt H L pc s m ps es) (e : putK (liveK s pc ps) k v = liveK t pc ps) (hc : t.cells = s.cells) (hs : t.said = s.said) : LiveAt (upd H L (.dK (putK (liveK s pc ps) k v))) L pc t m ps es := by
  refine ⟨by rw [upd_same, e], ?_, by rw [hc]; exact h.cl, ?_, h.cn, by rw [hs]; exact h.sn, h.ne⟩
  · rw [upd_ne h.ne.symm]
    exact h.cat
  · rw [upd_ne (ne_of_two h.sat h.at_ (fun z => by cases z)), hs]
    exact h.sat
theorem live_len {s : Mst} {pc ps : Addr} : (liveK s pc ps).length < sizeLine := by
  show 12 < sizeLine
  decide
theorem LiveAt.get {H : Hp} {L pc ps : Addr} {s : Mst} {m : Nat} {es : List (Int × Int)} {k : Str} {v : V} (h : LiveAt H L pc s m ps es) (e : valV (liveK s pc ps) (.inr k) = some v) : DGet H L (.str k) (some v) := e ▸ DGet.k (k := .inr k) h.at_
/-! ### what a work has -/
def workF (s : Mst) (nl pc ps : Addr) : List (Str × V) := [("numbers", .ref nl), ("block", .int s.block), ("room", .int s.room), ("tick", .bl s.tick), ("flag", .bl s.flag), ("test", .bl s.test), ("mode", .int s.mode),
  ("first", .int s.first), ("second", .int s.second), ("cells", .ref pc), ("heard", .int (s.heard : Nat)), ("said", .ref ps), ("is_done", .bl s.isd)]
/-- a work at w, made behind H0 -/
structure WorkAt (K : PySem.W.Frag) (C : Addr) (H0 H : Hp) (w nl : Addr) (ns : List Int) (s : Mst) (m : Nat) (dx pc ps : Addr) (es : List (Int × Int)) : Prop where
  at_ : H w = some (.ins C dx (workF s nl pc ps))
  cat : H pc = some (.dK (kvI es))
  cl : CellsW es s.cells
  sat : H ps = some (.lst (s.said.map V.int))
  num : SqQ K H0 nl (ns.map V.int)
  cn : es.length ≤ m
  sn : s.said.length ≤ m
  old : Same H0 H
  nw : H0 w = none
  nc : H0 pc = none
  np : H0 ps = none
section
variable {K : PySem.W.Frag} {C w nl dx pc ps : Addr} {H0 H H' : Hp} {ns : List Int} {s t : Mst} {m n : Nat} {es : List (Int × Int)}
theorem WorkAt.nums (h : WorkAt K C H0 H w nl ns s m dx pc ps es) : SqQ K H nl (ns.map V.int) := Same.q h.old h.num
theorem WorkAt.mono (h : WorkAt K C H0 H w nl ns s m dx pc ps es) (l : m ≤ n) : WorkAt K C H0 H w nl ns s n dx pc ps es := { h with cn := Nat.le_trans h.cn l, sn := Nat.le_trans h.sn l }
theorem WorkAt.same (h : WorkAt K C H0 H w nl ns s m dx pc ps es) (e : Same H H') : WorkAt K C H0 H' w nl ns s m dx pc ps es :=
  { h with at_ := e _ _ h.at_, cat := e _ _ h.cat, sat := e _ _ h.sat, old := h.old.trans e }
theorem WorkAt.wp (h : WorkAt K C H0 H w nl ns s m dx pc ps es) : ps ≠ w := ne_of_two h.sat h.at_ (fun z => by cases z)
theorem WorkAt.wc (h : WorkAt K C H0 H w nl ns s m dx pc ps es) : pc ≠ w := ne_of_two h.cat h.at_ (fun z => by cases z)
theorem WorkAt.ppc (h : WorkAt K C H0 H w nl ns s m dx pc ps es) : ps ≠ pc := ne_of_two h.sat h.cat (fun z => by cases z)
/-- a field is set -/
theorem WorkAt.put {fs : List (Str × V)} (h : WorkAt K C H0 H w nl ns s m dx pc ps es) (e : fs = workF t nl pc ps) (hc : t.cells = s.cells) (hs : t.said = s.said) : WorkAt K C H0 (upd H w (.ins C dx fs)) w nl ns t m dx pc ps es := by
  refine ⟨by rw [upd_same, e], ?_, by rw [hc]; exact h.cl, ?_, h.num, h.cn, by rw [hs]; exact h.sn, same_set h.old h.nw, h.nw, h.nc, h.np⟩
  · rw [upd_ne h.wc]
    exact h.cat
  · rw [upd_ne h.wp, hs]
    exact h.sat
/-- the cells are set -/
theorem WorkAt.cell {es' : List (Int × Int)} (h : WorkAt K C H0 H w nl ns s m dx pc ps es) (e : workF t nl pc ps = workF s nl pc ps) (hs : t.said = s.said) (hc : CellsW es' t.cells) (hl : es'.length ≤ m + 1) : WorkAt K C H0 (upd H pc (.dK (kvI es'))) w nl ns t (m + 1) dx pc ps es' := by
  refine ⟨?_, upd_same, hc, ?_, h.num, hl, by rw [hs]; exact Nat.le_succ_of_le h.sn, same_set h.old h.nc, h.nw, h.nc, h.np⟩
  · rw [upd_ne h.wc.symm, e]
    exact h.at_
  · rw [upd_ne h.ppc, hs]
    exact h.sat
/-- one more is said -/
theorem WorkAt.say {i : Int} (h : WorkAt K C H0 H w nl ns s m dx pc ps es) (e : workF t nl pc ps = workF s nl pc ps) (hc : t.cells = s.cells) (hs : t.said = s.said ++ [i]) : WorkAt K C H0 (upd H ps (.lst (s.said.map V.int ++ [V.int i]))) w nl ns t (m + 1) dx pc ps es := by
  refine ⟨?_, ?_, by rw [hc]; exact h.cl, ?_, h.num, Nat.le_succ_of_le h.cn, ?_, same_set h.old h.np, h.nw, h.nc, h.np⟩
  · rw [upd_ne h.wp.symm, e]
    exact h.at_
  · rw [upd_ne h.ppc.symm]
    exact h.cat
  · rw [upd_same, hs, List.map_append]
    rfl
  · rw [hs, List.length_append]
    have := h.sn
    show _ + 1 ≤ _
    omega
end
theorem work_len {s : Mst} {nl pc ps : Addr} : (workF s nl pc ps).length < 1000 := by
  show 13 < 1000
  decide
/-! ### a stand -/
def standF (s : Mst) (t u : Addr) : List (Str × V) := [("block", .int s.block), ("room", .int s.room), ("tick", .bl s.tick), ("flag", .bl s.flag), ("test", .bl s.test), ("mode", .int s.mode),
  ("first", .int s.first), ("second", .int s.second), ("cells", .ref t), ("heard", .int (s.heard : Nat)), ("said", .ref u), ("is_done", .bl s.isd)]
/-- pairs of ints in a tuple -/
def PairsT (K : PySem.W.Frag) (H : Hp) (t : Addr) (l : List (Int × Int)) : Prop := ∃ ps : List Addr, SqT K H t (ps.map V.ref) ∧ Paired (fun (q : Addr) (p : Int × Int) => SqT K H q [.int p.1, .int p.2]) ps l
/-- pairs of ints, lists or tuples -/
def PairsQ (K : PySem.W.Frag) (H : Hp) (t : Addr) (l : List (Int × Int)) : Prop := ∃ ps : List Addr, SqQ K H t (ps.map V.ref) ∧ Paired (fun (q : Addr) (p : Int × Int) => SqQ K H q [.int p.1, .int p.2]) ps l
theorem PairsT.same {K : PySem.W.Frag} {H H' : Hp} {t : Addr} {l : List (Int × Int)} (h : PairsT K H t l) (e : Same H H') : PairsT K H' t l := by
  obtain ⟨ps, h1, h2⟩ := h
  exact ⟨ps, Same.t e h1, Paired.mapP h2 fun _ _ z => Same.t e z⟩
theorem PairsQ.same {K : PySem.W.Frag} {H H' : Hp} {t : Addr} {l : List (Int × Int)} (h : PairsQ K H t l) (e : Same H H') : PairsQ K H' t l := by
  obtain ⟨ps, h1, h2⟩ := h
  exact ⟨ps, Same.q e h1, Paired.mapP h2 fun _ _ z => Same.q e z⟩
structure StandAt (K : PySem.W.Frag) (C : Addr) (H : Hp) (p : Addr) (s : Mst) (l : List (Int × Int)) (dx t u : Addr) : Prop where
  at_ : H p = some (.ins C dx (standF s t u))
  cat : PairsT K H t l
  sat : SqT K H u (s.said.map V.int)
  isC : IsC l s.cells
theorem StandAt.same {K : PySem.W.Frag} {C p dx t u : Addr} {H H' : Hp} {s : Mst} {l : List (Int × Int)} (h : StandAt K C H p s l dx t u) (e : Same H H') : StandAt K C H' p s l dx t u :=
  { h with at_ := e _ _ h.at_, cat := h.cat.same e, sat := Same.t e h.sat }
/-! ### as data -/
def pairD (p : Int × Int) : PyData := .tuple [.int p.1, .int p.2]
def standD (s : Mst) (l : List (Int × Int)) : List PyData := [.int s.block, .int s.room, .bool s.tick, .bool s.flag, .bool s.test, .int s.mode, .int s.first, .int s.second, .tuple (l.map pairD), .int (s.heard : Nat), .tuple (s.said.map PyData.int), .bool s.isd]
/-- data that repr shows, with great numbers -/
structure ShB (k m : Nat) (d : PyData) : Prop where
  sh : d.showable = true
  nd : d.hasDict = false
  dp : d.depth ≤ k
  lv : d.leavesShort 2000 = true
  bk : d.bulk ≤ m
structure ShBA (k m : Nat) (ds : List PyData) : Prop where
  sh : PyData.showableAll ds = true
  nd : PyData.hasDictAll ds = false
  dp : PyData.depthAll ds ≤ k
  lv : PyData.leavesShortAll 2000 ds = true
  bk : PyData.bulkAll ds ≤ m
theorem ShB.up {k l m n : Nat} {d : PyData} (h : ShB k m d) (hk : k ≤ l) (hm : m ≤ n) : ShB l n d := ⟨h.sh, h.nd, Nat.le_trans h.dp hk, h.lv, Nat.le_trans h.bk hm⟩
theorem shB_bool (b : Bool) : ShB 0 0 (.bool b) := ⟨rfl, rfl, Nat.le_refl _, rfl, Nat.le_refl _⟩
theorem shB_int {b : Nat} {i : Int} (h : Bi b i) (hb : b ≤ 1915) : ShB 0 0 (.int i) := by
  have hl := log_lt h (by omega : b ≤ 1920) (by decide)
  refine ⟨?_, rfl, Nat.le_refl _, ?_, Nat.le_refl _⟩
  · simp only [PyData.showable, decide_eq_true_eq]
    exact hl
  · simp only [PyData.leavesShort, decide_eq_true_eq]
    have e := PySem.int_text_length_le (k := 1920) (by decide) hl
    show (Str.ofString (toString i)).length ≤ 2000
    rw [PySem.ofString_length]
    omega
theorem ShBA.nil {k : Nat} : ShBA k 0 [] := ⟨rfl, rfl, Nat.zero_le _, rfl, Nat.le_refl _⟩
theorem ShBA.cons {k m n : Nat} {d : PyData} {ds : List PyData} (h : ShB k m d) (t : ShBA k n ds) : ShBA k (m + 1 + n) (d :: ds) := by
  refine ⟨?_, ?_, ?_, ?_, ?_⟩
  · simp only [PyData.showableAll, h.sh, t.sh, Bool.and_self]
  · simp only [PyData.hasDictAll, h.nd, t.nd, Bool.or_self]
  · simp only [PyData.depthAll]
    exact Nat.max_le.mpr ⟨h.dp, t.dp⟩
  · simp only [PyData.leavesShortAll, h.lv, t.lv, Bool.and_self]
  · simp only [PyData.bulkAll]
    have := h.bk
    have := t.bk
    omega
theorem ShBA.lst {k m : Nat} {ds : List PyData} (h : ShBA k m ds) : ShB (k + 1) m (.list ds) :=
  ⟨by simp only [PyData.showable, h.sh], by simp only [PyData.hasDict, h.nd], by simp only [PyData.depth]; have := h.dp; omega, by simp only [PyData.leavesShort, h.lv], by simp only [PyData.bulk]; exact h.bk⟩
theorem ShBA.tup {k m : Nat} {ds : List PyData} (h : ShBA k m ds) : ShB (k + 1) m (.tuple ds) :=
  ⟨by simp only [PyData.showable, h.sh], by simp only [PyData.hasDict, h.nd], by simp only [PyData.depth]; have := h.dp; omega, by simp only [PyData.leavesShort, h.lv], by simp only [PyData.bulk]; exact h.bk⟩
theorem shBA_all {k w : Nat} {α : Type} {f : α → PyData} : ∀ (l : List α), (∀ x ∈ l, ShB k w (f x)) → ShBA k (l.length * (w + 1)) (l.map f)
  | [], _ => by
    rw [List.length_nil, Nat.zero_mul]
    exact ShBA.nil
  | x :: r, h => by
    have := ShBA.cons (h x List.mem_cons_self) (shBA_all r fun y m => h y (List.mem_cons_of_mem _ m))
    rw [List.length_cons, Nat.succ_mul, Nat.add_comm (r.length * (w + 1))]
    exact this
theorem ShB.len {k m : Nat} {d : PyData} (h : ShB k m d) (hm : m ≤ 8200) : d.shown.length ≤ sizeLine := by
  have h1 := PyData.shown_le_bulk 2000 (by decide) d h.lv
  have h2 := h.bk
  rw [sizeLine_eq]
  have h3 : (2000 + 2) * d.bulk ≤ 2002 * 8200 := Nat.mul_le_mul (by decide) (by omega)
  omega
theorem shB_stand {b : Nat} {s : Mst} {l : List (Int × Int)} (h : Bd b s) (hb : b ≤ 1915) (hC : IsC l s.cells) (hl : l.length ≤ 2000) (hs : s.said.length ≤ 2000) (h20 : 20 ≤ b) : ShB 3 8200 (.list (standD s l)) := by
  have z : ∀ i : Int, Bi b i → ShB 2 0 (.int i) := fun i hi => (shB_int hi hb).up (by decide) (Nat.le_refl _)
  have bo : ∀ i : Bool, ShB 2 0 (.bool i) := fun i => (shB_bool i).up (by decide) (Nat.le_refl _)
  have hm : Bi b s.mode := by
    have := h.mode
    exact Nat.lt_of_lt_of_le (show s.mode.natAbs < 2 ^ 20 by omega) (Nat.pow_le_pow_right (by decide) h20)
  have hh : Bi b (s.heard : Int) := by
    have := h.heard
    exact Nat.lt_of_lt_of_le (show (s.heard : Int).natAbs < 2 ^ 20 by omega) (Nat.pow_le_pow_right (by decide) h20)
  have pc : ∀ p ∈ l, ShB 1 2 (pairD p) := fun p hp => by
    obtain ⟨e1, e2⟩ := (hC.mem p.1 p.2).mp hp
    have k1 : Bi b p.1 := h.keys _ (by rw [e1]; exact e2)
    have k2 : Bi b p.2 := e1 ▸ h.cells p.1
    exact (ShBA.cons (shB_int k1 hb) (ShBA.cons (shB_int k2 hb) ShBA.nil)).tup
  have hc := (shBA_all l pc).tup
  have hs' := (shBA_all (w := 0) (f := PyData.int) s.said fun i hi => shB_int (h.said i hi) hb).tup.up (show 0 + 1 ≤ 2 by decide) (Nat.le_refl _)
  have all := (ShBA.cons (z _ h.block) <| ShBA.cons (z _ h.room) <| ShBA.cons (bo s.tick) <| ShBA.cons (bo s.flag) <| ShBA.cons (bo s.test) <| ShBA.cons (z _ hm) <| ShBA.cons (z _ h.first) <| ShBA.cons (z _ h.second) <|
    ShBA.cons hc <| ShBA.cons (z _ hh) <| ShBA.cons hs' <| ShBA.cons (bo s.isd) ShBA.nil).lst
  refine all.up (Nat.le_refl _) ?_
  omega
end Kx
namespace Ms
def startM : Mst := ⟨-1, 0, false, false, false, 2, 0, 0, fun _ => 0, 0, [], false⟩
end Ms
namespace Kx
open PySem PySem.Spec PyProof.Rows L2 SX LamX Ms
theorem go_fld {K : PySem.W.Frag} {ta : TE} {f : Str} {σ : L2.St} {H : Hp} {Q : VK} (h : ta σ H fun x H1 => ∃ a C dx fs v, x = .ref a ∧ H1 a = some (.ins C dx fs) ∧ Cls K C ∧ NoAttr K C f ∧ fs.lookup f = some v ∧ Q v H1) : tFld K ta f σ H Q := h
theorem go_sfld {K : PySem.W.Frag} {ta tv : TE} {f : Str} {D : Ends} {σ : L2.St} {H : Hp} (h : tv σ H fun y H1 => ta σ H1 fun x H2 => ∃ a C dx fs, x = .ref a ∧ H2 a = some (.ins C dx fs) ∧ Cls K C ∧ NoAttr K C f ∧ fs.length < 1000 ∧ D.nx σ (upd H2 a (.ins C dx (putF f y fs)))) : sFld K ta tv f D σ H := h
/-- a field of an instance at p is set; all else stays since H0 -/
theorem set_end {K : PySem.W.Frag} {i : Nat} {v : V} {f : Str} {fs : List (Str × V)} {D : Ends} {σ : L2.St} {H0 H : Hp} {p C dx : Addr} (hi : σ[i]? = some (some (.ref p))) (hp : H p = some (.ins C dx fs)) (mv : Mv p H0 H) (c : Cls K C) (n : NoAttr K C f) (l : fs.length < 1000)
    (k : ∀ H', Mv p H0 H' → H' p = some (.ins C dx (putF f v fs)) → D.nx σ H') : (tVar i) σ H fun x H2 => ∃ a C dx fs, x = .ref a ∧ H2 a = some (.ins C dx fs) ∧ Cls K C ∧ NoAttr K C f ∧ fs.length < 1000 ∧ D.nx σ (upd H2 a (.ins C dx (putF f v fs))) :=
  ⟨_, hi, p, C, dx, fs, rfl, hp, c, n, l, k _ (mv.trans (Mv.upd _ _ _)) upd_same⟩
section
variable {K : PySem.W.Frag} {C w nl dx pc ps : Addr} {H0 H : Hp} {ns : List Int} {s t : Mst} {m i : Nat} {es : List (Int × Int)} {σ : L2.St} {f : Str} {v : V}
theorem rdW (hi : σ[i]? = some (some (.ref w))) (hw : WorkAt K C H0 H w nl ns s m dx pc ps es) (c : Cls K C) (na : NoAttr K C f) (l : (workF s nl pc ps).lookup f = some v) {Q : VK} (q : Q v H) : tFld K (tVar i) f σ H Q := ⟨_, hi, w, C, dx, _, v, rfl, hw.at_, c, na, l, q⟩
theorem stW {D : Ends} (hi : σ[i]? = some (some (.ref w))) (hw : WorkAt K C H0 H w nl ns s m dx pc ps es) (c : Cls K C) (na : NoAttr K C f) (e : putF f v (workF s nl pc ps) = workF t nl pc ps) (hc : t.cells = s.cells) (hs : t.said = s.said)
    (k : ∀ H', WorkAt K C H0 H' w nl ns t m dx pc ps es → D.nx σ H') : (tVar i) σ H fun x H2 => ∃ a C dx fs, x = .ref a ∧ H2 a = some (.ins C dx fs) ∧ Cls K C ∧ NoAttr K C f ∧ fs.length < 1000 ∧ D.nx σ (upd H2 a (.ins C dx (putF f v fs))) :=
  ⟨_, hi, w, C, dx, _, rfl, hw.at_, c, na, work_len, k _ (hw.put e hc hs)⟩
theorem cell_get {f : Int → Int} (h : CellsW es f) (c : Int) : (valV (kvI es) (Sum.inl c)).getD (.int 0) = .int (f c) := by
  rw [valV_kvI, ← h.at_]
  cases lkp es c <;> rfl
end
end Kx
namespace Kx
open PySem PySem.Spec PyProof.Rows L2 SX LamX Ms
theorem decI (a b : Int) : decide (V.int a = V.int b) = decide (a = b) := by
  by_cases z : a = b
  · rw [z]; simp
  · rw [decide_eq_false z, decide_eq_false (fun y => z (V.int.inj y))]
theorem decB (a b : Bool) : decide (V.bl a = V.bl b) = decide (a = b) := by
  cases a <;> cases b <;> decide
theorem go_ife {tt : TT} {ta tb : TE} {σ : L2.St} {H : Hp} {Q : VK} (h : tt σ H fun b H1 => if b = true then ta σ H1 Q else tb σ H1 Q) : tIf tt ta tb σ H Q := h
theorem go_tup {t : TA} {σ : L2.St} {H : Hp} {Q : VK} (h : t σ H fun xs H1 => xs.length ≤ sizeLine ∧ ∀ p, H1 p = none → Q (.ref p) (upd H1 p (.tup xs))) : tTup t σ H Q := h
theorem go_or1 {ta tb : TT} {σ : L2.St} {H : Hp} {Q : Bool → Hp → Prop} (h : ta σ H fun b H1 => if b = true then Q true H1 else tb σ H1 Q) : tOr ta tb σ H Q := h
section
variable {K : PySem.W.Frag} {C w nl dx pc ps : Addr} {H0 H : Hp} {ns : List Int} {s t : Mst} {m i : Nat} {es : List (Int × Int)} {σ : L2.St} {f : Str} {v : V}
theorem stG {Q : L2.St → Hp → Prop} (hi : σ[i]? = some (some (.ref w))) (hw : WorkAt K C H0 H w nl ns s m dx pc ps es) (c : Cls K C) (na : NoAttr K C f) (e : putF f v (workF s nl pc ps) = workF t nl pc ps) (hc : t.cells = s.cells) (hs : t.said = s.said)
    (k : ∀ H', WorkAt K C H0 H' w nl ns t m dx pc ps es → Q σ H') : gFld K (tVar i) f v σ H Q :=
  ⟨_, hi, w, C, dx, _, rfl, hw.at_, c, na, work_len, k _ (hw.put e hc hs)⟩
end
theorem num_at {ns : List Int} {k : Nat} (h : k < ns.length) : atI (ns.map V.int) (k : Int) = some (.int (ns.getD k 0)) := by
  rw [at_nat (by rw [List.length_map]; exact h)]
  rw [List.getD_eq_getElem?_getD, List.getElem?_eq_getElem h]
  simp
end Kx
namespace Kx
open PySem PySem.Spec PyProof.Rows L2 SX LamX Ms
theorem go_drop {te : TE} {D : Ends} {σ : L2.St} {H : Hp} (h : te σ H fun _ H1 => D.nx σ H1) : tDrop te D σ H := h
theorem go_bm {K : PySem.W.Frag} {ty : String} {r : V → List V → Hp → VK → Prop} {to : TE} {t : TA} {σ : L2.St} {H : Hp} {Q : VK} (h : to σ H fun x H1 => tyV K ty x H1 ∧ t σ H1 fun xs H2 => r x xs H2 Q) : tBM K ty r to t σ H Q := h
end Kx
namespace Kx
open PySem PySem.Spec PyProof.Rows L2 SX LamX Ms
theorem Mv.none {a b : Addr} {H H' : Hp} (m : Mv a H H') (n : b ≠ a) (h : H' b = none) : H b = none := by
  cases e : H b with
  | none => rfl
  | some o =>
    have := m b o n e
    rw [h] at this
    cases this
end Kx
namespace Ms
theorem bd_may {b n : Nat} {s : Mst} (h : Bd b s) : Bd b (mayS s n) := by
  unfold mayS
  split
  · exact { h with }
  · exact h
end Ms
namespace Kx
open PySem PySem.Spec PyProof.Rows L2 SX LamX Ms
def rowV (row : List Nat) : List V := row.map fun n : Nat => V.int (n : Int)
theorem rowV_len (row : List Nat) : (rowV row).length = row.length := List.length_map ..
theorem rowV_get {row : List Nat} {i : Nat} {v : V} (h : (rowV row)[i]? = some v) : ∃ n : Nat, row[i]? = some n ∧ v = .int n := map_at h
end Kx
namespace Kx
open PySem PySem.Spec PyProof.Rows L2 SX LamX Ms
theorem go_andT {ta tb : TT} {σ : L2.St} {H : Hp} {Q : Bool → Hp → Prop} (h : ta σ H fun b H1 => if b = true then tb σ H1 Q else Q false H1) : tAnd ta tb σ H Q := h
end Kx
namespace Kx
open PySem PySem.Spec PyProof.Rows L2 SX LamX Ms
theorem inK_call_tuple_of {X : Cx} {K : PySem.W.Frag} (e : X.K = K) : CallR X (.type "tuple") (fun xs H Q => ∃ p ys, xs = [.ref p] ∧ ((SqL K H p ys ∧ ∀ l, H l = none → Q (.ref l) (upd H l (.tup ys))) ∨ (SqT K H p ys ∧ Q (.ref p) H))) := e ▸ call_tuple_of
/-- a comprehension over a list or tuple that a name holds, with what is so far -/
theorem lc_seqit {K : PySem.W.Frag} {a : Addr} {xs : List V} {g : TG} {σ : L2.St} {H : Hp} {k : Nat} {tt : TT} {te : TE} {vs : List Nat} {Q : VK} (P : Addr → Nat → Hp → Prop) (hi : σ[k]? = some (some (.ref a))) (hq : SqQ K H a xs)
    (h0 : ∀ D, H D = none → P D 0 (upd H D (.lst []))) (hS : ∀ D i Hc, H D = none → P D i Hc → Same H Hc)
    (hs : ∀ D i x Hc, H D = none → xs[i]? = some x → P D i Hc → g x (wipe σ vs) Hc fun σ2 H2 => wipe σ2 vs = wipe σ vs ∧ tt σ2 H2 fun b H3 =>
      if b = true then te σ2 H3 fun y H4 => ∃ acc, H4 D = some (.lst acc) ∧ acc.length < sizeLine ∧ P D (i + 1) (upd H4 D (.lst (acc ++ [y]))) else P D (i + 1) H3)
    (hd : ∀ D Hc, H D = none → P D xs.length Hc → Q (.ref D) Hc) : tLc (fun σ H R => iList K (tVar k) σ H R ∨ iTup K (tVar k) σ H R) g tt te vs σ H Q := by
  rcases hq with h | h
  · exact .inl ⟨_, hi, a, rfl, ⟨_, h⟩, fun D nD => lc_list (P D) (h0 D nD) (fun i Hc _ p => (hS D i Hc nD p).seq h) (fun i x Hc hx p => hs D i x Hc nD hx p) (fun Hc p => hd D Hc nD p)⟩
  · exact .inr ⟨_, hi, a, rfl, ⟨_, h⟩, fun D nD => lc_tup (P D) (h0 D nD) (fun i Hc _ p => Same.t (hS D i Hc nD p) h) (fun i x Hc hx p => hs D i x Hc nD hx p) (fun Hc p => hd D Hc nD p)⟩
/-- a pair of ints, tracked -/
def Pn (H : Hp) (t : Addr) (p : Int × Int) : Prop := H t = some (.tup [.int p.1, .int p.2])
def keyOf (H : Hp) : V → Int × Int
  | .ref t => match H t with
    | some (.tup [.int i, .int j]) => (i, j)
    | _ => (0, 0)
  | _ => (0, 0)
theorem keyOf_at {H : Hp} {t : Addr} {p : Int × Int} (h : Pn H t p) : keyOf H (.ref t) = p := by
  unfold Pn at h
  show (match H t with | some (.tup [.int i, .int j]) => (i, j) | _ => (0, 0)) = p
  rw [h]
theorem refs_of : ∀ {ys : List V}, (∀ y ∈ ys, ∃ t, y = V.ref t) → ∃ us : List Addr, ys = us.map V.ref
  | [], _ => ⟨[], rfl⟩
  | y :: r, h => by
    obtain ⟨t, rfl⟩ := h y List.mem_cons_self
    obtain ⟨us, rfl⟩ := refs_of fun z m => h z (List.mem_cons_of_mem _ m)
    exact ⟨t :: us, rfl⟩
theorem pn_mem {H : Hp} : ∀ {ts : List Addr} {es : List (Int × Int)}, Paired (Pn H) ts es → ∀ t ∈ ts, ∃ p ∈ es, Pn H t p
  | _, _, .cons h r, t, m => by
    rcases List.mem_cons.mp m with rfl | m
    · exact ⟨_, List.mem_cons_self, h⟩
    · obtain ⟨p, a, b⟩ := pn_mem r t m
      exact ⟨p, List.mem_cons_of_mem _ a, b⟩
theorem pn_keys {H : Hp} : ∀ {ts : List Addr} {es : List (Int × Int)}, Paired (Pn H) ts es → (ts.map V.ref).map (keyOf H) = es
  | _, _, .nil => rfl
  | _, _, .cons h r => by
    rw [List.map_cons, List.map_cons, pn_keys r, keyOf_at h]
theorem pn_back {H : Hp} : ∀ {us : List Addr}, (∀ u ∈ us, ∃ p, Pn H u p) → Paired (Pn H) us ((us.map V.ref).map (keyOf H))
  | [], _ => .nil
  | u :: r, h => by
    obtain ⟨p, hp⟩ := h u List.mem_cons_self
    rw [List.map_cons, List.map_cons, keyOf_at hp]
    exact .cons hp (pn_back fun v m => h v (List.mem_cons_of_mem _ m))
theorem sorted_cells {K : PySem.W.Frag} {H : Hp} {a : Addr} {ts : List Addr} {es : List (Int × Int)} {f : Int → Int} {Q : VK} (hp : Paired (Pn H) ts es) (ha : H a = some (.lst (ts.map V.ref))) (nd : (es.map (·.1)).Nodup) (hm : ∀ c v, (c, v) ∈ es ↔ f c = v ∧ v ≠ 0)
    (q : ∀ (p : Addr) (l : List (Int × Int)) (us : List Addr), H p = none → IsC l f → l.length = es.length → Paired (Pn H) us l → Q (.ref p) (upd H p (.lst (us.map V.ref)))) : rSortedPO K [.ref a] H Q := by
  refine ⟨a, ts.map V.ref, keyOf H, rfl, .inl (.inl ha), fun x hx => ?_, fun ys p srt stb np => ?_⟩
  · obtain ⟨t, ht, rfl⟩ := List.mem_map.mp hx
    obtain ⟨p, _, h⟩ := pn_mem hp t ht
    rw [keyOf_at h]
    exact ⟨t, rfl, h⟩
  · have perm := stb.perm
    obtain ⟨us, rfl⟩ := refs_of fun y hy => by
      obtain ⟨t, _, rfl⟩ := List.mem_map.mp (perm.mem_iff.mp hy)
      exact ⟨t, rfl⟩
    have pk : ((us.map V.ref).map (keyOf H)).Perm es := by
      have := perm.map (keyOf H)
      rw [pn_keys hp] at this
      exact this
    refine q p _ us np (isC_of pk nd hm ?_) pk.length_eq (pn_back fun u hu => ?_)
    · refine List.pairwise_map.mpr (srt.imp fun {x y} h => ?_)
      have := SrtO.lexB_no.mp h
      omega
    · obtain ⟨t, ht, e⟩ := List.mem_map.mp (perm.mem_iff.mp (List.mem_map.mpr ⟨u, hu, rfl⟩))
      cases e
      obtain ⟨p, _, h⟩ := pn_mem hp u ht
      exact ⟨p, h⟩
theorem pairsQ_of {K : PySem.W.Frag} {H H' : Hp} {p : Addr} {us : List Addr} {l : List (Int × Int)} (h : Paired (Pn H) us l) (e : Same H H') (hp : H' p = some (.lst (us.map V.ref))) : PairsQ K H' p l :=
  ⟨us, .inl (.inl (.inl hp)), Paired.mapP h fun _ _ z => .inr (.inl (.inl (e _ _ z)))⟩
/-- the lock of a dict leaves all else -/
theorem lock_same {H : Hp} {d : Addr} {u o : HO} (hd : H d = some u) (H' : Hp) (e : Same (upd H d o) H') : Same H (upd H' d u) := fun b w h => by
  by_cases z : b = d
  · subst z
    rw [upd_same, ← hd]
    exact h
  · rw [upd_ne z]
    refine e b w ?_
    rw [upd_ne z]
    exact h
end Kx
namespace Kx
open PySem PySem.Spec PyProof.Rows L2 SX LamX Ms
section
variable {K : PySem.W.Frag} {H H' : Hp} {p a : Addr} {o : HO} {xs : List V}
theorem sqT_mv (hp : H p = some o) (n1 : ∀ xs, o ≠ .tup xs) (n2 : ∀ ob u, o ≠ .frz ob u) (m : Mv p H H') (h : SqT K H a xs) : SqT K H' a xs := by
  rcases h with (h | ⟨ob, h⟩) | h
  · exact .inl (.inl (m _ _ (ne_of_two h hp (fun z => n1 _ z.symm)) h))
  · exact .inl (.inr ⟨ob, m _ _ (ne_of_two h hp (fun z => n2 _ _ z.symm)) h⟩)
  · exact .inr h
theorem sqL_mv (hp : H p = some o) (n1 : ∀ xs, o ≠ .lst xs) (n2 : ∀ ob u, o ≠ .frz ob u) (m : Mv p H H') (h : SqL K H a xs) : SqL K H' a xs := by
  rcases h with (h | ⟨ob, h⟩) | h
  · exact .inl (.inl (m _ _ (ne_of_two h hp (fun z => n1 _ z.symm)) h))
  · exact .inl (.inr ⟨ob, m _ _ (ne_of_two h hp (fun z => n2 _ _ z.symm)) h⟩)
  · exact .inr h
theorem sqQ_mv (hp : H p = some o) (n0 : ∀ xs, o ≠ .lst xs) (n1 : ∀ xs, o ≠ .tup xs) (n2 : ∀ ob u, o ≠ .frz ob u) (m : Mv p H H') (h : SqQ K H a xs) : SqQ K H' a xs := h.imp (sqL_mv hp n0 n2 m) (sqT_mv hp n1 n2 m)
theorem PairsQ.mv {t : Addr} {l : List (Int × Int)} (hp : H p = some o) (n0 : ∀ xs, o ≠ .lst xs) (n1 : ∀ xs, o ≠ .tup xs) (n2 : ∀ ob u, o ≠ .frz ob u) (m : Mv p H H') (h : PairsQ K H t l) : PairsQ K H' t l := by
  obtain ⟨ps, h1, h2⟩ := h
  exact ⟨ps, sqQ_mv hp n0 n1 n2 m h1, Paired.mapP h2 fun _ _ z => sqQ_mv hp n0 n1 n2 m z⟩
theorem PairsT.mv {t : Addr} {l : List (Int × Int)} (hp : H p = some o) (n1 : ∀ xs, o ≠ .tup xs) (n2 : ∀ ob u, o ≠ .frz ob u) (m : Mv p H H') (h : PairsT K H t l) : PairsT K H' t l := by
  obtain ⟨ps, h1, h2⟩ := h
  exact ⟨ps, sqT_mv hp n1 n2 m h1, Paired.mapP h2 fun _ _ z => sqT_mv hp n1 n2 m z⟩
end
/-- tuples made of pairs, so far -/
def TupsP (K : PySem.W.Frag) (H0 : Hp) (l : List (Int × Int)) (D : Addr) (i : Nat) (Hc : Hp) : Prop := ∃ qs : List Addr, Hc D = some (.lst (qs.map V.ref)) ∧ Paired (fun (q : Addr) (p : Int × Int) => SqT K Hc q [.int p.1, .int p.2]) qs (l.take i) ∧ Same H0 Hc
theorem TupsP.new {K : PySem.W.Frag} {H0 : Hp} {l : List (Int × Int)} {D : Addr} (nD : H0 D = none) : TupsP K H0 l D 0 (upd H0 D (.lst [])) := ⟨[], upd_same, .nil, same_new nD⟩
theorem TupsP.app {K : PySem.W.Frag} {H0 Hc H4 : Hp} {l : List (Int × Int)} {D t : Addr} {i : Nat} {p : Int × Int} (h : TupsP K H0 l D i Hc) (nD : H0 D = none) (hp : l[i]? = some p) (e : Same Hc H4) (ht : SqT K H4 t [.int p.1, .int p.2]) (hl : l.length ≤ 100000) :
    ∃ acc, H4 D = some (.lst acc) ∧ acc.length < sizeLine ∧ TupsP K H0 l D (i + 1) (upd H4 D (.lst (acc ++ [V.ref t]))) := by
  obtain ⟨qs, h1, h2, h3⟩ := h
  have hD := e _ _ h1
  have hlen := h2.length
  refine ⟨_, hD, ?_, qs ++ [t], ?_, ?_, same_set (h3.trans e) nD⟩
  · rw [List.length_map, hlen, List.length_take]
    exact Nat.lt_of_le_of_lt (Nat.min_le_right _ _) (Nat.lt_of_le_of_lt hl (by decide))
  · rw [upd_same, List.map_append]
    rfl
  · rw [take_succ hp]
    have k : ∀ {q : Addr} {p : Int × Int}, SqT K H4 q [.int p.1, .int p.2] → SqT K (upd H4 D (.lst (qs.map V.ref ++ [V.ref t]))) q [.int p.1, .int p.2] := fun z => sqT_mv hD (fun _ z => by cases z) (fun _ _ z => by cases z) (Mv.upd _ _ _) z
    exact Paired.snoc (Paired.mapP h2 fun _ _ z => k (Same.t e z)) (k ht)
end Kx
namespace Kx
open PySem PySem.Spec PyProof.Rows L2 SX LamX Ms
theorem go_make {C : Addr} {sp : Sp} {dvs : List V} {E : XK} {t : TA} {σ : L2.St} {H : Hp} {Q : VK} (h : t σ H fun vs H1 => ∀ x dx, H1 x = none → H1 dx = none → dx ≠ x → sp (.ref x :: (vs ++ dvs)) (upd (upd H1 dx (.own x)) x (.ins C dx [])) (fun v H2 => v = .non ∧ Q (.ref x) H2) E) : tMake C sp dvs E t σ H Q := h
theorem kvI_get {es : List (Int × Int)} {i : Nat} {k : Key} {v : V} (h : (kvI es)[i]? = some (k, v)) : ∃ p, es[i]? = some p ∧ k = .inl p.1 ∧ v = .int p.2 := by
  obtain ⟨p, hp, e⟩ := map_at h
  cases e
  exact ⟨p, hp, rfl, rfl⟩
theorem kvI_val {es : List (Int × Int)} {i : Nat} {p : Int × Int} (nd : (es.map (·.1)).Nodup) (h : es[i]? = some p) : some (V.int p.2) = valV (kvI es) (Sum.inl p.1) := by
  rw [valV_kvI, (lkp_mem nd).mpr (show (p.1, p.2) ∈ es from List.mem_of_getElem? h)]
  rfl
/-- new pairs, so far -/
def PnsP (H0 : Hp) (es : List (Int × Int)) (D : Addr) (i : Nat) (Hc : Hp) : Prop := ∃ ts : List Addr, Hc D = some (.lst (ts.map V.ref)) ∧ Paired (Pn Hc) ts (es.take i) ∧ Same H0 Hc
theorem PnsP.new {H0 : Hp} {es : List (Int × Int)} {D : Addr} (nD : H0 D = none) : PnsP H0 es D 0 (upd H0 D (.lst [])) := ⟨[], upd_same, .nil, same_new nD⟩
theorem PnsP.app {H0 Hc H4 : Hp} {es : List (Int × Int)} {D t : Addr} {i : Nat} {p : Int × Int} (h : PnsP H0 es D i Hc) (nD : H0 D = none) (hp : es[i]? = some p) (e : Same Hc H4) (ht : Pn H4 t p) (hl : es.length ≤ 100000) :
    ∃ acc, H4 D = some (.lst acc) ∧ acc.length < sizeLine ∧ PnsP H0 es D (i + 1) (upd H4 D (.lst (acc ++ [V.ref t]))) := by
  obtain ⟨qs, h1, h2, h3⟩ := h
  have hD := e _ _ h1
  have hlen := h2.length
  have k : ∀ {q : Addr} {p : Int × Int}, Pn H4 q p → Pn (upd H4 D (.lst (qs.map V.ref ++ [V.ref t]))) q p := fun {q p} z => by
    unfold Pn at z ⊢
    rw [upd_ne (ne_of_two z hD (fun z => by cases z))]
    exact z
  refine ⟨_, hD, ?_, qs ++ [t], ?_, ?_, same_set (h3.trans e) nD⟩
  · rw [List.length_map, hlen, List.length_take]
    exact Nat.lt_of_le_of_lt (Nat.min_le_right _ _) (Nat.lt_of_le_of_lt hl (by decide))
  · rw [upd_same, List.map_append]
    rfl
  · rw [take_succ hp]
    exact Paired.snoc (Paired.mapP h2 fun _ _ z => k (e _ _ z)) (k ht)
end Kx
namespace Kx
open PySem PySem.Spec PyProof.Rows L2 SX LamX Ms
theorem upd_none {H : Hp} {p b : Addr} {o : HO} (h : upd H p o b = none) : H b = none := by
  by_cases e : b = p
  · rw [e, upd_same] at h
    cases h
  · rw [upd_ne e] at h
    exact h
theorem work_new {K : PySem.W.Frag} {E : XK} {CW x dx nl : Addr} {H : Hp} {ns : List Int} {P : VK} {sp : Sp} (hsp : ∀ vs H Q E, (∃ (p dx nl : Addr), vs = [.ref p, .ref nl] ∧ H p = some (.ins CW dx []) ∧
      ∀ (H' : Hp) (pc ps : Addr), H pc = none → H ps = none → Mv p H H' → H' p = some (.ins CW dx (workF startM nl pc ps)) → H' pc = some (.dK []) → H' ps = some (.lst []) → Q .non H') → sp vs H Q E) (nx : H x = none) (ndx : H dx = none) (hn : SqQ K H nl (ns.map V.int))
    (q : ∀ H' pc ps, WorkAt K CW H H' x nl ns startM 0 dx pc ps [] → P .non H') : sp [.ref x, .ref nl] (upd (upd H dx (.own x)) x (.ins CW dx [])) P E := by
  refine hsp _ _ _ _ ⟨x, dx, nl, rfl, upd_same, fun H' pc ps n1 n2 m h1 h2 h3 => q H' pc ps ?_⟩
  have s1 : Same H (upd (upd H dx (.own x)) x (.ins CW dx [])) := fun b u h => by
    rw [upd_ne (ne_of_none h nx), upd_ne (ne_of_none h ndx)]
    exact h
  exact ⟨h1, h2, ⟨List.nodup_nil, (fun _ m => nomatch m), fun _ => rfl⟩, h3, hn, Nat.le_refl _, Nat.le_refl _, fun b u h => m b u (ne_of_none h nx) (s1 b u h), nx, upd_none (upd_none n1), upd_none (upd_none n2)⟩
section
variable {K : PySem.W.Frag} {C w nl dx pc ps : Addr} {H0 H H' : Hp} {ns : List Int} {s t : Mst} {m n : Nat} {es : List (Int × Int)}
/-- the cells are another dict now -/
theorem WorkAt.recell {D : Addr} {fs : List (Str × V)} {es' : List (Int × Int)} (h : WorkAt K C H0 H w nl ns s m dx pc ps es) (hD : H D = some (.dK (kvI es'))) (nD : H0 D = none) (e : fs = workF t nl D ps) (hc : CellsW es' t.cells) (hs : t.said = s.said) (hl : es'.length ≤ n) (hm : m ≤ n) : WorkAt K C H0 (upd H w (.ins C dx fs)) w nl ns t n dx D ps es' := by
  refine ⟨by rw [upd_same, e], ?_, hc, ?_, h.num, hl, by rw [hs]; exact Nat.le_trans h.sn hm, same_set h.old h.nw, h.nw, nD, h.np⟩
  · rw [upd_ne (ne_of_two hD h.at_ (fun z => by cases z))]
    exact hD
  · rw [upd_ne h.wp, hs]
    exact h.sat
/-- what was said is another list now -/
theorem WorkAt.resay {D : Addr} {fs : List (Str × V)} (h : WorkAt K C H0 H w nl ns s m dx pc ps es) (hD : H D = some (.lst (t.said.map V.int))) (nD : H0 D = none) (e : fs = workF t nl pc D) (hc : t.cells = s.cells) (hl : t.said.length ≤ n) (hm : m ≤ n) : WorkAt K C H0 (upd H w (.ins C dx fs)) w nl ns t n dx pc D es := by
  refine ⟨by rw [upd_same, e], ?_, by rw [hc]; exact h.cl, ?_, h.num, Nat.le_trans h.cn hm, hl, same_set h.old h.nw, h.nw, h.nc, nD⟩
  · rw [upd_ne h.wc]
    exact h.cat
  · rw [upd_ne (ne_of_two hD h.at_ (fun z => by cases z))]
    exact hD
end
theorem isC_nd {l : List (Int × Int)} {f : Int → Int} (h : IsC l f) : (l.map (·.1)).Nodup := List.pairwise_map.mpr (h.up.imp fun z e => by omega)
theorem isC_toW {l : List (Int × Int)} {f : Int → Int} (h : IsC l f) : CellsW l f := by
  refine ⟨isC_nd h, fun p m => ((h.mem p.1 p.2).mp m).2, fun c => ?_⟩
  cases e : lkp l c with
  | some v =>
    have := (h.mem c v).mp ((lkp_mem (isC_nd h)).mp e)
    exact this.1.symm
  | none =>
    by_cases z : f c = 0
    · exact z.symm
    · have := (lkp_mem (isC_nd h)).mpr ((h.mem c (f c)).mpr ⟨rfl, z⟩)
      rw [e] at this
      cases this
theorem put_take {l : List (Int × Int)} {i : Nat} {p : Int × Int} (nd : (l.map (·.1)).Nodup) (h : l[i]? = some p) : putK (kvI (l.take i)) (Sum.inl p.1) (V.int p.2) = kvI (l.take (i + 1)) := by
  rw [putK_kvI, take_succ h]
  have hn : lkp (l.take i) p.1 = none := by
    refine lkp_none.mpr fun m => ?_
    have s1 : ((l.take (i + 1)).map (·.1)).Nodup := List.Sublist.nodup (List.Sublist.map _ (List.take_sublist ..)) nd
    rw [take_succ h, List.map_append] at s1
    exact (List.nodup_append.mp s1).2.2 _ m _ (List.mem_singleton.mpr rfl) rfl
  unfold putI
  rw [hn]
  rfl
/-- the dict of pairs, so far -/
def DctP (H0 : Hp) (l : List (Int × Int)) (D : Addr) (i : Nat) (Hc : Hp) : Prop := Hc D = some (.dK (kvI (l.take i))) ∧ Same H0 Hc
theorem DctP.app {H0 Hc : Hp} {l : List (Int × Int)} {D : Addr} {i : Nat} {p : Int × Int} (h : DctP H0 l D i Hc) (nD : H0 D = none) (nd : (l.map (·.1)).Nodup) (hp : l[i]? = some p) : DctP H0 l D (i + 1) (upd Hc D (.dK (putK (kvI (l.take i)) (Sum.inl p.1) (V.int p.2)))) :=
  ⟨by rw [upd_same, put_take nd hp], same_set h.2 nD⟩
end Kx
namespace Kx
open PySem PySem.Spec PyProof.Rows L2 SX LamX Ms
theorem go_dget {td ty : TE} {σ : L2.St} {H : Hp} {Q : VK} (h : td σ H fun x H1 => ty σ H1 fun y H2 => ∃ a v, x = .ref a ∧ DGet H2 a y (some v) ∧ Q v H2) : tDGet td ty σ H Q := h
theorem go_dput {td ty tv : TE} {D : Ends} {σ : L2.St} {H : Hp} (h : tv σ H fun v H1 => td σ H1 fun x H2 => ty σ H2 fun y H3 => ∃ a H4, x = .ref a ∧ DPut H3 a y v H4 ∧ D.nx σ H4) : sDPut td ty tv D σ H := h
theorem go_par2 {i j : Nat} {t : TA} {D : Ends} {σ : L2.St} {H : Hp} (h : t σ H fun vs H1 => ∃ v w, vs = [v, w] ∧ D.nx ((σ.set i (some v)).set j (some w)) H1) : tPar i j t D σ H := h
section
variable {L pc ps : Addr} {H : Hp} {s t : Mst} {m i : Nat} {es : List (Int × Int)} {σ : L2.St} {k : Str} {v : V}
theorem rdL {Q : VK} (hi : σ[i]? = some (some (.ref L))) (h : LiveAt H L pc s m ps es) (e : valV (liveK s pc ps) (.inr k) = some v) (q : Q v H) : tDGet (tVar i) (tC (.str k)) σ H Q := ⟨_, hi, L, v, rfl, h.get e, q⟩
theorem stL {D : Ends} (hi : σ[i]? = some (some (.ref L))) (h : LiveAt H L pc s m ps es) (e : putK (liveK s pc ps) (.inr k) v = liveK t pc ps) (hc : t.cells = s.cells) (hs : t.said = s.said) (kk : ∀ H', Mv2 L pc H H' → LiveAt H' L pc t m ps es → D.nx σ H') :
    (tVar i) σ H fun x H2 => (tC (.str k)) σ H2 fun y H3 => ∃ a H4, x = .ref a ∧ DPut H3 a y v H4 ∧ D.nx σ H4 := ⟨_, hi, L, _, rfl, DPut.k (k := .inr k) h.at_ live_len, kk _ Mv2.l (h.put e hc hs)⟩
theorem stGL {Q : L2.St → Hp → Prop} (hi : σ[i]? = some (some (.ref L))) (h : LiveAt H L pc s m ps es) (e : putK (liveK s pc ps) (.inr k) v = liveK t pc ps) (hc : t.cells = s.cells) (hs : t.said = s.said) (kk : ∀ H', Mv2 L pc H H' → LiveAt H' L pc t m ps es → Q σ H') :
    gSub (tVar i) (tC (.str k)) rSetD v σ H Q := ⟨_, hi, L, _, rfl, DPut.k (k := .inr k) h.at_ live_len, kk _ Mv2.l (h.put e hc hs)⟩
theorem cell_getL {f : Int → Int} (h : CellsL es f) (c : Int) : (valV (kvI es) (Sum.inl c)).getD (.int 0) = .int (f c) := by
  rw [valV_kvI, ← h.at_]
  cases lkp es c <;> rfl
/-- what was said is another list now -/
theorem LiveAt.resay {D : Addr} (h : LiveAt H L pc s m ps es) (hD : H D = some (.lst (t.said.map V.int))) (e : putK (liveK s pc ps) (.inr "said") (.ref D) = liveK t pc D) (hc : t.cells = s.cells) (hl : t.said.length ≤ m + 1) : LiveAt (upd H L (.dK (putK (liveK s pc ps) (.inr "said") (.ref D)))) L pc t (m + 1) D es := by
  refine ⟨by rw [upd_same, e], ?_, by rw [hc]; exact h.cl, ?_, Nat.le_succ_of_le h.cn, hl, h.ne⟩
  · rw [upd_ne h.ne.symm]
    exact h.cat
  · rw [upd_ne (ne_of_two hD h.at_ (fun z => by cases z))]
    exact hD
/-- a cell is set -/
theorem LiveAt.cell {c v : Int} (h : LiveAt H L pc s m ps es) (e : liveK t pc ps = liveK s pc ps) (hs : t.said = s.said) (hc : t.cells = putC s.cells c v) : LiveAt (upd H pc (.dK (kvI (putI es c v)))) L pc t (m + 1) ps (putI es c v) := by
  refine ⟨?_, upd_same, by rw [hc]; exact h.cl.put c v, ?_, Nat.le_trans (putI_len ..) (Nat.succ_le_succ h.cn), by rw [hs]; exact Nat.le_succ_of_le h.sn, h.ne⟩
  · rw [upd_ne h.ne, e]
    exact h.at_
  · rw [upd_ne (ne_of_two h.sat h.cat (fun z => by cases z)), hs]
    exact h.sat
end
section
variable {t u : TS} {D : Ends} {σ : L2.St} {H : Hp} {i : Nat} {n c : Int}
theorem ifEq (hi : σ[i]? = some (some (.int n))) (h1 : n = c → t D σ H) (h2 : n ≠ c → u D σ H) : tIfS (tTest (tOp rEq (tVar i) (tC (.int c)))) t u D σ H := by
  refine go_if (go_test (go_op (go_var hi ⟨rfl, _, rfl, ?_⟩)))
  rw [decI]
  by_cases e : n = c
  · rw [decide_eq_true e]
    exact iteT (B := _) (h1 e)
  · rw [decide_eq_false e]
    exact iteF (A := _) (h2 e)
theorem ifGt (hi : σ[i]? = some (some (.int n))) (h1 : c < n → t D σ H) (h2 : ¬ c < n → u D σ H) : tIfS (tTest (tOp (rI0 fun i j => V.bl (decide (j < i))) (tVar i) (tC (.int c)))) t u D σ H := by
  refine go_if (go_test (go_op (go_var hi (go_c ⟨_, _, rfl, rfl, _, rfl, ?_⟩))))
  by_cases e : c < n
  · rw [decide_eq_true e]
    exact iteT (B := _) (h1 e)
  · rw [decide_eq_false e]
    exact iteF (A := _) (h2 e)
theorem ifLt (hi : σ[i]? = some (some (.int n))) (h1 : n < c → t D σ H) (h2 : ¬ n < c → u D σ H) : tIfS (tTest (tOp (rI0 fun i j => V.bl (decide (i < j))) (tVar i) (tC (.int c)))) t u D σ H := by
  refine go_if (go_test (go_op (go_var hi (go_c ⟨_, _, rfl, rfl, _, rfl, ?_⟩))))
  by_cases e : n < c
  · rw [decide_eq_true e]
    exact iteT (B := _) (h1 e)
  · rw [decide_eq_false e]
    exact iteF (A := _) (h2 e)
end
end Kx
namespace Kx
open PySem PySem.Spec PyProof.Rows L2 SX LamX Ms
section
variable {K : PySem.W.Frag} {L pc ps a : Addr} {H H' : Hp} {s : Mst} {m : Nat} {es : List (Int × Int)} {xs : List V}
theorem sqL_mv2 (h : LiveAt H L pc s m ps es) (mv : Mv2 L pc H H') (q : SqL K H a xs) : SqL K H' a xs := by
  rcases q with (q | ⟨ob, q⟩) | q
  · exact .inl (.inl (mv _ _ (ne_of_two q h.at_ (fun z => by cases z)) (ne_of_two q h.cat (fun z => by cases z)) q))
  · exact .inl (.inr ⟨ob, mv _ _ (ne_of_two q h.at_ (fun z => by cases z)) (ne_of_two q h.cat (fun z => by cases z)) q⟩)
  · exact .inr q
theorem sqT_mv2 (h : LiveAt H L pc s m ps es) (mv : Mv2 L pc H H') (q : SqT K H a xs) : SqT K H' a xs := by
  rcases q with (q | ⟨ob, q⟩) | q
  · exact .inl (.inl (mv _ _ (ne_of_two q h.at_ (fun z => by cases z)) (ne_of_two q h.cat (fun z => by cases z)) q))
  · exact .inl (.inr ⟨ob, mv _ _ (ne_of_two q h.at_ (fun z => by cases z)) (ne_of_two q h.cat (fun z => by cases z)) q⟩)
  · exact .inr q
theorem StandAt.mv2 {C p dx t u : Addr} {s' : Mst} {l : List (Int × Int)} (h : LiveAt H L pc s m ps es) (mv : Mv2 L pc H H') (q : StandAt K C H p s' l dx t u) : StandAt K C H' p s' l dx t u := by
  refine ⟨mv _ _ (ne_of_two q.at_ h.at_ (fun z => by cases z)) (ne_of_two q.at_ h.cat (fun z => by cases z)) q.at_, ?_, sqT_mv2 h mv q.sat, q.isC⟩
  obtain ⟨ps, h1, h2⟩ := q.cat
  exact ⟨ps, sqT_mv2 h mv h1, Paired.mapP h2 fun _ _ z => sqT_mv2 h mv z⟩
theorem Wh.mv2 {w c : Addr} {n : Nat} (h : LiveAt H L pc s m ps es) (mv : Mv2 L pc H H') (q : Wh H w c n) : Wh H' w c n := by
  obtain ⟨cs, t, l, h1, h2, h3⟩ := q
  exact ⟨cs, t, l, mv _ _ (ne_of_two h1 h.at_ (fun z => by cases z)) (ne_of_two h1 h.cat (fun z => by cases z)) h1, mv _ _ (ne_of_two h2 h.at_ (fun z => by cases z)) (ne_of_two h2 h.cat (fun z => by cases z)) h2, h3⟩
end
theorem go_dget2 {td ty tx : TE} {σ : L2.St} {H : Hp} {Q : VK} (h : td σ H fun x H1 => ∃ a, x = .ref a ∧ IsD H1 a ∧ ty σ H1 fun y H2 => tx σ H2 fun z H3 => ∃ o, DGet H3 a y o ∧ Q (o.getD z) H3) : tDGet2 td ty tx σ H Q := h
end Kx
namespace Kx
open PySem PySem.Spec PyProof.Rows L2 SX LamX Ms
section
variable {t u : TS} {tb : TT} {D : Ends} {σ : L2.St} {H : Hp} {i : Nat} {n c : Int}
theorem ifAndEq (hi : σ[i]? = some (some (.int n))) (h1 : n = c → tb σ H fun b H1 => if b = true then t D σ H1 else u D σ H1) (h2 : n ≠ c → u D σ H) : tIfS (tAnd (tTest (tOp rEq (tVar i) (tC (.int c)))) tb) t u D σ H := by
  refine go_if (go_andT (go_test (go_op (go_var hi ⟨rfl, _, rfl, ?_⟩))))
  rw [decI]
  by_cases e : n = c
  · rw [decide_eq_true e]
    exact iteT (B := _) (h1 e)
  · rw [decide_eq_false e]
    exact iteF (A := _) (h2 e)
theorem ifAndGt (hi : σ[i]? = some (some (.int n))) (h1 : c < n → tb σ H fun b H1 => if b = true then t D σ H1 else u D σ H1) (h2 : ¬ c < n → u D σ H) : tIfS (tAnd (tTest (tOp (rI0 fun i j => V.bl (decide (j < i))) (tVar i) (tC (.int c)))) tb) t u D σ H := by
  refine go_if (go_andT (go_test (go_op (go_var hi (go_c ⟨_, _, rfl, rfl, _, rfl, ?_⟩)))))
  by_cases e : c < n
  · rw [decide_eq_true e]
    exact iteT (B := _) (h1 e)
  · rw [decide_eq_false e]
    exact iteF (A := _) (h2 e)
end
end Kx
namespace Kx
open PySem PySem.Spec PyProof.Rows L2 SX LamX Ms
/-- new pairs of the cells that are not 0, so far -/
def nz (es : List (Int × Int)) : List (Int × Int) := es.filter fun p => decide (p.2 ≠ 0)
def PnsF (H0 : Hp) (es : List (Int × Int)) (D : Addr) (i : Nat) (Hc : Hp) : Prop := ∃ ts : List Addr, Hc D = some (.lst (ts.map V.ref)) ∧ Paired (Pn Hc) ts (nz (es.take i)) ∧ Same H0 Hc
theorem PnsF.new {H0 : Hp} {es : List (Int × Int)} {D : Addr} (nD : H0 D = none) : PnsF H0 es D 0 (upd H0 D (.lst [])) := ⟨[], upd_same, .nil, same_new nD⟩
theorem PnsF.app {H0 Hc H4 : Hp} {es : List (Int × Int)} {D t : Addr} {i : Nat} {p : Int × Int} (h : PnsF H0 es D i Hc) (nD : H0 D = none) (hp : es[i]? = some p) (hz : p.2 ≠ 0) (e : Same Hc H4) (ht : Pn H4 t p) (hl : es.length ≤ 100000) :
    ∃ acc, H4 D = some (.lst acc) ∧ acc.length < sizeLine ∧ PnsF H0 es D (i + 1) (upd H4 D (.lst (acc ++ [V.ref t]))) := by
  obtain ⟨qs, h1, h2, h3⟩ := h
  have hD := e _ _ h1
  have hlen := h2.length
  have k : ∀ {q : Addr} {p : Int × Int}, Pn H4 q p → Pn (upd H4 D (.lst (qs.map V.ref ++ [V.ref t]))) q p := fun {q p} z => by
    unfold Pn at z ⊢
    rw [upd_ne (ne_of_two z hD (fun z => by cases z))]
    exact z
  refine ⟨_, hD, ?_, qs ++ [t], ?_, ?_, same_set (h3.trans e) nD⟩
  · rw [List.length_map, hlen]
    refine Nat.lt_of_le_of_lt (List.length_filter_le ..) ?_
    rw [List.length_take]
    exact Nat.lt_of_le_of_lt (Nat.min_le_right _ _) (Nat.lt_of_le_of_lt hl (by decide))
  · rw [upd_same, List.map_append]
    rfl
  · unfold nz
    rw [take_succ hp, List.filter_append, List.filter_cons_of_pos (by simpa using hz)]
    exact Paired.snoc (Paired.mapP h2 fun _ _ z => k (e _ _ z)) (k ht)
theorem PnsF.skip {H0 Hc H4 : Hp} {es : List (Int × Int)} {D : Addr} {i : Nat} {p : Int × Int} (h : PnsF H0 es D i Hc) (hp : es[i]? = some p) (hz : p.2 = 0) (e : Same Hc H4) : PnsF H0 es D (i + 1) H4 := by
  obtain ⟨qs, h1, h2, h3⟩ := h
  refine ⟨qs, e _ _ h1, ?_, h3.trans e⟩
  unfold nz
  rw [take_succ hp, List.filter_append, List.filter_cons_of_neg (by simpa using hz), List.filter_nil, List.append_nil]
  exact Paired.mapP h2 fun _ _ z => e _ _ z
theorem nz_nd {es : List (Int × Int)} (nd : (es.map (·.1)).Nodup) : ((nz es).map (·.1)).Nodup := List.Sublist.nodup (List.Sublist.map _ (List.filter_sublist ..)) nd
theorem nz_len (es : List (Int × Int)) : (nz es).length ≤ es.length := List.length_filter_le ..
/-- what a stand is, as data -/
theorem dp_pairs {K : PySem.W.Frag} {H : Hp} {t : Addr} {l : List (Int × Int)} (h : PairsT K H t l) : Dp K H (.ref t) (.tuple (l.map pairD)) := by
  obtain ⟨ps, h1, h2⟩ := h
  refine .tup h1 ?_
  clear h1
  induction h2 with
  | nil => exact .nil
  | cons a _ ih => exact .cons (.tup a (.cons (.int _) (.cons (.int _) .nil))) ih
def standL (s : Mst) (t u : Addr) : List V := [.int s.block, .int s.room, .bl s.tick, .bl s.flag, .bl s.test, .int s.mode, .int s.first, .int s.second, .ref t, .int (s.heard : Nat), .ref u, .bl s.isd]
theorem dp_standA {K : PySem.W.Frag} {H : Hp} {t u : Addr} {s : Mst} {l : List (Int × Int)} (hc : PairsT K H t l) (hs : SqT K H u (s.said.map V.int)) : DpAll K H (standL s t u) (standD s l) :=
  .cons (.int _) <| .cons (.int _) <| .cons (.bl _) <| .cons (.bl _) <| .cons (.bl _) <| .cons (.int _) <| .cons (.int _) <| .cons (.int _) <| .cons (dp_pairs hc) <| .cons (.int _) <| .cons (.tup hs (dpAll_map _ fun _ _ => .int _)) <| .cons (.bl _) .nil
/-- the text of a stand -/
def standX (s : Mst) (l : List (Int × Int)) : Str := (PyData.list (standD s l)).shown
theorem repr_stand {K : PySem.W.Frag} {H : Hp} {p t u : Addr} {s : Mst} {l : List (Int × Int)} {b : Nat} {Q : VK} (h : H p = some (.lst (standL s t u))) (hc : PairsT K H t l) (hs : SqT K H u (s.said.map V.int)) (hb : Bd b s) (b0 : 20 ≤ b) (b1 : b ≤ 1915) (hC : IsC l s.cells) (l2 : l.length ≤ 2000) (s2 : s.said.length ≤ 2000) (q : Q (.str (standX s l)) H) : rRepr K [.ref p] H Q := by
  have sh := shB_stand hb b1 hC l2 s2 b0
  exact ⟨p, _, rfl, .lst (.inl (.inl h)) (dp_standA hc hs), sh.sh, sh.nd, Nat.le_trans sh.dp (by decide), sh.len (Nat.le_refl _), q⟩
end Kx
namespace Kx
open PySem PySem.Spec PyProof.Rows L2 SX LamX Ms
/-- a stand that is being drawn -/
structure Drw (H0 Hx : Hp) (w c : Addr) (n : Nat) (L pc ps : Addr) (s : Mst) (m : Nat) (es : List (Int × Int)) : Prop where
  live : LiveAt Hx L pc s m ps es
  bd : Bd 83 s
  wh : Wh Hx w c n
  mv : Mv w H0 Hx
  nL : H0 L = none
  npc : H0 pc = none
  psw : ps ≠ w
section
variable {H0 Hx Hy : Hp} {w c L pc ps ps' : Addr} {n n' m m' : Nat} {s t : Mst} {es es' : List (Int × Int)}
theorem LiveAt.mvw (h : LiveAt Hx L pc s m ps es) (wh : Wh Hx w c n) (psw : ps ≠ w) (mv : Mv w Hx Hy) : LiveAt Hy L pc s m ps es := by
  obtain ⟨cs, x, l, h1, _⟩ := wh
  exact { h with at_ := mv _ _ (ne_of_two h.at_ h1 (fun z => by cases z)) h.at_, cat := mv _ _ (ne_of_two h.cat h1 (fun z => by cases z)) h.cat, sat := mv _ _ psw h.sat }
theorem Drw.draw (d : Drw H0 Hx w c n L pc ps s m es) (mv : Mv w Hx Hy) (wh : Wh Hy w c n') : Drw H0 Hy w c n' L pc ps s m es :=
  { d with live := d.live.mvw d.wh d.psw mv, wh := wh, mv := d.mv.trans mv }
theorem Drw.new (d : Drw H0 Hx w c n L pc ps s m es) (e : Same Hx Hy) : Drw H0 Hy w c n L pc ps s m es := d.draw (Mv.of e) (d.wh.same e)
theorem Drw.set (d : Drw H0 Hx w c n L pc ps s m es) (m2 : Mv2 L pc Hx Hy) (live : LiveAt Hy L pc t m' ps' es') (bd : Bd 83 t) (psw : ps' ≠ w) : Drw H0 Hy w c n L pc ps' t m' es' :=
  ⟨live, bd, d.wh.mv2 d.live m2, fun b o hb h => m2 _ _ (ne_of_none h d.nL) (ne_of_none h d.npc) (d.mv b o hb h), d.nL, d.npc, psw⟩
theorem Drw.lt (d : Drw H0 Hx w c n L pc ps s m es) (h : n ≤ n') : Drw H0 Hx w c n' L pc ps s m es := { d with wh := d.wh.lt h }
theorem Drw.mono (d : Drw H0 Hx w c n L pc ps s m es) (h : m ≤ m') : Drw H0 Hx w c n L pc ps s m' es := { d with live := d.live.mono h }
end
theorem bi_small {i : Int} {b : Nat} (h : -1000000 ≤ i) (k : i ≤ 1000000) (hb : 20 ≤ b) : Bi b i := Nat.lt_of_lt_of_le (show i.natAbs < 2 ^ 20 by omega) (Nat.pow_le_pow_right (by decide) hb)
end Kx
namespace Kx
open PySem PySem.Spec PyProof.Rows L2 SX LamX Ms
theorem bd_start : Bd 83 startM where
  block := bi_small (by decide) (by decide) (by decide)
  room := bi_small (by decide) (by decide) (by decide)
  first := bi_small (by decide) (by decide) (by decide)
  second := bi_small (by decide) (by decide) (by decide)
  cells := fun _ => bi_small (i := 0) (by decide) (by decide) (by decide)
  keys := fun _ z => absurd rfl z
  said := fun _ m => nomatch m
  mode := by decide
  heard := by decide
  low := by decide
end Kx
namespace Ms
/-- a row, and one in which each word stands one or more times -/
inductive Thk : List Nat → List Nat → Prop
  | nil : Thk [] []
  | snoc {r t : List Nat} (h : Thk r t) (n k : Nat) : Thk (r ++ [n]) (t ++ List.replicate (k + 1) n)
theorem doR_one (ns : List Int) (s : Mst) (n : Nat) : doR ns s [n] = doW ns s n := rfl
theorem Thk.same {ns : List Int} {r t : List Nat} (h : Thk r t) (h30 : ∀ n ∈ r, n < 30) (s : Mst) : doR ns s t = doR ns s r := by
  induction h with
  | nil => rfl
  | @snoc r t h n k ih =>
    rw [doR_app, doR_app, ih fun x m => h30 x (List.mem_append_left _ m), doR_rep ns n (h30 n (List.mem_append_right _ (List.mem_singleton.mpr rfl))) k]
    rfl
theorem Thk.pre {ns : List Int} {r t : List Nat} (h : Thk r t) (h30 : ∀ n ∈ r, n < 30) (s : Mst) : ∀ k, ∃ j, doR ns s (t.take k) = doR ns s (r.take j) := by
  induction h with
  | nil => exact fun k => ⟨0, by rw [List.take_nil, List.take_nil]⟩
  | @snoc r t h n m ih =>
    have ih' := ih fun x m => h30 x (List.mem_append_left _ m)
    have hn := h30 n (List.mem_append_right _ (List.mem_singleton.mpr rfl))
    intro k
    rw [List.take_append]
    by_cases hk : k ≤ t.length
    · obtain ⟨j, hj⟩ := ih' k
      rw [show k - t.length = 0 by omega, List.take_zero, List.append_nil, hj]
      by_cases hj2 : j ≤ r.length
      · exact ⟨j, by rw [List.take_append_of_le_length hj2]⟩
      · exact ⟨r.length, by rw [List.take_of_length_le (by omega), List.take_append_of_le_length (Nat.le_refl _), List.take_length]⟩
    · obtain ⟨d, hd⟩ : ∃ d, k - t.length = d + 1 := ⟨k - t.length - 1, by omega⟩
      rw [List.take_of_length_le (by omega : t.length ≤ k), hd, List.take_replicate, doR_app, h.same (fun x m => h30 x (List.mem_append_left _ m))]
      obtain ⟨e, he⟩ : ∃ e, min (d + 1) (m + 1) = e + 1 := ⟨min d m, by omega⟩
      rw [he, doR_rep ns n hn e]
      refine ⟨(r ++ [n]).length, ?_⟩
      rw [List.take_length, doR_app]
      rfl
theorem Thk.all {r t : List Nat} (h : Thk r t) (h30 : ∀ n ∈ r, n < 30) : ∀ n ∈ t, n < 30 := by
  induction h with
  | nil => exact fun _ m => nomatch m
  | @snoc r t h n k ih =>
    intro x m
    rcases List.mem_append.mp m with m | m
    · exact ih (fun x m => h30 x (List.mem_append_left _ m)) x m
    · rw [(List.mem_replicate.mp m).2]
      exact h30 n (List.mem_append_right _ (List.mem_singleton.mpr rfl))
end Ms
namespace Kx
open PySem PySem.Spec PyProof.Rows L2 SX LamX Ms
/-- what was there stays, though new dicts are filled -/
theorem Mv2.new {O oc : Addr} {Ha Hb Hc : Hp} (m : Mv2 O oc Hb Hc) (e : Same Ha Hb) (n1 : Ha O = none) (n2 : Ha oc = none) : Same Ha Hc := fun b o h => m b o (ne_of_none h n1) (ne_of_none h n2) (e b o h)
theorem StandAt.mvw {K : PySem.W.Frag} {C p dx t u w c : Addr} {H H' : Hp} {s : Mst} {l : List (Int × Int)} {n : Nat} (h : StandAt K C H p s l dx t u) (wh : Wh H w c n) (m : Mv w H H') : StandAt K C H' p s l dx t u := by
  obtain ⟨cs, x, y, h1, _⟩ := wh
  exact { h with at_ := m _ _ (ne_of_two h.at_ h1 (fun z => by cases z)) h.at_, cat := h.cat.mv h1 (fun _ z => by cases z) (fun _ _ z => by cases z) m, sat := sqT_mv h1 (fun _ z => by cases z) (fun _ _ z => by cases z) m h.sat }
theorem ne_text {x y : Str} (h : x = y) {H : Hp} {Q : Bool → Hp → Prop} (q : Q false H) : ∃ k, V.bl (!decide (V.str x = V.str y)) = .bl k ∧ Q k H := by
  subst h
  exact ⟨false, by simp, q⟩
end Kx
namespace Kx
open PySem PySem.Spec PyProof.Rows L2 SX LamX Ms
theorem midE {te : TE} {σ : L2.St} {H : Hp} {Q : VK} (Pz : V → Hp → Prop) (h1 : ∀ Q1 : VK, (∀ v H4, Pz v H4 → Q1 v H4) → te σ H Q1) (h2 : ∀ v H4, Pz v H4 → Q v H4) : te σ H Q := h1 Q h2
end Kx
namespace Kx
open PySem PySem.Spec PyProof.Rows L2 SX LamX Ms
theorem inV_row (n : Nat) (row : List Nat) : inV (.int (n : Int)) (rowV row) = decide (n ∈ row) := by
  unfold inV rowV
  rw [List.any_map]
  induction row with
  | nil => rfl
  | cons x r ih =>
    rw [List.any_cons, ih]
    show (eqV (.int (x : Int)) (.int (n : Int)) || decide (n ∈ r)) = _
    by_cases e : n = x
    · subst e
      simp [eqV]
    · have : ¬ (x : Int) = (n : Int) := by omega
      simp [eqV, this, e]
theorem flat_row (row : List Nat) : (rowV row).all flatV = true := by
  rw [List.all_eq_true]
  intro v m
  obtain ⟨n, _, rfl⟩ := List.mem_map.mp m
  rfl
theorem rep_row (k n : Nat) : (List.replicate k [V.int (n : Int)]).flatten = rowV (List.replicate k n) := by
  induction k with
  | zero => rfl
  | succ k ih =>
    rw [List.replicate_succ, List.flatten_cons, ih, List.replicate_succ]
    rfl
theorem row_app (a b : List Nat) : rowV a ++ rowV b = rowV (a ++ b) := (List.map_append ..).symm
end Kx
namespace Kx
open PySem PySem.Spec PyProof.Rows L2 SX LamX
/-! ### try: .. except X as n: ..  except Y as n: .. -/
/-- behind an except suite the name holds nothing -/
def goneD (i : Nat) (D : Ends) : Ends := ⟨fun σ2 H2 => D.nx (σ2.set i none) H2, D.rt, fun σ2 H2 => D.bk (σ2.set i none) H2, fun σ2 H2 => D.ct (σ2.set i none) H2⟩
/-- what the named clauses wish of an exception of the body -/
def wManyN (K : PySem.W.Frag) (i : Nat) (Wo : WX) (D : Ends) : List (Value × (Addr → Value → Option Addr → TS)) → WX
  | [] => Wo
  | p :: r => fun cl dd σ H => ∃ yes, PySem.W.exmOne K cl p.1 = some yes ∧ (yes = true → ∀ x, H x = none → p.2 x cl dd (goneD i D) (σ.set i (some (.ref x))) H) ∧ (yes = false → wManyN K i Wo D r cl dd σ H)
inductive HdsN (X : Cx) (n : Str) : List ExceptHandler → List (Value × (Addr → Value → Option Addr → TS)) → Prop
  | nil : HdsN X n [] []
  | cons {x : Str} {c : Value} {sx : Addr → Value → Option Addr → TS} {st0 : Stmt} {sts : List Stmt} {p1 p2 : Pos} {more : List ExceptHandler} {l : List (Value × (Addr → Value → Option Addr → TS))} (names : Names X x c)
      (suite : ∀ (a : Addr) (ob : Obj) (cl : Value) (dd : Option Addr) (pn : List (Addr × Obj)), Zc cl dd ob → (∃ fv, ob.data = .fields fv) → PSs (X.suite a ((a, ob) :: pn)) (st0 :: sts) (sx a cl dd)) (rest : HdsN X n more l) :
      HdsN X n (.ExceptHandler (some (.Name x p1)) (some n) (st0 :: sts) p2 :: more) ((c, sx) :: l)
section
variable {X : Cx} {body : List Stmt} {hd0 : ExceptHandler} {hds : List ExceptHandler} {l : List (Value × (Addr → Value → Option Addr → TS))} {pos : Pos} {tb : WX → TS} {Wo : WX} {n : Str} {i : Nat}
theorem ps_manyN (stk : X.stack = X.env :: X.outer) (frm : X.env.frame = some X.env.locals) (nd : X.N.Nodup) (at_i : X.N[i]? = some n) (isl : X.env.kindOf n = some .local) (tk : Takes X Wo)
    (run : ∀ (W : WX) (pn : List (Addr × Obj)) (xe : Value → Shared → Prop), Takes (X.tr pn xe) W → PassesOwn (model X.prog X.w) X.A X.env xe → PSs (X.tr pn xe) body (tb W))
    (hand : HdsN X n (hd0 :: hds) l) : PS X (.Try body (hd0 :: hds) [] [] pos) (fun D σ H => tb (wManyN X.K i Wo D l) D σ H) := by
  constructor
  intro pins s σ H D I want
  have ok := I.ok
  have fr : X.A.frames = some (X.env :: X.outer) := by rw [ok.frames, stk]
  have place : Loc X.env.scope n := .inl isl
  apply wpAny_Try_except
  refine wpAny_mono ((run (wManyN X.K i Wo D l) (X.pn ++ pins) (fun e t1 => wpAny (model X.prog X.w) X.A (noteFrame e X.env) (fun _ t2 => wpAny (model X.prog X.w) X.A (setFlight e none) (fun _ t3 =>
    wpAny (model X.prog X.w) X.A (handleBy e X.env (hd0 :: hds)) (SP X pins D) X.xe t3) X.xe t2) X.xe t1) (fun u t xx => ?_) PassesOwn.looking).run [] s σ H D (I.toTry _) want) (fun f t1 ends => ?_) (fun _ _ z => z)
  · obtain ⟨a, B, sI, _, σ2, H2, cl, dd, rfl, J2, nb, up, sky, na, os, ag, wish⟩ := xx
    have J : Inv X pins σ2 H2 sI := J2.ofTry ok
    have sky2 : Sky B (X.env :: X.outer) a (Zc cl dd) X.env.locals t.heap := by rw [← stk]; exact sky
    show wpAny (model X.prog X.w) X.A (noteFrame (.ref a) X.env) _ _ _
    refine Sky.land Zc.steady fr frm sky2 fun h3 fl3 up3 => ?_
    have J3 : Inv X pins σ2 H2 { t with heap := h3 } := J.landed nb fl3.1 (up.trans up3) os ag
    obtain ⟨ob3, fv3, at3, z3, dt3⟩ := fl3.there
    have apart : a ∉ frs (X.env :: X.outer) := fun hm => by
      obtain ⟨_, o2, e2, hnf⟩ := fl3.2.2.1.mem hm
      rw [at3] at e2
      cases e2
      exact hnf _ dt3
    have nL : a ≠ X.env.locals := fun z => apart (List.mem_filterMap.mpr ⟨X.env, List.mem_cons_self, by rw [frm, z]⟩)
    have nF : a ∉ X.fs := fun hm => by
      obtain ⟨e, me, q⟩ := List.mem_filterMap.mp hm
      exact apart (List.mem_filterMap.mpr ⟨e, List.mem_cons_of_mem _ me, q⟩)
    have S3 := J3.suite at3 dt3 na nL nF
    have go : ∀ {hs : List ExceptHandler} {m : List (Value × (Addr → Value → Option Addr → TS))}, HdsN X n hs m → wManyN X.K i Wo D m cl dd σ2 H2 →
        wpAny (model X.prog X.w) X.A (handleBy (.ref a) X.env hs) (SP X pins D) X.xe { t with heap := h3 } := by
      intro hs m hk
      induction hk with
      | nil =>
        intro w
        apply wpAny_handleBy_nil
        obtain ⟨k1, k2, k3, ob, fv, T1, oT, t4, he, hz, hd, h1, hr⟩ := id fl3
        unfold PySem.passOn
        apply wpAny_bind
        refine wpAny_field he hd h1 ?_
        rw [if_neg (show ¬ ((Value.ref T1 == Value.none) = true) from by simp)]
        have out : wpAny (model X.prog X.w) X.A (setFlight (.ref a) X.env.frame) (fun _ t5 => wpAny (model X.prog X.w) X.A (throw (.ref a) : Sem Flow) (SP X pins D) X.xe t5) X.xe { t with heap := h3 } := by
          rw [frm]
          refine HandSPX.setFlight_upZ fl3 fun h4 ww up4 => wpAny_throw (tk _ _ ?_)
          exact ⟨a, B, sI, pins, σ2, H2, cl, dd, rfl, J, nb, (up.trans up3).trans up4, .inr (.inr (by rw [stk]; exact ww)), na, os, ag, w⟩
        first
          | exact wpAny_bind (wpAny_pure (wpAny_bind out))
          | exact wpAny_bind out
      | @cons x c sx st0 sts p1 p2 more m2 names suite rest ih =>
        intro w
        obtain ⟨yes, is, yea, nay⟩ := w
        refine wpAny_handleBy_cons (codeAny_handlers_test ?_) (by intro q; cases q)
        have look : PySem.W.Looks (model X.prog X.w) h3 (typeOf (.ref a)) cl := fun A Q E s k q => wpAny_typeOf_ref (k _ _ at3) (by rw [z3.1]; exact q)
        have one := PySem.W.exm_one (M := model X.prog X.w) (J3.kIn) look is
        have test : ∀ {Q : Value → Shared → Prop} {E : Value → Shared → Prop}, Q c { t with heap := h3 } → wpAny (model X.prog X.w) (X.A.mark (some (.ref a))) (eval (.Name x p1) X.env) Q E { t with heap := h3 } := fun {Q E} q => by
          obtain ⟨hg, dbg, hm | ⟨hm, hv, nn⟩⟩ := names
          · exact ld_glob (X := X.suite a ((a, ob3) :: (X.pn ++ pins))) S3 hg hm q dbg
          · exact ld_blt (X := X.suite a ((a, ob3) :: (X.pn ++ pins))) S3 hg hm hv q nn dbg
        apply test
        apply one.here
        cases yes with
        | true =>
          apply codeAny_handlers_suite_as
          refine HandSPX.lands_againZ fl3 fun h4 fl4 up4 => ?_
          have J4 : Inv X pins σ2 H2 { t with heap := h4 } := J.landed nb fl4.1 ((up.trans up3).trans up4) os ag
          obtain ⟨ob4, fv4, at4, z4, dt4⟩ := fl4.there
          have S4 := J4.suite at4 dt4 na nL nF
          refine store_ok (X := X.suite a ((a, ob4) :: (X.pn ++ pins))) (v := .ref a) S4 nd at_i place rfl (fun t5 S5 => ?_) (.inr isl)
          refine wpAny_mono ((suite a ob4 cl dd (X.pn ++ pins) z4 ⟨_, dt4⟩).run [] t5 _ H2 _ S5 (yea rfl a na)) (fun f t6 hsp => ?_) (fun _ _ z => z.elim)
          have over : ∀ {σ6 : L2.St} {H6 : Hp} {Q : Shared → Prop}, Inv (X.suite a ((a, ob4) :: (X.pn ++ pins))) [] σ6 H6 t6 → (∀ t7, Inv X pins (σ6.set i none) H6 t7 → Q t7) →
              wpAny (model X.prog X.w) X.A (do bindName X.env n .none; unbindBehindTheSuite X.env n p2) (fun _ t7 => Q t7) X.xe t6 := fun {σ6 H6 Q} S6 hq => gone_ok (S6.unsuite ok) nd at_i isl hq
          cases f with
          | next =>
            obtain ⟨σ6, H6, S6, q6⟩ := hsp
            exact over S6 fun t7 J7 => ⟨_, _, J7, q6⟩
          | brk =>
            obtain ⟨σ6, H6, S6, q6⟩ := hsp
            exact over S6 fun t7 J7 => ⟨_, _, J7, q6⟩
          | cont =>
            obtain ⟨σ6, H6, S6, q6⟩ := hsp
            exact over S6 fun t7 J7 => ⟨_, _, J7, q6⟩
          | ret u =>
            obtain ⟨v6, σ6, H6, S6, r6, q6⟩ := hsp
            exact over S6 fun t7 J7 => ⟨_, _, _, J7, r6, q6⟩
        | false =>
          show wpAny _ X.A (handleBy (.ref a) X.env more) _ _ _
          exact ih (nay rfl)
    exact go hand wish
  · cases f with
    | next =>
      obtain ⟨σ2, H2, J2, q⟩ := ends
      exact wpAny_execs_nil ⟨σ2, H2, J2.ofTry ok, q⟩
    | brk =>
      obtain ⟨σ2, H2, J2, q⟩ := ends
      exact ⟨σ2, H2, J2.ofTry ok, q⟩
    | cont =>
      obtain ⟨σ2, H2, J2, q⟩ := ends
      exact ⟨σ2, H2, J2.ofTry ok, q⟩
    | ret u =>
      obtain ⟨v, σ2, H2, J2, r, q⟩ := ends
      exact ⟨v, σ2, H2, J2.ofTry ok, r, q⟩
end
end Kx
namespace Kx
open PySem PySem.Spec PyProof.Rows L2 SX LamX Ms
/-- no positional value, three by name: c, b, a for a, b, c -/
def backG {α : Type} (us ws : List α) : List α := match us, ws with | [], [c, b, a] => [a, b, c] | _, _ => []
theorem kb_back {K : PySem.W.Frag} {x qual : Str} {st : Stmt} {f : Addr} {fd : FuncData} {a b c : Str} (F : Fun K x qual st f fd)
    (h : ∀ (kV doc pm : Value) (an : Option Addr) (cdv ct : Value) (u v w : Value), bindArgs (PySem.W.fnOf x qual (defArgs st) (defBody st) (defScope st) .none kV doc pm an cdv ct) ⟨[], [(c, w), (b, v), (a, u)]⟩ = pure [(a, u), (b, v), (c, w)]) :
    KBinds K fd [a, b, c] [c, b, a] backG backG := by
  obtain ⟨oc, od, kV, doc, pm, an, cdv, ct, osl, rfl, lk, hcd⟩ := F.ex
  refine ⟨fun s us ws X l => ?_, fun {vs us zs ws} r1 r2 => ?_⟩
  · match us, ws, l with
    | [], [w, v, u], _ => exact .of_eq (h kV doc pm an cdv ct u v w)
    | [], [], l => cases l
    | [], [_], l => cases l
    | [], [_, _], l => cases l
    | [], _ :: _ :: _ :: _ :: _, l => cases l
    | _ :: _, _, l => cases l
  · cases r1 with
    | cons _ _ => exact .nil
    | nil =>
      cases r2 with
      | nil => exact .nil
      | cons h1 r2 =>
        cases r2 with
        | nil => exact .nil
        | cons h2 r2 =>
          cases r2 with
          | nil => exact .nil
          | cons h3 r2 =>
            cases r2 with
            | nil => exact .cons h3 (.cons h2 (.cons h1 .nil))
            | cons _ _ => exact .nil
theorem pl_standA {s : Mst} {l : List (Int × Int)} : ∀ d ∈ standD s l, Pl 2 d := fun d m => by
  have up : ∀ {k j : Nat} {d : PyData}, Pl k d → k ≤ j → Pl j d := fun h hk => ⟨h.1, Nat.le_trans h.2 hk⟩
  have hi : ∀ i : Int, Pl 2 (.int i) := fun i => pl_int 2 i
  have hb : ∀ b : Bool, Pl 2 (.bool b) := fun b => ⟨rfl, Nat.zero_le _⟩
  unfold standD at m
  simp only [List.mem_cons, List.not_mem_nil, or_false] at m
  rcases m with rfl | rfl | rfl | rfl | rfl | rfl | rfl | rfl | rfl | rfl | rfl | rfl
  · exact hi _
  · exact hi _
  · exact hb _
  · exact hb _
  · exact hb _
  · exact hi _
  · exact hi _
  · exact hi _
  · refine Pl.tup fun d m => ?_
    obtain ⟨p, _, rfl⟩ := List.mem_map.mp m
    refine Pl.tup fun d m => ?_
    simp only [List.mem_cons, List.not_mem_nil, or_false] at m
    rcases m with rfl | rfl <;> exact pl_int 0 _
  · exact hi _
  · refine Pl.tup fun d m => ?_
    obtain ⟨i, _, rfl⟩ := List.mem_map.mp m
    exact pl_int 1 i
  · exact hb _
end Kx
namespace Kx
open PySem PySem.Spec PyProof.Rows L2 SX LamX Ms
theorem go_call {sp : Sp} {dvs : List V} {E : XK} {t : TA} {σ : L2.St} {H : Hp} {Q : VK} (h : t σ H fun vs H1 => sp (vs ++ dvs) H1 Q E) : tCall sp dvs E t σ H Q := h
end Kx
namespace Kx
open PySem PySem.Spec PyProof.Rows L2 SX LamX
theorem sub_str {K : PySem.W.Frag} {C : Addr} : PySem.W.subIn K (.type "str") (.ref C) = some false := by
  have e : fastBuiltinMro "str" = some [.type "str", .type "object"] := by decide +kernel
  show (fastBuiltinMro "str").map (·.contains (.ref C)) = some false
  rw [e]
  first
    | rfl
    | simp
theorem sub_bool {K : PySem.W.Frag} {C : Addr} : PySem.W.subIn K (.type "bool") (.ref C) = some false := by
  have e : fastBuiltinMro "bool" = some [.type "bool", .type "int", .type "object"] := by decide +kernel
  show (fastBuiltinMro "bool").map (·.contains (.ref C)) = some false
  rw [e]
  first
    | rfl
    | simp
theorem sub_dict {K : PySem.W.Frag} {C : Addr} : PySem.W.subIn K (.type "dict") (.ref C) = some false := by
  have e : fastBuiltinMro "dict" = some [.type "dict", .type "object"] := by decide +kernel
  show (fastBuiltinMro "dict").map (·.contains (.ref C)) = some false
  rw [e]
  first
    | rfl
    | simp
end Kx
namespace Ms
open PySem PySem.Spec PyProof.Rows L2 Kx SX LamX
/-- a value of a type of the language, at another place than the rack -/
inductive Od (w : Addr) (H : Hp) : V → Prop
  | non : Od w H .non
  | int (i : Int) : Od w H (.int i)
  | bl (b : Bool) : Od w H (.bl b)
  | str (s : Str) : Od w H (.str s)
  | lst {u : Addr} {xs : List V} (n : u ≠ w) (h : H u = some (.lst xs)) : Od w H (.ref u)
  | tup {u : Addr} {xs : List V} (n : u ≠ w) (h : H u = some (.tup xs)) : Od w H (.ref u)
  | dct {u : Addr} {kv : List (Key × V)} (n : u ≠ w) (h : H u = some (.dK kv)) : Od w H (.ref u)
section
variable {K : PySem.W.Frag} {w C : Addr} {H H' : Hp} {x : V}
theorem Od.mv (m : Mv w H H') (h : Od w H x) : Od w H' x := by
  cases h with
  | non => exact .non
  | int i => exact .int i
  | bl i => exact .bl i
  | str i => exact .str i
  | lst n h => exact .lst n (m _ _ n h)
  | tup n h => exact .tup n (m _ _ n h)
  | dct n h => exact .dct n (m _ _ n h)
theorem Od.kit (h : Od w H x) (h1 : PySem.W.isClsIn K C = true) (h2 : PySem.W.typeIn K (.ref C) = some (.type "type")) : ∃ t, TyX K H x t ∧ PySem.W.kitOne K t (.ref C) = some false := by
  cases h with
  | non => exact ⟨_, .base .non, kitOne_no h1 h2 sub_non⟩
  | int i => exact ⟨_, .base (.int i), kitOne_no h1 h2 sub_int⟩
  | bl i => exact ⟨_, .base (.bl i), kitOne_no h1 h2 sub_bool⟩
  | str i => exact ⟨_, .base (.str i), kitOne_no h1 h2 sub_str⟩
  | lst n h => exact ⟨_, .base (.lst h), kitOne_no h1 h2 sub_list⟩
  | tup n h => exact ⟨_, .base (.tup h), kitOne_no h1 h2 sub_tuple⟩
  | dct n h => exact ⟨_, .base (.dK h), kitOne_no h1 h2 sub_dict⟩
theorem Od.has (h : Od w H x) : HasInt K H x := by
  cases h with
  | non => exact hasInt_non
  | int i => exact hasInt_int i
  | bl i => exact hasInt_bl i
  | str i => exact hasInt_str i
  | lst n h => exact hasInt_lst (.inl (.inl h))
  | tup n h => exact hasInt_tup (.inl (.inl h))
  | dct n h => exact hasInt_dk h
theorem withinV_od {lo hi : Option Int} (h : Od w H x) (hi' : ∀ i, x = .int i → withinB i lo hi = false) : withinV x lo hi = false := by
  cases h with
  | int i => exact hi' i rfl
  | non => rfl
  | bl i => rfl
  | str i => rfl
  | lst n h => rfl
  | tup n h => rfl
  | dct n h => rfl
end
/-- no list or tuple of ints -/
inductive NoL (w : Addr) (H : Hp) : V → Prop
  | non : NoL w H .non
  | int (i : Int) : NoL w H (.int i)
  | bl (b : Bool) : NoL w H (.bl b)
  | str (s : Str) : NoL w H (.str s)
  | dct {u : Addr} {kv : List (Key × V)} (n : u ≠ w) (h : H u = some (.dK kv)) : NoL w H (.ref u)
  | lst {u : Addr} {xs : List V} (n : u ≠ w) (h : H u = some (.lst xs)) (a : xs.all isIntV = false) (o : ∀ z ∈ xs, Od w H z) (l : xs.length ≤ 100000) : NoL w H (.ref u)
  | tup {u : Addr} {xs : List V} (n : u ≠ w) (h : H u = some (.tup xs)) (a : xs.all isIntV = false) (o : ∀ z ∈ xs, Od w H z) (l : xs.length ≤ 100000) : NoL w H (.ref u)
section
variable {K : PySem.W.Frag} {w C : Addr} {H H' : Hp} {x : V}
theorem NoL.mv (m : Mv w H H') (h : NoL w H x) : NoL w H' x := by
  cases h with
  | non => exact .non
  | int i => exact .int i
  | bl i => exact .bl i
  | str i => exact .str i
  | dct n h => exact .dct n (m _ _ n h)
  | lst n h a o l => exact .lst n (m _ _ n h) a (fun z hz => (o z hz).mv m) l
  | tup n h a o l => exact .tup n (m _ _ n h) a (fun z hz => (o z hz).mv m) l
/-- what are_integers is asked of it -/
theorem NoL.ints (h : NoL w H x) : (∃ n : String, TyX K H x (.type n) ∧ PySem.W.kitAny K (.type n) [.type "list", .type "tuple"] = some false ∧ false = false) ∨
  ∃ (p : Addr) (zs : List V), x = .ref p ∧ SqQ K H p zs ∧ (∀ z ∈ zs, HasInt K H z) ∧ zs.length ≤ 100000 ∧ false = zs.all isIntV := by
  cases h with
  | non => exact .inl ⟨_, .base .non, rfl, rfl⟩
  | int i => exact .inl ⟨_, .base (.int i), rfl, rfl⟩
  | bl i => exact .inl ⟨_, .base (.bl i), rfl, rfl⟩
  | str i => exact .inl ⟨_, .base (.str i), rfl, rfl⟩
  | dct n h => exact .inl ⟨_, .base (.dK h), rfl, rfl⟩
  | lst n h a o l => exact .inr ⟨_, _, rfl, .inl (.inl (.inl h)), fun z hz => (o z hz).has, l, a.symm⟩
  | tup n h a o l => exact .inr ⟨_, _, rfl, .inr (.inl (.inl h)), fun z hz => (o z hz).has, l, a.symm⟩
end
/-- the answer to what is refused right -/
def heardD : PyData := .list [.tuple [.str "BadMachine", .str "stand"], .tuple [.str "BadNumber", .str "number"], .tuple [.str "BadHeard", .str "heard"], .none]
end Ms
namespace Ms
open PySem PySem.Spec PyProof.Rows L2 Kx SX LamX
/-! ### how far the numbers grow, told apart by words -/
def wt (n : Nat) : Nat := if n = 2 then 1 else if 4 ≤ n ∧ n < 20 then 3 else 0
def gro (n b : Nat) : Nat := if n = 6 then 2 * b else b + wt n
def wts (r : List Nat) : Nat := (r.map wt).sum
theorem wts_app (a b : List Nat) : wts (a ++ b) = wts a + wts b := by unfold wts; rw [List.map_append, List.sum_append]
theorem gro_le (n b : Nat) : b ≤ gro n b := by unfold gro; split <;> omega
theorem bd_do2 {b : Nat} {s : Mst} {n : Nat} {ns : List Int} (h : Bd b s) (hb : 3 ≤ b) (hn : ∀ i ∈ ns, Bi b i) (hl : ns.length ≤ 100000) : Bd (gro n b) (doW ns s n) := by
  by_cases h6 : n = 6
  · subst h6
    exact bd_do h hb hn hl
  by_cases hf : 4 ≤ n ∧ n < 20
  · have e : gro n b = grow n b := by
      unfold gro grow wt
      rw [if_neg h6, if_neg h6, if_neg (by omega), if_pos hf]
    rw [e]
    exact bd_do h hb hn hl
  have one : Bi b (-1) := Nat.lt_of_lt_of_le (show (-1 : Int).natAbs < 2 ^ 3 by decide) (Nat.pow_le_pow_right (by decide) hb)
  by_cases h2 : n = 2
  · subst h2
    have hg := h.mono (show b ≤ gro 2 b from gro_le 2 b)
    unfold doW
    rw [if_neg (by decide : ¬ (2 : Nat) = 0), if_neg (by decide : ¬ (2 : Nat) = 1), if_pos rfl]
    split
    · exact hg
    · refine { hg with block := ?_, low := ?_ }
      · show Bi _ (if s.tick = true then s.block + 1 else s.block)
        split
        · show (s.block + 1).natAbs < 2 ^ (b + 1)
          have h1 : s.block.natAbs < 2 ^ b := h.block
          have h3 : 1 ≤ 2 ^ b := Nat.pow_pos (by decide)
          rw [Nat.pow_succ]
          omega
        · exact hg.block
      · show -1 ≤ (if s.tick = true then s.block + 1 else s.block)
        have := h.low
        split <;> omega
  have e : gro n b = b := by
    unfold gro wt
    rw [if_neg h6, if_neg h2, if_neg hf]
    rfl
  rw [e]
  unfold doW
  rw [if_neg h2]
  split
  · exact h
  split
  · exact { h with block := one, low := Int.le_refl _ }
  split
  · exact { h with }
  split
  · exact h
  split
  · exact { h with }
  rw [if_neg (by omega)]
  exact bd_bare h (by omega)
def lastC : List Nat → Nat → Nat
  | [], b => b
  | n :: r, b => lastC r (gro n b)
theorem lastC_mono : ∀ (r : List Nat) (b : Nat), b ≤ lastC r b
  | [], b => Nat.le_refl _
  | n :: r, b => Nat.le_trans (gro_le n b) (lastC_mono r (gro n b))
theorem bd_rowC {ns : List Int} (hl : ns.length ≤ 100000) : ∀ (r : List Nat) (b : Nat) (s : Mst), Bd b s → 3 ≤ b → (∀ i ∈ ns, Bi b i) → ∀ k, Bd (lastC r b) (doR ns s (r.take k))
  | [], b, s, h, hb, hn, k => by rw [List.take_nil]; exact h
  | n :: r, b, s, h, hb, hn, 0 => h.mono (lastC_mono (n :: r) b)
  | n :: r, b, s, h, hb, hn, k + 1 => bd_rowC hl r (gro n b) (doW ns s n) (bd_do2 h hb hn hl) (Nat.le_trans hb (gro_le n b)) (fun i m => (hn i m).mono (gro_le n b)) k
theorem lastC_none : ∀ (r : List Nat) (b : Nat), 6 ∉ r → lastC r b = b + wts r
  | [], b, _ => rfl
  | n :: r, b, h => by
    have h1 : n ≠ 6 := fun e => h (by rw [e]; exact List.mem_cons_self)
    show lastC r (gro n b) = _
    rw [lastC_none r _ fun m => h (List.mem_cons_of_mem _ m)]
    unfold gro
    rw [if_neg h1]
    show b + wt n + wts r = b + (wt n + wts r)
    omega
theorem lastC_one : ∀ (r : List Nat) (b : Nat), r.count 6 ≤ 1 → 6 ∈ r → lastC r b + 6 ≤ 2 * (b + wts r)
  | [], b, _, m => nomatch m
  | n :: r, b, h, m => by
    show lastC r (gro n b) + 6 ≤ 2 * (b + (wt n + wts r))
    by_cases h1 : n = 6
    · subst h1
      have h6 : 6 ∉ r := by
        rw [List.count_cons_self] at h
        exact List.count_eq_zero.mp (by omega)
      rw [lastC_none r _ h6]
      show 2 * b + wts r + 6 ≤ 2 * (b + (3 + wts r))
      omega
    · have h6 : 6 ∈ r := by
        rcases List.mem_cons.mp m with e | m
        · exact absurd e.symm h1
        · exact m
      have hc : r.count 6 ≤ 1 := by
        rw [List.count_cons_of_ne h1] at h
        exact h
      have := lastC_one r (gro n b) hc h6
      have e : gro n b = b + wt n := by unfold gro; rw [if_neg h1]
      rw [e] at this ⊢
      omega
/-- a row of weight 92 at most, one multiply in it at most -/
theorem lastC_le {r : List Nat} {b : Nat} (h : r.count 6 ≤ 1) (hw : wts r ≤ 92) (hb : 83 ≤ b) : lastC r b ≤ 2 * (b + 89) := by
  by_cases m : 6 ∈ r
  · have := lastC_one r b h m
    omega
  · rw [lastC_none r b m]
    omega
end Ms
namespace Kx
open PySem PySem.Spec PyProof.Rows L2 SX LamX
section
variable {X : Cx} {CX : CXT} {k : Nat} {f C : Addr} {fd : FuncData} {ps : List Str} {sp : Sp} {E : L2.St → XK} {x m : Str} {p pos apos : Pos} {e o : Expr} {es : List Expr} {ta : TE} {t : TA}
/-! ### C(..) and o.m(..) within a try -/
theorem run_makeS {pins : List (Addr × Obj)} {σ : L2.St} {H : Hp} {s : Shared} {Q : VK} {us : List Value} {vs : List V} (M : Mk X.K C f) (F : FnOk X.prog X.w X.K X.mg X.base CX k f fd ps sp) (hr : Room (k + 1) X.A) (hb : Binds X.K fd ps [])
    (hx : PassesAt CX X σ (E σ)) (I : Inv X pins σ H s) (r : Vals vs us)
    (h : ∀ x dx, H x = none → H dx = none → dx ≠ x → sp (.ref x :: vs) (upd (upd H dx (.own x)) x (.ins C dx [])) (fun v H2 => v = .non ∧ Q (.ref x) H2) (E σ)) :
    wpAny (model X.prog X.w) X.A (call (.ref C) us) (EP X pins σ Q) X.xe s := by
  have hq := h (s.heap.objs.size + 1) s.heap.objs.size (I.hok.fresh (Nat.le_succ _)) (I.hok.fresh (Nat.le_refl _)) (Nat.ne_of_lt (Nat.lt_succ_self _))
  have I2 := Inv.made (C := C) I
  have r2 : Vals (V.ref (s.heap.objs.size + 1) :: vs) (Value.ref (s.heap.objs.size + 1) :: us) := .cons rfl r
  have hl : (Value.ref (s.heap.objs.size + 1) :: us ++ []).length = ps.length := by
    have e := r2.length
    rw [F.len _ _ _ _ hq] at e
    rw [List.append_nil]
    exact e.symm
  have b := hb _ (Value.ref (s.heap.objs.size + 1) :: us) I2.kIn hl
  rw [List.append_nil] at b
  refine wpAny_call (make_map (f := f) I.kIn M.makes M.init (beq_iff_eq.mp M.fn) (codeAny_mono (F.run _ X.stack _ _ ⟨Value.ref (s.heap.objs.size + 1) :: us, []⟩ (Value.ref (s.heap.objs.size + 1) :: us) _ _ (E σ) (hr.make C us [])
    (I2.env0.make C us []) b r2 hq) fun r s' hq' => ?_))
  cases r with
  | error e => exact hx pins _ _ e s' I2 hq'
  | ok fl =>
    cases fl with
    | ret u =>
      obtain ⟨v, H', I3, rv, ev, q3⟩ := I2.after hq'
      subst ev
      exact ⟨rv, ⟨V.ref (s.heap.objs.size + 1), H', I3, rfl, q3⟩⟩
    | next => exact False.elim hq'
    | brk => exact False.elim hq'
    | cont => exact False.elim hq'
def tMakeS (C : Addr) (sp : Sp) (E : L2.St → XK) (t : TA) : TE := fun σ H Q => t σ H fun vs H1 => ∀ x dx, H1 x = none → H1 dx = none → dx ≠ x →
  sp (.ref x :: vs) (upd (upd H1 dx (.own x)) x (.ins C dx [])) (fun v H2 => v = .non ∧ Q (.ref x) H2) (E σ)
theorem pe_makeS (M : Mk X.K C f) (F : FnOk X.prog X.w X.K X.mg X.base CX k f fd ps sp) (hr : Room (k + 1) X.A) (hg : Gl X x) (hm : X.mg x = some (.ref C)) (hb : Binds X.K fd ps []) (hx : ∀ σ, PassesAt CX X σ (E σ))
    (ha : PA X (e :: es) t) (hdb : (x == ("__debug__" : Str)) = false := by decide) (he : starEach (e :: es) X.env = (false, eval e X.env) :: starEach es X.env := by rfl) (hpl : (backTo pos (starEach es X.env)).any (·.1) = false := by rfl) :
    PE X (.Call (.Name x p) (e :: es) [] pos) (tMakeS C sp E t) := by
  refine ⟨fun pins s σ H Q I h => ?_⟩
  refine wpAny_Call_Name_kw (ld_glob I hg hm ?_ hdb)
  refine PySem.W.callWith_K (h₀ := X.base) I.ok.mod.kin M.kp (thn (ha.run pos pins s σ H _ I h) fun us s1 ⟨vs, H1, I1, r, q⟩ => ⟨I1.kIn, ?_⟩) he hpl
  exact run_makeS M F hr hb (hx σ) I1 r q
def tMethS (C : Addr) (m : Str) (sp : Sp) (E : L2.St → XK) (ta : TE) (t : TA) : TE := fun σ H Q => ta σ H fun x H1 => ∃ a dx fs, x = .ref a ∧ H1 a = some (.ins C dx fs) ∧ fs.lookup m = none ∧
  t σ H1 fun vs H2 => sp (x :: vs) H2 Q (E σ)
theorem pe_methS {pl : Sem Bool} (he : PE X o ta) (c : Cls X.K C) (hm : Meth X.K C m f) (F : FnOk X.prog X.w X.K X.mg X.base CX k f fd ps sp) (hr : Room k X.A) (hb : Binds X.K fd ps []) (hx : ∀ σ, PassesAt CX X σ (E σ)) (ha : PA X (e :: es) t)
    (hst : starEach (e :: es) X.env = (false, eval e X.env) :: starEach es X.env := by rfl) (hpl : (backTo pos (starEach es X.env)).any (·.1) = false := by rfl)
    (ht : eval (.Call (.Attribute o m apos) (e :: es) [] pos) X.env = (do
      let ov ← eval o X.env
      standAt apos.atName
      let (f, first) ← holding [ov] (getMethod ov m pl)
      callWith pos f first (backTo pos (starEach (e :: es) X.env)) (backToKw pos (keywordEach [] X.env))) := by rfl) :
    PE X (.Call (.Attribute o m apos) (e :: es) [] pos) (tMethS C m sp E ta t) := by
  refine ⟨fun pins s σ H Q I h => ?_⟩
  refine PySem.W.methodCall_KW (pl := pl) (thn (he.run pins s σ H _ I h) fun u s1 ⟨x, H1, I1, rx, a, dx, fs, ex, ea, l, q⟩ => ?_) ht
  subst ex
  obtain rfl : u = Value.ref a := rx
  refine getmeth_ok I1 ea c hm l ?_
  refine PySem.W.callWith_K (first := [.ref a]) (h₀ := X.base) I.ok.mod.kin hm.kp (thn (ha.run pos pins s1 σ H1 _ I1 q) fun us s2 ⟨vs, H2, I2, r, q2⟩ => ⟨I2.kIn, ?_⟩) hst hpl
  exact run_fnS (us := .ref a :: us) (vs := .ref a :: vs) F hr hb (hx σ) I2 (.cons rfl r) q2
end
section
variable {X : Cx}
/-! ### x != i of an instance with an == of its own -/
def rNeII (K : PySem.W.Frag) (C : Addr) (sp : Sp) : R2 := fun x y H Q => ∃ a dx fs i, x = .ref a ∧ H a = some (.ins C dx fs) ∧ y = .int i ∧ sp [x, y] H (fun v H' => ∃ b, v = .bl b ∧ Q (.bl (!b)) H') C8.E0
theorem op_neII {C f : Addr} {fd : FuncData} {ps : List Str} {n : Nat} {sp : Sp} (F : FnOk X.prog X.w X.K X.mg X.base C8.CX0 n f fd ps sp) (hb : Binds X.K fd ps []) (hr : Room (n + 1) X.A)
    (hs : PySem.W.findIn X.K (.ref C) "__eq__" = some (some (.ref f))) (hf : PySem.W.isFn X.K (.ref f) = true) (hm : PySem.W.mroIn X.K C (.type "object") = some true) (hne : PySem.W.findIn X.K (.ref C) "__ne__" = some (some (.builtin "object.__ne__"))) :
    OpR X (compareOp .NotEq) (rNeII X.K C sp) := by
  intro pins s σ H x y v u Q I rx ry hq
  obtain ⟨a, dx, fs, i, rfl, ha, rfl, h⟩ := hq
  cases rx
  obtain ⟨t, rfl⟩ := (show ∃ t, u = Value.int i t from ry)
  obtain ⟨mA, J, _⟩ := ins_get I.hok ha
  obtain ⟨od, J, _⟩ := J.look
  have lk : PySem.W.Looks (model X.prog X.w) s.heap (typeOf (Value.int i t)) (.type "int") := .now
  have nf : PySem.W.notFirst X.K C (.type "int") = true := by
    unfold PySem.W.notFirst
    rw [sub_int]
    rfl
  show wpAny (model X.prog X.w) X.A (richCompare .NotEq (.ref a) (.int i t)) _ _ s
  refine rich_ne hr.in1.units0 I.kIn J lk nf hm hs hf hne ?_
  have e0 : Env0 X.prog X.w X.K X.mg X.base X.A.in1 X.stack s H := by
    have e := I.env0
    exact ⟨by exact e.frames, e.mod, e.bs, e.bsz, e.funs, e.frf, e.hok, e.bare⟩
  have hl := F.len _ _ _ _ h
  have r2 : Vals [V.ref a, V.int i] [Value.ref a, Value.int i t] := .cons rfl (.cons ⟨_, rfl⟩ .nil)
  refine wpAny_call (codeAny_mono (F.run X.A.in1 X.stack s H ⟨[.ref a, .int i t], []⟩ [.ref a, .int i t] [.ref a, .int i] _ C8.E0 hr.in1 e0 (by
    have := hb s [.ref a, .int i t] I.kIn (by simpa using hl)
    simpa using this) r2 h) fun r s' hq => ?_)
  match r, hq with
  | .error e, hq => exact (show False from hq).elim
  | .ok (.ret w), hq =>
    obtain ⟨z, H', I', rz, c, rfl, q⟩ := I.after hq
    cases rz
    exact ⟨c, rfl, .bl (!c), H', I', rfl, q⟩
  | .ok .next, hq => exact False.elim hq
  | .ok .brk, hq => exact False.elim hq
  | .ok .cont, hq => exact False.elim hq
end
end Kx
namespace Ms
/-! ### rows made ready for many passes -/
theorem snoc_ind {α : Type} {P : List α → Prop} (h0 : P []) (h1 : ∀ (l : List α) (a : α), P l → P (l ++ [a])) (l : List α) : P l := by
  have h : ∀ m : List α, P m.reverse := fun m => by
    induction m with
    | nil => exact h0
    | cons a m ih =>
      rw [List.reverse_cons]
      exact h1 _ a ih
  rw [← l.reverse_reverse]
  exact h _
def keepAt (row : List Nat) (i : Nat) : Bool := decide (i = 0) || !decide (row.getD (i - 1) 0 = row.getD i 0)
def thinZ (row : List Nat) : List (Option Nat) := (List.range row.length).map fun i => if keepAt row i = true then some (row.getD i 0) else none
def thinI (row : List Nat) : List Nat := (thinZ row).filterMap id
theorem thinZ_snoc (row : List Nat) (n : Nat) : thinZ (row ++ [n]) = thinZ row ++ [if keepAt (row ++ [n]) row.length = true then some n else none] := by
  unfold thinZ
  rw [List.length_append, List.length_singleton, List.range_succ, List.map_append]
  refine congr (congrArg _ (List.map_congr_left fun i hi => ?_)) ?_
  · have hi := List.mem_range.mp hi
    have e1 : (row ++ [n]).getD i 0 = row.getD i 0 := by
      rw [List.getD_eq_getElem?_getD, List.getD_eq_getElem?_getD, List.getElem?_append_left hi]
    have e2 : (row ++ [n]).getD (i - 1) 0 = row.getD (i - 1) 0 := by
      rw [List.getD_eq_getElem?_getD, List.getD_eq_getElem?_getD, List.getElem?_append_left (by omega)]
    unfold keepAt
    rw [e1, e2]
  · have e1 : (row ++ [n]).getD row.length 0 = n := by
      rw [List.getD_eq_getElem?_getD, List.getElem?_append_right (Nat.le_refl _), Nat.sub_self]
      rfl
    rw [List.map_singleton, e1]
theorem thinI_snoc (row : List Nat) (n : Nat) : thinI (row ++ [n]) = thinI row ++ (if keepAt (row ++ [n]) row.length = true then [n] else []) := by
  unfold thinI
  rw [thinZ_snoc, List.filterMap_append]
  split <;> rfl
theorem thin_same (ns : List Int) (s : Mst) (row : List Nat) (h : ∀ n ∈ row, n < 30) : doR ns s (thinI row) = doR ns s row := by
  revert h
  refine snoc_ind (P := fun row => (∀ n ∈ row, n < 30) → doR ns s (thinI row) = doR ns s row) (fun _ => rfl) (fun row n ih h => ?_) row
  · have ih := ih fun k m => h k (List.mem_append_left _ m)
    have hn := h n (List.mem_append_right _ (List.mem_singleton.mpr rfl))
    rw [thinI_snoc, doR_app, doR_app, ih]
    split
    · rfl
    · rename_i hk
      unfold keepAt at hk
      simp only [Bool.or_eq_true, decide_eq_true_eq, Bool.not_eq_true', decide_eq_false_iff_not, not_or, Decidable.not_not] at hk
      have h0 : row ≠ [] := fun e => hk.1 (by rw [e]; rfl)
      obtain ⟨r, k, rfl⟩ : ∃ r k, row = r ++ [k] := ⟨row.dropLast, row.getLast h0, (List.dropLast_concat_getLast h0).symm⟩
      have e := hk.2
      rw [List.getD_eq_getElem?_getD, List.getD_eq_getElem?_getD, List.getElem?_append_left (by rw [List.length_append]; show r.length + 1 - 1 < r.length + 1; omega), List.getElem?_append_right (Nat.le_refl _), Nat.sub_self] at e
      rw [List.length_append, List.length_singleton, Nat.add_sub_cancel, List.getElem?_append_right (Nat.le_refl _), Nat.sub_self] at e
      have e : k = n := e
      subst e
      rw [doR_app]
      exact (doW_twice ns _ k hn).symm
theorem thin_mem {row : List Nat} {n : Nat} (h : n ∈ thinI row) : n ∈ row := by
  obtain ⟨o, ho, e⟩ := List.mem_filterMap.mp h
  obtain ⟨i, hi, rfl⟩ := List.mem_map.mp ho
  have hi := List.mem_range.mp hi
  have e : (if keepAt row i = true then some (row.getD i 0) else none) = some n := e
  split at e
  · cases e
    rw [List.getD_eq_getElem?_getD, List.getElem?_eq_getElem hi]
    exact List.getElem_mem hi
  · cases e
theorem thin_len (row : List Nat) : (thinI row).length ≤ row.length := by
  unfold thinI
  refine Nat.le_trans (List.length_filterMap_le _ _) ?_
  unfold thinZ
  rw [List.length_map, List.length_range]
  exact Nat.le_refl _
theorem thin_take (row : List Nat) : ∀ k, ∃ j, (thinI row).take k = thinI (row.take j) := by
  refine snoc_ind (P := fun row => ∀ k, ∃ j, (thinI row).take k = thinI (row.take j)) (fun k => ⟨0, by rw [List.take_nil]; exact List.take_nil⟩) (fun row n ih => ?_) row
  · intro k
    rw [thinI_snoc]
    by_cases hk : k ≤ (thinI row).length
    · obtain ⟨j, hj⟩ := ih k
      rw [List.take_append_of_le_length hk, hj]
      by_cases hj2 : j ≤ row.length
      · exact ⟨j, by rw [List.take_append_of_le_length hj2]⟩
      · exact ⟨row.length, by rw [List.take_of_length_le (by omega), List.take_append_of_le_length (Nat.le_refl _), List.take_length]⟩
    · refine ⟨row.length + 1, ?_⟩
      rw [List.take_of_length_le (l := row ++ [n]) (by rw [List.length_append]; exact Nat.le_refl _), thinI_snoc, List.take_of_length_le]
      rw [List.length_append]
      split
      · show _ + 1 ≤ k
        omega
      · show _ + 0 ≤ k
        omega
/-! ### block and tick behind each word -/
abbrev Pr := Int × Bool
def stepP (p : Pr) (n : Nat) : Pr := if n = 0 then (-1, p.2) else if n = 1 then (p.1, true) else if n = 2 ∧ p.2 = true then (p.1 + 1, false) else p
def behindA : Pr → List Nat → List Pr
  | _, [] => []
  | p, n :: r => stepP p n :: behindA (stepP p n) r
theorem behindA_snoc : ∀ (p : Pr) (r : List Nat) (n : Nat), behindA p (r ++ [n]) = behindA p r ++ [stepP (r.foldl stepP p) n]
  | p, [], n => rfl
  | p, k :: r, n => by
    show _ :: behindA (stepP p k) (r ++ [n]) = _
    rw [behindA_snoc (stepP p k) r n]
    rfl
theorem behindA_len : ∀ (p : Pr) (r : List Nat), (behindA p r).length = r.length
  | p, [] => rfl
  | p, k :: r => by
    show (behindA _ r).length + 1 = _
    rw [behindA_len (stepP p k) r, List.length_cons]
theorem behindA_last (p : Pr) (r : List Nat) (h : r ≠ []) : (behindA p r).getLast? = some (r.foldl stepP p) := by
  obtain ⟨q, k, rfl⟩ : ∃ q k, r = q ++ [k] := ⟨r.dropLast, r.getLast h, (List.dropLast_concat_getLast h).symm⟩
  rw [behindA_snoc, List.getLast?_append, List.foldl_append]
  rfl
def p0 : Pr := (-1, false)
/-! ### words side by side that want the same room -/
abbrev Grp := Int × Bool × List Nat
def addG (acc : List Grp) (p : Pr) (n : Nat) : List Grp :=
  if n < 3 then acc else match acc.getLast? with
    | some g => if g.1 = p.1 ∧ g.2.1 = p.2 then acc.dropLast ++ [(g.1, g.2.1, g.2.2 ++ [n])] else acc ++ [(p.1, p.2, [n])]
    | none => acc ++ [(p.1, p.2, [n])]
def grpsA : List Grp → List (Nat × Pr) → List Grp
  | acc, [] => acc
  | acc, x :: r => grpsA (addG acc x.2 x.1) r
theorem grpsA_snoc : ∀ (acc : List Grp) (l : List (Nat × Pr)) (x : Nat × Pr), grpsA acc (l ++ [x]) = addG (grpsA acc l) x.2 x.1
  | acc, [], x => rfl
  | acc, y :: l, x => grpsA_snoc (addG acc y.2 y.1) l x
def grps (row : List Nat) : List Grp := grpsA [] (row.zip (behindA p0 row))
def flatG (gs : List Grp) : List (Pr × Nat) := gs.flatMap fun g => g.2.2.map fun n => ((g.1, g.2.1), n)
theorem flatG_app (a b : List Grp) : flatG (a ++ b) = flatG a ++ flatG b := List.flatMap_append
theorem flatG_cons (g : Grp) (r : List Grp) : flatG (g :: r) = (g.2.2.map fun n => ((g.1, g.2.1), n)) ++ flatG r := List.flatMap_cons
theorem flat_add (acc : List Grp) (p : Pr) (n : Nat) : flatG (addG acc p n) = flatG acc ++ (if n < 3 then [] else [(p, n)]) := by
  unfold addG
  split
  · rw [List.append_nil]
  cases h : acc.getLast? with
  | none =>
    rw [flatG_app]
    rfl
  | some g =>
    dsimp only
    split
    · rename_i e
      obtain ⟨e1, e2⟩ := e
      have ea : acc = acc.dropLast ++ [g] := by
        have h0 : acc ≠ [] := fun z => by rw [z] at h; cases h
        have := List.dropLast_concat_getLast h0
        rw [List.getLast?_eq_some_getLast h0] at h
        cases h
        exact this.symm
      have e3 : flatG acc = flatG acc.dropLast ++ flatG [g] := by rw [← flatG_app, ← ea]
      rw [e3, flatG_app, List.append_assoc]
      congr 1
      rw [flatG_cons, flatG_cons, List.map_append, e1, e2, show flatG [] = [] from rfl, List.append_nil, List.append_nil]
      rfl
    · rw [flatG_app]
      rfl
def here (l : List (Nat × Pr)) : List (Pr × Nat) := l.filterMap fun x => if x.1 < 3 then none else some (x.2, x.1)
theorem flat_grpsA : ∀ (l : List (Nat × Pr)) (acc : List Grp), flatG (grpsA acc l) = flatG acc ++ here l
  | [], acc => by rw [show grpsA acc [] = acc from rfl, show here [] = [] from rfl, List.append_nil]
  | x :: l, acc => by
    show flatG (grpsA (addG acc x.2 x.1) l) = _
    rw [flat_grpsA l, flat_add, List.append_assoc]
    congr 1
    unfold here
    by_cases h : x.1 < 3
    · rw [if_pos h, List.filterMap_cons, if_pos h]
      rfl
    · rw [if_neg h, List.filterMap_cons, if_neg h]
      rfl
theorem addG_ne (acc : List Grp) (p : Pr) (n : Nat) (h : ∀ g ∈ acc, g.2.2 ≠ []) : ∀ g ∈ addG acc p n, g.2.2 ≠ [] := by
  unfold addG
  split
  · exact h
  cases hl : acc.getLast? with
  | none =>
    intro g m
    rcases List.mem_append.mp m with m | m
    · exact h g m
    · rw [List.mem_singleton.mp m]
      simp
  | some k =>
    dsimp only
    split
    · intro g m
      rcases List.mem_append.mp m with m | m
      · exact h g (List.dropLast_subset _ m)
      · rw [List.mem_singleton.mp m]
        simp
    · intro g m
      rcases List.mem_append.mp m with m | m
      · exact h g m
      · rw [List.mem_singleton.mp m]
        simp
theorem grpsA_ne : ∀ (l : List (Nat × Pr)) (acc : List Grp), (∀ g ∈ acc, g.2.2 ≠ []) → ∀ g ∈ grpsA acc l, g.2.2 ≠ []
  | [], acc, h => h
  | x :: l, acc, h => grpsA_ne l _ (addG_ne acc x.2 x.1 h)
theorem grps_ne (row : List Nat) : ∀ g ∈ grps row, g.2.2 ≠ [] := grpsA_ne _ _ (fun g m => by cases m)
/-! ### what a pass does -/
def setP (w : Mst) (p : Pr) : Mst := { w with block := p.1, tick := p.2 }
def stepF (ns : List Int) (w : Mst) (x : Pr × Nat) : Mst := if w.isd = true then w else if x.1.1 = w.room then doW ns (setP w x.1) x.2 else w
def runF (ns : List Int) (w : Mst) (l : List (Pr × Nat)) : Mst := l.foldl (stepF ns) w
theorem runF_app (ns : List Int) (w : Mst) (a b : List (Pr × Nat)) : runF ns w (a ++ b) = runF ns (runF ns w a) b := List.foldl_append ..
theorem runF_done (ns : List Int) (w : Mst) (h : w.isd = true) : ∀ l, runF ns w l = w
  | [] => rfl
  | x :: l => by
    show runF ns (stepF ns w x) l = w
    have e : stepF ns w x = w := by unfold stepF; rw [if_pos h]
    rw [e, runF_done ns w h l]
def okF (ns : List Int) (R : Mst → Prop) : Mst → List (Pr × Nat) → Prop
  | _, [] => True
  | w, x :: r => (w.isd = false → x.1.1 = w.room → R (setP w x.1) ∧ R (doW ns (setP w x.1) x.2)) ∧ okF ns R (stepF ns w x) r
theorem okF_app (ns : List Int) (R : Mst → Prop) : ∀ (a b : List (Pr × Nat)) (w : Mst), okF ns R w (a ++ b) → okF ns R w a ∧ okF ns R (runF ns w a) b
  | [], b, w, h => ⟨trivial, h⟩
  | x :: a, b, w, h => by
    obtain ⟨h1, h2⟩ := okF_app ns R a b (stepF ns w x) h.2
    exact ⟨⟨h.1, h1⟩, h2⟩
/-- a word that wants the room leaves block and tick -/
theorem doW_pair (ns : List Int) (s : Mst) (n : Nat) (h : 3 ≤ n) : (doW ns s n).block = s.block ∧ (doW ns s n).tick = s.tick := by
  unfold doW
  split
  · exact ⟨rfl, rfl⟩
  rw [if_neg (by omega), if_neg (by omega), if_neg (by omega)]
  split
  · exact ⟨rfl, rfl⟩
  split
  · exact ⟨rfl, rfl⟩
  split
  · split
    · unfold flagW
      (repeat' split) <;> exact ⟨rfl, rfl⟩
    · exact ⟨rfl, rfl⟩
  · unfold bareW
    (repeat' split) <;> exact ⟨rfl, rfl⟩
theorem doW_far (ns : List Int) (s : Mst) (n : Nat) (h : 3 ≤ n) (hb : s.block ≠ s.room) : doW ns s n = s := by
  unfold doW
  by_cases hd : s.isd = true
  · rw [if_pos hd]
  · rw [if_neg hd, if_neg (by omega), if_neg (by omega), if_neg (by omega), if_pos hb]
theorem doW_done (ns : List Int) (s : Mst) (n : Nat) (h : s.isd = true) : doW ns s n = s := by
  unfold doW
  rw [if_pos h]
theorem doR_done (ns : List Int) (s : Mst) (h : s.isd = true) : ∀ r, doR ns s r = s
  | [] => rfl
  | n :: r => by
    show doR ns (doW ns s n) r = s
    rw [doW_done ns s n h, doR_done ns s h r]
theorem doR_far (ns : List Int) (s : Mst) (hb : s.block ≠ s.room) : ∀ r : List Nat, (∀ n ∈ r, 3 ≤ n) → doR ns s r = s
  | [], _ => rfl
  | n :: r, h => by
    show doR ns (doW ns s n) r = s
    rw [doW_far ns s n (h n List.mem_cons_self) hb, doR_far ns s hb r fun k m => h k (List.mem_cons_of_mem _ m)]
theorem setP_self {w : Mst} {p : Pr} (h1 : w.block = p.1) (h2 : w.tick = p.2) : setP w p = w := by
  cases w
  cases h1
  cases h2
  rfl
/-- a stretch that is come to -/
theorem grp_run (ns : List Int) (R : Mst → Prop) (p : Pr) : ∀ (ws : List Nat) (w : Mst), (∀ n ∈ ws, 3 ≤ n) → w.block = p.1 → w.tick = p.2 → R w → okF ns R w (ws.map fun n => (p, n)) →
    runF ns w (ws.map fun n => (p, n)) = doR ns w ws ∧ ∀ k, R (doR ns w (ws.take k))
  | [], w, _, _, _, hR, _ => ⟨rfl, fun k => by rw [List.take_nil]; exact hR⟩
  | n :: r, w, h3, hb, ht, hR, ho => by
    have h3' : ∀ k ∈ r, 3 ≤ k := fun k m => h3 k (List.mem_cons_of_mem _ m)
    have hn := h3 n List.mem_cons_self
    have sp := setP_self hb ht
    by_cases hd : w.isd = true
    · refine ⟨?_, fun k => ?_⟩
      · rw [runF_done ns w hd, doR_done ns w hd]
      · rw [doR_done ns w hd]
        exact hR
    have hd : w.isd = false := by simpa using hd
    by_cases hr : w.block = w.room
    · have hr' : p.1 = w.room := by rw [← hb]; exact hr
      have e : stepF ns w (p, n) = doW ns w n := by
        unfold stepF
        rw [if_neg (by rw [hd]; decide), if_pos hr', sp]
      have h1 := ho.1 hd hr'
      have hv := doW_pair ns w n hn
      have R1 : R (doW ns w n) := by
        have := h1.2
        rw [sp] at this
        exact this
      have h2 := ho.2
      rw [e] at h2
      obtain ⟨q1, q2⟩ := grp_run ns R p r (doW ns w n) h3' (by rw [hv.1]; exact hb) (by rw [hv.2]; exact ht) R1 h2
      refine ⟨?_, fun k => ?_⟩
      · show runF ns (stepF ns w (p, n)) (r.map fun n => (p, n)) = _
        rw [e, q1]
        rfl
      · cases k with
        | zero => exact hR
        | succ k => exact q2 k
    · have e : ∀ ws : List Nat, runF ns w (ws.map fun n => (p, n)) = w := fun ws => by
        induction ws with
        | nil => rfl
        | cons a l ih =>
          show runF ns (stepF ns w (p, a)) _ = w
          have : stepF ns w (p, a) = w := by
            unfold stepF
            rw [if_neg (by rw [hd]; decide), if_neg (show ¬ p.1 = w.room from fun z => hr (by rw [hb]; exact z))]
          rw [this, ih]
      refine ⟨?_, fun k => ?_⟩
      · rw [e, doR_far ns w hr _ h3]
      · rw [doR_far ns w hr _ fun k m => h3 k (List.mem_of_mem_take m)]
        exact hR
theorem grp_in (ns : List Int) (R : Mst → Prop) (p : Pr) (n : Nat) (r : List Nat) (w : Mst) (h3 : ∀ k ∈ n :: r, 3 ≤ k) (hd : w.isd = false) (hr : p.1 = w.room) (ho : okF ns R w ((n :: r).map fun n => (p, n))) :
    runF ns w ((n :: r).map fun n => (p, n)) = doR ns (setP w p) (n :: r) ∧ ∀ k, R (doR ns (setP w p) ((n :: r).take k)) := by
  have h1 := ho.1 hd hr
  have e : stepF ns w (p, n) = doW ns (setP w p) n := by
    unfold stepF
    rw [if_neg (by rw [hd]; decide), if_pos hr]
  have hv := doW_pair ns (setP w p) n (h3 n List.mem_cons_self)
  have h2 := ho.2
  rw [e] at h2
  obtain ⟨q1, q2⟩ := grp_run ns R p r _ (fun k m => h3 k (List.mem_cons_of_mem _ m)) (by rw [hv.1]; rfl) (by rw [hv.2]; rfl) h1.2 h2
  refine ⟨?_, fun k => ?_⟩
  · show runF ns (stepF ns w (p, n)) (r.map fun n => (p, n)) = _
    rw [e, q1]
    rfl
  · cases k with
    | zero => exact h1.1
    | succ k => exact q2 k
theorem grp_out (ns : List Int) (p : Pr) (w : Mst) (hr : p.1 ≠ w.room) : ∀ ws : List Nat, runF ns w (ws.map fun n => (p, n)) = w
  | [] => rfl
  | n :: r => by
    show runF ns (stepF ns w (p, n)) (r.map fun n => (p, n)) = w
    have e : stepF ns w (p, n) = w := by
      unfold stepF
      rw [if_neg (show ¬ (p, n).1.1 = w.room from hr), ite_self]
    rw [e, grp_out ns p w hr r]
theorem okF_done (ns : List Int) (R : Mst → Prop) (w : Mst) (h : w.isd = true) : ∀ l, okF ns R w l
  | [] => trivial
  | x :: l => by
    have e : stepF ns w x = w := by unfold stepF; rw [if_pos h]
    refine ⟨fun z => absurd (h.symm.trans z) (by decide), ?_⟩
    rw [e]
    exact okF_done ns R w h l
/-- words of no room -/
theorem doW_low (ns : List Int) (s : Mst) (n : Nat) (h : n < 3) (hd : s.isd = false) : doW ns s n = setP s (stepP (s.block, s.tick) n) := by
  have hd' : ¬ s.isd = true := by rw [hd]; decide
  have : n = 0 ∨ n = 1 ∨ n = 2 := by omega
  rcases this with rfl | rfl | rfl
  · unfold doW
    rw [if_neg hd', if_pos rfl]
    rfl
  · unfold doW
    rw [if_neg hd', if_neg (by decide), if_pos rfl]
    rfl
  · unfold doW
    rw [if_neg hd', if_neg (by decide), if_neg (by decide), if_pos rfl]
    cases s
    rename_i tick _ _ _ _ _ _ _ _ _
    cases tick <;> rfl
/-- the stretches do what the row does -/
theorem sim (ns : List Int) (R : Mst → Prop) : ∀ (row : List Nat) (s w : Mst) (p : Pr), (∀ k, R (doR ns s (row.take k))) → s.isd = false → s.block = p.1 → s.tick = p.2 → setP w p = s →
    okF ns R w (here (row.zip (behindA p row))) ∧ ((doR ns s row).isd = true → runF ns w (here (row.zip (behindA p row))) = doR ns s row) ∧
      ((doR ns s row).isd = false → (runF ns w (here (row.zip (behindA p row)))).isd = false ∧ setP (runF ns w (here (row.zip (behindA p row)))) (row.foldl stepP p) = doR ns s row)
  | [], s, w, p, _, hd, hb, ht, hw => by
    refine ⟨trivial, fun h => ?_, fun _ => ⟨?_, hw⟩⟩
    · have h : s.isd = true := h
      rw [hd] at h
      cases h
    · have : (setP w p).isd = false := by rw [hw]; exact hd
      exact this
  | n :: row, s, w, p, hR, hd, hb, ht, hw => by
    have hR' : ∀ k, R (doR ns (doW ns s n) (row.take k)) := fun k => hR (k + 1)
    have hwd : w.isd = false := by
      have : (setP w p).isd = false := by rw [hw]; exact hd
      exact this
    by_cases h3 : n < 3
    · have e := doW_low ns s n h3 hd
      rw [hb, ht] at e
      have eh : here ((n :: row).zip (behindA p (n :: row))) = here (row.zip (behindA (stepP p n) row)) := by
        show here ((n, stepP p n) :: row.zip (behindA (stepP p n) row)) = _
        unfold here
        rw [List.filterMap_cons, if_pos h3]
      rw [eh]
      show okF ns R w _ ∧ ((doR ns (doW ns s n) row).isd = true → _ = doR ns (doW ns s n) row) ∧ ((doR ns (doW ns s n) row).isd = false → _ ∧ setP _ (row.foldl stepP (stepP p n)) = doR ns (doW ns s n) row)
      refine sim ns R row (doW ns s n) w (stepP p n) hR' ?_ ?_ ?_ ?_
      · rw [e]; exact hd
      · rw [e]; rfl
      · rw [e]; rfl
      · rw [e, ← hw]; rfl
    · have h3 : 3 ≤ n := by omega
      have es : stepP p n = p := by
        unfold stepP
        rw [if_neg (by omega), if_neg (by omega), if_neg (by omega)]
      have eh : here ((n :: row).zip (behindA p (n :: row))) = (p, n) :: here (row.zip (behindA p row)) := by
        show here ((n, stepP p n) :: row.zip (behindA (stepP p n) row)) = _
        unfold here
        rw [es, List.filterMap_cons, if_neg (by omega)]
      rw [eh]
      have hv := doW_pair ns s n h3
      have wr : w.room = s.room := by rw [← hw]; rfl
      have step : stepF ns w (p, n) = if p.1 = w.room then doW ns s n else w := by
        unfold stepF
        rw [if_neg (by rw [hwd]; decide), hw]
      have main : okF ns R (stepF ns w (p, n)) (here (row.zip (behindA p row))) ∧ ((doR ns (doW ns s n) row).isd = true → runF ns (stepF ns w (p, n)) (here (row.zip (behindA p row))) = doR ns (doW ns s n) row) ∧
          ((doR ns (doW ns s n) row).isd = false → (runF ns (stepF ns w (p, n)) (here (row.zip (behindA p row)))).isd = false ∧ setP (runF ns (stepF ns w (p, n)) (here (row.zip (behindA p row)))) (row.foldl stepP p) = doR ns (doW ns s n) row) := by
        rw [step]
        by_cases hr : p.1 = w.room
        · rw [if_pos hr]
          by_cases hvd : (doW ns s n).isd = true
          · rw [runF_done ns _ hvd, doR_done ns _ hvd]
            exact ⟨okF_done ns R _ hvd _, fun _ => rfl, fun z => by rw [hvd] at z; cases z⟩
          · have hvd : (doW ns s n).isd = false := by simpa using hvd
            exact sim ns R row (doW ns s n) (doW ns s n) p hR' hvd (by rw [hv.1]; exact hb) (by rw [hv.2]; exact ht) (setP_self (by rw [hv.1]; exact hb) (by rw [hv.2]; exact ht))
        · rw [if_neg hr]
          have ef : doW ns s n = s := doW_far ns s n h3 (by rw [hb, ← wr]; exact hr)
          rw [ef] at hR' ⊢
          exact sim ns R row s w p hR' hd hb ht hw
      refine ⟨⟨fun _ hr => ?_, ?_⟩, ?_⟩
      · refine ⟨?_, ?_⟩
        · show R (setP w p)
          rw [hw]
          exact hR 0
        · show R (doW ns (setP w p) n)
          rw [hw]
          exact hR 1
      · exact main.1
      · show ((doR ns (doW ns s n) row).isd = true → _ = doR ns (doW ns s n) row) ∧ ((doR ns (doW ns s n) row).isd = false → _ ∧ setP _ (row.foldl stepP (stepP p n)) = doR ns (doW ns s n) row)
        rw [es]
        exact main.2
end Ms
namespace PnX
open PySem PySem.Spec PyProof.Rows PySem.SeqAt
section
variable {P : Program} {wd : World}
/-- two tuples of as many items, told apart -/
theorem apart_tuples (p q : Addr) (us vs : Array Value) (n m : Nat) (dp dq : Option Addr) (sp sq : Array (Option Value)) (e : Nat → Bool) (len : us.size = vs.size) :
    MeetsIn P wd (Builtin.«tuple.__ne__» ⟨[.ref p, .ref q], []⟩) (fun A R s =>
      (s.heap.get? p = some ⟨.type "tuple", dp, .seq us n, sp⟩ ∧ s.heap.get? q = some ⟨.type "tuple", dq, .seq vs m, sq⟩) ∧
      (∀ (j : Nat) (hu : j < us.size) (hv : j < vs.size), EqP P wd A.in1 s us[j] vs[j] (e j)) ∧ R (.ok (.ret (.bool (!(List.range us.size).all e)))) s) :=
  .of_wp fun A R s hyp => by
    obtain ⟨hp, g, d, tk, os⟩ := s
    obtain ⟨⟨gp, gq⟩, each, fin⟩ := hyp
    have tt := AutoSeq1.sub_tuple_tuple
    have zl : (us.toList.zip vs.toList).length = us.size := by simp [len]
    wp_walk using wpAny_loadPart' gp, wpAny_loadPart' gq, wpAny_forIn_list _ (fun left st s' => st.1 = none ∧ s' = ⟨hp, g, d, tk, os⟩ ∧ ∃ k, left = (us.toList.zip vs.toList).drop k ∧ R (.ok (.ret (.bool (!((List.range us.size).drop k).all e)))) ⟨hp, g, d, tk, os⟩) _
    case turn =>
      rintro ⟨y, x⟩ left st s' ⟨st1, rfl, k, zk, hR⟩
      have kz : k < (us.toList.zip vs.toList).length := Nat.lt_of_not_le fun z => by
        rw [List.drop_of_length_le z] at zk
        cases zk
      have ku : k < us.size := zl ▸ kz
      have kv : k < vs.size := len ▸ ku
      rw [List.drop_eq_getElem_cons kz] at zk
      injection zk with hd1 hd2
      obtain rfl : y = us[k] := by simpa using congrArg Prod.fst hd1
      obtain rfl : x = vs[k] := by simpa using congrArg Prod.snd hd1
      have kr : (List.range us.size).drop k = k :: (List.range us.size).drop (k + 1) := by simp [List.drop_eq_getElem_cons, ku]
      rw [kr, List.all_cons] at hR
      refine wpAny_bind (each k ku kv _ _ ?_)
      cases ek : e k with
      | false =>
        rw [ek] at hR
        wp_walk
        exact ⟨_, rfl, by simpa using hR⟩
      | true =>
        rw [ek] at hR
        wp_walk
        exact ⟨rfl, rfl, k + 1, hd2, by simpa using hR⟩
    case fin =>
      rintro ⟨st1, st2⟩ s' ⟨e1, rfl, k, zk, hR⟩
      simp only at e1
      subst e1
      have ge : us.size ≤ k := Nat.le_of_not_lt fun z => by
        rw [List.drop_eq_getElem_cons (zl.symm ▸ z)] at zk
        cases zk
      rw [List.drop_of_length_le (by simpa using ge)] at hR
      wp_walk
      exact ⟨_, rfl, by simpa [Builtin.Tuple.tupleCompareSizes, bne, len] using hR⟩
    case h => exact ⟨rfl, rfl, 0, rfl, by simpa using fin⟩
theorem rc_apart {A : Around} {s : Shared} {p q : Addr} {us vs : Array Value} {e : Nat → Bool} {E Q : Value → Shared → Prop} (tp : s.heap.IsTuple p us) (tq : s.heap.IsTuple q vs) (len : us.size = vs.size) (room : A.units < cLine)
    (each : ∀ (j : Nat) (hu : j < us.size) (hv : j < vs.size), EqP P wd A.in1 s us[j] vs[j] (e j)) (fin : Q (.bool (!(List.range us.size).all e)) s) : wpAny (model P wd) A (richCompare .NotEq (.ref p) (.ref q)) Q E s := by
  obtain ⟨⟨c1, dp, x1, sp⟩, g1, e1, n, k1⟩ := id tp
  obtain ⟨⟨c2, dq, x2, sq⟩, g2, e2, m, k2⟩ := id tq
  simp only at e1 k1 e2 k2
  subst e1 k1 e2 k2
  refine wpAny_richCompare_same_room (T := "tuple") (op := .NotEq) ⟨_, g1, rfl⟩ ⟨_, g2, rfl⟩ F.slot_tuple_ne ?_ room
  refine call_meetsIn F.slot_tuple_ne ⟨_, g1, rfl⟩ F.entry_tuple_ne (F.args_tuple_ne_2 _ _) (apart_tuples p q us vs n m dp dq sp sq e len) ⟨⟨g1, g2⟩, each, ?_⟩
  exact show Value.bool (!(List.range us.size).all e) ≠ Value.notImplemented ∧ Q (.bool (!(List.range us.size).all e)) s from ⟨(fun x => nomatch x), fin⟩
end
section
open L2 Kx SX Ms
theorem ints_eq {P : Program} {wd : World} {A : Around} {s : Shared} {i j : Int} {u v : Value} (ru : RelV (.int i) u) (rv : RelV (.int j) v) : EqP P wd A s u v (decide (i = j)) := by
  obtain ⟨t, rfl⟩ := ru
  obtain ⟨z, rfl⟩ := rv
  have h := (SeqAt.EqAt.int_int (A := A) (s := s) i t j z).eqP (prog := P) (w := wd)
  have e : (i == j) = decide (i = j) := rfl
  exact e ▸ h
theorem bools_eq {P : Program} {wd : World} {A : Around} {s : Shared} {i j : Bool} {u v : Value} (ru : RelV (.bl i) u) (rv : RelV (.bl j) v) : EqP P wd A s u v (decide (i = j)) := by
  cases (show u = Value.bool i from ru)
  cases (show v = Value.bool j from rv)
  have h := (SeqAt.EqAt.bool_bool (A := A) (s := s) i j).eqP (prog := P) (w := wd)
  have e : (i == j) = decide (i = j) := by cases i <;> cases j <;> rfl
  exact e ▸ h
def hitsB (es fs : List (Int × Int)) : Bool := es.all fun p => decide (lkp fs p.1 = some p.2)
theorem hits_ints {P : Program} {wd : World} {A : Around} {s : Shared} {fs : List (Int × Int)} {vb : List (Key × Value)} (rb : KV (kvI fs) vb) : ∀ (es : List (Int × Int)) (va : List (Key × Value)), KV (kvI es) va → PySem.W.KeqHitsP P wd A s vb va (hitsB es fs)
  | [], va, h => by
    cases h
    exact .nil
  | p :: r, va, h => by
    cases h with
    | @cons _ q _ qs h1 h2 =>
      obtain ⟨ek, rv⟩ := h1
      obtain ⟨key, v⟩ := q
      cases (show Sum.inl p.1 = key from ek)
      have hv := rb.val (Sum.inl p.1)
      rw [valV_kvI] at hv
      have ih := hits_ints (P := P) (wd := wd) (A := A) (s := s) rb r qs h2
      show PySem.W.KeqHitsP P wd A s vb ((Sum.inl p.1, v) :: qs) (decide (lkp fs p.1 = some p.2) && hitsB r fs)
      cases hl : lkp fs p.1 with
      | none =>
        rw [hl] at hv
        rw [decide_eq_false (by simp), Bool.false_and]
        exact .miss (by
          cases hx : valueAt vb (Sum.inl p.1) with
          | none => rfl
          | some _ => rw [hx] at hv; cases hv)
      | some z =>
        rw [hl] at hv
        obtain ⟨y, hy, ry⟩ := hv.some_of
        have e : decide (some z = some p.2) = decide (p.2 = z) := by
          by_cases h : p.2 = z
          · rw [decide_eq_true h, decide_eq_true (by rw [h])]
          · rw [decide_eq_false h, decide_eq_false fun w => h (Option.some.inj w).symm]
        rw [e]
        exact .hit hy (ints_eq rv ry) ih
/-- x == y answers b: two ints, two bools, two dicts of ints -/
def EqB (H : Hp) (x y : V) (b : Bool) : Prop := (∃ i j : Int, x = .int i ∧ y = .int j ∧ b = decide (i = j)) ∨ (∃ i j : Bool, x = .bl i ∧ y = .bl j ∧ b = decide (i = j)) ∨
  ∃ (p q : Addr) (es fs : List (Int × Int)), x = .ref p ∧ y = .ref q ∧ p ≠ q ∧ H p = some (.dK (kvI es)) ∧ H q = some (.dK (kvI fs)) ∧ b = (decide (es.length = fs.length) && hitsB es fs)
inductive EqBs (H : Hp) : List V → List V → List Bool → Prop
  | nil : EqBs H [] [] []
  | cons {x y : V} {b : Bool} {xs ys : List V} {bs : List Bool} : EqB H x y b → EqBs H xs ys bs → EqBs H (x :: xs) (y :: ys) (b :: bs)
theorem EqBs.len {H : Hp} {xs ys : List V} {bs : List Bool} (h : EqBs H xs ys bs) : xs.length = ys.length ∧ bs.length = xs.length := by
  induction h with
  | nil => exact ⟨rfl, rfl⟩
  | cons _ _ ih => exact ⟨by rw [List.length_cons, List.length_cons, ih.1], by rw [List.length_cons, List.length_cons, ih.2]⟩
theorem EqBs.at {H : Hp} {xs ys : List V} {bs : List Bool} (h : EqBs H xs ys bs) : ∀ {us ws : List Value}, Vals xs us → Vals ys ws → ∀ (j : Nat) (h1 : j < us.length) (h2 : j < ws.length), ∃ x y, EqB H x y (bs.getD j true) ∧ RelV x us[j] ∧ RelV y ws[j] := by
  induction h with
  | nil =>
    intro us ws r1 r2 j h1 h2
    cases r1
    exact absurd h1 (Nat.not_lt_zero j)
  | cons h _ ih =>
    intro us ws r1 r2 j h1 h2
    cases r1 with
    | cons a1 b1 =>
      cases r2 with
      | cons a2 b2 =>
        cases j with
        | zero => exact ⟨_, _, h, a1, a2⟩
        | succ j => exact ih b1 b2 j (Nat.lt_of_succ_lt_succ h1) (Nat.lt_of_succ_lt_succ h2)
section
variable {X : Cx} {pins : List (Addr × Obj)} {σ : L2.St} {H : Hp} {s : Shared}
theorem eqB_run (I : Inv X pins σ H s) {A : Around} (hu : A.units + 1 < cLine) {x y : V} {u v : Value} {b : Bool} (h : EqB H x y b) (rx : RelV x u) (ry : RelV y v) : EqP X.prog X.w A s u v b := by
  rcases h with ⟨i, j, rfl, rfl, rfl⟩ | ⟨i, j, rfl, rfl, rfl⟩ | ⟨p, q, es, fs, rfl, rfl, ne, hp, hq, rfl⟩
  · exact ints_eq rx ry
  · exact bools_eq rx ry
  · cases (show u = Value.ref p from rx)
    cases (show v = Value.ref q from ry)
    obtain ⟨_, ya, va, ra, da⟩ := (show ObjOk X.prog X.w H s.heap p (.dK (kvI es)) from I.hok p _ hp)
    obtain ⟨_, yb, vb, rb, db⟩ := (show ObjOk X.prog X.w H s.heap q (.dK (kvI fs)) from I.hok q _ hq)
    refine SeqAt.eqP_refs ne fun E Q h => ?_
    refine PySem.W.rcP_dicts (knd := mixKind X.prog X.w) (r := hitsB es fs) ya yb da db (by omega) (fun _ => hits_ints rb es va ra) E Q ?_
    have e1 : va.length = es.length := by rw [← ra.length, kvI_len]
    have e2 : vb.length = fs.length := by rw [← rb.length, kvI_len]
    rw [e1, e2]
    have e3 : (es.length == fs.length) = decide (es.length = fs.length) := rfl
    rw [e3]
    exact h
end
section
variable {X : Cx}
/-- two tuples of ints, bools and dicts of ints, told apart -/
def rNeT (K : PySem.W.Frag) : R2 := fun x y H Q => ∃ (p q : Addr) (xs ys : List V) (bs : List Bool), x = .ref p ∧ y = .ref q ∧ SqT K H p xs ∧ SqT K H q ys ∧ EqBs H xs ys bs ∧ Q (.bl (!bs.all id)) H
theorem op_neT (hu : X.A.units + 64 < cLine) : OpR X (compareOp .NotEq) (rNeT X.K) := by
  intro pins s σ H x y v u Q I rx ry h
  obtain ⟨p, q, xs, ys, bs, rfl, rfl, hp, hq, he, k⟩ := h
  cases (show v = Value.ref p from rx)
  cases (show u = Value.ref q from ry)
  obtain ⟨us, r1, p1, _⟩ := I.tuple hp
  obtain ⟨ws, r2, p2, _⟩ := I.tuple hq
  have l1 := he.len
  have hsz : us.toArray.size = ws.toArray.size := by
    rw [List.size_toArray, List.size_toArray, ← r1.length, ← r2.length]
    exact l1.1
  have lb : us.toArray.size = bs.length := by rw [List.size_toArray, ← r1.length, l1.2]
  refine rc_apart (e := fun j => bs.getD j true) p1 p2 hsz (by omega) (fun j h1 h2 => ?_) ?_
  · obtain ⟨x, y, h, ra, rb⟩ := he.at r1 r2 j (by simpa using h1) (by simpa using h2)
    have := eqB_run I (A := X.A.in1) (by show X.A.units + 1 + 1 < cLine; omega) h ra rb
    simpa using this
  · have e : ((List.range us.toArray.size).all fun j => bs.getD j true) = bs.all id := by
      rw [lb]
      clear he l1 lb k
      induction bs with
      | nil => rfl
      | cons b bs ih =>
        rw [List.length_cons, List.range_succ_eq_map, List.all_cons, List.all_map]
        show (b && _) = (b && _)
        congr 1
    rw [e]
    exact ⟨.bl _, H, I, rfl, k⟩
end
end
end PnX
namespace Ms
open PySem PySem.Spec PyProof.Rows L2 Kx SX LamX
/-- a statement whose ways meet again -/
theorem meetS {t u : TS} {D : Ends} {σ : L2.St} {H : Hp} (Pz : L2.St → Hp → Prop) (h1 : ∀ nx : L2.St → Hp → Prop, (∀ σ' H', Pz σ' H' → nx σ' H') → t { D with nx := nx } σ H) (h2 : ∀ σ' H', Pz σ' H' → u D σ' H') : tSeq t u D σ H := h1 (u D) h2
theorem go_aug {i : Nat} {te : TE} {ti : TIp} {D : Ends} {σ : L2.St} {H : Hp} {x : V} (hi : σ[i]? = some (some x)) (h : te σ H fun y H1 => ti x y H1 fun z H2 => D.nx (σ.set i (some z)) H2) : tAug i te ti D σ H := ⟨x, hi, h⟩
/-- all but the three objects of a work -/
def rest3 (a b c : Addr) (H : Hp) : Hp := fun d => if d = a ∨ d = b ∨ d = c then none else H d
theorem rest3_at {a b c d : Addr} {H : Hp} {o : HO} (h : H d = some o) (n1 : d ≠ a) (n2 : d ≠ b) (n3 : d ≠ c) : rest3 a b c H d = some o := by
  unfold rest3
  rw [if_neg (by rintro (z | z | z) <;> contradiction)]
  exact h
theorem rest3_none {a b c d : Addr} {H : Hp} (h : d = a ∨ d = b ∨ d = c) : rest3 a b c H d = none := by
  unfold rest3
  rw [if_pos h]
theorem rest3_sub {a b c : Addr} {H : Hp} : Same (rest3 a b c H) H := fun d o h => by
  unfold rest3 at h
  split at h
  · cases h
  · exact h
section
variable {K : PySem.W.Frag} {C w nl dx pc ps : Addr} {H0 H H' : Hp} {ns : List Int} {s t : Mst} {m n : Nat} {es es' : List (Int × Int)}
theorem _root_.Kx.WorkAt.base (h : WorkAt K C H0 H w nl ns s m dx pc ps es) : Same H0 (rest3 w pc ps H) := fun d o hd =>
  rest3_at (h.old d o hd) (fun e => by rw [e, h.nw] at hd; cases hd) (fun e => by rw [e, h.nc] at hd; cases hd) (fun e => by rw [e, h.np] at hd; cases hd)
/-- the same work, all else held fast -/
theorem _root_.Kx.WorkAt.root (h : WorkAt K C H0 H w nl ns s m dx pc ps es) : WorkAt K C (rest3 w pc ps H) H w nl ns s m dx pc ps es :=
  { h with num := Same.q h.base h.num, old := rest3_sub, nw := rest3_none (.inl rfl), nc := rest3_none (.inr (.inl rfl)), np := rest3_none (.inr (.inr rfl)) }
theorem _root_.Kx.WorkAt.unroot (h : WorkAt K C H0 H w nl ns s m dx pc ps es) (k : WorkAt K C (rest3 w pc ps H) H' w nl ns t n dx pc ps es') : WorkAt K C H0 H' w nl ns t n dx pc ps es' :=
  { k with num := h.num, old := h.base.trans k.old, nw := h.nw, nc := h.nc, np := h.np }
end
end Ms
namespace Ms
open PySem PySem.Spec PyProof.Rows L2 Kx SX LamX
/-- stretches: a tuple of block, tick and a list of words each -/
def GrpAt (H : Hp) (x : Addr × Addr) (g : Grp) : Prop := H x.1 = some (.tup [.int g.1, .bl g.2.1, .ref x.2]) ∧ H x.2 = some (.lst (rowV g.2.2))
structure GrpsAt (H0 H : Hp) (D : Addr) (tus : List (Addr × Addr)) (gs : List Grp) : Prop where
  at_ : H D = some (.lst (tus.map fun x => V.ref x.1))
  all : Paired (GrpAt H) tus gs
  nd : (tus.map (·.2)).Nodup
  nD : ∀ x ∈ tus, x.2 ≠ D
  new : ∀ x ∈ tus, H0 x.2 = none
  old : Same H0 H
theorem paired_end {α β : Type} {R : α → β → Prop} {xs : List α} {ys : List β} {x : α} {y : β} (h : Paired R xs ys) (k : R x y) : Paired R (xs ++ [x]) (ys ++ [y]) := by
  induction h with
  | nil => exact .cons k .nil
  | cons a _ ih => exact .cons a ih
theorem paired_snocI {α β : Type} {R : α → β → Prop} {y : β} : ∀ {xs : List α} {ys : List β}, Paired R xs (ys ++ [y]) → ∃ (xs' : List α) (x : α), xs = xs' ++ [x] ∧ Paired R xs' ys ∧ R x y
  | _, [], h => by
    cases h with
    | cons a t =>
      cases t
      exact ⟨[], _, rfl, .nil, a⟩
  | _, z :: ys, h => by
    cases h with
    | cons a t =>
      obtain ⟨xs', x, rfl, h1, h2⟩ := paired_snocI t
      exact ⟨_ :: xs', x, rfl, .cons a h1, h2⟩
theorem paired_mapM {α β : Type} {F G : α → β → Prop} : ∀ {xs : List α} {ys : List β}, Paired F xs ys → (∀ a ∈ xs, ∀ b, F a b → G a b) → Paired G xs ys
  | _, _, .nil, _ => .nil
  | _, _, .cons h t, k => .cons (k _ List.mem_cons_self _ h) (paired_mapM t fun a m b z => k a (List.mem_cons_of_mem _ m) b z)
variable {H0 H H' : Hp} {D : Addr} {tus : List (Addr × Addr)} {gs : List Grp}
theorem GrpAt.same {x : Addr × Addr} {g : Grp} (h : GrpAt H x g) (e : Same H H') : GrpAt H' x g := ⟨e _ _ h.1, e _ _ h.2⟩
theorem GrpsAt.same (h : GrpsAt H0 H D tus gs) (e : Same H H') : GrpsAt H0 H' D tus gs :=
  ⟨e _ _ h.at_, Paired.mapP h.all fun _ _ z => z.same e, h.nd, h.nD, h.new, h.old.trans e⟩
theorem GrpsAt.none (nD : H0 D = Option.none) (h : H D = some (.lst [])) (e : Same H0 H) : GrpsAt H0 H D [] [] := ⟨h, .nil, List.nodup_nil, fun x m => (by cases m), fun x m => (by cases m), e⟩
/-- one more stretch -/
theorem GrpsAt.app {t u : Addr} {p : Pr} {n : Nat} (h : GrpsAt H0 H D tus gs) (nD : H0 D = Option.none) (nu : H u = Option.none) (nt : upd H u (.lst [.int (n : Int)]) t = Option.none) :
    GrpsAt H0 (upd (upd (upd H u (.lst [.int (n : Int)])) t (.tup [.int p.1, .bl p.2, .ref u])) D (.lst ((tus.map fun x => V.ref x.1) ++ [V.ref t]))) D (tus ++ [(t, u)]) (gs ++ [(p.1, p.2, [n])]) := by
  have s1 := same_new (o := HO.lst [V.int (n : Int)]) nu
  have s2 := same_new (o := HO.tup [V.int p.1, V.bl p.2, V.ref u]) nt
  have hDu : D ≠ u := ne_of_none h.at_ nu
  have s12 := s1.trans s2
  have hDt : D ≠ t := ne_of_none (s1 _ _ h.at_) nt
  have hu : (upd (upd H u (.lst [.int (n : Int)])) t (.tup [.int p.1, .bl p.2, .ref u])) u = some (.lst [.int (n : Int)]) := s2 _ _ upd_same
  have ut : u ≠ t := ne_of_none (upd_same (H := H) (a := u) (o := HO.lst [V.int (n : Int)])) nt
  have nu0 : H0 u = Option.none := by
    cases z : H0 u with
    | none => rfl
    | some o =>
      have := h.old _ _ z
      rw [nu] at this
      cases this
  refine ⟨by rw [upd_same, List.map_append]; rfl, paired_end (paired_mapM h.all fun x m g z => ?_) ⟨?_, ?_⟩, ?_, ?_, ?_, same_set (h.old.trans s12) nD⟩
  · have z2 := z.same s12
    refine ⟨?_, ?_⟩
    · rw [upd_ne (ne_of_two z2.1 (s12 _ _ h.at_) (fun z => by cases z))]
      exact z2.1
    · rw [upd_ne (h.nD x m)]
      exact z2.2
  · show upd _ D _ t = _
    rw [upd_ne hDt.symm]
    exact upd_same
  · show upd _ D _ u = _
    rw [upd_ne hDu.symm]
    exact hu
  · rw [List.map_append, List.nodup_append]
    refine ⟨h.nd, by simp, fun a ha b hb => ?_⟩
    rw [List.mem_singleton.mp hb]
    intro e
    obtain ⟨x, hx, ex⟩ := List.mem_map.mp ha
    obtain ⟨i, hi, e1⟩ := List.mem_iff_getElem.mp hx
    have hl := h.all.length
    have z := paired_at h.all (List.getElem?_eq_getElem hi) (List.getElem?_eq_getElem (show i < gs.length by omega))
    rw [e1] at z
    have z2 := z.2
    rw [ex, e] at z2
    have nu' : H u = Option.none := nu
    have z3 : H u = some (.lst (rowV gs[i].2.2)) := z2
    rw [nu'] at z3
    cases z3
  · intro x m
    rcases List.mem_append.mp m with m | m
    · exact h.nD x m
    · rw [List.mem_singleton.mp m]
      exact hDu.symm
  · intro x m
    rcases List.mem_append.mp m with m | m
    · exact h.new x m
    · rw [List.mem_singleton.mp m]
      exact nu0
/-- the last stretch is one word longer -/
theorem GrpsAt.more {t u : Addr} {b : Int} {k : Bool} {ws : List Nat} {n : Nat} (h : GrpsAt H0 H D (tus ++ [(t, u)]) (gs ++ [(b, k, ws)])) : GrpsAt H0 (upd H u (.lst (rowV ws ++ [.int (n : Int)]))) D (tus ++ [(t, u)]) (gs ++ [(b, k, ws ++ [n])]) := by
  obtain ⟨xs', x, e, h1, h2⟩ := paired_snocI h.all
  obtain ⟨rfl, rfl⟩ : tus = xs' ∧ (t, u) = x := by
    have := List.append_inj' e rfl
    exact ⟨this.1, by simpa using this.2⟩
  have m0 : (t, u) ∈ tus ++ [(t, u)] := List.mem_append_right _ (List.mem_singleton.mpr rfl)
  have hDu : u ≠ D := h.nD (t, u) m0
  refine ⟨by rw [upd_ne hDu.symm]; exact h.at_, paired_end (paired_mapM h1 fun y m g z => ⟨?_, ?_⟩) ⟨?_, ?_⟩, h.nd, h.nD, h.new, same_set h.old (h.new (t, u) m0)⟩
  · rw [upd_ne (ne_of_two z.1 h2.2 (fun z => by cases z))]
    exact z.1
  · have ne : y.2 ≠ u := fun e => by
      have nd := h.nd
      rw [List.map_append, List.nodup_append] at nd
      exact nd.2.2 y.2 (List.mem_map.mpr ⟨y, m, rfl⟩) u (List.mem_singleton.mpr rfl) e
    rw [upd_ne ne]
    exact z.2
  · have := h2.1
    show upd H u _ t = _
    rw [upd_ne (ne_of_two h2.1 h2.2 (fun z => by cases z))]
    exact this
  · show upd H u _ u = some (.lst (rowV (ws ++ [n])))
    rw [upd_same]
    unfold rowV
    rw [List.map_append]
    rfl
theorem GrpsAt.last {b : Int} {k : Bool} {ws : List Nat} (h : GrpsAt H0 H D tus (gs ++ [(b, k, ws)])) : ∃ (tus' : List (Addr × Addr)) (t u : Addr), tus = tus' ++ [(t, u)] ∧ H t = some (.tup [.int b, .bl k, .ref u]) ∧ H u = some (.lst (rowV ws)) := by
  obtain ⟨xs', x, e, h1, h2⟩ := paired_snocI h.all
  exact ⟨xs', x.1, x.2, e, h2.1, h2.2⟩
end Ms
namespace Ms
def steadyB (row : List Nat) : Bool := decide (row.take 2 = [0, 1])
def lastP (row : List Nat) : Pr := row.foldl stepP p0
theorem grps_flat (row : List Nat) : flatG (grps row) = here (row.zip (behindA p0 row)) := by
  unfold grps
  rw [flat_grpsA]
  rfl
theorem here_mem {l : List (Nat × Pr)} {x : Pr × Nat} (h : x ∈ here l) : 3 ≤ x.2 := by
  obtain ⟨y, _, e⟩ := List.mem_filterMap.mp h
  split at e
  · cases e
  · cases e
    show 3 ≤ y.1
    omega
theorem here_nat {l : List (Nat × Pr)} {x : Pr × Nat} (h : x ∈ here l) : x.2 ∈ l.map (·.1) := by
  obtain ⟨y, m, e⟩ := List.mem_filterMap.mp h
  split at e
  · cases e
  · cases e
    exact List.mem_map.mpr ⟨y, m, rfl⟩
theorem here_len (l : List (Nat × Pr)) : (here l).length ≤ l.length := List.length_filterMap_le ..
theorem grp_mem {row : List Nat} {g : Grp} {n : Nat} (hg : g ∈ grps row) (hn : n ∈ g.2.2) : 3 ≤ n ∧ n ∈ row := by
  have h : ((g.1, g.2.1), n) ∈ flatG (grps row) := List.mem_flatMap.mpr ⟨g, hg, List.mem_map.mpr ⟨n, hn, rfl⟩⟩
  rw [grps_flat] at h
  refine ⟨here_mem h, ?_⟩
  obtain ⟨y, m, e⟩ := List.mem_map.mp (here_nat h)
  have m2 := (List.of_mem_zip m).1
  rw [e] at m2
  exact m2
theorem grps_short (row : List Nat) : (flatG (grps row)).length ≤ row.length := by
  rw [grps_flat]
  refine Nat.le_trans (here_len _) ?_
  rw [List.length_zip, behindA_len]
  omega
/-- a steady row, stretch by stretch -/
theorem steady {ns : List Int} {R : Mst → Prop} {row : List Nat} {s : Mst} (hb : steadyB row = true) (hR : ∀ k, R (doR ns s (row.take k))) (hd : s.isd = false) :
    okF ns R s (flatG (grps row)) ∧ ((runF ns s (flatG (grps row))).isd = true → runF ns s (flatG (grps row)) = doR ns s row) ∧
      ((runF ns s (flatG (grps row))).isd = false → setP (runF ns s (flatG (grps row))) (lastP row) = doR ns s row) := by
  obtain ⟨rest, rfl⟩ : ∃ rest, row = 0 :: 1 :: rest := by
    have h := of_decide_eq_true hb
    match row, h with
    | [], h => cases h
    | [a], h => cases h
    | a :: b :: r, h =>
      have h : [a, b] = [0, 1] := h
      cases h
      exact ⟨r, rfl⟩
  have eh : flatG (grps (0 :: 1 :: rest)) = here (rest.zip (behindA (-1, true) rest)) := by
    rw [grps_flat]
    rfl
  have e2 : doR ns s (0 :: 1 :: rest) = doR ns (setP s (-1, true)) rest := by
    show doR ns (doW ns (doW ns s 0) 1) rest = _
    rw [doW_low ns s 0 (by decide) hd]
    have hd2 : (setP s (stepP (s.block, s.tick) 0)).isd = false := hd
    rw [doW_low ns _ 1 (by decide) hd2]
    rfl
  have hR2 : ∀ k, R (doR ns (setP s (-1, true)) (rest.take k)) := fun k => by
    have h := hR (k + 2)
    have e3 : doR ns s ((0 :: 1 :: rest).take (k + 2)) = doR ns (setP s (-1, true)) (rest.take k) := by
      show doR ns (doW ns (doW ns s 0) 1) (rest.take k) = _
      rw [doW_low ns s 0 (by decide) hd]
      have hd2 : (setP s (stepP (s.block, s.tick) 0)).isd = false := hd
      rw [doW_low ns _ 1 (by decide) hd2]
      rfl
    rw [e3] at h
    exact h
  obtain ⟨h1, h2, h3⟩ := sim ns R rest (setP s (-1, true)) s (-1, true) hR2 hd rfl rfl rfl
  rw [eh, e2]
  refine ⟨h1, fun z => ?_, fun z => ?_⟩
  · cases hr : (doR ns (setP s (-1, true)) rest).isd with
    | true => exact h2 hr
    | false =>
      have := (h3 hr).1
      rw [z] at this
      cases this
  · cases hr : (doR ns (setP s (-1, true)) rest).isd with
    | true =>
      have := h2 hr
      rw [this, hr] at z
      cases z
    | false => exact (h3 hr).2
theorem flatG_take_succ {gs : List Grp} {i : Nat} {g : Grp} (h : gs[i]? = some g) : flatG (gs.take (i + 1)) = flatG (gs.take i) ++ g.2.2.map fun n => ((g.1, g.2.1), n) := by
  have e : gs.take (i + 1) = gs.take i ++ [g] := by rw [List.take_add_one, h]; rfl
  rw [e, flatG_app, flatG_cons]
  show _ = _
  congr 1
  exact List.append_nil _
theorem flatG_split {gs : List Grp} {i : Nat} {g : Grp} (h : gs[i]? = some g) : flatG gs = flatG (gs.take i) ++ ((g.2.2.map fun n => ((g.1, g.2.1), n)) ++ flatG (gs.drop (i + 1))) := by
  have hi := (List.getElem?_eq_some_iff.mp h).1
  have e : gs = gs.take i ++ g :: gs.drop (i + 1) := by
    have := (List.getElem?_eq_some_iff.mp h).2
    rw [← this, ← List.drop_eq_getElem_cons hi, List.take_append_drop]
  conv => lhs; rw [e, flatG_app, flatG_cons]
end Ms
namespace Ms
open PnX
/-! ### pass by pass, two rows -/
def iterR (ns : List Int) (row : List Nat) (s : Mst) : Nat → Mst
  | 0 => s
  | j + 1 => doR ns (iterR ns row s j) row
open Classical in
noncomputable def partedF (ns : List Int) (r1 r2 : List Nat) : Nat → Nat → Mst → Mst → Option Nat
  | 0, _, _, _ => none
  | k + 1, j, s, t => if doR ns s r1 = doR ns t r2 then partedF ns r1 r2 k (j + 1) (doR ns s r1) (doR ns t r2) else some (j + 1)
theorem partedF_swap (ns : List Int) (r1 r2 : List Nat) : ∀ (k j : Nat) (s t : Mst), partedF ns r1 r2 k j s t = partedF ns r2 r1 k j t s
  | 0, _, _, _ => rfl
  | k + 1, j, s, t => by
    unfold partedF
    by_cases h : doR ns s r1 = doR ns t r2
    · rw [if_pos h, if_pos h.symm, partedF_swap ns r1 r2 k]
    · rw [if_neg h, if_neg fun z => h z.symm]
theorem partedF_none (ns : List Int) (r1 r2 : List Nat) (h : ∀ s, doR ns s r1 = doR ns s r2) : ∀ (k j : Nat) (s : Mst), partedF ns r1 r2 k j s s = none
  | 0, _, _ => rfl
  | k + 1, j, s => by
    unfold partedF
    rw [if_pos (h s), ← h s]
    exact partedF_none ns r1 r2 h k (j + 1) _
theorem partedF_done (ns : List Int) (r1 r2 : List Nat) (k j : Nat) (s : Mst) (h : s.isd = true) : partedF ns r1 r2 k j s s = none := by
  induction k generalizing j with
  | zero => rfl
  | succ k ih =>
    unfold partedF
    rw [doR_done ns s h, doR_done ns s h, if_pos rfl]
    exact ih (j + 1)
theorem doW_said (ns : List Int) (s : Mst) (n : Nat) : ∃ e, (doW ns s n).said = s.said ++ e := by
  have nil : ∃ e : List Int, s.said = s.said ++ e := ⟨[], (List.append_nil _).symm⟩
  unfold doW
  split
  · exact nil
  split
  · exact nil
  split
  · exact nil
  split
  · exact nil
  split
  · exact nil
  split
  · exact nil
  split
  · split
    · unfold flagW
      (repeat' split) <;> first | exact nil | exact ⟨[s.first], rfl⟩
    · exact nil
  · unfold bareW
    (repeat' split) <;> exact nil
theorem doR_said (ns : List Int) : ∀ (r : List Nat) (s : Mst), ∃ e, (doR ns s r).said = s.said ++ e
  | [], s => ⟨[], (List.append_nil _).symm⟩
  | n :: r, s => by
    obtain ⟨e1, h1⟩ := doW_said ns s n
    obtain ⟨e2, h2⟩ := doR_said ns r (doW ns s n)
    refine ⟨e1 ++ e2, ?_⟩
    show (doR ns (doW ns s n) r).said = _
    rw [h2, h1, List.append_assoc]
/-! ### cells told apart -/
theorem pigeon {α : Type} [DecidableEq α] : ∀ (xs ys : List α), xs.Nodup → (∀ x ∈ xs, x ∈ ys) → xs.length ≤ ys.length ∧ (ys.length ≤ xs.length → ∀ y ∈ ys, y ∈ xs)
  | [], ys, _, _ => ⟨Nat.zero_le _, fun h y m => by
      cases ys with
      | nil => exact m
      | cons a l => exact absurd h (Nat.not_succ_le_zero _)⟩
  | x :: xs, ys, nd, h => by
    have nd := List.nodup_cons.mp nd
    have hx := h x List.mem_cons_self
    have le := List.length_erase_of_mem hx
    have pos : 0 < ys.length := List.length_pos_of_mem hx
    obtain ⟨h1, h2⟩ := pigeon xs (ys.erase x) nd.2 fun y m => (List.mem_erase_of_ne (a := y) (fun e => nd.1 (by rw [← e]; exact m))).mpr (h y (List.mem_cons_of_mem _ m))
    refine ⟨by rw [List.length_cons]; omega, fun hl y m => ?_⟩
    rw [List.length_cons] at hl
    by_cases e : y = x
    · rw [e]
      exact List.mem_cons_self
    · exact List.mem_cons_of_mem _ (h2 (by omega) y ((List.mem_erase_of_ne e).mpr m))
theorem nodup_of_map {α β : Type} {f : α → β} {l : List α} (h : (l.map f).Nodup) : l.Nodup := by
  have h := List.pairwise_map.mp h
  exact h.imp fun n e => n (by rw [e])
theorem cells_eq {es fs : List (Int × Int)} {f g : Int → Int} (hf : CellsW es f) (hg : CellsW fs g) : (decide (es.length = fs.length) && hitsB es fs) = true ↔ f = g := by
  unfold hitsB
  rw [Bool.and_eq_true, decide_eq_true_eq, List.all_eq_true]
  constructor
  · rintro ⟨h1, h2⟩
    have sub : ∀ p ∈ es, p ∈ fs := fun p m => (lkp_mem hg.nd).mp (of_decide_eq_true (h2 p m))
    have back := (pigeon es fs (nodup_of_map hf.nd) sub).2 (by omega)
    funext c
    by_cases z : f c = 0
    · by_cases z2 : g c = 0
      · rw [z, z2]
      · have m := (hg.mem c (g c)).mpr ⟨rfl, z2⟩
        have := ((hf.mem c (g c)).mp (back _ m)).1
        exact this
    · have m := (hf.mem c (f c)).mpr ⟨rfl, z⟩
      exact ((hg.mem c (f c)).mp (sub _ m)).1.symm
  · rintro rfl
    have sub : ∀ p, p ∈ es ↔ p ∈ fs := fun p => (hf.mem p.1 p.2).trans (hg.mem p.1 p.2).symm
    refine ⟨Nat.le_antisymm (pigeon es fs (nodup_of_map hf.nd) fun p m => (sub p).mp m).1 (pigeon fs es (nodup_of_map hg.nd) fun p m => (sub p).mpr m).1, fun p m => ?_⟩
    exact decide_eq_true ((lkp_mem hg.nd).mpr ((sub p).mp m))
/-- the parts of two works, told apart one by one -/
def partsB (s t : Mst) (es fs : List (Int × Int)) : List Bool := [decide (s.block = t.block), decide (s.room = t.room), decide (s.tick = t.tick), decide (s.flag = t.flag), decide (s.test = t.test), decide (s.mode = t.mode), decide (s.first = t.first), decide (s.second = t.second),
  decide (es.length = fs.length) && hitsB es fs, decide ((s.heard : Int) = (t.heard : Int)), decide (s.isd = t.isd)]
theorem parts_eq {s t : Mst} {es fs : List (Int × Int)} (hf : CellsW es s.cells) (hg : CellsW fs t.cells) : (partsB s t es fs).all id = true ↔ (∃ l, t = { s with said := l }) := by
  have hc := cells_eq hf hg
  unfold partsB
  simp only [List.all_cons, List.all_nil, Bool.and_true, id_eq, Bool.and_eq_true, decide_eq_true_eq] at hc ⊢
  constructor
  · rintro ⟨h1, h2, h3, h4, h5, h6, h7, h8, h9, h10, h11⟩
    have h9 := hc.mp h9
    refine ⟨t.said, ?_⟩
    cases s
    cases t
    dsimp only at h1 h2 h3 h4 h5 h6 h7 h8 h9 h10 h11 ⊢
    have h10 := Int.ofNat.inj h10
    subst h1 h2 h3 h4 h5 h6 h7 h8 h9 h10 h11
    rfl
  · rintro ⟨l, rfl⟩
    exact ⟨rfl, rfl, rfl, rfl, rfl, rfl, rfl, rfl, hc.mpr rfl, rfl, rfl⟩
end Ms
namespace Ms
open PySem PySem.Spec PyProof.Rows L2 Kx SX LamX PnX
section
variable {K : PySem.W.Frag} {C w nl dx pc ps w2 nl2 dx2 pc2 ps2 : Addr} {H0 B H H' : Hp} {ns ns2 : List Int} {s t : Mst} {m n : Nat} {es es2 : List (Int × Int)}
theorem _root_.Kx.WorkAt.rebase (h : WorkAt K C H0 H w nl ns s m dx pc ps es) (e0 : Same H0 B) (e1 : Same B H) (b1 : B w = none) (b2 : B pc = none) (b3 : B ps = none) : WorkAt K C B H w nl ns s m dx pc ps es :=
  { h with num := Same.q e0 h.num, old := e1, nw := b1, nc := b2, np := b3 }
/-- two works have nothing in common -/
structure Apart (w pc ps w2 pc2 ps2 : Addr) : Prop where
  w : w2 ≠ w
  c : pc2 ≠ pc
  p : ps2 ≠ ps
theorem Apart.swap (d : Apart w pc ps w2 pc2 ps2) : Apart w2 pc2 ps2 w pc ps := ⟨d.w.symm, d.c.symm, d.p.symm⟩
theorem _root_.Kx.WorkAt.other (h : WorkAt K C B H w nl ns s m dx pc ps es) (k : WorkAt K C B H w2 nl2 ns2 t n dx2 pc2 ps2 es2) (d : Apart w pc ps w2 pc2 ps2) (e : Same (rest3 w pc ps H) H') : WorkAt K C B H' w2 nl2 ns2 t n dx2 pc2 ps2 es2 := by
  have a1 : rest3 w pc ps H w2 = some (.ins C dx2 (workF t nl2 pc2 ps2)) := rest3_at k.at_ d.w (ne_of_two k.at_ h.cat (fun z => by cases z)) (ne_of_two k.at_ h.sat (fun z => by cases z))
  have a2 : rest3 w pc ps H pc2 = some (.dK (kvI es2)) := rest3_at k.cat (ne_of_two k.cat h.at_ (fun z => by cases z)) d.c (ne_of_two k.cat h.sat (fun z => by cases z))
  have a3 : rest3 w pc ps H ps2 = some (.lst (t.said.map V.int)) := rest3_at k.sat (ne_of_two k.sat h.at_ (fun z => by cases z)) (ne_of_two k.sat h.cat (fun z => by cases z)) d.p
  exact { k with at_ := e _ _ a1, cat := e _ _ a2, sat := e _ _ a3, old := h.base.trans e }
theorem rest3_mono {a b c : Addr} (e : Same H H') : Same (rest3 a b c H) (rest3 a b c H') := fun d o h => by
  unfold rest3 at h ⊢
  split at h
  · cases h
  · rename_i z
    rw [if_neg z]
    exact e _ _ h
theorem rest3_of {a b c d : Addr} {o : HO} (h : rest3 a b c H d = some o) : H d = some o ∧ d ≠ a ∧ d ≠ b ∧ d ≠ c := by
  unfold rest3 at h
  split at h
  · cases h
  · rename_i z
    refine ⟨h, fun e => z (.inl e), fun e => z (.inr (.inl e)), fun e => z (.inr (.inr e))⟩
end
end Ms
namespace PnX
open PySem PySem.Spec PyProof.Rows L2 Kx SX
section
variable {X : Cx}
/-- tuple(x), x a list or a tuple -/
def rTupQ (K : PySem.W.Frag) : List V → Hp → VK → Prop := fun xs H Q => ∃ (p : Addr) (ys : List V), xs = [.ref p] ∧ SqQ K H p ys ∧ ∀ (l : Addr) (H' : Hp), Same H H' → SqT K H' l ys → Q (.ref l) H'
theorem call_tupleQ : CallR X (.type "tuple") (rTupQ X.K) := by
  have h0 := call_tuple_of (X := X)
  unfold CallR at h0 ⊢
  intros
  rename_i h
  refine h0 _ _ _ _ _ _ _ (by assumption) (by assumption) ?_
  obtain ⟨p, ys, e, h, q⟩ := h
  rcases h with h | h
  · exact ⟨p, ys, e, .inl ⟨h, fun l n => q l _ (same_new n) (.inl (.inl upd_same))⟩⟩
  · exact ⟨p, ys, e, .inr ⟨h, q p _ (Same.refl _) h⟩⟩
end
end PnX
namespace Ms
open PySem PySem.Spec PyProof.Rows L2 Kx SX LamX
/-- pairs made one by one, for a dict of them -/
def KvP (H0 : Hp) (kvs : List (Key × V)) (D : Addr) (i : Nat) (Hc : Hp) : Prop := ∃ qs : List Addr, Hc D = some (.lst (qs.map V.ref)) ∧ Paired (fun (q : Addr) (kv : Key × V) => Hc q = some (.tup [kV kv.1, kv.2])) qs (kvs.take i) ∧ Same H0 Hc
theorem KvP.new {H0 : Hp} {kvs : List (Key × V)} {D : Addr} (nD : H0 D = none) : KvP H0 kvs D 0 (upd H0 D (.lst [])) := ⟨[], upd_same, .nil, same_new nD⟩
theorem KvP.app {H0 Hc H4 : Hp} {kvs : List (Key × V)} {D t : Addr} {i : Nat} {kv : Key × V} (h : KvP H0 kvs D i Hc) (nD : H0 D = none) (hp : kvs[i]? = some kv) (e : Same Hc H4) (ht : H4 t = some (.tup [kV kv.1, kv.2])) (hl : kvs.length ≤ 100000) :
    ∃ acc, H4 D = some (.lst acc) ∧ acc.length < sizeLine ∧ KvP H0 kvs D (i + 1) (upd H4 D (.lst (acc ++ [V.ref t]))) := by
  obtain ⟨qs, h1, h2, h3⟩ := h
  have hD := e _ _ h1
  have hlen := h2.length
  have hi := (List.getElem?_eq_some_iff.mp hp).1
  rw [List.length_take] at hlen
  have k : ∀ {q : Addr} {xs : List V}, H4 q = some (.tup xs) → upd H4 D (.lst (qs.map V.ref ++ [V.ref t])) q = some (.tup xs) := fun {q xs} z => by
    rw [upd_ne (ne_of_two z hD (fun z => by cases z))]
    exact z
  refine ⟨_, hD, ?_, qs ++ [t], by rw [upd_same, List.map_append]; rfl, ?_, same_set (h3.trans e) nD⟩
  · rw [List.length_map]
    exact Nat.lt_of_le_of_lt (show qs.length ≤ 100000 by omega) (by decide)
  · have et : kvs.take (i + 1) = kvs.take i ++ [kv] := by rw [List.take_add_one, hp]; rfl
    rw [et]
    exact paired_end (Paired.mapP h2 fun q p z => k (e _ _ z)) (k ht)
end Ms
namespace Ms
open PySem PySem.Spec PyProof.Rows L2 Kx SX LamX
/-- all that is told of a law's machine, as a list -/
def seenD (s : Mst) (l : List (Int × Int)) : PyData := .list [.int s.block, .int s.room, .bool s.tick, .bool s.flag, .bool s.test, .int s.mode, .int s.first, .int s.second, .int (s.heard : Nat), .list (s.said.map PyData.int), .bool s.isd, .list (l.map Kx.pairD)]
def seenL (s : Mst) (ps : Addr) : List V := [.int s.block, .int s.room, .bl s.tick, .bl s.flag, .bl s.test, .int s.mode, .int s.first, .int s.second, .int (s.heard : Nat), .ref ps, .bl s.isd]
def namesL : List V := [.str "block", .str "room", .str "tick", .str "flag", .str "test", .str "mode", .str "first", .str "second", .str "heard", .str "said", .str "done"]
theorem seen_at {s : Mst} {pc ps : Addr} {i : Nat} {x z : V} (hx : namesL[i]? = some x) (hz : (seenL s ps)[i]? = some z) : ∃ k : Str, x = .str k ∧ valV (liveK s pc ps) (.inr k) = some z := by
  match i, hx, hz with
  | 0, hx, hz => cases hx; cases hz; exact ⟨_, rfl, lv_block⟩
  | 1, hx, hz => cases hx; cases hz; exact ⟨_, rfl, lv_room⟩
  | 2, hx, hz => cases hx; cases hz; exact ⟨_, rfl, lv_tick⟩
  | 3, hx, hz => cases hx; cases hz; exact ⟨_, rfl, lv_flag⟩
  | 4, hx, hz => cases hx; cases hz; exact ⟨_, rfl, lv_test⟩
  | 5, hx, hz => cases hx; cases hz; exact ⟨_, rfl, lv_mode⟩
  | 6, hx, hz => cases hx; cases hz; exact ⟨_, rfl, lv_first⟩
  | 7, hx, hz => cases hx; cases hz; exact ⟨_, rfl, lv_second⟩
  | 8, hx, hz => cases hx; cases hz; exact ⟨_, rfl, lv_heard⟩
  | 9, hx, hz => cases hx; cases hz; exact ⟨_, rfl, lv_said⟩
  | 10, hx, hz => cases hx; cases hz; exact ⟨_, rfl, lv_done⟩
  | i + 11, hx, hz => cases hx
theorem eqv_pair (p q : Int × Int) : PyData.eqv (Kx.pairD p) (Kx.pairD q) = decide (p = q) := by
  show (PyData.eqv (.int p.1) (.int q.1) && (PyData.eqv (.int p.2) (.int q.2) && true)) = _
  rw [eqv_int, eqv_int, Bool.and_true]
  by_cases h1 : p.1 = q.1
  · by_cases h2 : p.2 = q.2
    · rw [decide_eq_true h1, decide_eq_true h2, decide_eq_true (Prod.ext h1 h2)]
      rfl
    · rw [decide_eq_false h2, Bool.and_false, decide_eq_false fun e => h2 (by rw [e])]
  · rw [decide_eq_false h1, Bool.false_and, decide_eq_false fun e => h1 (by rw [e])]
theorem eqv_bool (a b : Bool) : PyData.eqv (.bool a) (.bool b) = decide (a = b) := by cases a <;> cases b <;> rfl
theorem seen_eqv {s t : Mst} {l k : List (Int × Int)} (hs : IsC l s.cells) (ht : IsC k t.cells) : PyData.eqv (seenD s l) (seenD t k) = true ↔ s = t := by
  have e : PyData.eqv (seenD s l) (seenD t k) = (decide (s.block = t.block) && (decide (s.room = t.room) && (decide (s.tick = t.tick) && (decide (s.flag = t.flag) && (decide (s.test = t.test) && (decide (s.mode = t.mode) && (decide (s.first = t.first) && (decide (s.second = t.second) && (decide ((s.heard : Int) = (t.heard : Int)) && (decide (s.said = t.said) && (decide (s.isd = t.isd) && (decide (l = k) && true)))))))))))) := by
    show (PyData.eqv (.int s.block) (.int t.block) && (PyData.eqv (.int s.room) (.int t.room) && (PyData.eqv (.bool s.tick) (.bool t.tick) && (PyData.eqv (.bool s.flag) (.bool t.flag) && (PyData.eqv (.bool s.test) (.bool t.test) && (PyData.eqv (.int s.mode) (.int t.mode) && (PyData.eqv (.int s.first) (.int t.first) && (PyData.eqv (.int s.second) (.int t.second) && (PyData.eqv (.int (s.heard : Nat)) (.int (t.heard : Nat)) && (PyData.eqv (.list (s.said.map PyData.int)) (.list (t.said.map PyData.int)) && (PyData.eqv (.bool s.isd) (.bool t.isd) && (PyData.eqvAll (l.map Kx.pairD) (k.map Kx.pairD) && true)))))))))))) = _
    rw [eqv_int, eqv_int, eqv_bool, eqv_bool, eqv_bool, eqv_int, eqv_int, eqv_int, eqv_int, eqv_ints, eqv_bool, eqvAll_map eqv_pair]
  rw [e]
  simp only [Bool.and_eq_true, decide_eq_true_eq, and_true]
  constructor
  · rintro ⟨h1, h2, h3, h4, h5, h6, h7, h8, h9, h10, h11, h12⟩
    have hc : s.cells = t.cells := by
      subst h12
      funext c
      by_cases z : s.cells c = 0
      · by_cases z2 : t.cells c = 0
        · rw [z, z2]
        · exact ((hs.mem c (t.cells c)).mp ((ht.mem c (t.cells c)).mpr ⟨rfl, z2⟩)).1
      · exact ((ht.mem c (s.cells c)).mp ((hs.mem c (s.cells c)).mpr ⟨rfl, z⟩)).1.symm
    have hh : s.heard = t.heard := Int.ofNat.inj h9
    clear h9 hs ht e
    have h9 := hh
    clear hh
    cases s
    cases t
    dsimp only at h1 h2 h3 h4 h5 h6 h7 h8 h9 h10 h11 hc
    subst h1 h2 h3 h4 h5 h6 h7 h8 h9 h10 h11 hc
    rfl
  · rintro rfl
    exact ⟨rfl, rfl, rfl, rfl, rfl, rfl, rfl, rfl, rfl, rfl, rfl, hs.uniq ht⟩
theorem pl_pair (p : Int × Int) : Pl 1 (Kx.pairD p) := Pl.tup fun d m => by
  rcases List.mem_cons.mp m with rfl | m
  · exact pl_int _ _
  · rw [List.mem_singleton.mp m]
    exact pl_int _ _
theorem seen_shaped (s : Mst) (l : List (Int × Int)) : SeqAt.shaped (seenD s l) = true := by
  have h : Pl 3 (seenD s l) := Pl.lst fun d m => by
    simp only [List.mem_cons, List.not_mem_nil, or_false] at m
    have i : ∀ i : Int, Pl 2 (.int i) := fun i => pl_int 2 i
    have b : ∀ b : Bool, Pl 2 (.bool b) := fun b => ⟨rfl, Nat.zero_le _⟩
    have hl : Pl 2 (.list (l.map Kx.pairD)) := Pl.lst fun d m => by
      obtain ⟨p, _, rfl⟩ := List.mem_map.mp m
      exact pl_pair p
    have hsd : Pl 2 (.list (s.said.map PyData.int)) := Pl.lst fun d m => by
      obtain ⟨p, _, rfl⟩ := List.mem_map.mp m
      exact pl_int _ _
    rcases m with rfl | rfl | rfl | rfl | rfl | rfl | rfl | rfl | rfl | rfl | rfl | rfl
    all_goals first | exact i _ | exact b _ | exact hl | exact hsd
  exact h.shaped (by decide)
end Ms
namespace ItX
open PySem PySem.Calls PyProof.Rows PyProof.V PySem.Spec PySem.W
section
variable {P : Program} {wd : World} {κ : Type} [DecidableEq κ] {kd : KeyKind P wd κ} {A : Around} {E : Value → Shared → Prop} {z : Shared}
theorem there_or_not {s : Shared} {a : Addr} {Q : Option Obj → Shared → Prop} (h : Q (s.heap.get? a) s) : wpAny (model P wd) A (loadIfAlive a) Q E s := fun _ _ _ => h
/-- the next pair of an iterator that has lent its tuple, whether that is still there or not -/
theorem next_lent {t d a : Addr} {f : Bool} {i e : Nat} {ps : List (κ × Value)} {k : κ} {v xk xv : Value} {Q : Option Value → Shared → Prop} (at_ : KdxIt z.heap t d i ps.length e xk xv a f) (dict : z.heap.DictAt kd d ps e) (now : ps[i]? = some (k, v))
    (go : ∀ key h' yk yv b g, kd.is k key = true → KdxIt h' t d (i + 1) ps.length e yk yv b g → h'.get? z.heap.objs.size = some ⟨.type "tuple", none, .seq #[key, v] 0, #[]⟩ → h'.objs.size = z.heap.objs.size + 1 →
      (∀ c o, c ≠ t → z.heap.get? c = some o → h'.get? c = some o) → Q (some (.ref z.heap.objs.size)) { z with heap := h' }) :
    wpAny (model P wd) A (pyNext (.ref t)) Q E z := by
  obtain ⟨h0, gl, dw, tks, os⟩ := z
  obtain ⟨ob, es, ob1, ob2, ob3, ob4, pairs, ob5⟩ := id dict
  have ty : Shared.TypeIs ⟨h0, gl, dw, tks, os⟩ (.ref t) "dict_itemiterator" := ⟨_, at_, rfl⟩
  unfold pyNext
  refine wpAny_bind (wpAny_attempt (wpAny_callSpecial?_slot (name := Str.ofString "__next__") ty PySem.F.slot_dict_itemiterator_next (wpAny_call_entry PySem.F.slot_dict_itemiterator_next ty PySem.F.entry_dict_itemiterator_next ?_ (PySem.F.args_dict_itemiterator_next_1 _))))
  refine wpAny_bind (wpAny_pure (wpAny_bind (wpAny_bind ?_)))
  first | refine wpAny_bind (wpAny_typeNameOfWhole_itemiter ty (wpAny_pure ?_)) | refine wpAny_bind (wpAny_typeNameOf_itemiter ty (wpAny_pure ?_))
  refine wpAny_bind (wpAny_fieldsOf at_ rfl ?_)
  have owns : Builtin.Dict_items.ownsTuple "dict_itemiterator" = true := by decide
  simp only [owns, if_true]
  show wpAny _ _ (if (Value.ref d == Value.none) = true then _ else _) _ _ _
  rw [if_neg (show ¬ ((Value.ref d == Value.none) = true) by intro y; cases y)]
  refine wpAny_bind (wpAny_pure (wpAny_bind (wpAny_dictEntries ob1 ob3 ?_)))
  have size : es.size = ps.length := by rw [← pairs.length]; simp
  rw [if_neg (by rw [size]; simp)]
  refine wpAny_bind (wpAny_pure (wpAny_bind (wpAny_dictEpoch ob1 ob3 ?_)))
  rw [if_neg (by simp)]
  refine wpAny_pure ?_
  have ilt : i < es.size := by
    rw [size]
    exact (List.getElem?_eq_some_iff.mp now).1
  obtain ⟨isK, isV⟩ := pairs.get? (e := es[i]) (by simp [ilt]) now
  simp only [show ¬ ((i : Int) < 0) by omega, if_false, Int.toNat_natCast, Array.getElem?_eq_getElem ilt]
  refine wpAny_bind ?_
  first | refine wpAny_bind (wpAny_typeNameOfWhole_itemiter ty (wpAny_pure ?_)) | refine wpAny_bind (wpAny_typeNameOf_itemiter ty (wpAny_pure ?_))
  refine wpAny_bind (wpAny_isOneOf_itemiter ty ?_)
  show wpAny _ _ (setField (.ref t) 3 (rawInt ((i : Int) + 1)) >>= _) _ _ ⟨h0, gl, dw, tks, os⟩
  refine wpAny_bind (wpAny_setField_rec at_ (by simp) fun h1 w1 b1 => ?_)
  have b1 : Heap.SameBut t h0 h1 := b1
  have w1 : KdxIt h1 t d (i + 1) ps.length e xk xv a f := by
    have up : ((i + 1 : Nat) : Int) = (i : Int) + 1 := by omega
    unfold KdxIt
    rw [up]
    simpa [rawInt] using w1
  have ty1 : Shared.TypeIs ⟨h1, gl, dw, tks, os⟩ (.ref t) "dict_itemiterator" := ⟨_, w1, rfl⟩
  refine wpAny_bind (wpAny_holding (wpAny_bind (wpAny_isOneOf_itemiter ty1 (wpAny_bind (wpAny_isOneOf_itemiter ty1 ?_)))))
  show wpAny _ _ (Builtin.Dict_items.pairFromOwner (.ref t) 6 es[i].key es[i].val) _ _ ⟨h1, gl, dw, tks, os⟩
  unfold Builtin.Dict_items.pairFromOwner
  refine wpAny_bind (wpAny_newTuple ?_)
  have w2 : KdxIt (h1.push { cls := .type "tuple", data := .seq #[es[i].key, es[i].val] }) t d (i + 1) ps.length e xk xv a f := Heap.get?_push_of_some _ w1
  generalize e2 : h1.push { cls := .type "tuple", data := .seq #[es[i].key, es[i].val] } = h2 at w2
  have n1 : h1.objs.size = h0.objs.size := b1.1
  have tlt : t < h0.objs.size := Heap.lt_size at_
  have tup : h2.get? h0.objs.size = some { cls := .type "tuple", data := .seq #[es[i].key, es[i].val] } := by
    rw [← e2, ← n1]
    exact Heap.get?_push_size _ rfl
  have n2 : h2.objs.size = h0.objs.size + 1 := by rw [← e2, Heap.size_push, n1]
  have kp : ∀ c o, c ≠ t → h0.get? c = some o → h2.get? c = some o := fun c o nc hc => by
    rw [← e2]
    exact Heap.get?_push_of_some _ (b1.extBut c o nc hc)
  show wpAny _ _ (Builtin.Dict_items.ownedTupleIsFree (.ref t) >>= _) _ _ ⟨h2, gl, dw, tks, os⟩
  rw [n1]
  have fin : ∀ (h3 : Heap) (yk yv : Value) (b : Addr) (g : Bool), KdxIt h3 t d (i + 1) ps.length e yk yv b g → Heap.SameBut t h2 h3 → Q (some (.ref h0.objs.size)) ⟨h3, gl, dw, tks, os⟩ := fun h3 yk yv b g w3 s3 =>
    go es[i].key h3 yk yv b g isK w3 (by rw [← isV]; exact s3.extBut _ _ (Nat.ne_of_gt tlt) tup) (by show h3.objs.size = h0.objs.size + 1; rw [s3.1, n2]) fun c o nc hc => s3.extBut c o nc (kp c o nc hc)
  refine wpAny_bind ?_
  unfold Builtin.Dict_items.ownedTupleIsFree
  refine wpAny_bind (wpAny_field w2 rfl (x := rawInt a) rfl ?_)
  show wpAny _ _ (loadIfAlive ((a : Int).toNat) >>= _) _ _ _
  rw [Int.toNat_natCast]
  refine wpAny_bind (there_or_not ?_)
  cases h2.get? a with
  | none =>
    simp only [Option.isNone_none, if_true]
    refine wpAny_pure ?_
    simp only [if_true]
    refine wpAny_bind (wpAny_field w2 rfl (x := xk) rfl (wpAny_bind (wpAny_field w2 rfl (x := xv) rfl ?_)))
    refine wpAny_bind (wpAny_setField_rec w2 (by simp) fun h3 w3 s3 => wpAny_bind ?_)
    have w3 : KdxIt h3 t d (i + 1) ps.length e es[i].key xv a f := w3
    refine wpAny_setField_rec w3 (by simp) fun h4 w4 s4 => wpAny_bind ?_
    have w4 : KdxIt h4 t d (i + 1) ps.length e es[i].key es[i].val a f := w4
    refine wpAny_setField_rec w4 (by simp) fun h5 w5 s5 => wpAny_bind ?_
    have w5 : KdxIt h5 t d (i + 1) ps.length e es[i].key es[i].val h0.objs.size f := w5
    refine wpAny_setField_rec w5 (by simp) fun h6 w6 s6 => wpAny_bind ?_
    have w6 : KdxIt h6 t d (i + 1) ps.length e es[i].key es[i].val h0.objs.size false := w6
    have all : Heap.SameBut t h2 h6 := ((s3.trans s4).trans s5).trans s6
    exact wpAny_letGo (wpAny_pure (wpAny_pure ⟨_, rfl, wpAny_pure (fin h6 _ _ _ _ w6 all)⟩))
  | some oa =>
    simp only [Option.isNone_some, Bool.false_eq_true, if_false]
    refine wpAny_bind (wpAny_field w2 rfl (x := .bool f) rfl ?_)
    cases f with
    | true =>
      rw [if_neg (show ¬ ((Value.bool true != Value.bool true) = true) by intro y; cases y)]
      refine wpAny_pure ?_
      simp only [Bool.false_eq_true, if_false]
      exact wpAny_pure (wpAny_pure ⟨_, rfl, wpAny_pure (fin h2 _ _ _ _ w2 (Heap.SameBut.refl _ _))⟩)
    | false =>
      rw [if_pos (show (Value.bool false != Value.bool true) = true by rfl)]
      refine wpAny_bind (wpAny_setField_rec w2 (by simp) fun h3 w3 s3 => ?_)
      have w3 : KdxIt h3 t d (i + 1) ps.length e xk xv a true := w3
      refine wpAny_pure ?_
      simp only [Bool.false_eq_true, if_false]
      exact wpAny_pure (wpAny_pure ⟨_, rfl, wpAny_pure (fin h3 _ _ _ _ w3 s3)⟩)
end
end ItX
namespace ItX
open PySem PySem.Spec PyProof.Rows L2 PySem.W
section
variable {P : Program} {w : World} {K : PySem.W.Frag} {d : Addr} {o : Obj} {es : Array DictEntry} {ep : Nat}
theorem self_held {A : Around} {E Q : Value → Shared → Prop} {s : Shared} {t : Addr} (ty : s.TypeIs (.ref t) "dict_itemiterator") (h : Q (.ref t) s) : wpAny (model P w) A (pyIter (.ref t)) Q E s :=
  wpAny_pyIter_slot ty PySem.F.slot_dict_itemiterator_iter (wpAny_call_entry PySem.F.slot_dict_itemiterator_iter ty kcp_entry (wpAny_pure ⟨_, rfl, "dict_itemiterator", _, ty, PySem.F.slot_dict_itemiterator_next.lookup, h⟩) (PySem.F.args_dict_itemiterator_iter_1 _))
/-- the pairs of a dict, each held by a name -/
theorem turn_held {kvs : List (Key × V)} {nm : Str} {np : Pos} (t : Addr) (od : o.data = .dict es ep) :
    Turn P w K (.Name nm np) (Iti d o kvs) [t] t (fun i h => (∃ xk xv, IsItemIter h t d i kvs.length ep xk xv) ∨ ∃ xk xv a f, KdxIt h t d i kvs.length ep xk xv a f) where
  mem := List.mem_singleton.mpr rfl
  obj := fun i h st b hb => by
    obtain rfl := List.mem_singleton.mp hb
    rcases st with ⟨_, _, e⟩ | ⟨_, _, _, _, e⟩
    · exact ⟨_, e, fun v z => nomatch z⟩
    · exact ⟨_, e, fun v z => nomatch z⟩
  keep := fun i h h' st k => by
    have m : t ∈ [t] := List.mem_singleton.mpr rfl
    rcases st with ⟨xk, xv, e⟩ | ⟨xk, xv, a, f, e⟩
    · exact .inl ⟨xk, xv, k t m _ e⟩
    · exact .inr ⟨xk, xv, a, f, k t m _ e⟩
  item := by
    intro X eP ew eK calm i pins s σ H E I hf st go
    subst eP ew eK
    obtain ⟨hd, hi⟩ := go
    obtain ⟨hs, hgd, hx, es', ep', vs, hdt, hsz, kv, hm⟩ := I.frzK hd
    obtain ⟨rfl, rfl⟩ := dict_ep od hdt
    obtain ⟨⟨k, v⟩, hkv⟩ : ∃ p, kvs[i]? = some p := ⟨kvs[i], List.getElem?_eq_getElem hi⟩
    obtain ⟨u, hu, ru⟩ := kv_get kv hkv
    have hl : kvs.length = vs.length := Paired.length kv
    have fin : ∀ (key : Value) (h' : Heap) (xk xv : Value) (a : Addr) (f : Bool), keyIs k key = true → KdxIt h' t d (i + 1) vs.length ep' xk xv a f → h'.get? s.heap.objs.size = some ⟨.type "tuple", none, .seq #[key, u] 0, #[]⟩ →
        (∀ b ob, b ≠ t → s.heap.get? b = some ob → h'.get? b = some ob) → t < s.heap.objs.size →
        ∃ u', some (Value.ref s.heap.objs.size) = some u' ∧ wpAny (model X.prog X.w) X.A (letOwnedTupleGo (.Name nm np) (.ref t) u') (fun _ s2 => ∃ x H', Inv X pins σ H' s2 ∧ RelV x u' ∧ (Iti d o kvs).yld i H x H' ∧
          ((∃ xk xv, IsItemIter s2.heap t d (i + 1) kvs.length ep' xk xv) ∨ ∃ xk xv a f, KdxIt s2.heap t d (i + 1) kvs.length ep' xk xv a f) ∧ ∀ b ∈ [t], H' b = none) E { s with heap := h' } := by
      intro key h' xk xv a f hkey st' tup kp tlt
      have new : ObjOk X.prog X.w (upd H s.heap.objs.size (.tup [kV k, v])) h' s.heap.objs.size (.tup [kV k, v]) :=
        ⟨by show 2 ≤ sizeLine; decide, [key, u], .cons (relV_key hkey) (.cons ru .nil), ⟨_, tup, rfl, _, rfl⟩⟩
      have I1 : Inv X pins σ (upd H s.heap.objs.size (.tup [kV k, v])) { s with heap := h' } :=
        I.turnedNew (t' := s.toks) (ch := [t]) (fun b ob hb e => kp b ob (by simpa using hb) e) hf (Nat.le_refl _) new
      refine ⟨_, rfl, wpAny_pure ⟨.ref s.heap.objs.size, _, I1, rfl, ⟨_, k, v, hkv, rfl, I.hok.fresh (Nat.le_refl _), rfl⟩, .inr ⟨xk, xv, a, f, hl ▸ st'⟩, fun b hb => ?_⟩⟩
      obtain rfl := List.mem_singleton.mp hb
      rw [upd_ne (Nat.ne_of_lt tlt)]
      exact (hf b hb).1
    rcases st with ⟨xk, xv, he⟩ | ⟨xk, xv, a, f, he⟩
    · rw [hl] at he
      exact wpAny_pyNext_items_item he hm hu fun key h' hkey ho hT _ hk => fin key h' _ _ _ false hkey ho hT hk (Heap.lt_size he)
    · rw [hl] at he
      exact next_lent he hm hu fun key h' yk yv b g hkey ho hT _ hk => fin key h' _ _ _ _ hkey ho hT hk (Heap.lt_size he)
  done := by
    intro X eP ew eK calm i pins s σ H E I hf st go
    subst eP ew eK
    obtain ⟨hd, hi⟩ := go
    obtain ⟨f0, f1, f2, f3, f4, f5⟩ := hf t (by simp)
    obtain ⟨hs, hgd, hx, es', ep', vs, hdt, hsz, kv, hm⟩ := I.frzK hd
    obtain ⟨rfl, rfl⟩ := dict_ep od hdt
    have hl : kvs.length = vs.length := Paired.length kv
    have none' : vs[i]? = none := List.getElem?_eq_none (by omega)
    rcases st with ⟨xk, xv, he⟩ | ⟨xk, xv, a, f, he⟩
    · rw [hl] at he
      exact wpAny_pyNext_items_end (I.ok.hd calm) he hm none' fun h' eb => ⟨rfl, I.turned (t' := s.toks) (fun b ob hb e => eb b ob hb e) f0 f1 f3 f4 f5⟩
    · rw [hl] at he
      exact kdx_end_out (I.ok.hd calm) he hm none' fun h' eb => ⟨rfl, I.turned (t' := s.toks) (fun b ob hb e => eb b ob hb e) f0 f1 f3 f4 f5⟩
  self := fun A i s Q E st h => by
    rcases st with ⟨_, _, e⟩ | ⟨_, _, _, _, e⟩
    · exact self_held ⟨_, e, rfl⟩ h
    · exact self_held ⟨_, e, rfl⟩ h
end
section
variable {X : Cx} {e : Expr} {td : TE} {apos cpos : Pos} {nm : Str} {np : Pos}
theorem pi_held (he : PE X e td) (hbase : attributeBase e "items" X.env (eval e X.env) = eval e X.env := by rfl) (hline : (apos.endLine == cpos.line) = true := by rfl) :
    PI X (.Name nm np) (.Call (.Attribute e "items" apos) [] [] cpos) (iItems td) := by
  refine ⟨fun pins s σ H R I h => ?_⟩
  refine wpAny_Call_method (T := "dict") (id := "dict.items") hbase rfl hline F.plainAttrs_dict F.slot_dict_items F.type_dict_items (thn (he.run pins s σ H _ I h) fun u s1 ⟨x, H1, I1, rx, d, o, kvs, ex, hd, q⟩ => ?_)
  subst ex
  obtain rfl : u = Value.ref d := rx
  obtain ⟨hs, hgd, hx, es, ep, vs, hdt, hsz, kv, hm⟩ := I1.frzK hd
  have hl : kvs.length = vs.length := Paired.length kv
  refine ⟨hm.dictOf.typeIs, hm.dictOf.mapOf.noDict, ?_⟩
  have I2 : Inv X pins σ H1 { s1 with heap := s1.heap.push { cls := .type "dict_items", data := .fields #[.ref d] } } := I1.kept (t' := s1.toks) fun b ob q => Heap.get?_push_of_some _ q
  have fin : wpAny (model X.prog X.w) X.A (pyIter (.ref s1.heap.objs.size)) (PIE X pins σ (.Name nm np) R) X.xe { s1 with heap := s1.heap.push { cls := .type "dict_items", data := .fields #[.ref d] } } := by
    refine wpAny_pyIter_items (d := d) (knd := mixKind X.prog X.w) ⟨_, Heap.get?_push_size _ rfl, rfl, rfl⟩ (hm.push _) (pi_one (tk := s1.toks) I2 _ (turn_held _ hdt) (.inl ⟨.none, .none, ?_⟩) q)
    rw [hl]
    exact Heap.get?_push_size _ rfl
  show wpAny _ _ (callWith cpos (.builtin "dict.items") [.ref d] [] []) _ X.xe s1
  exact method_meetsIn F.slot_dict_items F.entry_dict_items rfl (PySem.evalArgs_none ⟨rfl, hm.dictOf.typeIs, F.args_dict_items_1 _, _, meets_dict_items (mixKind X.prog X.w) d hs, ⟨vs, hm.dictOf⟩, fin⟩)
end
end ItX
namespace Kx
open PySem PySem.Spec PyProof.Rows L2 SX LamX
/-- no positional value, four by name: d, c, b, a for a, b, c, d -/
def backH {α : Type} (us ws : List α) : List α := match us, ws with | [], [d, c, b, a] => [a, b, c, d] | _, _ => []
theorem kb_backH {K : PySem.W.Frag} {x qual : Str} {st : Stmt} {f : Addr} {fd : FuncData} {a b c d : Str} (F : Fun K x qual st f fd)
    (h : ∀ (kV doc pm : Value) (an : Option Addr) (cdv ct : Value) (t u v w : Value), bindArgs (PySem.W.fnOf x qual (defArgs st) (defBody st) (defScope st) .none kV doc pm an cdv ct) ⟨[], [(d, w), (c, v), (b, u), (a, t)]⟩ = pure [(a, t), (b, u), (c, v), (d, w)]) :
    KBinds K fd [a, b, c, d] [d, c, b, a] backH backH := by
  obtain ⟨oc, od, kV, doc, pm, an, cdv, ct, osl, rfl, lk, hcd⟩ := F.ex
  refine ⟨fun s us ws X l => ?_, fun {vs us zs ws} r1 r2 => ?_⟩
  · match us, ws, l with
    | [], [w, v, u, t], _ => exact .of_eq (h kV doc pm an cdv ct t u v w)
    | [], [], l => cases l
    | [], [_], l => cases l
    | [], [_, _], l => cases l
    | [], [_, _, _], l => cases l
    | [], _ :: _ :: _ :: _ :: _ :: _, l => cases l
    | _ :: _, _, l => cases l
  · cases r1 with
    | cons _ _ => exact .nil
    | nil =>
      cases r2 with
      | nil => exact .nil
      | cons h1 r2 =>
        cases r2 with
        | nil => exact .nil
        | cons h2 r2 =>
          cases r2 with
          | nil => exact .nil
          | cons h3 r2 =>
            cases r2 with
            | nil => exact .nil
            | cons h4 r2 =>
              cases r2 with
              | nil => exact .cons h4 (.cons h3 (.cons h2 (.cons h1 .nil)))
              | cons _ _ => exact .nil
end Kx
/-! super().__init__(..) as the first thing that an own __init__ does -/
namespace SupX
open PySem PySem.Spec PyProof.Rows L2 PySem.Calls
/-- what a def that says super() must have: its own place f, the class D it stands in, the cell that tells it -/
structure SupE (X : Cx) (D : Addr) (me : Str) : Prop where
  ks : X.env.kindOf "super" = some .globalImplicit
  kc : X.env.kindOf "__class__" = some .free
  ka : X.env.kindOf me = some .local
  n0 : X.N[0]? = some me
  fn : ∃ (f : Addr) (oc : Value) (od : Option Addr) (fd : FuncData) (osl : Array (Option Value)) (ar : Arg), X.env.func = some f ∧ X.K.lookup f = some ⟨oc, od, .func fd, osl⟩ ∧ (fd.params.posonlyargs ++ fd.params.args).head? = some ar ∧ ar.arg = me
  code : ∃ (cda : Addr) (oc : Value) (od : Option Addr) (vs : Array Value) (osl : Array (Option Value)) (file : Str) (tf : Tok), X.env.code = .ref cda ∧ X.K.lookup cda = some ⟨oc, od, .fields vs, osl⟩ ∧ vs[2]? = some (.str file tf) ∧ ((X.prog.main.file : Str) == file) = true
  cell : ∃ (cc : Addr) (oc : Value) (od : Option Addr) (osl : Array (Option Value)), X.env.cells.lookup ("__class__" : Str) = some cc ∧ X.K.lookup cc = some ⟨oc, od, .cell (some (.ref D)), osl⟩
  top : (X.prog.main.scope.names.lookup ("super" : Str)).isSome = false
  msup : X.mg "super" = none
  clsD : ∃ cdD, PySem.W.clsIn X.K D = some cdD
/-- the method of the classes above D that an instance of C has by super() -/
structure SupM (K : PySem.W.Frag) (C D g : Addr) : Prop where
  sub : PySem.W.mroIn K C (.ref D) = some true
  at_ : PySem.W.ks_superIn K C D "__init__" = some (some (.ref g))
  ty : PySem.W.typeIn K (.ref g) = some (.type "function")
  fi : PySem.W.fnIn K g = true
  no : PySem.W.nsIn K cStatics "thirdparty.any" = some none
theorem boot_super : bootBuiltins "super" = some (.type "super") := by first | rfl | kernel_rfl
section
variable {X : Cx} {pins : List (Addr × Obj)} {σ : L2.St} {H : Hp} {s : Shared}
theorem super_call {CX : CXT} {k : Nat} {a C D g dx : Addr} {fs : List (Str × V)} {me : Str} {sp : Sp} {E : XK} {Q : VK} {e : Expr} {es : List Expr} {t : TA} {p0 p1 apos pos : Pos} {body : List Stmt} (S : SupE X D me) (M : SupM X.K C D g) (I : Inv X pins σ H s)
    (h0 : σ[0]? = some (some (.ref a))) (ha : H a = some (.ins C dx fs)) (F : FnR X.prog X.w X.K X.mg X.base CX k g sp) (hr : Room k X.A) (hx : Passes CX X E) (hargs : PA X (e :: es) t) (h : t σ H fun vs H2 => sp (.ref a :: vs) H2 Q E)
    (hst : starEach (e :: es) X.env = (false, eval e X.env) :: starEach es X.env := by rfl) (hpl : (backTo pos (starEach es X.env)).any (·.1) = false := by rfl)
    {pl : Sem Bool}
    (ht : eval (.Call (.Attribute (.Call (.Name "super" p0) [] [] p1) "__init__" apos) (e :: es) [] pos) X.env = (do
      let ov ← attributeBase (.Call (.Name "super" p0) [] [] p1) "__init__" X.env (eval (.Call (.Name "super" p0) [] [] p1) X.env)
      standAt apos.atName
      let (f, first) ← holding [ov] (getMethod ov "__init__" pl)
      callWith pos f first (backTo pos (starEach (e :: es) X.env)) []) := by rfl) :
    _root_.PySem.wpAt (model X.prog X.w) X.A (.func body X.env) (eval (.Call (.Attribute (.Call (.Name "super" p0) [] [] p1) "__init__" apos) (e :: es) [] pos) X.env) (EP X pins σ Q) X.xe s := by
  have KX := I.kIn
  obtain ⟨f, oc, od, fd, osl, ar, hf1, hf2, hf3, rfl⟩ := S.fn
  obtain ⟨cda, oc2, od2, vs, osl2, file, tf, hc1, hc2, hc3, hc4⟩ := S.code
  obtain ⟨cc, oc3, od3, osl3, hl1, hl2⟩ := S.cell
  obtain ⟨cdD, hD⟩ := S.clsD
  obtain ⟨oD, hD1, hD2⟩ : ∃ oD, s.heap.get? D = some oD ∧ oD.data = .cls cdD := by
    unfold PySem.W.clsIn at hD
    split at hD
    · rename_i c d cd' sl ho
      cases hD
      exact ⟨_, KX _ _ ho, rfl⟩
    · cases hD
  obtain ⟨mA, O, _, _, _, _⟩ := ins_get I.hok ha
  obtain ⟨m, ns, hm⟩ := I.loc
  obtain ⟨u, ru, lk⟩ := hm 0 _ _ S.n0 h0 (.inl S.ka)
  obtain rfl : u = Value.ref a := ru
  have hv : m ar.arg = some (.ref a) := by
    rcases lk with ⟨_, z⟩ | ⟨z | z, _⟩
    · exact z
    · rw [S.ka] at z
      cases z
    · rw [S.ka] at z
      cases z
  obtain ⟨mb, b1, b2⟩ := I.mod.blt
  refine PySem.ks_wpAt_MethodCall (pl := pl) (PySem.ks_wpAt_super_base (env := X.env) S.ks S.kc (by decide) hf1 (KX _ _ hf2) rfl hf3 hc1 (KX _ _ hc2) rfl hc3 hc4 S.top ?_) ht
  refine PySem.W.ks_loadName_global I.ok.kind S.ks (Calls.loadGlobal_builtin (by rw [I.ok.glob]; exact I.mod.glob.keeps I.bk) S.msup (by rw [I.ok.blt]; exact b1.keeps I.bk) ((b2 "super" (by decide)).trans boot_super) ⟨rfl, ?_⟩)
  refine wpAny_loadName_free I.ok.kind S.kc hl1 ⟨_, KX _ _ hl2, rfl⟩ ?_
  refine wpAny_loadName_local I.ok.kind S.ka ns hv ?_
  refine PySem.ks_wpAny_isType_cls hD1 hD2 ⟨rfl, ?_⟩
  obtain ⟨hh, gg, dd, tt, os⟩ := s
  refine PySem.ks_wpAny_call_super hD1 hD2 O.obj rfl (fun c z => by cases z) (PySem.W.looks_mroIn KX M.sub) (fun h' e1 k1 => ?_)
  have I1 : Inv X pins σ H ⟨h', gg, dd, tt, os⟩ := I.kept (t' := tt) k1
  have KX1 := I1.kIn
  obtain ⟨of, hof, hofc⟩ : ∃ of, h'.get? g = some of ∧ of.cls = .type "function" := by
    have ht' : (X.K.lookup g).map (·.cls) = some (.type "function") := M.ty
    cases z : X.K.lookup g with
    | none => rw [z] at ht'; cases ht'
    | some of => rw [z] at ht'; exact ⟨of, KX1 _ _ z, Option.some.inj ht'⟩
  have hm' := M.at_
  unfold PySem.W.ks_superIn at hm'
  cases hc : PySem.W.clsIn X.K C with
  | none => rw [hc] at hm'; cases hm'
  | some cd =>
    rw [hc] at hm'
    have hxC : a ≠ C := by
      rintro rfl
      unfold PySem.W.clsIn at hc
      split at hc
      · rename_i c d cd' sl ho
        have e := KX _ _ ho
        rw [O.obj] at e
        cases e
      · cases hc
    refine PySem.ks_wpAny_getMethod_super e1 (PySem.W.looks_opaque KX1 M.no) (l₀ := cd.mro) ?_ rfl KX1 hm' hof hofc hxC (by decide) ?_
    · exact fun A Q E s k q => wpAny_bind ((PySem.W.looks_clsIn KX1 hc) A _ E s k (wpAny_pure q))
    have I2 : Inv X ((h'.objs.size, PySem.W.methodObj (.ref g) (.ref a)) :: pins) σ H ⟨h'.push (PySem.W.methodObj (.ref g) (.ref a)), gg, dd, tt + 1, os⟩ := ClX.pin_new I1 (fun _ _ z => Heap.get?_push_of_some _ z) (Nat.le_refl _) (Heap.get?_push_size h' rfl) (fun v z => nomatch z)
    refine ClX.callwith_cm I2 (ClX.base_none I1 (Nat.le_refl _)) M.fi (thn (hargs.run pos _ _ σ H _ I2 h) fun us s3 ⟨vs, H3, I3, rv, q2⟩ => ⟨⟨ClX.pin_at I3, I3.kIn⟩, ?_⟩) hst hpl
    exact ClX.run_cm F hr hx I3 rv q2
end
/-! ### the def -/
open NdefX
section
variable {CX CX2 : CXT} {P : Program} {w : World} {K : PySem.W.Frag} {mg : Str → Option Value} {base : Heap} {k k2 : Nat} {f cc cda D g : Addr} {name qual me : Str} {params : Arguments} {body rest : List Stmt} {scope : Scope} {dV kV doc pm ct oc : Value} {an od : Option Addr}
  {osl : Array (Option Value)} {N ps : List Str} {sp sp2 : Sp} {E2 : XK} {e : Expr} {es : List Expr} {p0 p1 apos pos pos2 : Pos}
theorem fn_super (lk : K.lookup f = some ⟨oc, od, .func (PySem.W.fnX name qual params body scope [("__class__", cc)] dV kV doc pm an (.ref cda) ct), osl⟩) (hcd : PySem.W.codeIn K (.ref cda) qual = true) (S : NScope N ps ["__class__"] scope)
    (hB : body = .Expr (.Call (.Attribute (.Call (.Name "super" p0) [] [] p1) "__init__" apos) (e :: es) [] pos) pos2 :: rest)
    (hc : ∃ (ocl : Value) (odl : Option Addr) (osl2 : Array (Option Value)), K.lookup cc = some ⟨ocl, odl, .cell (some (.ref D)), osl2⟩)
    (F : FnR P w K mg base CX2 k2 g sp2) (hk : k2 ≤ k) (len : ∀ vs H Q E, sp vs H Q E → vs.length = ps.length)
    (hbody : ∀ (A : Around) (outer : List Env) (s : Shared) (H : Hp) (vs : List V) (Q : VK) (E : XK), Room k (A.deeper (envF ⟨name, qual, params, body, scope, [("__class__", cc)], cda⟩ f s.heap.objs.size)) → sp vs H Q E →
      ∃ (a C dx : Addr) (fs : List (Str × V)) (t : TA) (u : TS), SupE (ncx CX P w K mg base N ⟨name, qual, params, body, scope, [("__class__", cc)], cda⟩ f A outer s H E) D me ∧ SupM K C D g ∧ Passes CX2 (ncx CX P w K mg base N ⟨name, qual, params, body, scope, [("__class__", cc)], cda⟩ f A outer s H E) E2 ∧
        (startF N vs [none])[0]? = some (some (.ref a)) ∧ H a = some (.ins C dx fs) ∧ PA (ncx CX P w K mg base N ⟨name, qual, params, body, scope, [("__class__", cc)], cda⟩ f A outer s H E) (e :: es) t ∧ PSs (ncx CX P w K mg base N ⟨name, qual, params, body, scope, [("__class__", cc)], cda⟩ f A outer s H E) rest u ∧
        t (startF N vs [none]) H fun ws H2 => sp2 (.ref a :: ws) H2 (fun _ H3 => u { nx := fun _ H' => Q .non H', rt := Q } (startF N vs [none]) H3) E2)
    (hst : ∀ env : Env, starEach (e :: es) env = (false, eval e env) :: starEach es env := by intros; rfl) (hpl : ∀ env : Env, (backTo pos (starEach es env)).any (·.1) = false := by intros; rfl)
    {pl : Env → Sem Bool}
    (ht : ∀ env : Env, eval (.Call (.Attribute (.Call (.Name "super" p0) [] [] p1) "__init__" apos) (e :: es) [] pos) env = (do
      let ov ← attributeBase (.Call (.Name "super" p0) [] [] p1) "__init__" env (eval (.Call (.Name "super" p0) [] [] p1) env)
      standAt apos.atName
      let (f, first) ← holding [ov] (getMethod ov "__init__" (pl env))
      callWith pos f first (backTo pos (starEach (e :: es) env)) []) := by intros; rfl)
    (hi : ∀ env : Env, env.scope.kind = .function → interactive env = false := by intros; rfl) (hs : ∀ env : Env, swapsWith (.Call (.Attribute (.Call (.Name "super" p0) [] [] p1) "__init__" apos) (e :: es) [] pos) none pos2.line env = pure false := by intros; rfl) :
    FnOk P w K mg base CX (k + 1) f (PySem.W.fnX name qual params body scope [("__class__", cc)] dV kV doc pm an (.ref cda) ct) ps sp := by
  refine ⟨len, fun A outer s H args us vs Q E hr e0 hbind r hsp => ?_⟩
  have KX : K.In s.heap := e0.mod.kin.keeps fun b o e => (e0.bs b o e).1
  have hl := len _ _ _ _ hsp
  have lim : s.heap.NoLimit := e0.mod.nolimit.keeps fun b o e => (e0.bs b o e).1
  obtain ⟨ocl, odl, osl2, hc⟩ := hc
  have C : CellsAt [(("__class__" : Str), cc)] ["__class__"] [none] s.heap H := by
    refine ⟨rfl, fun y c h => ?_, fun x y c h1 h2 => ?_, fun i y h => ?_⟩
    · have : c = cc := by
        simp only [List.lookup] at h
        split at h
        · exact (Option.some.inj h).symm
        · cases h
      subst this
      exact ⟨(e0.bs _ _ (e0.mod.kin _ _ hc)).2, _, _, KX _ _ hc, rfl⟩
    · simp only [List.lookup] at h1 h2
      split at h1
      · rename_i z1
        split at h2
        · rename_i z2
          exact (beq_iff_eq.mp z1).trans (beq_iff_eq.mp z2).symm
        · cases h2
      · cases h1
    · match i, h with
      | 0, h =>
        cases h
        exact ⟨cc, by simp [List.lookup], fun v z => by cases z⟩
  refine codeAny_call_function hr.depth (KX _ _ lk) rfl S.co S.gen rfl (PySem.W.codeRec_of KX hcd) ?_
  refine hbind _ _ _ _ ?_
  refine wpAny_newFunctionEnv S.nocell (fun ⟨n, _⟩ hy => S.par n (List.of_mem_zip hy).1) (fun h₁ hns hsb => ⟨lim.fresh _ hsb, ?_⟩) S.kind
  show codeAny _ _ (.func body (envF ⟨name, qual, params, body, scope, [("__class__", cc)], cda⟩ f s.heap.objs.size)) _ _
  have kp : ∀ b o, s.heap.get? b = some o → h₁.get? b = some o := fun b o e => hsb.extBut b o (Nat.ne_of_lt (Heap.lt_size e)) (Heap.get?_push_of_some _ e)
  obtain ⟨a, C', dx, fs, t, u, SE, SM, hx, h0, ha, hA, hu, hq⟩ := hbody A outer s H vs Q E (hr.deeper _) hsp
  have I : Inv (ncx CX P w K mg base N ⟨name, qual, params, body, scope, [("__class__", cc)], cda⟩ f A outer s H E) [] (startF N vs [none]) H { s with heap := h₁, toks := s.toks + (ps.zip us).length } := inv_startN S hr.hd e0 hl r C hns kp
  refine PySem.ks_codeAny_funcAt ?_
  have z := super_call (body := body) SE SM I h0 ha (F.mono hk) (hr.deeper _) hx hA hq (hst _) (hpl _) (ht _)
  rw [hB] at z ⊢
  refine PySem.ks_wpAt_execs_cons (PySem.ks_wpAt_Expr_any (PySem.ks_wpAt_mono z (fun v s' hs => ?_) fun e s' he => he) (hi _ S.kind) (hs _))
  obtain ⟨_, H', J, _, q⟩ := hs
  refine wpAt_of_wpAny (wpAny_mono (hu.run [] s' (startF N vs [none]) H' _ J q) (fun fl s2 hs => ?_) fun e s2 hs => hs)
  have fin : ∀ {σ' : L2.St} {H' : Hp} {v : V} {u : Value}, Inv (ncx CX P w K mg base N ⟨name, qual, params, body, scope, [("__class__", cc)], cda⟩ f A outer s H E) [] σ' H' s2 → L2.RelV v u → Q v H' → CE outer P w H s Q u s2 :=
    fun {σ' H' v u} J rv q => ⟨v, H', J.os, J.bare, J.base, J.hok, rv, q⟩
  cases fl with
  | ret u =>
    obtain ⟨v, σ', H', J, rv, q⟩ := hs
    exact fin J rv q
  | next =>
    obtain ⟨σ', H', J, q⟩ := hs
    exact fin (v := V.non) (u := Value.none) J rfl q
  | brk =>
    obtain ⟨_, _, _, q⟩ := hs
    exact False.elim q
  | cont =>
    obtain ⟨_, _, _, q⟩ := hs
    exact False.elim q
end
end SupX
/-! papers: own classes whose __init__ takes *parts, and those that call it by super() -/
namespace SupX
open PySem PySem.Spec PyProof.Rows L2 NdefX Kx SX
/-- a program whose text has no own `super` and stands in one file -/
class PaperP (P : Program) : Prop where
  file : ((P.main.file : Str) == ("/claim/cut.py" : Str)) = true
  top : (P.main.scope.names.lookup ("super" : Str)).isSome = false
/-- an __init__ that closes over __class__ -/
structure FunS (K : PySem.W.Frag) (x qual : Str) (st : Stmt) (f : Addr) (fd : FuncData) (D : Addr) : Prop where
  ex : ∃ (oc : Value) (od : Option Addr) (kV doc pm : Value) (an : Option Addr) (cda cc : Addr) (ct : Value) (osl : Array (Option Value)),
    fd = PySem.W.fnX x qual (defArgs st) (defBody st) (defScope st) [("__class__", cc)] .none kV doc pm an (.ref cda) ct ∧ K.lookup f = some ⟨oc, od, .func fd, osl⟩ ∧ PySem.W.codeIn K (.ref cda) qual = true ∧
    (∃ (ocl : Value) (odl : Option Addr) (osl2 : Array (Option Value)), K.lookup cc = some ⟨ocl, odl, .cell (some (.ref D)), osl2⟩) ∧
    ∃ (oc2 : Value) (od2 : Option Addr) (vs : Array Value) (osl3 : Array (Option Value)) (tf : Tok), K.lookup cda = some ⟨oc2, od2, .fields vs, osl3⟩ ∧ vs[2]? = some (.str "/claim/cut.py" tf)
  kp : PySem.W.keepIn K (.ref f) = true
section
variable {P : Program} {w : World} {K : PySem.W.Frag} {mg : Str → Option Value} {base : Heap}
theorem FunS.mk' {x qual : Str} {st : Stmt} {f cda cc D : Addr} {oc : Value} {od an : Option Addr} {osl : Array (Option Value)} {kV doc pm ct : Value} {ocl oc2 : Value} {odl od2 : Option Addr} {osl2 osl3 : Array (Option Value)} {vs : Array Value} {tf : Tok}
    (l : K.lookup f = some ⟨oc, od, .func (PySem.W.fnX x qual (defArgs st) (defBody st) (defScope st) [("__class__", cc)] .none kV doc pm an (.ref cda) ct), osl⟩) (c : PySem.W.codeIn K (.ref cda) qual = true) (k : PySem.W.keepIn K (.ref f) = true)
    (hc : K.lookup cc = some ⟨ocl, odl, .cell (some (.ref D)), osl2⟩) (hv : K.lookup cda = some ⟨oc2, od2, .fields vs, osl3⟩) (h2 : vs[2]? = some (.str "/claim/cut.py" tf)) :
    FunS K x qual st f (PySem.W.fnX x qual (defArgs st) (defBody st) (defScope st) [("__class__", cc)] .none kV doc pm an (.ref cda) ct) D :=
  ⟨⟨oc, od, kV, doc, pm, an, cda, cc, ct, osl, rfl, l, c, ⟨_, _, _, hc⟩, ⟨_, _, _, _, _, hv, h2⟩⟩, k⟩
theorem FunS.binds {x qual : Str} {st : Stmt} {f D : Addr} {fd : FuncData} {ps : List Str} (F : FunS K x qual st f fd D)
    (h : ∀ (cc cda : Addr) (kV doc pm : Value) (an : Option Addr) (ct : Value) (us : List Value), us.length = ps.length → bindArgs (PySem.W.fnX x qual (defArgs st) (defBody st) (defScope st) [("__class__", cc)] .none kV doc pm an (.ref cda) ct) ⟨us, []⟩ = pure (ps.zip us)) : Binds K fd ps [] := by
  obtain ⟨oc, od, kV, doc, pm, an, cda, cc, ct, osl, rfl, _⟩ := F.ex
  exact .all (h cc cda kV doc pm an ct)
/-- the rule for such an __init__ -/
theorem FunS.ok [PaperP P] {x qual me : Str} {st : Stmt} {f D g : Addr} {fd : FuncData} {N ps : List Str} {k k2 : Nat} {sp sp2 : Sp} {e : Expr} {es : List Expr} {p0 p1 apos pos pos2 : Pos} {rest : List Stmt} (F : FunS K x qual st f fd D) (S : NScope N ps ["__class__"] (defScope st))
    (hB : defBody st = .Expr (.Call (.Attribute (.Call (.Name "super" p0) [] [] p1) "__init__" apos) (e :: es) [] pos) pos2 :: rest)
    (hsu : (defScope st).names.lookup ("super" : Str) = some .globalImplicit) (hme : N[0]? = some me) (hlo : (defScope st).names.lookup me = some .local) (har : ∃ ar : Arg, ((defArgs st).posonlyargs ++ (defArgs st).args).head? = some ar ∧ ar.arg = me)
    (hms : mg "super" = none) (hD : ∃ cdD, PySem.W.clsIn K D = some cdD) (G : FnR P w K mg base CX0 k2 g sp2) (hk : k2 ≤ k) (len : ∀ vs H Q E, sp vs H Q E → vs.length = ps.length)
    (hbody : ∀ (cda cc : Addr) (A : Around) (outer : List Env) (s : Shared) (H : Hp) (vs : List V) (Q : VK) (E : XK), Room k (A.deeper (envF ⟨x, qual, defArgs st, defBody st, defScope st, [("__class__", cc)], cda⟩ f s.heap.objs.size)) → sp vs H Q E →
      ∃ (a C dx : Addr) (fs : List (Str × V)) (t : TA) (u : TS), SupM K C D g ∧ (startF N vs [none])[0]? = some (some (.ref a)) ∧ H a = some (.ins C dx fs) ∧ PA (ncx CX0 P w K mg base N ⟨x, qual, defArgs st, defBody st, defScope st, [("__class__", cc)], cda⟩ f A outer s H E) (e :: es) t ∧ PSs (ncx CX0 P w K mg base N ⟨x, qual, defArgs st, defBody st, defScope st, [("__class__", cc)], cda⟩ f A outer s H E) rest u ∧
        t (startF N vs [none]) H fun ws H2 => sp2 (.ref a :: ws) H2 (fun _ H3 => u { nx := fun _ H' => Q .non H', rt := Q } (startF N vs [none]) H3) E0)
    (hst : ∀ env : Env, starEach (e :: es) env = (false, eval e env) :: starEach es env := by intros; rfl) (hpl : ∀ env : Env, (backTo pos (starEach es env)).any (·.1) = false := by intros; rfl)
    {pl : Env → Sem Bool}
    (ht : ∀ env : Env, eval (.Call (.Attribute (.Call (.Name "super" p0) [] [] p1) "__init__" apos) (e :: es) [] pos) env = (do
      let ov ← attributeBase (.Call (.Name "super" p0) [] [] p1) "__init__" env (eval (.Call (.Name "super" p0) [] [] p1) env)
      standAt apos.atName
      let (f, first) ← holding [ov] (getMethod ov "__init__" (pl env))
      callWith pos f first (backTo pos (starEach (e :: es) env)) []) := by intros; rfl)
    (hs : ∀ env : Env, swapsWith (.Call (.Attribute (.Call (.Name "super" p0) [] [] p1) "__init__" apos) (e :: es) [] pos) none pos2.line env = pure false := by intros; rfl) :
    FnOk P w K mg base CX0 (k + 1) f fd ps sp := by
  obtain ⟨oc, od, kV, doc, pm, an, cda, cc, ct, osl, rfl, lk, hcd, hc, oc2, od2, vs2, osl3, tf, hv, h2⟩ := F.ex
  refine fn_super (me := me) (E2 := E0) lk hcd S hB hc G hk len (fun A outer s H vs Q E hr h => ?_) hst hpl ht (fun env hk => ?_) hs
  · obtain ⟨a, C, dx, fs, t, u, SM, h0, ha, hA, hu, hq⟩ := hbody cda cc A outer s H vs Q E hr h
    obtain ⟨ar, har1, har2⟩ := har
    refine ⟨a, C, dx, fs, t, u, ⟨hsu, S.frk _ (List.mem_singleton.mpr rfl), hlo, hme, ?_, ?_, ?_, PaperP.top (P := P), hms, hD⟩, SM, pass0, h0, ha, hA, hu, hq⟩
    · exact ⟨f, oc, od, _, osl, ar, rfl, lk, har1, har2⟩
    · exact ⟨cda, oc2, od2, vs2, osl3, _, tf, rfl, hv, h2, PaperP.file (P := P)⟩
    · obtain ⟨ocl, odl, osl2, hc⟩ := hc
      exact ⟨cc, ocl, odl, osl2, rfl, hc⟩
  · unfold interactive
    rw [hk]
    rfl
end
end SupX
/-! the truth of an instance with a __bool__ of its own -/
namespace SupX
open PySem PySem.Spec PyProof.Rows L2 Kx SX
section
variable {X : Cx}
theorem tru_own {C f : Addr} {fd : FuncData} {k : Nat} {sp : Sp} (hm : Meth X.K C "__bool__" f) (F : FnOk X.prog X.w X.K X.mg X.base CX0 k f fd ["self"] sp) (hr : Room k X.A) (hb : Binds X.K fd ["self"] []) :
    TruR X (fun x H Q => ∃ a dx fs, x = .ref a ∧ H a = some (.ins C dx fs) ∧ sp [.ref a] H (fun v H' => ∃ b, v = .bl b ∧ Q b H') E0) := by
  intro pins s σ H x u Q I rx h
  obtain ⟨a, dx, fs, rfl, ha, q⟩ := h
  obtain rfl : u = Value.ref a := rx
  obtain ⟨mA, O, _, _, _, _⟩ := ins_get I.hok ha
  obtain ⟨od, hod, _⟩ := lookIn_ns O.ns
  have J : PySem.W.InstAt s.heap a (PySem.W.instObj C dx) C (some od) := ⟨O.obj, rfl, rfl, hod⟩
  unfold truthy
  refine wpAny_bind (m := callSpecial? (.ref a) (Str.ofString "__bool__")) (PySem.W.special_fn I.kIn J hm.at_ (beq_iff_eq.mp hm.fn) (wpAny_mono (run_fn (us := [.ref a]) (vs := [.ref a]) F hr hb .nil pass0 I (.cons rfl .nil) q) (fun r s' hr => ?_) fun _ _ y => y))
  obtain ⟨v, H', I', rv, b, rfl, hq⟩ := hr
  cases rv
  exact wpAny_pure ⟨H', I', hq⟩
end
end SupX
/-! an own error, made as a value -/
namespace SX
open PySem PySem.Spec PyProof.Rows L2 Kx
section
variable {X : Cx} {pins : List (Addr × Obj)} {σ : L2.St} {H : Hp}
theorem inv_heap {s s' : Shared} (J : Inv X pins σ H s) (eh : s'.heap = s.heap) (os : s'.os = s.os) (ag : AllBare s'.gens) : Inv X pins σ H s' := by
  obtain ⟨h, g, d, t, o⟩ := s
  obtain ⟨h', g', d', t', o'⟩ := s'
  dsimp only at eh os
  subst eh os
  exact ⟨J.ok, J.os, ag, J.base, J.loc, J.cell, J.free, J.freeC, J.pin, J.hok, J.len⟩
theorem exT_ok {P : Program} {w : World} {h : Heap} {a : Addr} {cls : Value} {d : Option Addr} {oe : Obj} {vs : Array Value} (e : h.get? a = some oe) (z : Zc cls d oe) (hd : oe.data = .fields vs) : ObjOk P w H h a (exT a cls d) :=
  ⟨⟨oe, vs, e, z, hd⟩, ⟨oe, e⟩, fun _ _ ⟨o, v, q, r⟩ k => ⟨o, v, k o q, r⟩⟩
/-- what makes an exception to be raised makes one to be held -/
theorem pe_of_pmk {e : Expr} {t : L2.St → Hp → XK → Prop} (h : PMk X e t) : PE X e (fun σ H Q => t σ H fun cls d H1 => ∀ a, H1 a = none → Q (.ref a) (upd H1 a (exT a cls d))) := by
  refine ⟨fun pins s σ H Q I hq => ?_⟩
  refine wpAny_mono (h pins s σ H _ I hq) (fun u s1 hu => ?_) fun _ _ x => x
  obtain ⟨a, oe, vs, sI, H', cls, d, rfl, J, k, hne, ha, hz, hd, h1, na, os, ag, r, q⟩ := hu
  have J2 : L2.Inv X pins σ (upd H' a (exT a cls d)) { sI with heap := s1.heap, toks := sI.toks } := J.laidN k hne na (exT_ok ha hz hd)
  exact ⟨.ref a, _, inv_heap J2 rfl os ag, rfl, q a na⟩
/-- isinstance of a held error, of a tuple of classes -/
def rIsXT (K : PySem.W.Frag) : List V → Hp → VK → Prop := fun xs H Q => ∃ (a D dd tp : Addr) (fs : List (Str × V)) (cs : List V) (ws : List Value) (b : Bool), xs = [.ref a, .ref tp] ∧ H a = some (exT a (.ref D) (some dd)) ∧ H dd = some (.xd fs) ∧ ExcC K D ∧
  H tp = some (.tup cs) ∧ Paired ClsV cs ws ∧ PySem.W.kitAny K (.ref D) ws = some b ∧ Q (.bl b) H
theorem call_isXT : CallR X (.builtin "isinstance") (rIsXT X.K) := by
  intro pins s σ H xs us Q I r h
  obtain ⟨a, D, dd, tp, fs, cs, ws, b, rfl, e, ed, C, hT, k, hk, q⟩ := h
  obtain ⟨u1, u2, rfl, r1, r2⟩ := vals2 r
  obtain rfl : u1 = Value.ref a := r1
  cases (show u2 = Value.ref tp from r2)
  obtain ⟨oe, od, mA, J, _, _⟩ := inst_at I e ed
  have cls : (PySem.W.clsIn X.K D).isSome = true := by
    obtain ⟨cd, hcd, _⟩ := PySem.W.any_some C.hd
    rw [hcd]
    rfl
  obtain ⟨_, its, rv, o, h1, h2, n, h3⟩ := (show ObjOk X.prog X.w H s.heap tp (.tup cs) from I.hok tp _ hT)
  have e3 := ClsV.all k rv
  subst e3
  obtain ⟨oc, od2, dt, sl⟩ := o
  simp only at h2 h3
  subst h2 h3
  exact PySem.W.kia_tup (PySem.W.kitx_exc cls C.hg C.hk C.hs C.ha C.hn C.ht C.hm) I.kIn J h1 hk (fun z => nomatch z) fun tk => ⟨.bl b, H, I.kept (t' := tk) fun _ _ z => z, rfl, q⟩
end
end SX
/-! != of two lists of the very same values -/
namespace SX
open PySem PySem.Spec PyProof.Rows L2 Kx
section
variable {X : Cx}
theorem vals_both : ∀ {xs : List V} {us ws : List Value}, Vals xs us → Vals xs ws → ∀ (j : Nat) (h1 : j < us.length) (h2 : j < ws.length), ∃ x, x ∈ xs ∧ RelV x us[j] ∧ RelV x ws[j]
  | _, _, _, .cons a r, .cons b r', 0, _, _ => ⟨_, List.mem_cons_self, a, b⟩
  | _, _, _, .cons a r, .cons b r', j + 1, h1, h2 => by
    obtain ⟨x, hx, h⟩ := vals_both r r' j (by simpa using h1) (by simpa using h2)
    exact ⟨x, List.mem_cons_of_mem _ hx, h⟩
def rNeSame (K : PySem.W.Frag) : R2 := fun x y H Q => ∃ (p q : Addr) (xs : List V), x = .ref p ∧ y = .ref q ∧ SqL K H p xs ∧ SqL K H q xs ∧ (∀ v ∈ xs, flatB v = true ∨ ∃ a, v = .ref a) ∧ Q (.bl false) H
theorem op_neSame (hu : X.A.units + 64 < cLine) : OpR X (compareOp .NotEq) (rNeSame X.K) := by
  intro pins s σ H x y v u Q I rx ry h
  obtain ⟨p, q, xs, rfl, rfl, hp, hq, hs, qq⟩ := h
  cases (show v = Value.ref p from rx)
  cases (show u = Value.ref q from ry)
  obtain ⟨us, r1, p1, _⟩ := I.list hp
  obtain ⟨ws, r2, p2, _⟩ := I.list hq
  have hsz : us.toArray.size = ws.toArray.size := by
    rw [List.size_toArray, List.size_toArray, ← r1.length, ← r2.length]
  obtain ⟨⟨cls, dd, data, sl⟩, ho, hc, n, hd⟩ := id p1.isList
  obtain ⟨⟨cls2, dd2, data2, sl2⟩, ho2, hc2, n2, hd2⟩ := id p2.isList
  simp only at hc hd hc2 hd2
  subst hc hd hc2 hd2
  refine wpAny_richCompare_same_room (T := "list") (op := .NotEq) ⟨_, ho, rfl⟩ ⟨_, ho2, rfl⟩ F.slot_list_ne ?_ (by omega)
  refine call_meetsIn F.slot_list_ne ⟨_, ho, rfl⟩ F.entry_list_ne (F.args_list_ne_2 _ _) (fun A R s h => SeqAt.list_neAt p q us.toArray ws.toArray n n2 dd dd2 sl sl2 hsz (fun _ => true) _ _ A R s h) ⟨ho, ho2, fun j h1 h2 => ?_, ?_⟩
  · have h1' : j < us.length := by simpa using h1
    have h2' : j < ws.length := by simpa using h2
    obtain ⟨x, hx, ra, rb⟩ := vals_both r1 r2 j h1' h2'
    have ea : us.toArray[j] = us[j] := by simp
    have eb : ws.toArray[j] = ws[j] := by simp
    rw [ea, eb]
    rcases hs x hx with f | ⟨a, rfl⟩
    · exact eqAt_same ra rb f
    · rw [show us[j] = Value.ref a from ra, show ws[j] = Value.ref a from rb]
      exact SeqAt.EqAt.same _
  · rw [show ((List.range us.toArray.size).all fun _ => true) = true from List.all_eq_true.mpr fun _ _ => rfl]
    exact show Value.bool (!true) ≠ Value.notImplemented ∧ _ from ⟨(fun x => nomatch x), .bl false, H, I, rfl, qq⟩
end
end SX
/-! x.__class__.__name__, x an instance of a written class that has its name's object -/
namespace SupX
open PySem PySem.Spec PyProof.Rows L2 Kx SX
/-- what a class must have for its name to be read -/
structure CNm (K : PySem.W.Frag) (C : Addr) (nm : Str) : Prop where
  ic : PySem.W.isClsIn K C = true
  ca : PySem.W.findIn K (.ref C) "__class__" = some (some (.builtin "object.__class__"))
  cn : PySem.W.specialIn K (.builtin "object.__class__") "__get__" = some (some (.builtin "getset_descriptor.__get__"))
  ct : PySem.W.takesIn K (.builtin "object.__class__") = some true
  ob : PySem.W.mroIn K C (.type "object") = some true
  ty : PySem.W.typeIn K (.ref C) = some (.type "type")
  no : PySem.W.nsIn K cStatics "thirdparty.any" = some none
  sl : ∃ (oc : Value) (od : Option Addr) (cd : ClassData) (sl : Array (Option Value)) (tk : Tok), K.lookup C = some ⟨oc, od, .cls cd, sl⟩ ∧ sl[2]? = some (some (.str nm tk))
section
variable {prog : Program} {w : World} {A : Around} {s : Shared} {K : PySem.W.Frag} {R : Result → Shared → Prop} {C : Addr} {nm : Str}
theorem cname_get (X : K.In s.heap) (c : CNm K C nm) {tp : Value} (h : ∀ tk, R (.ok (.ret (.str nm tk))) s) :
    codeAny (model prog w) A (.call (.builtin "getset_descriptor.__get__") ⟨[.builtin "type.__name__", .ref C, tp], []⟩) R s := by
  obtain ⟨oc, od, cd, sl, tk, hl, h2⟩ := c.sl
  obtain ⟨hh, g, dr, t, os⟩ := s
  have hC := X _ _ hl
  have L0 : PySem.W.Looks (model prog w) hh (typeOf (.ref C)) (.type "type") := PySem.W.looks_typeIn X c.ty
  have L1 : PySem.W.Looks (model prog w) hh (isSubtype (.type "type") (.type "type")) true := PySem.W.Looks.of_pure (by rw [isSubtype_type]; kernel_rfl)
  refine codeAny_call_builtin PySem.W.KF.slot_gs.plain PySem.W.KF.entry_gs (PySem.W.KF.slot_gs.check _ _ _ _ _ _ _ _ PySem.W.ktyn_type (PySem.W.KF.args_gs _ _ _) ?_)
  unfold Builtin.«getset_descriptor.__get__» Builtin.Getset_descriptor.descrGet
  rw [PySem.W.dga_obj]
  refine wpAny_bind (wpAny_pure ?_)
  unfold Builtin.Getset_descriptor.descrGetter Builtin.Getset_descriptor.descrCheckInstance Builtin.Getset_descriptor.descrNameAndClass isInstance
  simp only [PySem.W.ktyn_owner]
  repeat lk
  refine ⟨Code.quiet_builtin _ (by decide +kernel), codeAny_builtin PySem.W.ktyn_entry ?_⟩
  unfold Builtin.«type.__name__» Builtin.keptObject PySem.slotAt
  repeat (first | (with_reducible refine wpAny_loadPart_at hC ?_) | wp_step | lk)
  dsimp only
  rw [h2]
  exact wpAny_pure (h tk)
theorem cname_attr (X : K.In s.heap) (c : CNm K C nm) {E : Value → Shared → Prop} {b : Bool} {Q : Value → Shared → Prop} (h : ∀ tk u, Q (.str nm tk) { s with toks := u }) : wpAny (model prog w) A (getAttr (.ref C) "__name__" b) Q E s := by
  have hg : PySem.W.findIn K (.type "type") "__getattribute__" = some (some (.builtin "type.__getattribute__")) := PySem.W.type_tga
  have e : PySem.W.findCls K (.ref C) (.type "type") "__name__" = some (.get (.builtin "getset_descriptor.__get__") (.builtin "type.__name__") (.ref C) (.type "type")) := by first | rfl | kernel_rfl
  refine PySem.W.cls_open X (PySem.W.looks_opaque X c.no) (PySem.W.looks_typeIn X c.ty) hg (PySem.W.looks_hook X (r := none) (by rfl)) (by show PySem.W.subIn K _ _ = _; rfl) e ?_
  show wpAny _ _ (do ret (← holding [Value.builtin "type.__name__"] (call (.builtin "getset_descriptor.__get__") [.builtin "type.__name__", .ref C, .type "type"]))) _ _ _
  refine wpAny_bind (wpAny_holding (wpAny_call (cname_get (s := { s with toks := s.toks + 1 }) X c fun tk => ?_)))
  exact wpAny_pure (PySem.W.handed_on rfl (h _ _))
theorem class_attr {x : Addr} {ox : Obj} {od : Obj} (X : K.In s.heap) (c : CNm K C nm) (hg : PySem.W.plainGet K C Str.empty = true) (I : PySem.W.InstAt s.heap x ox C (some od)) {E : Value → Shared → Prop} {b : Bool} {Q : Value → Shared → Prop} (h : ∀ u, Q (.ref C) { s with toks := u }) :
    wpAny (model prog w) A (getAttr (.ref x) "__class__" b) Q E s := by
  have hf : PySem.W.findObj K C (some od) "__class__" = some (.bind (.builtin "getset_descriptor.__get__") (.builtin "object.__class__")) := PySem.W.findObj_data c.ic c.ca c.cn c.ct
  refine PySem.W.get_bind X I (PySem.W.plainGet_of hg).1 hf (PySem.W.plainGet_of hg).2 ?_
  exact wpAny_call (PySem.W.class_get (s := { s with toks := s.toks + 1 }) (ox := ox) (od := some od) X I c.ob (PySem.W.handed_on rfl (h _)))end
section
variable {X : Cx} {ta : TE} {e : Expr} {pos : Pos}
theorem pe_class (he : PE X e ta) (hb : attributeBase e "__class__" X.env (eval e X.env) = eval e X.env := by rfl) :
    PE X (.Attribute e "__class__" pos) (fun σ H Q => ta σ H fun x H1 => ∃ (a C dx : Addr) (fs : List (Str × V)) (nm : Str), x = .ref a ∧ H1 a = some (.ins C dx fs) ∧ Cls X.K C ∧ CNm X.K C nm ∧ Q (.ref C) H1) := by
  refine ⟨fun pins s σ H Q I h => ?_⟩
  refine attr_of hb (thn (he.run pins s σ H _ I h) fun u s1 hh => ?_)
  obtain ⟨x, H1, I1, rx, a, C, dx, fs, nm, rfl, ha, cl, c, q⟩ := hh
  obtain rfl : u = Value.ref a := rx
  obtain ⟨mA, O, _, _, _, _⟩ := ins_get I1.hok ha
  obtain ⟨od, hod, _⟩ := lookIn_ns O.ns
  have J : PySem.W.InstAt s1.heap a (PySem.W.instObj C dx) C (some od) := ⟨O.obj, rfl, rfl, hod⟩
  exact class_attr I1.kIn c cl.pg J fun t => ⟨.ref C, H1, I1.kept (t' := t) fun _ _ z => z, rfl, q⟩
theorem pe_cname (he : PE X e ta) (hb : attributeBase e "__name__" X.env (eval e X.env) = eval e X.env := by rfl) :
    PE X (.Attribute e "__name__" pos) (fun σ H Q => ta σ H fun x H1 => ∃ (C : Addr) (nm : Str), x = .ref C ∧ CNm X.K C nm ∧ Q (.str nm) H1) := by
  refine ⟨fun pins s σ H Q I h => ?_⟩
  refine attr_of hb (thn (he.run pins s σ H _ I h) fun u s1 hh => ?_)
  obtain ⟨x, H1, I1, rx, C, nm, rfl, c, q⟩ := hh
  obtain rfl : u = Value.ref C := rx
  exact cname_attr I1.kIn c fun tk t => ⟨.str nm, H1, I1.kept (t' := t) fun _ _ z => z, ⟨tk, rfl⟩, q⟩
end
end SupX
/-! an __init__ that calls super: its values by keyword, backwards -/
namespace SupX
open PySem PySem.Spec PyProof.Rows L2 Kx SX
def selfBackG {α : Type} (us ws : List α) : List α := match us, ws with | [s], [c, b, a] => [s, a, b, c] | _, _ => []
theorem kbn_selfBack {K : PySem.W.Frag} {x qual : Str} {st : Stmt} {f D : Addr} {fd : FuncData} {z a b c : Str} (F : FunS K x qual st f fd D)
    (h : ∀ (kV doc pm : Value) (an : Option Addr) (cda cc : Addr) (ct : Value) (s u v w : Value), bindArgs (PySem.W.fnX x qual (defArgs st) (defBody st) (defScope st) [("__class__", cc)] .none kV doc pm an (.ref cda) ct) ⟨[s], [(c, w), (b, v), (a, u)]⟩ = pure [(z, s), (a, u), (b, v), (c, w)]) :
    KBn K fd [z, a, b, c] 1 [c, b, a] selfBackG selfBackG := by
  obtain ⟨oc, od, kV, doc, pm, an, cda, cc, ct, osl, rfl, _⟩ := F.ex
  refine ⟨fun s us ws X l1 l2 => ?_, fun {vs us zs ws} r1 r2 => ?_⟩
  · match us, ws, l1, l2 with
    | [s0], [w, v, u], _, _ => exact .of_eq (h kV doc pm an cda cc ct s0 u v w)
  · cases r1 with
    | nil => exact .nil
    | cons h0 r1 =>
      cases r1 with
      | cons _ _ => exact .nil
      | nil =>
        cases r2 with
        | nil => exact .nil
        | cons h1 r2 =>
          cases r2 with
          | nil => exact .nil
          | cons h2 r2 =>
            cases r2 with
            | nil => exact .nil
            | cons h3 r2 =>
              cases r2 with
              | nil => exact .cons h0 (.cons h3 (.cons h2 (.cons h1 .nil)))
              | cons _ _ => exact .nil
end SupX
/-! least ways between texts -/
namespace Lev
/-- one list is led to another by so many edits, side by side -/
inductive Aln : List Nat → List Nat → Nat → Prop
  | nil : Aln [] [] 0
  | lost {a b : List Nat} {x n : Nat} : Aln a b n → Aln (x :: a) b (n + 1)
  | put {a b : List Nat} {y n : Nat} : Aln a b n → Aln a (y :: b) (n + 1)
  | both {a b : List Nat} {x y n : Nat} : Aln a b n → Aln (x :: a) (y :: b) (n + if x = y then 0 else 1)
theorem Aln.refl : ∀ a : List Nat, Aln a a 0
  | [] => .nil
  | x :: a => by
    have := Aln.both (x := x) (y := x) (Aln.refl a)
    rw [if_pos rfl] at this
    exact this
theorem Aln.symm {a b : List Nat} {n : Nat} (h : Aln a b n) : Aln b a n := by
  induction h with
  | nil => exact .nil
  | lost _ ih => exact .put ih
  | put _ ih => exact .lost ih
  | @both a b x y n _ ih =>
    have := Aln.both (x := y) (y := x) ih
    by_cases e : x = y
    · subst e; exact this
    · rw [if_neg e]; rw [if_neg (Ne.symm e)] at this; exact this
theorem Aln.lens {a b : List Nat} {n : Nat} (h : Aln a b n) : a.length ≤ b.length + n ∧ b.length ≤ a.length + n := by
  induction h with
  | nil => simp
  | lost _ ih => simp only [List.length_cons]; omega
  | put _ ih => simp only [List.length_cons]; omega
  | both _ ih => simp only [List.length_cons]; split <;> omega
theorem Aln.trans : ∀ (k : Nat) (a b c : List Nat) (n m : Nat), a.length + b.length + c.length ≤ k → Aln a b n → Aln b c m → ∃ r, r ≤ n + m ∧ Aln a c r := by
  intro k
  induction k with
  | zero =>
    intro a b c n m hk h1 h2
    have ha : a = [] := List.eq_nil_of_length_eq_zero (by omega)
    have hc : c = [] := List.eq_nil_of_length_eq_zero (by omega)
    subst ha hc
    exact ⟨0, Nat.zero_le _, .nil⟩
  | succ k ih =>
    intro a b c n m hk h1 h2
    cases h1 with
    | nil => exact ⟨m, by omega, h2⟩
    | @lost a b x n h1 =>
      simp only [List.length_cons] at hk
      obtain ⟨r, hr, h⟩ := ih a b c n m (by omega) h1 h2
      exact ⟨r + 1, by omega, .lost h⟩
    | @put a b y n h1 =>
      cases h2 with
      | @lost _ c _ m h2 =>
        simp only [List.length_cons] at hk
        obtain ⟨r, hr, h⟩ := ih a b c n m (by omega) h1 h2
        exact ⟨r, by omega, h⟩
      | @put _ c z m h2 =>
        simp only [List.length_cons] at hk
        obtain ⟨r, hr, h⟩ := ih a (y :: b) c (n + 1) m (by simp only [List.length_cons]; omega) (.put h1) h2
        exact ⟨r + 1, by omega, .put h⟩
      | @both _ c _ z m h2 =>
        simp only [List.length_cons] at hk
        obtain ⟨r, hr, h⟩ := ih a b c n m (by omega) h1 h2
        exact ⟨r + 1, by omega, .put h⟩
    | @both a b x y n h1 =>
      cases h2 with
      | @lost _ c _ m h2 =>
        simp only [List.length_cons] at hk
        obtain ⟨r, hr, h⟩ := ih a b c n m (by omega) h1 h2
        exact ⟨r + 1, by omega, .lost h⟩
      | @put _ c z m h2 =>
        simp only [List.length_cons] at hk
        obtain ⟨r, hr, h⟩ := ih (x :: a) (y :: b) c _ m (by simp only [List.length_cons]; omega) (.both h1) h2
        exact ⟨r + 1, by omega, .put h⟩
      | @both _ c _ z m h2 =>
        simp only [List.length_cons] at hk
        obtain ⟨r, hr, h⟩ := ih a b c n m (by omega) h1 h2
        refine ⟨r + if x = z then 0 else 1, ?_, .both h⟩
        by_cases e1 : x = y
        · subst e1
          rw [if_pos rfl]
          omega
        · rw [if_neg e1]
          split <;> split <;> omega
/-- how many edits a least way has -/
def lev : List Nat → List Nat → Nat
  | [], b => b.length
  | _ :: a, [] => a.length + 1
  | x :: a, y :: b => min (min (lev a (y :: b) + 1) (lev (x :: a) b + 1)) (lev a b + if x = y then 0 else 1)
termination_by a b => a.length + b.length
theorem lev_nil (b : List Nat) : lev [] b = b.length := by rw [lev]
theorem lev_nil2 (a : List Nat) : lev a [] = a.length := by
  cases a with
  | nil => rw [lev]
  | cons x a => rw [lev]; rfl
theorem lev_cons (x y : Nat) (a b : List Nat) : lev (x :: a) (y :: b) = min (min (lev a (y :: b) + 1) (lev (x :: a) b + 1)) (lev a b + if x = y then 0 else 1) := by rw [lev]
theorem aln_nil : ∀ b : List Nat, Aln [] b b.length
  | [] => .nil
  | _ :: b => .put (aln_nil b)
theorem aln_nil2 : ∀ a : List Nat, Aln a [] a.length
  | [] => .nil
  | _ :: a => .lost (aln_nil2 a)
theorem lev_aln : ∀ (k : Nat) (a b : List Nat), a.length + b.length ≤ k → Aln a b (lev a b) := by
  intro k
  induction k with
  | zero =>
    intro a b hk
    have ha : a = [] := List.eq_nil_of_length_eq_zero (by omega)
    have hb : b = [] := List.eq_nil_of_length_eq_zero (by omega)
    subst ha hb
    rw [lev_nil]
    exact .nil
  | succ k ih =>
    intro a b hk
    cases a with
    | nil => rw [lev_nil]; exact aln_nil b
    | cons x a =>
      cases b with
      | nil => rw [lev_nil2]; exact aln_nil2 _
      | cons y b =>
        simp only [List.length_cons] at hk
        have h1 := ih a (y :: b) (by simp only [List.length_cons]; omega)
        have h2 := ih (x :: a) b (by simp only [List.length_cons]; omega)
        have h3 := ih a b (by omega)
        rw [lev_cons]
        rcases Nat.le_total (min (lev a (y :: b) + 1) (lev (x :: a) b + 1)) (lev a b + if x = y then 0 else 1) with e | e
        · rw [Nat.min_eq_left e]
          rcases Nat.le_total (lev a (y :: b) + 1) (lev (x :: a) b + 1) with e2 | e2
          · rw [Nat.min_eq_left e2]; exact .lost h1
          · rw [Nat.min_eq_right e2]; exact .put h2
        · rw [Nat.min_eq_right e]; exact .both h3
theorem lev_is (a b : List Nat) : Aln a b (lev a b) := lev_aln _ a b (Nat.le_refl _)
theorem lev_le {a b : List Nat} {n : Nat} (h : Aln a b n) : lev a b ≤ n := by
  induction h with
  | nil => rw [lev_nil]; exact Nat.le_refl _
  | @lost a b x n _ ih =>
    cases b with
    | nil => rw [lev_nil2] at ih ⊢; simp only [List.length_cons]; omega
    | cons y b => rw [lev_cons]; omega
  | @put a b y n _ ih =>
    cases a with
    | nil => rw [lev_nil] at ih ⊢; simp only [List.length_cons]; omega
    | cons x a => rw [lev_cons]; omega
  | @both a b x y n _ ih => rw [lev_cons]; omega
theorem lev_comm (a b : List Nat) : lev a b = lev b a := Nat.le_antisymm (lev_le (lev_is b a).symm) (lev_le (lev_is a b).symm)
theorem lev_tri (a b c : List Nat) : lev a c ≤ lev a b + lev b c := by
  obtain ⟨r, hr, h⟩ := Aln.trans _ a b c _ _ (Nat.le_refl _) (lev_is a b) (lev_is b c)
  exact Nat.le_trans (lev_le h) hr
theorem lev_self (a : List Nat) : lev a a = 0 := Nat.le_zero.mp (lev_le (Aln.refl a))
theorem aln_zero {a b : List Nat} {n : Nat} (h : Aln a b n) : n = 0 → a = b := by
  induction h with
  | nil => exact fun _ => rfl
  | lost _ _ => exact fun z => by omega
  | put _ _ => exact fun z => by omega
  | @both a b x y n _ ih =>
    intro z
    by_cases e : x = y
    · rw [if_pos e] at z
      rw [e, ih (by omega)]
    · rw [if_neg e] at z
      omega
theorem lev_zero {a b : List Nat} : lev a b = 0 ↔ a = b := ⟨fun z => aln_zero (lev_is a b) z, fun e => e ▸ lev_self a⟩
theorem lev_cut (x : Nat) (a b : List Nat) : lev (x :: a) b ≤ lev a b + 1 := lev_le (.lost (lev_is a b))
theorem lev_cut2 (x : Nat) (a b : List Nat) : lev a (x :: b) ≤ lev a b + 1 := lev_le (.put (lev_is a b))
theorem lev_add (x : Nat) (a b : List Nat) : lev a b ≤ lev (x :: a) b + 1 := by
  obtain ⟨r, hr, h⟩ := Aln.trans _ a (x :: a) b 1 _ (Nat.le_refl _) (.put (Aln.refl a)) (lev_is (x :: a) b)
  have := lev_le h
  omega
theorem lev_add2 (x : Nat) (a b : List Nat) : lev a b ≤ lev a (x :: b) + 1 := by
  rw [lev_comm a b, lev_comm a]
  exact lev_add x b a
/-- where both begin alike -/
theorem lev_eq (x : Nat) (a b : List Nat) : lev (x :: a) (x :: b) = lev a b := by
  have h1 := lev_add2 x a b
  have h2 := lev_add x a b
  rw [lev_cons, if_pos rfl]
  omega
theorem lev_ne {x y : Nat} (h : x ≠ y) (a b : List Nat) : lev (x :: a) (y :: b) = 1 + min (min (lev a b) (lev a (y :: b))) (lev (x :: a) b) := by
  rw [lev_cons, if_neg h]
  omega
theorem lev_top (a b : List Nat) : lev a b ≤ a.length + b.length := by
  have h1 := lev_tri a [] b
  rw [lev_nil, lev_nil2] at h1
  exact h1
/-- the numbers of the reckoning: the first i signs of one, the first j of the other -/
def D (one other : List Nat) (i j : Nat) : Nat := lev (one.take i).reverse (other.take j).reverse
theorem take_rev {l : List Nat} {i c : Nat} (h : l[i]? = some c) : (l.take (i + 1)).reverse = c :: (l.take i).reverse := by
  rw [List.take_add_one, h, List.reverse_append]
  rfl
theorem D_zero (one other : List Nat) {j : Nat} (h : j ≤ other.length) : D one other 0 j = j := by
  unfold D
  rw [List.take_zero, List.reverse_nil, lev_nil, List.length_reverse, List.length_take]
  omega
theorem D_zero2 (one other : List Nat) {i : Nat} (h : i ≤ one.length) : D one other i 0 = i := by
  unfold D
  rw [List.take_zero, List.reverse_nil, lev_nil2, List.length_reverse, List.length_take]
  omega
theorem D_eq {one other : List Nat} {i j c : Nat} (h1 : one[i]? = some c) (h2 : other[j]? = some c) : D one other (i + 1) (j + 1) = D one other i j := by
  unfold D
  rw [take_rev h1, take_rev h2, lev_eq]
theorem D_ne {one other : List Nat} {i j c d : Nat} (h1 : one[i]? = some c) (h2 : other[j]? = some d) (h : c ≠ d) : D one other (i + 1) (j + 1) = 1 + min (min (D one other i j) (D one other i (j + 1))) (D one other (i + 1) j) := by
  unfold D
  rw [take_rev h1, take_rev h2, lev_ne h]
theorem D_both {one other : List Nat} {i j c d : Nat} (h1 : one[i]? = some c) (h2 : other[j]? = some d) : D one other (i + 1) (j + 1) = min (min (D one other i (j + 1) + 1) (D one other (i + 1) j + 1)) (D one other i j + if c = d then 0 else 1) := by
  unfold D
  rw [take_rev h1, take_rev h2, lev_cons]
theorem D_top (one other : List Nat) (i j : Nat) : D one other i j ≤ i + j := by
  unfold D
  refine Nat.le_trans (lev_top _ _) ?_
  rw [List.length_reverse, List.length_reverse, List.length_take, List.length_take]
  omega
/-- how far apart two texts are -/
def far (one other : List Nat) : Nat := lev one.reverse other.reverse
theorem D_far (one other : List Nat) : D one other one.length other.length = far one other := by
  unfold D far
  rw [List.take_length, List.take_length]
theorem far_comm (a b : List Nat) : far a b = far b a := lev_comm _ _
theorem far_tri (a b c : List Nat) : far a c ≤ far a b + far b c := lev_tri _ _ _
theorem far_zero {a b : List Nat} : far a b = 0 ↔ a = b := by
  unfold far
  rw [lev_zero]
  exact ⟨fun h => by rw [← List.reverse_reverse a, h, List.reverse_reverse], fun h => by rw [h]⟩
theorem far_top (a b : List Nat) : far a b ≤ a.length + b.length := by
  unfold far
  refine Nat.le_trans (lev_top _ _) ?_
  rw [List.length_reverse, List.length_reverse]
  exact Nat.le_refl _
/-- side by side, with something in front that both have -/
theorem Aln.front (p : List Nat) {a b : List Nat} {n : Nat} (h : Aln a b n) : Aln (p ++ a) (p ++ b) n := by
  induction p with
  | nil => exact h
  | cons x p ih =>
    have := Aln.both (x := x) (y := x) ih
    rw [if_pos rfl] at this
    exact this
/-- one edit -/
theorem far_put (l r : List Nat) (c : Nat) : far (l ++ r) (l ++ [c] ++ r) ≤ 1 := by
  unfold far
  rw [List.reverse_append, List.reverse_append, List.reverse_append]
  exact lev_le (Aln.front _ (.put (Aln.refl _)))
theorem far_lost (l r : List Nat) (c : Nat) : far (l ++ [c] ++ r) (l ++ r) ≤ 1 := by
  rw [far_comm]
  exact far_put l r c
theorem far_chg (l r : List Nat) (c d : Nat) : far (l ++ [c] ++ r) (l ++ [d] ++ r) ≤ 1 := by
  unfold far
  rw [List.reverse_append, List.reverse_append, List.reverse_append, List.reverse_append]
  refine Nat.le_trans (lev_le (Aln.front _ (.both (x := c) (y := d) (Aln.refl l.reverse)))) ?_
  split <;> omega
end Lev
/-! super().__init__(e, *y) as the first thing that an own __init__(self, e, *y) does -/
namespace SupX
open PySem PySem.Spec PyProof.Rows L2 PySem.Calls
section
variable {M : Model} {A : Around} {c : Code} {E : Value → Shared → Prop} {s : Shared} {env : Env}
theorem ks_wpAt_MethodCallS {o : Expr} {name : Str} {apos pos : Pos} {args : List Expr} {Q : Value → Shared → Prop}
    (h : _root_.PySem.wpAt M A c (attributeBase o name env (eval o env)) (fun ov s₁ => wpAny M A (do pure (← getAttr ov name true, []) : Sem (Value × List Value)) (fun fx s₂ => wpAny M A (callWith pos fx.1 fx.2 (backTo pos (starEach args env)) []) Q E s₂) E s₁) E s)
    (he : eval (.Call (.Attribute o name apos) args [] pos) env = (do
      let ov ← attributeBase o name env (eval o env)
      standAt apos.atName
      let (f, first) ← holding [ov] (do pure (← getAttr ov name true, []))
      callWith pos f first (backTo pos (starEach args env)) []) := by rfl) :
    _root_.PySem.wpAt M A c (eval (.Call (.Attribute o name apos) args [] pos) env) Q E s := by
  rw [he]
  refine _root_.PySem.wpAt_bind (_root_.PySem.wpAt_mono h (fun ov s₁ h₁ => _root_.PySem.wpAt_of_wpAny (wpAny_bind (wpAny_standAt (wpAny_bind (wpAny_holding (wpAny_mono h₁ (fun fx s₂ h₂ => ?_) fun _ _ x => x)))))) fun _ _ x => x)
  exact h₂
end
section
open PySem.W
variable {prog : Program} {w : World} {M : Model} {A : Around} {E : Value → Shared → Prop} {h : Heap} {g : Array GenState} {d : Drawn} {t : Nat} {os : OsState}
theorem ks_wpAny_getAttr_super {so D x C f : Addr} {of : Obj} {l₀ l : List Value} {K : Frag} {name : Str} {Q : Value × List Value → Shared → Prop}
    (hso : h.get? so = some { cls := .type "super", dict := none, data := .fields #[.ref D, .ref x, .ref C], slots := #[] }) (hno : Looks (model prog w) h (opaqueClassAbove (.ref C)) none)
    (hC : Looks (model prog w) h (mroOf (.ref C)) l₀) (hl : (l₀.dropWhile (· != .ref D)).drop 1 = l) (X : K.In h)
    (hf : alongIn K name l = some (some (.ref f))) (hfo : h.get? f = some of) (hfc : of.cls = .type "function") (hxC : x ≠ C) (hn : (name == ("__class__" : Str)) = false)
    (hq : Q (.ref h.objs.size, []) ⟨h.push { cls := .type "method", data := .fields #[.ref f, .ref x] }, g, d, t + 1, os⟩) :
    wpAny (model prog w) A (do pure (← getAttr (.ref so) name true, []) : Sem (Value × List Value)) Q E ⟨h, g, d, t, os⟩ := by
  have hlk := F.ks_slot_super_ga.lookup
  have hT : ∀ t', (⟨h, g, d, t', os⟩ : Shared).TypeIs (.ref so) "super" := fun _ => ⟨_, hso, rfl⟩
  unfold getAttr getAttrBy
  refine wpAny_bind (wpAny_bind (wpAny_mkText (wpAny_holding (wpAny_bind (wpAny_typeOf (hT _) (wpAny_bind (wpAny_of_eq hlk ?_)))))))
  show wpAny _ _ (getAttrByItsOwn (.ref so) (.str name t) (.type "super") (.builtin "super.__getattribute__") true true) _ _ _
  unfold getAttrByItsOwn hookBefore callGetattribute boundAndCalled
  refine wpAny_bind (wpAny_of_eq (show (if onTheHeap (.type "super") then typeLookup (.type "super") "__getattr__" else pure none) = pure none from rfl) ?_)
  refine wpAny_bind (wpAny_attempt (wpAny_holding ?_))
  show wpAny _ _ (bindSpecial (.builtin "super.__getattribute__") (.ref so) >>= _) _ _ _
  refine wpAny_bind (wpAny_of_eq (F.ks_slot_super_ga.bind _) ?_)
  refine wpAny_mono (Q := fun v s' => v = .ref h.objs.size ∧ s' = ⟨h.push { cls := .type "method", data := .fields #[.ref f, .ref x] }, g, d, t + 1, os⟩) (E := fun _ _ => False)
    (wpAny_call_entry F.ks_slot_super_ga (hT _) F.ks_entry_super_ga (ks_wpAny_super_ga hso hno hC hl X hf hfo hfc hxC hn ⟨_, rfl, rfl, rfl⟩) (F.ks_gaArgs_super _ _)) (fun v s' hv => ?_) fun _ _ z => z.elim
  obtain ⟨rfl, rfl⟩ := hv
  exact wpAny_pure (wpAny_pure hq)
end
section
variable {X : Cx} {pins : List (Addr × Obj)} {σ : L2.St} {H : Hp} {s : Shared}
theorem callwith_cmS {g a q : Addr} {pos : Pos} {e : Expr} {es : List Expr} {Q : Value → Shared → Prop} {E : Value → Shared → Prop} {A : Around} (hf : PySem.W.fnIn X.K g = true)
    (h : wpAny (model X.prog X.w) A (spliced (backTo pos (starEach (e :: es) X.env))) (fun vs s₁ => PySem.W.MethP X.K q g (.ref a) s₁.heap ∧ wpAny (model X.prog X.w) A (call (.ref q) vs) Q E s₁) E s)
    (he : starEach (e :: es) X.env = (false, eval e X.env) :: starEach es X.env) (hpl : (backTo pos (starEach es X.env)).any (·.1) = true) :
    wpAny (model X.prog X.w) A (callWith pos (.ref q) [] (backTo pos (starEach (e :: es) X.env)) []) Q E s := by
  rw [he] at h ⊢
  exact PySem.W.ks_call (P := PySem.W.MethP X.K q g (.ref a)) (by show (false || (backTo pos (starEach es X.env)).any (·.1)) = true; rw [hpl]; rfl) (PySem.W.keeps_M hf) (Calls.evalArgs_plain h)
theorem super_callS {CX : CXT} {k : Nat} {a C D g dx : Addr} {fs : List (Str × V)} {me : Str} {sp : Sp} {E : XK} {Q : VK} {e : Expr} {es : List Expr} {t : TA} {p0 p1 apos pos : Pos} {body : List Stmt} (S : SupE X D me) (M : SupM X.K C D g) (I : Inv X pins σ H s)
    (h0 : σ[0]? = some (some (.ref a))) (ha : H a = some (.ins C dx fs)) (F : FnR X.prog X.w X.K X.mg X.base CX k g sp) (hr : Room k X.A) (hx : Passes CX X E) (hargs : PA X (e :: es) t) (h : t σ H fun vs H2 => sp (.ref a :: vs) H2 Q E)
    (hst : starEach (e :: es) X.env = (false, eval e X.env) :: starEach es X.env := by rfl) (hpl : (backTo pos (starEach es X.env)).any (·.1) = true := by rfl)
    (ht : eval (.Call (.Attribute (.Call (.Name "super" p0) [] [] p1) "__init__" apos) (e :: es) [] pos) X.env = (do
      let ov ← attributeBase (.Call (.Name "super" p0) [] [] p1) "__init__" X.env (eval (.Call (.Name "super" p0) [] [] p1) X.env)
      standAt apos.atName
      let (f, first) ← holding [ov] (do pure (← getAttr ov "__init__" true, []))
      callWith pos f first (backTo pos (starEach (e :: es) X.env)) []) := by rfl) :
    _root_.PySem.wpAt (model X.prog X.w) X.A (.func body X.env) (eval (.Call (.Attribute (.Call (.Name "super" p0) [] [] p1) "__init__" apos) (e :: es) [] pos) X.env) (EP X pins σ Q) X.xe s := by
  have KX := I.kIn
  obtain ⟨f, oc, od, fd, osl, ar, hf1, hf2, hf3, rfl⟩ := S.fn
  obtain ⟨cda, oc2, od2, vs, osl2, file, tf, hc1, hc2, hc3, hc4⟩ := S.code
  obtain ⟨cc, oc3, od3, osl3, hl1, hl2⟩ := S.cell
  obtain ⟨cdD, hD⟩ := S.clsD
  obtain ⟨oD, hD1, hD2⟩ : ∃ oD, s.heap.get? D = some oD ∧ oD.data = .cls cdD := by
    unfold PySem.W.clsIn at hD
    split at hD
    · rename_i c d cd' sl ho
      cases hD
      exact ⟨_, KX _ _ ho, rfl⟩
    · cases hD
  obtain ⟨mA, O, _, _, _, _⟩ := ins_get I.hok ha
  obtain ⟨m, ns, hm⟩ := I.loc
  obtain ⟨u, ru, lk⟩ := hm 0 _ _ S.n0 h0 (.inl S.ka)
  obtain rfl : u = Value.ref a := ru
  have hv : m ar.arg = some (.ref a) := by
    rcases lk with ⟨_, z⟩ | ⟨z | z, _⟩
    · exact z
    · rw [S.ka] at z
      cases z
    · rw [S.ka] at z
      cases z
  obtain ⟨mb, b1, b2⟩ := I.mod.blt
  refine ks_wpAt_MethodCallS (PySem.ks_wpAt_super_base (env := X.env) S.ks S.kc (by decide) hf1 (KX _ _ hf2) rfl hf3 hc1 (KX _ _ hc2) rfl hc3 hc4 S.top ?_) ht
  refine PySem.W.ks_loadName_global I.ok.kind S.ks (Calls.loadGlobal_builtin (by rw [I.ok.glob]; exact I.mod.glob.keeps I.bk) S.msup (by rw [I.ok.blt]; exact b1.keeps I.bk) ((b2 "super" (by decide)).trans boot_super) ⟨rfl, ?_⟩)
  refine wpAny_loadName_free I.ok.kind S.kc hl1 ⟨_, KX _ _ hl2, rfl⟩ ?_
  refine wpAny_loadName_local I.ok.kind S.ka ns hv ?_
  refine PySem.ks_wpAny_isType_cls hD1 hD2 ⟨rfl, ?_⟩
  obtain ⟨hh, gg, dd, tt, os⟩ := s
  refine PySem.ks_wpAny_call_super hD1 hD2 O.obj rfl (fun c z => by cases z) (PySem.W.looks_mroIn KX M.sub) (fun h' e1 k1 => ?_)
  have I1 : Inv X pins σ H ⟨h', gg, dd, tt, os⟩ := I.kept (t' := tt) k1
  have KX1 := I1.kIn
  obtain ⟨of, hof, hofc⟩ : ∃ of, h'.get? g = some of ∧ of.cls = .type "function" := by
    have ht' : (X.K.lookup g).map (·.cls) = some (.type "function") := M.ty
    cases z : X.K.lookup g with
    | none => rw [z] at ht'; cases ht'
    | some of => rw [z] at ht'; exact ⟨of, KX1 _ _ z, Option.some.inj ht'⟩
  have hm' := M.at_
  unfold PySem.W.ks_superIn at hm'
  cases hc : PySem.W.clsIn X.K C with
  | none => rw [hc] at hm'; cases hm'
  | some cd =>
    rw [hc] at hm'
    have hxC : a ≠ C := by
      rintro rfl
      unfold PySem.W.clsIn at hc
      split at hc
      · rename_i c d cd' sl ho
        have e := KX _ _ ho
        rw [O.obj] at e
        cases e
      · cases hc
    refine ks_wpAny_getAttr_super (name := "__init__") e1 (PySem.W.looks_opaque KX1 M.no) (l₀ := cd.mro) ?_ rfl KX1 hm' hof hofc hxC (by decide) ?_
    · exact fun A Q E s k q => wpAny_bind ((PySem.W.looks_clsIn KX1 hc) A _ E s k (wpAny_pure q))
    have I2 : Inv X ((h'.objs.size, PySem.W.methodObj (.ref g) (.ref a)) :: pins) σ H ⟨h'.push (PySem.W.methodObj (.ref g) (.ref a)), gg, dd, tt + 1, os⟩ := ClX.pin_new I1 (fun _ _ z => Heap.get?_push_of_some _ z) (Nat.le_refl _) (Heap.get?_push_size h' rfl) (fun v z => nomatch z)
    refine callwith_cmS M.fi (thn (hargs.run pos _ _ σ H _ I2 h) fun us s3 ⟨vs, H3, I3, rv, q2⟩ => ⟨⟨ClX.pin_at I3, I3.kIn⟩, ?_⟩) hst hpl
    exact ClX.run_cm F hr hx I3 rv q2
end
open NdefX
section
variable {CX CX2 : CXT} {P : Program} {w : World} {K : PySem.W.Frag} {mg : Str → Option Value} {base : Heap} {k k2 : Nat} {f cc cda D g : Addr} {name qual me : Str} {params : Arguments} {body rest : List Stmt} {scope : Scope} {dV kV doc pm ct oc : Value} {an od : Option Addr}
  {osl : Array (Option Value)} {N ps : List Str} {sp sp2 : Sp} {E2 : XK} {e : Expr} {es : List Expr} {p0 p1 apos pos pos2 : Pos}
theorem fn_superS {pv : Str} (lk : K.lookup f = some ⟨oc, od, .func (PySem.W.fnX name qual params body scope [("__class__", cc)] dV kV doc pm an (.ref cda) ct), osl⟩) (hcd : PySem.W.codeIn K (.ref cda) qual = true) (S : NScope N (ps ++ [pv]) ["__class__"] scope) (hCX : StX.CXUp CX)
    (hb : ∀ us rest : List Value, us.length = ps.length → bindArgs (PySem.W.fnX name qual params body scope [("__class__", cc)] dV kV doc pm an (.ref cda) ct) ⟨us ++ rest, []⟩ = (newTuple rest >>= fun t => pure (ps.zip us ++ [(pv, t)])))
    (hB : body = .Expr (.Call (.Attribute (.Call (.Name "super" p0) [] [] p1) "__init__" apos) (e :: es) [] pos) pos2 :: rest)
    (hc : ∃ (ocl : Value) (odl : Option Addr) (osl2 : Array (Option Value)), K.lookup cc = some ⟨ocl, odl, .cell (some (.ref D)), osl2⟩)
    (F : FnR P w K mg base CX2 k2 g sp2) (hk : k2 ≤ k)
    (hbody : ∀ (A : Around) (outer : List Env) (s : Shared) (H : Hp) (vs : List V) (Q : VK) (E : XK), Room k (A.deeper (envF ⟨name, qual, params, body, scope, [("__class__", cc)], cda⟩ f s.heap.objs.size)) → sp vs H Q E →
      ∃ (a C dx : Addr) (fs : List (Str × V)) (t : TA) (u : TS), SupE (ncx CX P w K mg base N ⟨name, qual, params, body, scope, [("__class__", cc)], cda⟩ f A outer s H E) D me ∧ SupM K C D g ∧ Passes CX2 (ncx CX P w K mg base N ⟨name, qual, params, body, scope, [("__class__", cc)], cda⟩ f A outer s H E) E2 ∧
        (startF N vs [none])[0]? = some (some (.ref a)) ∧ H a = some (.ins C dx fs) ∧ PA (ncx CX P w K mg base N ⟨name, qual, params, body, scope, [("__class__", cc)], cda⟩ f A outer s H E) (e :: es) t ∧ PSs (ncx CX P w K mg base N ⟨name, qual, params, body, scope, [("__class__", cc)], cda⟩ f A outer s H E) rest u ∧
        t (startF N vs [none]) H fun ws H2 => sp2 (.ref a :: ws) H2 (fun _ H3 => u { nx := fun _ H' => Q .non H', rt := Q } (startF N vs [none]) H3) E2)
    (hst : ∀ env : Env, starEach (e :: es) env = (false, eval e env) :: starEach es env := by intros; rfl) (hpl : ∀ env : Env, (backTo pos (starEach es env)).any (·.1) = true := by intros; rfl)
    (ht : ∀ env : Env, eval (.Call (.Attribute (.Call (.Name "super" p0) [] [] p1) "__init__" apos) (e :: es) [] pos) env = (do
      let ov ← attributeBase (.Call (.Name "super" p0) [] [] p1) "__init__" env (eval (.Call (.Name "super" p0) [] [] p1) env)
      standAt apos.atName
      let (f, first) ← holding [ov] (do pure (← getAttr ov "__init__" true, []))
      callWith pos f first (backTo pos (starEach (e :: es) env)) []) := by intros; rfl)
    (hi : ∀ env : Env, env.scope.kind = .function → interactive env = false := by intros; rfl) (hs : ∀ env : Env, swapsWith (.Call (.Attribute (.Call (.Name "super" p0) [] [] p1) "__init__" apos) (e :: es) [] pos) none pos2.line env = pure false := by intros; rfl) :
    FnR P w K mg base CX (k + 1) f (fun vs H Q E => ∃ ws rst, vs = ws ++ rst ∧ ws.length = ps.length ∧ rst.length ≤ sizeLine ∧ ∀ p, H p = Option.none → sp (ws ++ [V.ref p]) (upd H p (.tup rst)) Q E) := by
  intro A outer s H us vs Q E hr e0 r hsp
  obtain ⟨ws, rst, ev, hl0, hz, hsp⟩ := hsp
  subst ev
  obtain ⟨u1, u2, eu, r1, r2⟩ := StX.vals_split r
  subst eu
  have hn : H s.heap.objs.size = Option.none := e0.hok.fresh (Nat.le_refl _)
  have hl1 : u1.length = ps.length := by rw [← r1.length]; exact hl0
  have hl2 : u2.length ≤ sizeLine := by rw [← r2.length]; exact hz
  have new : ObjOk P w (upd H s.heap.objs.size (.tup rst)) (s.heap.push ({ cls := .type "tuple", data := .seq u2.toArray } : Obj)) s.heap.objs.size (.tup rst) := ⟨hz, u2, r2, ⟨_, Heap.get?_push_size _ rfl, rfl, _, rfl⟩⟩
  have un := StX.un_laid (fs := frs outer) (s := s) (o := ({ cls := .type "tuple", data := .seq u2.toArray } : Obj)) (u := .tup rst) hn
  have e2 := StX.env0_laid e0 new
  have kp0 : ∀ b o, s.heap.get? b = some o → (s.heap.push ({ cls := .type "tuple", data := .seq u2.toArray } : Obj)).get? b = some o := fun b o q => Heap.get?_push_of_some _ q
  have hx0 : ∀ e s', CX outer (upd H s.heap.objs.size (.tup rst)) { s with heap := s.heap.push ({ cls := .type "tuple", data := .seq u2.toArray } : Obj) } E e s' → CX outer H s E e s' := fun e s' => hCX outer s H { s with heap := s.heap.push ({ cls := .type "tuple", data := .seq u2.toArray } : Obj) } _ E e s' un kp0 rfl
  have hsp2 := hsp _ hn
  have rr : Vals (ws ++ [V.ref s.heap.objs.size]) (u1 ++ [Value.ref s.heap.objs.size]) := r1.append (.cons rfl .nil)
  have hl : (ws ++ [V.ref s.heap.objs.size]).length = (ps ++ [pv]).length := by rw [List.length_append, List.length_append, hl0]; rfl
  have KX : K.In s.heap := e0.mod.kin.keeps fun b o e => (e0.bs b o e).1
  have KX2 : K.In (s.heap.push ({ cls := .type "tuple", data := .seq u2.toArray } : Obj)) := KX.keeps kp0
  have lim : (s.heap.push ({ cls := .type "tuple", data := .seq u2.toArray } : Obj)).NoLimit := (e0.mod.nolimit.keeps fun b o e => (e0.bs b o e).1).keeps kp0
  obtain ⟨ocl, odl, osl2, hc⟩ := hc
  have C : CellsAt [(("__class__" : Str), cc)] ["__class__"] [none] (s.heap.push ({ cls := .type "tuple", data := .seq u2.toArray } : Obj)) (upd H s.heap.objs.size (.tup rst)) := by
    refine ⟨rfl, fun y c h => ?_, fun x y c h1 h2 => ?_, fun i y h => ?_⟩
    · have : c = cc := by
        simp only [List.lookup] at h
        split at h
        · exact (Option.some.inj h).symm
        · cases h
      subst this
      exact ⟨(e2.bs _ _ (e2.mod.kin _ _ hc)).2, _, _, KX2 _ _ hc, rfl⟩
    · simp only [List.lookup] at h1 h2
      split at h1
      · rename_i z1
        split at h2
        · rename_i z2
          exact (beq_iff_eq.mp z1).trans (beq_iff_eq.mp z2).symm
        · cases h2
      · cases h1
    · match i, h with
      | 0, h =>
        cases h
        exact ⟨cc, by simp [List.lookup], fun v z => by cases z⟩
  refine codeAny_call_function hr.depth (KX _ _ lk) rfl S.co S.gen rfl (PySem.W.codeRec_of KX hcd) ?_
  rw [hb u1 u2 hl1]
  refine wpAny_bind (wpAny_newTuple (wpAny_pure ?_) hl2)
  rw [show ps.zip u1 ++ [(pv, Value.ref s.heap.objs.size)] = (ps ++ [pv]).zip (u1 ++ [Value.ref s.heap.objs.size]) from by rw [List.zip_append hl1.symm]; rfl]
  refine wpAny_newFunctionEnv S.nocell (fun ⟨n, _⟩ hy => S.par n (List.of_mem_zip hy).1) (fun h₁ hns hsb => ⟨lim.fresh _ hsb, ?_⟩) S.kind
  show codeAny _ _ (.func body (envF ⟨name, qual, params, body, scope, [("__class__", cc)], cda⟩ f (s.heap.push ({ cls := .type "tuple", data := .seq u2.toArray } : Obj)).objs.size)) _ _
  have kp : ∀ b o, (s.heap.push ({ cls := .type "tuple", data := .seq u2.toArray } : Obj)).get? b = some o → h₁.get? b = some o := fun b o e => hsb.extBut b o (Nat.ne_of_lt (Heap.lt_size e)) (Heap.get?_push_of_some _ e)
  obtain ⟨a, C', dx, fs, t, u, SE, SM, hx, h0, ha, hA, hu, hq⟩ := hbody A outer { s with heap := (s.heap.push ({ cls := .type "tuple", data := .seq u2.toArray } : Obj)) } (upd H s.heap.objs.size (.tup rst)) (ws ++ [V.ref s.heap.objs.size]) Q E (hr.deeper _) hsp2
  have I : Inv (ncx CX P w K mg base N ⟨name, qual, params, body, scope, [("__class__", cc)], cda⟩ f A outer { s with heap := (s.heap.push ({ cls := .type "tuple", data := .seq u2.toArray } : Obj)) } (upd H s.heap.objs.size (.tup rst)) E) [] (startF N (ws ++ [V.ref s.heap.objs.size]) [none]) (upd H s.heap.objs.size (.tup rst)) { s with heap := h₁, toks := s.toks + ((ps ++ [pv]).zip (u1 ++ [Value.ref s.heap.objs.size])).length } := inv_startN S hr.hd e2 hl rr C hns kp
  refine PySem.ks_codeAny_funcAt ?_
  have z := super_callS (body := body) SE SM I h0 ha (F.mono hk) (hr.deeper _) hx hA hq (hst _) (hpl _) (ht _)
  rw [hB] at z ⊢
  refine PySem.ks_wpAt_execs_cons (PySem.ks_wpAt_Expr_any (PySem.ks_wpAt_mono z (fun v s' hs => ?_) fun e s' he => wpAny_mono he (fun _ s'' z => hx0 e s'' z) fun e' s'' z => hx0 e' s'' z) (hi _ S.kind) (hs _))
  obtain ⟨_, H', J, _, q⟩ := hs
  refine wpAt_of_wpAny (wpAny_mono (hu.run [] s' (startF N (ws ++ [V.ref s.heap.objs.size]) [none]) H' _ J q) (fun fl s2 hs => ?_) fun e s2 hs => wpAny_mono hs (fun _ s'' z => hx0 e s'' z) fun e' s'' z => hx0 e' s'' z)
  have fin : ∀ {σ' : L2.St} {H' : Hp} {v : V} {u : Value}, Inv (ncx CX P w K mg base N ⟨name, qual, params, body, scope, [("__class__", cc)], cda⟩ f A outer { s with heap := (s.heap.push ({ cls := .type "tuple", data := .seq u2.toArray } : Obj)) } (upd H s.heap.objs.size (.tup rst)) E) [] σ' H' s2 → L2.RelV v u → Q v H' → CE outer P w H s Q u s2 :=
    fun {σ' H' v u} J rv q => ⟨v, H', J.os, J.bare, un.trans J.base, J.hok, rv, q⟩
  cases fl with
  | ret u =>
    obtain ⟨v, σ', H', J, rv, q⟩ := hs
    exact fin J rv q
  | next =>
    obtain ⟨σ', H', J, q⟩ := hs
    exact fin (v := V.non) (u := Value.none) J rfl q
  | brk =>
    obtain ⟨_, _, _, q⟩ := hs
    exact False.elim q
  | cont =>
    obtain ⟨_, _, _, q⟩ := hs
    exact False.elim q
end
section
variable {P : Program} {w : World} {K : PySem.W.Frag} {mg : Str → Option Value} {base : Heap}
/-- the rule for such an __init__ -/
theorem FunS.okS [PaperP P] {x qual me pv : Str} {st : Stmt} {f D g : Addr} {fd : FuncData} {N ps : List Str} {k k2 : Nat} {sp sp2 : Sp} {e : Expr} {es : List Expr} {p0 p1 apos pos pos2 : Pos} {rest : List Stmt} (F : FunS K x qual st f fd D) (S : NScope N (ps ++ [pv]) ["__class__"] (defScope st))
    (hb : ∀ (cc cda : Addr) (kV doc pm : Value) (an : Option Addr) (ct : Value) (us rst : List Value), us.length = ps.length → bindArgs (PySem.W.fnX x qual (defArgs st) (defBody st) (defScope st) [("__class__", cc)] .none kV doc pm an (.ref cda) ct) ⟨us ++ rst, []⟩ = (newTuple rst >>= fun t => pure (ps.zip us ++ [(pv, t)])))
    (hB : defBody st = .Expr (.Call (.Attribute (.Call (.Name "super" p0) [] [] p1) "__init__" apos) (e :: es) [] pos) pos2 :: rest)
    (hsu : (defScope st).names.lookup ("super" : Str) = some .globalImplicit) (hme : N[0]? = some me) (hlo : (defScope st).names.lookup me = some .local) (har : ∃ ar : Arg, ((defArgs st).posonlyargs ++ (defArgs st).args).head? = some ar ∧ ar.arg = me)
    (hms : mg "super" = none) (hD : ∃ cdD, PySem.W.clsIn K D = some cdD) (G : FnR P w K mg base CX0 k2 g sp2) (hk : k2 ≤ k)
    (hbody : ∀ (cda cc : Addr) (A : Around) (outer : List Env) (s : Shared) (H : Hp) (vs : List V) (Q : VK) (E : XK), Room k (A.deeper (envF ⟨x, qual, defArgs st, defBody st, defScope st, [("__class__", cc)], cda⟩ f s.heap.objs.size)) → sp vs H Q E →
      ∃ (a C dx : Addr) (fs : List (Str × V)) (t : TA) (u : TS), SupM K C D g ∧ (startF N vs [none])[0]? = some (some (.ref a)) ∧ H a = some (.ins C dx fs) ∧ PA (ncx CX0 P w K mg base N ⟨x, qual, defArgs st, defBody st, defScope st, [("__class__", cc)], cda⟩ f A outer s H E) (e :: es) t ∧ PSs (ncx CX0 P w K mg base N ⟨x, qual, defArgs st, defBody st, defScope st, [("__class__", cc)], cda⟩ f A outer s H E) rest u ∧
        t (startF N vs [none]) H fun ws H2 => sp2 (.ref a :: ws) H2 (fun _ H3 => u { nx := fun _ H' => Q .non H', rt := Q } (startF N vs [none]) H3) E0)
    (hst : ∀ env : Env, starEach (e :: es) env = (false, eval e env) :: starEach es env := by intros; rfl) (hpl : ∀ env : Env, (backTo pos (starEach es env)).any (·.1) = true := by intros; rfl)
    (ht : ∀ env : Env, eval (.Call (.Attribute (.Call (.Name "super" p0) [] [] p1) "__init__" apos) (e :: es) [] pos) env = (do
      let ov ← attributeBase (.Call (.Name "super" p0) [] [] p1) "__init__" env (eval (.Call (.Name "super" p0) [] [] p1) env)
      standAt apos.atName
      let (f, first) ← holding [ov] (do pure (← getAttr ov "__init__" true, []))
      callWith pos f first (backTo pos (starEach (e :: es) env)) []) := by intros; rfl)
    (hs : ∀ env : Env, swapsWith (.Call (.Attribute (.Call (.Name "super" p0) [] [] p1) "__init__" apos) (e :: es) [] pos) none pos2.line env = pure false := by intros; rfl) :
    FnR P w K mg base CX0 (k + 1) f (fun vs H Q E => ∃ ws rst, vs = ws ++ rst ∧ ws.length = ps.length ∧ rst.length ≤ sizeLine ∧ ∀ p, H p = Option.none → sp (ws ++ [V.ref p]) (upd H p (.tup rst)) Q E) := by
  obtain ⟨oc, od, kV, doc, pm, an, cda, cc, ct, osl, rfl, lk, hcd, hc, oc2, od2, vs2, osl3, tf, hv, h2⟩ := F.ex
  refine fn_superS (me := me) (E2 := E0) lk hcd S StX.cxUp_none (hb cc cda kV doc pm an ct) hB hc G hk (fun A outer s H vs Q E hr h => ?_) hst hpl ht (fun env hk => ?_) hs
  · obtain ⟨a, C, dx, fs, t, u, SM, h0, ha, hA, hu, hq⟩ := hbody cda cc A outer s H vs Q E hr h
    obtain ⟨ar, har1, har2⟩ := har
    refine ⟨a, C, dx, fs, t, u, ⟨hsu, S.frk _ (List.mem_singleton.mpr rfl), hlo, hme, ?_, ?_, ?_, PaperP.top (P := P), hms, hD⟩, SM, pass0, h0, ha, hA, hu, hq⟩
    · exact ⟨f, oc, od, _, osl, ar, rfl, lk, har1, har2⟩
    · exact ⟨cda, oc2, od2, vs2, osl3, _, tf, rfl, hv, h2, PaperP.file (P := P)⟩
    · obtain ⟨ocl, odl, osl2, hc⟩ := hc
      exact ⟨cc, ocl, odl, osl2, rfl, hc⟩
  · unfold interactive
    rw [hk]
    rfl
end
end SupX
/-! repr of True and False; one value by keyword for an __init__ that calls super -/
namespace Kx
open PySem PySem.Spec PyProof.Rows L2 SX LamX
section
variable {X : Cx}
/-- repr of a truth -/
def rReprB : List V → Hp → VK → Prop := fun xs H Q => ∃ b : Bool, xs = [.bl b] ∧ Q (.str (if b = true then "True" else "False")) H
theorem call_reprB : CallR X (.builtin "repr") rReprB := by
  intro pins s σ H xs us Q I r h
  obtain ⟨b, rfl, q⟩ := h
  obtain ⟨u, rfl, hu⟩ := vals1 r
  obtain rfl : u = Value.bool b := hu
  cases b with
  | true => exact PySem.P.repr_of_bool ⟨.str "True", H, I.tok _, ⟨_, rfl⟩, q⟩
  | false => exact PySem.P.repr_of_bool ⟨.str "False", H, I.tok _, ⟨_, rfl⟩, q⟩
end
end Kx
namespace SupX
open PySem PySem.Spec PyProof.Rows L2 Kx SX
theorem kbn_self {K : PySem.W.Frag} {x qual : Str} {st : Stmt} {f D : Addr} {fd : FuncData} {z a : Str} (F : FunS K x qual st f fd D)
    (h : ∀ (kV doc pm : Value) (an : Option Addr) (cda cc : Addr) (ct : Value) (s u : Value), bindArgs (PySem.W.fnX x qual (defArgs st) (defBody st) (defScope st) [("__class__", cc)] .none kV doc pm an (.ref cda) ct) ⟨[s], [(a, u)]⟩ = pure [(z, s), (a, u)]) :
    KBn K fd [z, a] 1 [a] selfG selfG := by
  obtain ⟨oc, od, kV, doc, pm, an, cda, cc, ct, osl, rfl, _⟩ := F.ex
  refine ⟨fun s us ws X l1 l2 => ?_, fun {vs us zs ws} r1 r2 => ?_⟩
  · match us, ws, l1, l2 with
    | [s0], [u], _, _ => exact .of_eq (h kV doc pm an cda cc ct s0 u)
  · cases r1 with
    | nil => exact .nil
    | cons h0 r1 =>
      cases r1 with
      | cons _ _ => exact .nil
      | nil =>
        cases r2 with
        | nil => exact .nil
        | cons h1 r2 =>
          cases r2 with
          | nil => exact .cons h0 (.cons h1 .nil)
          | cons _ _ => exact .nil
end SupX
namespace Kx
open PySem PySem.Spec PyProof.Rows L2 SX LamX
/-! ### a dict of the top with text keys whose values are written tuples -/
structure KTab (K : PySem.W.Frag) (w : World) (d : Addr) (kv : List (Str × List V)) : Prop where
  dic : He.dicW K d = some (He.keysIn w.params (kv.map (·.1)))
  val : ∀ p ∈ kv, ∃ a, PySem.W.nsIn K d p.1 = some (some (.ref a)) ∧ ∀ H, SqT K H a p.2
theorem ktab_nil {K : PySem.W.Frag} {d : Addr} : ∀ p ∈ ([] : List (Str × List V)), ∃ a, PySem.W.nsIn K d p.1 = some (some (.ref a)) ∧ ∀ H, SqT K H a p.2 := fun _ h => nomatch h
theorem ktab_cons {K : PySem.W.Frag} {d : Addr} {x : Str} {v : List V} {kv : List (Str × List V)} (h : ∃ a, PySem.W.nsIn K d x = some (some (.ref a)) ∧ ∀ H, SqT K H a v)
    (r : ∀ p ∈ kv, ∃ a, PySem.W.nsIn K d p.1 = some (some (.ref a)) ∧ ∀ H, SqT K H a p.2) : ∀ p ∈ (x, v) :: kv, ∃ a, PySem.W.nsIn K d p.1 = some (some (.ref a)) ∧ ∀ H, SqT K H a p.2 := fun p hp => by
  rcases List.mem_cons.mp hp with rfl | hp
  · exact h
  · exact r p hp
theorem keyOf_some {e : DictEntry} {x : Str} {z : Int} (h : He.keyOf e = some (x, z)) : ∃ t, e.key = .str x t := by
  unfold He.keyOf at h
  split at h
  · rename_i y t q
    cases h
    exact ⟨t, q⟩
  · cases h
theorem nsIn_none {K : PySem.W.Frag} {P : Params} {d : Addr} {ks : List Str} (h : He.dicW K d = some (He.keysIn P ks)) {z : Str} (hz : z ∉ ks) : PySem.W.nsIn K d z = some none := by
  unfold He.dicW at h
  unfold PySem.W.nsIn
  cases q : K.lookup d with
  | none =>
    rw [q] at h
    cases h
  | some o =>
    obtain ⟨oc, od, dt, osl⟩ := o
    rw [q] at h
    cases dt with
    | dict es n =>
      have hm : es.toList.map He.keyOf = He.keysIn P ks := by
        cases oc with
        | type c =>
          cases od with
          | none =>
            have h1 : (match decide (c = "dict") && (osl.isEmpty && !(d == sysModules)) with
              | true => some (es.toList.map He.keyOf)
              | false => none) = some (He.keysIn P ks) := h
            split at h1
            · exact Option.some.inj h1
            · cases h1
          | some b => cases h
        | _ => cases od <;> cases h
      have hk : ∀ e ∈ es.toList, ∃ x t, e.key = .str x t ∧ x ∈ ks := fun e he => by
        have : He.keyOf e ∈ es.toList.map He.keyOf := List.mem_map_of_mem he
        rw [hm] at this
        obtain ⟨x, hx, ex⟩ := List.mem_map.mp this
        obtain ⟨t, ht⟩ := keyOf_some ex.symm
        exact ⟨x, t, ht, hx⟩
      have h1 : es.toList.find? (fun e => e.key.isStr z) = none := List.find?_eq_none.mpr fun e he hs => by
        obtain ⟨x, t, ek, hx⟩ := hk e he
        rw [ek, PySem.W.isStr_of] at hs
        have : x = z := by
          have : (decide (x = z)) = true := by simpa [Value.isStrOf] using hs
          exact of_decide_eq_true this
        exact hz (this ▸ hx)
      have h2 : es.toList.any (fun e => e.refKey) = false := by
        rw [List.any_eq_false]
        intro e he
        obtain ⟨x, t, ek, hx⟩ := hk e he
        simp [DictEntry.refKey, ek]
      dsimp only
      rw [h1]
      dsimp only
      rw [h2]
      rfl
    | _ =>
      cases oc <;> cases od <;> cases h
section
variable {X : Cx}
theorem op_inT : OpR X (compareOp .In) (fun x y H Q => ∃ (z : Str) (d : Addr) (kv : List (Str × List V)), x = .str z ∧ y = .ref d ∧ KTab X.K X.w d kv ∧ Q (.bl (decide (z ∈ kv.map (·.1)))) H) := by
  intro pins s σ H x y v u Q I rx ry h
  obtain ⟨z, d, kv, ex, ey, D, q⟩ := h
  obtain ⟨es, n, kd⟩ := He.dicW_ok D.dic
  refine op_in_kd kd pins s σ H x y v u Q I rx ry ?_
  by_cases m : z ∈ kv.map (·.1)
  · obtain ⟨p, hp, rfl⟩ := List.mem_map.mp m
    obtain ⟨a, ha, _⟩ := D.val p hp
    rw [decide_eq_true m] at q
    exact ⟨_, _, ex, ey, ha, q⟩
  · rw [decide_eq_false m] at q
    exact ⟨_, _, ex, ey, nsIn_none D.dic m, q⟩
theorem op_notInT : OpR X (compareOp .NotIn) (fun x y H Q => ∃ (z : Str) (d : Addr) (kv : List (Str × List V)), x = .str z ∧ y = .ref d ∧ KTab X.K X.w d kv ∧ Q (.bl (!decide (z ∈ kv.map (·.1)))) H) := by
  intro pins s σ H x y v u Q I rx ry h
  obtain ⟨z, d, kv, ex, ey, D, q⟩ := h
  obtain ⟨es, n, kd⟩ := He.dicW_ok D.dic
  refine op_notIn_kd kd pins s σ H x y v u Q I rx ry ?_
  by_cases m : z ∈ kv.map (·.1)
  · obtain ⟨p, hp, rfl⟩ := List.mem_map.mp m
    obtain ⟨a, ha, _⟩ := D.val p hp
    rw [decide_eq_true m] at q
    exact ⟨_, _, ex, ey, ha, q⟩
  · rw [decide_eq_false m] at q
    exact ⟨_, _, ex, ey, nsIn_none D.dic m, q⟩
def rIxT (K : PySem.W.Frag) (w : World) : R2 := fun x y H Q => ∃ (d : Addr) (kv : List (Str × List V)) (z : Str) (ks : List V), x = .ref d ∧ y = .str z ∧ KTab K w d kv ∧ (z, ks) ∈ kv ∧ ∀ a, (∀ H', SqT K H' a ks) → Q (.ref a) H
theorem ix_kT : IxR X (rIxT X.K X.w) := by
  intro value slice pins s σ H x y v u Q I rx ry h hs
  obtain ⟨d, kv, z, ks, ex, ey, D, hm, q⟩ := h
  obtain ⟨es, n, kd⟩ := He.dicW_ok D.dic
  obtain ⟨a, ha, hq⟩ := D.val _ hm
  exact ix_kdict (X := X) value slice pins s σ H x y v u Q I rx ry ⟨d, z, .ref a, ex, ey, ⟨es, n, .ref a, kd.at_, kd.lit, ha, rfl⟩, q a hq⟩ hs
end
/-! ### zip of a tuple with a list or a tuple -/
def ItzN (K : PySem.W.Frag) (a b : Addr) : It where
  go i H := ∃ (xs ys : List V) (x y : V), SqT K H a xs ∧ SqL K H b ys ∧ xs[i]? = some x ∧ ys[i]? = some y
  yld i H v H' := ∃ T x y, v = .ref T ∧ H T = none ∧ H' = upd H T (.tup [x, y]) ∧ (∀ xs, SqT K H a xs → xs[i]? = some x) ∧ ∀ ys, SqL K H b ys → ys[i]? = some y
  stop i H := ∃ xs ys : List V, SqT K H a xs ∧ SqL K H b ys ∧ i = min xs.length ys.length
theorem turn_zipN {P : Program} {w : World} {K : PySem.W.Frag} {elts : List Expr} {kk : Nat} {tpos : Pos} {a b z TI TO i1 i2 : Addr} (D : Aps z TI TO i1 i2 a b) :
    Turn P w K (.Tuple elts kk tpos) (ItzN K a b) [z, TI, TO, i1, i2] z (fun i h => IsZip h z TI TO .none ∧ IsTupOf2 h TI (.ref i1) (.ref i2) ∧ (∃ x y, IsTupOf2 h TO x y) ∧ h.IsTupleIter i1 a i ∧ h.IsListIter i2 b i) where
  mem := List.mem_cons_self
  obj := fun i h ⟨hz, hI, ⟨x, y, hO⟩, ⟨o1, e1, _, d1⟩, ⟨o2, e2, _, d2⟩⟩ c hc => by
    simp only [List.mem_cons, List.not_mem_nil, or_false] at hc
    rcases hc with rfl | rfl | rfl | rfl | rfl
    · exact ⟨_, hz, fun v q => by cases q⟩
    · exact ⟨_, hI, fun v q => by cases q⟩
    · exact ⟨_, hO, fun v q => by cases q⟩
    · exact ⟨o1, e1, fun v q => by rw [d1] at q; cases q⟩
    · exact ⟨o2, e2, fun v q => by rw [d2] at q; cases q⟩
  keep := fun i h h' ⟨hz, hI, ⟨x, y, hO⟩, h1, h2⟩ k =>
    ⟨k z (by simp) _ hz, k TI (by simp) _ hI, ⟨x, y, k TO (by simp) _ hO⟩, h1.at fun o => k i1 (by simp) o, h2.at fun o => k i2 (by simp) o⟩
  item := by
    intro X hP hw hK hc i pins s σ H E I hf st hg
    subst hP hw hK
    obtain ⟨hz, hI, ⟨x0, y0, hO⟩, h1, h2⟩ := st
    obtain ⟨xs, ys, x, y, hqx, hqy, hx, hy⟩ := hg
    obtain ⟨us, rv, pl, _⟩ := I.tuple hqx
    obtain ⟨vs, rw_, pt, _⟩ := I.list hqy
    obtain ⟨u, hu, ru⟩ := rv.get hx
    obtain ⟨v, hv, rv'⟩ := rw_.get hy
    have lz : z < s.heap.objs.size := Heap.lt_size hz
    have hd : X.A.in1.handled = none := I.ok.hd hc
    have iu := (List.getElem?_eq_some_iff.mp hu).1
    have iv := (List.getElem?_eq_some_iff.mp hv).1
    refine wpAny_pyNext_zipD2_item D.s (Draws.tuple hd i1 a D.a1 us.toArray) (Draws.list hd i2 b D.b2 vs.toArray) hz hI hO ⟨h1, pl⟩ ⟨h2, pt.isList⟩ (by simpa using iu) (by simpa using iv) fun x1 x2 g tk e1 e2 g1 g2 g3 g4 g5 g6 gk => ?_
    have hu' : us.toArray[i]? = some u := by simpa using hu
    have hv' : vs.toArray[i]? = some v := by simpa using hv
    rw [hu'] at e1
    rw [hv'] at e2
    cases e1
    cases e2
    refine ⟨_, rfl, wpAny_letOwnedTupleGo_zip (s := { s with heap := g, toks := tk }) g1 fun k k1 sb => ?_⟩
    have kT : k.get? s.heap.objs.size = some { cls := .type "tuple", data := .seq #[u, v] } := (sb.2 _ (Nat.ne_of_gt lz)).trans g5
    have lt : ∀ c ∈ [z, TI, TO, i1, i2], c < s.heap.objs.size := fun c hc => by
      simp only [List.mem_cons, List.not_mem_nil, or_false] at hc
      rcases hc with rfl | rfl | rfl | rfl | rfl
      · exact lz
      · exact Heap.lt_size hI
      · exact Heap.lt_size hO
      · obtain ⟨_, e, _⟩ := h1
        exact Heap.lt_size e
      · obtain ⟨_, e, _⟩ := h2
        exact Heap.lt_size e
    have J : Inv X pins σ (upd H s.heap.objs.size (.tup [x, y])) { s with heap := k, toks := tk } :=
      I.turnedNew (t' := tk) (ch := [z, TI, TO, i1, i2]) (fun c o hb q => by
        simp only [List.mem_cons, List.not_mem_nil, or_false, not_or] at hb
        exact (sb.2 c hb.1).trans (gk c o hb.1 hb.2.2.1 hb.2.2.2.1 hb.2.2.2.2 q)) hf (Nat.le_refl _) ⟨by show 2 ≤ sizeLine; decide, [u, v], .cons ru (.cons rv' .nil), ⟨_, kT, rfl, _, rfl⟩⟩
    refine ⟨.ref s.heap.objs.size, _, J, rfl, ⟨_, x, y, rfl, I.hok.fresh (Nat.le_refl _), rfl, fun l hl => by rw [I.tuple_inj hl hqx]; exact hx, fun l hl => by rw [I.list_inj hl hqy]; exact hy⟩,
      ⟨k1, (sb.2 _ D.s.TIz).trans (gk _ _ D.s.TIz D.s.TITO D.s.TIi1 D.s.TIi2 hI), ⟨u, v, (sb.2 _ D.s.TOz).trans g2⟩, g3.1.at fun o q => (sb.2 _ D.s.zi1.symm).trans q, g4.1.at fun o q => (sb.2 _ D.s.zi2.symm).trans q⟩, fun c hc => ?_⟩
    rw [upd_ne (Nat.ne_of_lt (lt c hc))]
    exact (hf c hc).1
  done := by
    intro X hP hw hK hc i pins s σ H E I hf st hg
    subst hP hw hK
    obtain ⟨hz, hI, ⟨x0, y0, hO⟩, h1, h2⟩ := st
    obtain ⟨xs, ys, hqx, hqy, hend⟩ := hg
    obtain ⟨us, rv, pl, _⟩ := I.tuple hqx
    obtain ⟨vs, rw_, pt, _⟩ := I.list hqy
    have l1 := rv.length
    have l2 := rw_.length
    have hd : X.A.in1.handled = none := I.ok.hd hc
    exact wpAny_pyNext_zipD2_end D.s (Draws.tuple hd i1 a D.a1 us.toArray) (Draws.list hd i2 b D.b2 vs.toArray) hz hI hO ⟨h1, pl⟩ ⟨h2, pt.isList⟩ (by simp; omega) (by simp; omega) (by simp; omega) fun g tk gk =>
      ⟨rfl, I.turnedL (t' := tk) (ch := [z, TI, TO, i1, i2]) (fun c o hb q => by
        simp only [List.mem_cons, List.not_mem_nil, or_false, not_or] at hb
        exact gk c o hb.1 hb.2.2.1 hb.2.2.2.1 hb.2.2.2.2 q) hf⟩
  self := fun A i s Q E st h => wpAny_pyIter_zip st.1 h
/-- zip(TUPLE, LIST OR TUPLE) -/
def iZipN (K : PySem.W.Frag) (ta : TA) : TI := fun σ H R => ta σ H fun vs H1 => ∃ a b xs ys, vs = [.ref a, .ref b] ∧ SqT K H1 a xs ∧ ((SqL K H1 b ys ∧ R (ItzN K a b) H1) ∨ (SqT K H1 b ys ∧ R (RZ.ItzT K a b) H1))
theorem pi_zipN {X : Cx} {e e2 : Expr} {ta : TA} {p pos tpos : Pos} {elts : List Expr} {kk : Nat} (hg : Gl X "zip") (hm : X.mg "zip" = none) (ha : PA X [e, e2] ta)
    (st : starEach [e, e2] X.env = (false, eval e X.env) :: starEach [e2] X.env := by rfl) (pl : (backTo pos (starEach [e2] X.env)).any (·.1) = false := by rfl) :
    PI X (.Tuple elts kk tpos) (.Call (.Name "zip" p) [e, e2] [] pos) (iZipN X.K ta) := by
  constructor
  intro pins s σ H R I h
  refine Call_ (ld_blt I hg hm PyProof.Rows.boot_zip (PyProof.Rows.callWith_type1 (thn (ha.run pos pins s σ H _ I h) fun us s1 hq => ?_) st pl))
  obtain ⟨vs, H1, I1, r1, a, b, xs, ys, rfl, hx, q⟩ := hq
  obtain ⟨ua, ub, rfl, ra, rb⟩ : ∃ x y, us = [x, y] ∧ RelV (.ref a) x ∧ RelV (.ref b) y := by
    match us, r1 with
    | [x, y], .cons h1 (.cons h2 .nil) => exact ⟨x, y, rfl, h1, h2⟩
  cases ra
  cases rb
  have up : ∀ c, s1.heap.objs.size ≤ c → FpOk X pins H1 c := fun c l => I1.fpOk l (I1.hok.fresh l)
  have ups : ∀ c ∈ [s1.heap.objs.size + 4, s1.heap.objs.size + 2, s1.heap.objs.size + 3, s1.heap.objs.size, s1.heap.objs.size + 1], FpOk X pins H1 c := fun c m => up c (by
    simp only [List.mem_cons, List.not_mem_nil, or_false] at m
    rcases m with e | e | e | e | e <;> rw [e] <;> first | exact Nat.le_refl _ | exact Nat.le_add_right _ _)
  obtain ⟨us, rv, pa, _⟩ := I1.tuple hx
  have la : a < s1.heap.objs.size := by
    obtain ⟨_, e, _⟩ := id pa
    exact Heap.lt_size e
  rcases q with ⟨hy, q⟩ | ⟨hy, q⟩
  · obtain ⟨vs, rw_, pb, _⟩ := I1.list hy
    refine zip_begins2 (begins_tuple a us.toArray) (begins_list b vs.toArray) pa pb.isList fun g g1 g2 g3 g4 g5 _ gk => wpAny_pyIter_zip g1 ?_
    exact ⟨_, [s1.heap.objs.size + 4, s1.heap.objs.size + 2, s1.heap.objs.size + 3, s1.heap.objs.size, s1.heap.objs.size + 1], _, _, H1, rfl, I1.kept (t' := s1.toks) gk, turn_zipN (aps_new la pb.lt), ⟨g1, g2, ⟨_, _, g3⟩, ⟨_, g4, rfl, rfl⟩, ⟨_, g5, rfl, rfl⟩⟩, ups, q⟩
  · obtain ⟨vs, rw_, pb, _⟩ := I1.tuple hy
    have lb : b < s1.heap.objs.size := by
      obtain ⟨_, e, _⟩ := id pb
      exact Heap.lt_size e
    refine RZ.call_zipT (show s1.heap.IsTuple a us.toArray from pa) (show s1.heap.IsTuple b vs.toArray from pb) fun h' hz hTI hTO h1 h2 hsz hk => wpAny_pyIter_zip hz ?_
    exact ⟨_, [s1.heap.objs.size + 4, s1.heap.objs.size + 2, s1.heap.objs.size + 3, s1.heap.objs.size, s1.heap.objs.size + 1], _, _, H1, rfl, I1.kept (t' := s1.toks) hk, RZ.turn_zipT (PySem.W.ktu_apart _ a b la lb), ⟨hz, hTI, ⟨_, _, hTO⟩, h1, h2⟩, ups, q⟩
theorem walk_zipN {K : PySem.W.Frag} {a b : Addr} {xs ys : List V} {n : Nat} (hn : n = min xs.length ys.length) : Walk (ItzN K a b) n (fun H => SqT K H a xs ∧ SqL K H b ys) (YPair (fun i => xs[i]?) (fun i => ys[i]?)) where
  goes i H hi q := ⟨xs, ys, xs[i]'(by omega), ys[i]'(by omega), q.1, q.2, List.getElem?_eq_getElem (by omega), List.getElem?_eq_getElem (by omega)⟩
  stops H q := ⟨xs, ys, q.1, q.2, hn⟩
  yields i H v H' _ q y := by
    obtain ⟨T, x, z, h1, h2, h3, h4, h5⟩ := y
    exact ⟨T, x, z, h1, h2, h3, h4 xs q.1, h5 ys q.2⟩
theorem walk_zipTT {K : PySem.W.Frag} {a b : Addr} {xs ys : List V} {n : Nat} (hn : n = min xs.length ys.length) : Walk (RZ.ItzT K a b) n (fun H => SqT K H a xs ∧ SqT K H b ys) (YPair (fun i => xs[i]?) (fun i => ys[i]?)) where
  goes i H hi q := ⟨xs, ys, xs[i]'(by omega), ys[i]'(by omega), q.1, q.2, List.getElem?_eq_getElem (by omega), List.getElem?_eq_getElem (by omega)⟩
  stops H q := ⟨xs, ys, q.1, q.2, by omega⟩
  yields i H v H' _ q y := by
    obtain ⟨T, x, z, h1, h2, h3, h4, h5⟩ := y
    exact ⟨T, x, z, h1, h2, h3, h4 xs q.1, h5 ys q.2⟩
/-! ### x in a tuple of lists -/
section
variable {X : Cx}
def rInDT (K : PySem.W.Frag) : R2 := fun x y H Q => ∃ d ds, Dp K H x d ∧ Dp K H y (.tuple ds) ∧ SeqAt.shaped d = true ∧ SeqAt.shaped (.tuple ds) = true ∧ PyData.depthAll ds ≤ 8 ∧ Q (.bl (ds.any fun z => PyData.eqv z d)) H
theorem op_inDT (hu : X.A.units + 64 < cLine) : OpR X (compareOp .In) (rInDT X.K) := by
  intro pins s σ H x y v u Q I rx ry h
  obtain ⟨d, ds, hd, he, sd, se, hl, q⟩ := h
  obtain ⟨as, r1⟩ := Dp.reads I d x v hd rx
  obtain ⟨bs, r2⟩ := Dp.reads I (.tuple ds) y u he ry
  refine SeqAt.in_tuple_reads r2 r1 (SeqAt.canLay_of_shaped se) (SeqAt.canLay_of_shaped sd) ?_ ⟨.bl _, H, I, rfl, q⟩
  have := Nat.min_le_left (PyData.depthAll ds) d.depth
  omega
/-- str(x) of a text or of an int -/
inductive StrOf : V → Str → Prop
  | txt (a : Str) : StrOf (.str a) a
  | num (i : Int) (h : i.natAbs.log2 < 1920) : StrOf (.int i) (toString i)
theorem call_strE : CallR X (.type "str") (fun xs H Q => ∃ x a, xs = [x] ∧ StrOf x a ∧ Q (.str a) H) := by
  intro pins s σ H xs us Q I r h
  obtain ⟨x, a, e, so, q⟩ := h
  cases so with
  | txt => exact SkE.call_str_str pins s σ H xs us Q I r ⟨_, e, q⟩
  | num i hz => exact call_str_int pins s σ H xs us Q I r ⟨_, e, hz, q⟩
end
end Kx
namespace Kx
open PySem PySem.Spec PyProof.Rows L2 SX LamX
/-! ### a heap without one place, without two -/
def er (a : Addr) (H : Hp) : Hp := fun b => if b = a then none else H b
theorem er_le {a : Addr} {H : Hp} : Same (er a H) H := fun b o h => by
  unfold er at h
  split at h
  · cases h
  · exact h
theorem er_at {a b : Addr} {H : Hp} {o : HO} (n : b ≠ a) (h : H b = some o) : er a H b = some o := by
  unfold er
  rw [if_neg n]
  exact h
theorem er_mv {a : Addr} {H H' : Hp} (m : Mv a H H') : Same (er a H) (er a H') := fun b o h => by
  by_cases n : b = a
  · unfold er at h
    rw [if_pos n] at h
    cases h
  · exact er_at n (m b o n (er_le _ _ h))
theorem er_same {a : Addr} {H H' : Hp} (e : Same H H') : Same (er a H) (er a H') := er_mv (Mv.of e)
theorem wh_same {H H' : Hp} {a c : Addr} {n : Nat} (e : Same H H') (w : Wh H a c n) : Wh H' a c n := by
  obtain ⟨cs, t, l, h1, h2, h3⟩ := w
  exact ⟨cs, t, l, e _ _ h1, e _ _ h2, h3⟩
def er2 (b a : Addr) (H : Hp) : Hp := er b (er a H)
theorem er2_le {a b : Addr} {H : Hp} : Same (er2 b a H) H := er_le.trans er_le
theorem er2_at {a b p : Addr} {H : Hp} {o : HO} (n : p ≠ a ∧ p ≠ b) (h : H p = some o) : er2 b a H p = some o := er_at n.2 (er_at n.1 h)
theorem er2_mvx {a b : Addr} {H H' : Hp} (m : Mv a H H') : Same (er2 b a H) (er2 b a H') := er_same (er_mv m)
theorem er2_samex {a b : Addr} {H H' : Hp} (e : Same H H') : Same (er2 b a H) (er2 b a H') := er_same (er_same e)
theorem mk_part2v {K : PySem.W.Frag} {C : Addr} {f1 f2 : Str} {σ : L2.St} {H : Hp} {Q : XK} {v z : V} {i : Nat} (hi : σ[i]? = some (some z)) (o : OexC K C) (n : PySem.W.findIn K (.ref C) f1 = some none) (n2 : PySem.W.findIn K (.ref C) f2 = some none)
    (q : ∀ d H', Same H H' → H' d = some (.xd [(f2, z), (f1, v)]) → Q (.ref C) (some d) H') : tMkO C (sp_init2 K f1 f2) [] (tCons (tC v) (tCons (tVar i) tNil)) σ H Q :=
  ⟨z, hi, (mk_part2 (σ := σ) o n n2 q : tMkO C (sp_init2 K f1 f2) [] (tCons (tC v) (tCons (tC z) tNil)) σ H Q)⟩
/-! ### xs[1:] of a list or tuple -/
def tCut (K : PySem.W.Frag) (k : Nat) : TE := tSl (fun x lo hi H Q => rSlL K x lo hi H Q ∨ rSlT K x lo hi H Q) (tVar k) (tPart (tC (.int 1))) tNoPart
section
variable {K : PySem.W.Frag} {a b : Addr} {xs ys : List V} {g : TG} {tt : TT} {te : TE} {vs : List Nat} {σ : L2.St} {H : Hp} {k l : Nat} {Q : VK}
theorem cut_one (xs : List V) : cutV xs (some 1) none = xs.drop 1 := cut_from xs 1
theorem cutL (hi : σ[k]? = some (some (.ref a))) (hq : SqL K H a xs) (q : ∀ p, H p = none → Q (.ref p) (upd H p (.lst (xs.drop 1)))) : tCut K k σ H Q :=
  ⟨_, hi, 1, rfl, .inl ⟨a, xs, rfl, hq, fun p np => by rw [cut_one]; exact q p np⟩⟩
theorem cutT (hi : σ[k]? = some (some (.ref a))) (hq : SqT K H a xs) (ne : xs ≠ []) (q : ∀ p, H p = none → Q (.ref p) (upd H p (.tup (xs.drop 1)))) : tCut K k σ H Q :=
  ⟨_, hi, 1, rfl, .inr ⟨a, xs, rfl, hq, fun z => by
    have h1 : HT.sIx xs.length 0 (some ((1 : Nat) : Int)) = min 1 xs.length := HT.sIx_nat ..
    have h2 : HT.sIx xs.length 0 (some 1) = min 1 xs.length := h1
    have : 0 < xs.length := List.length_pos_iff.mpr ne
    rw [h2] at z
    omega, fun p np => by rw [cut_one]; exact q p np⟩⟩
theorem cutQ (hi : σ[k]? = some (some (.ref a))) (hq : SqQ K H a xs) (ne : xs ≠ []) (q : ∀ p H', Same H H' → SqQ K H' p (xs.drop 1) → Q (.ref p) H') : tCut K k σ H Q := by
  rcases hq with h | h
  · exact cutL hi h fun p np => q p _ (same_new np) (.inl (.inl (.inl upd_same)))
  · exact cutT hi h ne fun p np => q p _ (same_new np) (.inr (.inl (.inl upd_same)))
/-- [e for x in xs[1:]] -/
theorem lc_cut (zs : List V) (hz : zs.length = (xs.drop 1).length) (hi : σ[k]? = some (some (.ref a))) (hq : SqQ K H a xs) (ne : xs ≠ []) (len : xs.length ≤ 100000)
    (turn : ∀ (i : Nat) (x z : V) (Hc : Hp) (Q' : VK) (R' : Hp → Prop), (xs.drop 1)[i]? = some x → zs[i]? = some z → Same H Hc → (∀ H4, Same Hc H4 → Q' z H4) → g x (wipe σ vs) Hc fun σ2 H2 => wipe σ2 vs = wipe σ vs ∧ tt σ2 H2 fun b H3 => if b = true then te σ2 H3 Q' else R' H3)
    (fin : ∀ (D : Addr) (Hc : Hp), Same H Hc → Hc D = some (.lst zs) → Q (.ref D) Hc) :
    tLc (fun σ H R => iList K (tCut K k) σ H R ∨ iTup K (tCut K k) σ H R) g tt te vs σ H Q := by
  have len2 : (xs.drop 1).length ≤ 100000 := by rw [List.length_drop]; omega
  rcases hq with h | h
  · refine .inl (cutL hi h fun p np => ⟨p, rfl, ⟨_, .inl (.inl upd_same)⟩, fun D nD => lc_out walk_list zs hz nD len2 (fun Hc e => e.seq (.inl (.inl upd_same))) (fun i x z Hc Hx Q' R' _ hzi e y q => ?_) (fun Hc e hD => fin D Hc ((same_new np).trans e) hD)⟩)
    obtain ⟨rfl, hx⟩ := y
    exact turn i x z _ Q' R' hx hzi ((same_new np).trans e) q
  · refine .inr (cutT hi h ne fun p np => ⟨p, rfl, ⟨_, .inl (.inl upd_same)⟩, fun D nD => lc_out walk_tup zs hz nD len2 (fun Hc e => Same.t e (.inl (.inl upd_same))) (fun i x z Hc Hx Q' R' _ hzi e y q => ?_) (fun Hc e hD => fin D Hc ((same_new np).trans e) hD)⟩)
    obtain ⟨rfl, hx⟩ := y
    exact turn i x z _ Q' R' hx hzi ((same_new np).trans e) q
/-- [e for x, y in zip(TUPLE, xs[1:])] -/
theorem lc_zipC (zs : List V) (hz : zs.length = min ys.length (xs.drop 1).length) (hj : σ[l]? = some (some (.ref b))) (hp : SqT K H b ys) (hi : σ[k]? = some (some (.ref a))) (hq : SqQ K H a xs) (ne : xs ≠ []) (len : xs.length ≤ 100000)
    (turn : ∀ (i : Nat) (x y z : V) (t : Addr) (Hc : Hp) (Q' : VK) (R' : Hp → Prop), ys[i]? = some x → (xs.drop 1)[i]? = some y → zs[i]? = some z → Same H Hc → Hc t = some (.tup [x, y]) → (∀ H4, Same Hc H4 → Q' z H4) → g (.ref t) (wipe σ vs) Hc fun σ2 H2 => wipe σ2 vs = wipe σ vs ∧ tt σ2 H2 fun b H3 => if b = true then te σ2 H3 Q' else R' H3)
    (fin : ∀ (D : Addr) (Hc : Hp), Same H Hc → Hc D = some (.lst zs) → Q (.ref D) Hc) :
    tLc (iZipN K (tCons (tVar l) (tCons (tCut K k) tNil))) g tt te vs σ H Q := by
  have len2 : min ys.length (xs.drop 1).length ≤ 100000 := by rw [List.length_drop]; omega
  refine ⟨_, hj, ?_⟩
  rcases hq with h | h
  · refine cutL hi h fun p np => ⟨b, p, ys, xs.drop 1, rfl, Same.t (same_new np) hp, .inl ⟨.inl (.inl upd_same), fun D nD => lc_out (walk_zipN rfl) zs hz nD len2 (fun Hc e => ⟨Same.t ((same_new np).trans e) hp, e.seq (.inl (.inl upd_same))⟩) (fun i x z Hc Hx Q' R' _ hzi e y q => ?_) (fun Hc e hD => fin D Hc ((same_new np).trans e) hD)⟩⟩
    obtain ⟨t, x', y', rfl, nt, rfl, e1, e2⟩ := y
    exact turn i x' y' z t _ Q' R' e1 e2 hzi (((same_new np).trans e).trans (same_new nt)) upd_same (fun H4 e4 => q H4 ((same_new nt).trans e4))
  · refine cutT hi h ne fun p np => ⟨b, p, ys, xs.drop 1, rfl, Same.t (same_new np) hp, .inr ⟨.inl (.inl upd_same), fun D nD => lc_out (walk_zipTT rfl) zs hz nD len2 (fun Hc e => ⟨Same.t ((same_new np).trans e) hp, Same.t e (.inl (.inl upd_same))⟩) (fun i x z Hc Hx Q' R' _ hzi e y q => ?_) (fun Hc e hD => fin D Hc ((same_new np).trans e) hD)⟩⟩
    obtain ⟨t, x', y', rfl, nt, rfl, e1, e2⟩ := y
    exact turn i x' y' z t _ Q' R' e1 e2 hzi (((same_new np).trans e).trans (same_new nt)) upd_same (fun H4 e4 => q H4 ((same_new nt).trans e4))
end
/-! ### a test that is «a if c else b» -/
def tIfT (tc ta tb : TT) : TT := fun σ H Q => tc σ H fun b H1 => if b = true then ta σ H1 Q else tb σ H1 Q
theorem pt_ifT {X : Cx} {c a b : Expr} {pos : Pos} {tc ta tb : TT} (hc : PT X c tc) (ha : PT X a ta) (hb : PT X b tb) : PT X (.IfExp c a b pos) (tIfT tc ta tb) := by
  refine ⟨fun pins s σ H Q I h => ?_⟩
  refine isTrue_IfExp (thn (hc.run pins s σ H _ I h) fun d s1 ⟨H1, I1, q1⟩ => ?_)
  cases d with
  | true => exact ha.run pins s1 σ H1 Q I1 q1
  | false => exact hb.run pins s1 σ H1 Q I1 q1
theorem go_ifT {tc ta tb : TT} {σ : L2.St} {H : Hp} {Q : Bool → Hp → Prop} (h : tc σ H fun b H1 => if b = true then ta σ H1 Q else tb σ H1 Q) : tIfT tc ta tb σ H Q := h
theorem inK_call_isiX {X : Cx} {K : PySem.W.Frag} (e : X.K = K) : CallR X (.builtin "isinstance") (rIsiX K) := e ▸ call_isiX
theorem inK_pe_xp {X : Cx} {K : PySem.W.Frag} {e : Expr} {te : TE} {n : Str} {pos : Pos} (q : X.K = K) (he : PE X e te) (hb : attributeBase e n X.env (eval e X.env) = eval e X.env := by rfl) : PE X (.Attribute e n pos) (tXp K n te) := q ▸ pe_xp he hb
end Kx
namespace K34
open PySem PySem.Spec PyProof.Rows L2 Kx SX LamX Ms
def topS (i : Nat) : Stmt := PySem.Challenge.pw_anyletter_k34_lines_and_their_parts.main.body.getD i (.Pass ⟨0, 0, 0, 0⟩)
abbrev s_is_list : Stmt := topS 1
theorem sc_is_list : FnScope ["value"] ["value"] (defScope s_is_list) := ⟨rfl, rfl, rfl, by decide +kernel, rfl, by decide +kernel, by decide +kernel⟩
abbrev s_is_integer : Stmt := topS 2
theorem sc_is_integer : FnScope ["value"] ["value"] (defScope s_is_integer) := ⟨rfl, rfl, rfl, by decide +kernel, rfl, by decide +kernel, by decide +kernel⟩
abbrev s_is_within : Stmt := topS 3
theorem sc_is_within : FnScope ["value", "least", "most"] ["value", "least", "most"] (defScope s_is_within) := ⟨rfl, rfl, rfl, by decide +kernel, rfl, by decide +kernel, by decide +kernel⟩
abbrev s_are_letters : Stmt := topS 4
theorem sc_are_letters : FnScope ["text"] ["text"] (defScope s_are_letters) := ⟨rfl, rfl, rfl, by decide +kernel, rfl, by decide +kernel, by decide +kernel⟩
abbrev s_is_name : Stmt := topS 16
theorem sc_is_name : FnScope ["value"] ["value"] (defScope s_is_name) := ⟨rfl, rfl, rfl, by decide +kernel, rfl, by decide +kernel, by decide +kernel⟩
abbrev s_is_digits : Stmt := topS 17
theorem sc_is_digits : FnScope ["value"] ["value"] (defScope s_is_digits) := ⟨rfl, rfl, rfl, by decide +kernel, rfl, by decide +kernel, by decide +kernel⟩
abbrev s_is_plain : Stmt := topS 18
theorem sc_is_plain : FnScope ["value"] ["value"] (defScope s_is_plain) := ⟨rfl, rfl, rfl, by decide +kernel, rfl, by decide +kernel, by decide +kernel⟩
abbrev s_kinds_behind : Stmt := topS 19
theorem sc_kinds_behind : FnScope ["kind", "item"] ["kind", "item"] (defScope s_kinds_behind) := ⟨rfl, rfl, rfl, by decide +kernel, rfl, by decide +kernel, by decide +kernel⟩
abbrev s_fault_in : Stmt := topS 20
theorem sc_fault_in : FnScope ["items", "wanted", "place", "behind"] ["items"] (defScope s_fault_in) := ⟨rfl, rfl, rfl, by decide +kernel, rfl, by decide +kernel, by decide +kernel⟩
abbrev s_plain_of : Stmt := topS 21
theorem sc_plain_of : FnScope ["item"] ["item"] (defScope s_plain_of) := ⟨rfl, rfl, rfl, by decide +kernel, rfl, by decide +kernel, by decide +kernel⟩
abbrev s_worth_of : Stmt := topS 22
theorem sc_worth_of : FnScope ["items"] ["items"] (defScope s_worth_of) := ⟨rfl, rfl, rfl, by decide +kernel, rfl, by decide +kernel, by decide +kernel⟩
abbrev s_parts_of_items : Stmt := topS 23
theorem sc_parts_of_items : FnScope ["items", "parts", "place", "kind"] ["items"] (defScope s_parts_of_items) := ⟨rfl, rfl, rfl, by decide +kernel, rfl, by decide +kernel, by decide +kernel⟩
abbrev s_parts_of : Stmt := topS 24
theorem sc_parts_of : FnScope ["line", "items", "fault"] ["line"] (defScope s_parts_of) := ⟨rfl, rfl, rfl, by decide +kernel, rfl, by decide +kernel, by decide +kernel⟩
abbrev s_is_plain_part : Stmt := topS 25
theorem sc_is_plain_part : FnScope ["value"] ["value"] (defScope s_is_plain_part) := ⟨rfl, rfl, rfl, by decide +kernel, rfl, by decide +kernel, by decide +kernel⟩
abbrev s_is_worth_part : Stmt := topS 26
theorem sc_is_worth_part : FnScope ["value", "words", "part"] ["value"] (defScope s_is_worth_part) := ⟨rfl, rfl, rfl, by decide +kernel, rfl, by decide +kernel, by decide +kernel⟩
abbrev s_is_part : Stmt := topS 27
theorem sc_is_part : FnScope ["kind", "value"] ["kind", "value"] (defScope s_is_part) := ⟨rfl, rfl, rfl, by decide +kernel, rfl, by decide +kernel, by decide +kernel⟩
abbrev s_are_parts : Stmt := topS 28
theorem sc_are_parts : FnScope ["value", "kinds", "kind", "part"] ["value"] (defScope s_are_parts) := ⟨rfl, rfl, rfl, by decide +kernel, rfl, by decide +kernel, by decide +kernel⟩
abbrev s_items_of_worth : Stmt := topS 29
theorem sc_items_of_worth : FnScope ["worth"] ["worth"] (defScope s_items_of_worth) := ⟨rfl, rfl, rfl, by decide +kernel, rfl, by decide +kernel, by decide +kernel⟩
abbrev s_line_of : Stmt := topS 30
theorem sc_line_of : FnScope ["parts", "items", "kind", "part"] ["parts"] (defScope s_line_of) := ⟨rfl, rfl, rfl, by decide +kernel, rfl, by decide +kernel, by decide +kernel⟩
abbrev s_law_spire : Stmt := topS 32
theorem sc_law_spire : FnScope ["script", "cell"] ["script"] (defScope s_law_spire) := ⟨rfl, rfl, rfl, by decide +kernel, rfl, by decide +kernel, by decide +kernel⟩
abbrev s_law_bell : Stmt := topS 33
theorem sc_law_bell : FnScope ["spire", "many", "left", "turn", "cell", "mixed"] ["spire", "many"] (defScope s_law_bell) := ⟨rfl, rfl, rfl, by decide +kernel, rfl, by decide +kernel, by decide +kernel⟩
abbrev s_law_pick : Stmt := topS 34
theorem sc_law_pick : FnScope ["spire", "some"] ["spire", "some"] (defScope s_law_pick) := ⟨rfl, rfl, rfl, by decide +kernel, rfl, by decide +kernel, by decide +kernel⟩
abbrev s_law_name : Stmt := topS 35
theorem sc_law_name : FnScope ["spire", "turn", "name"] ["spire"] (defScope s_law_name) := ⟨rfl, rfl, rfl, by decide +kernel, rfl, by decide +kernel, by decide +kernel⟩
abbrev s_law_plain : Stmt := topS 36
theorem sc_law_plain : FnScope ["spire"] ["spire"] (defScope s_law_plain) := ⟨rfl, rfl, rfl, by decide +kernel, rfl, by decide +kernel, by decide +kernel⟩
abbrev s_law_worth : Stmt := topS 37
theorem sc_law_worth : FnScope ["spire", "asks", "way", "one", "other"] ["spire", "asks"] (defScope s_law_worth) := ⟨rfl, rfl, rfl, by decide +kernel, rfl, by decide +kernel, by decide +kernel⟩
abbrev s_law_line : Stmt := topS 38
theorem sc_law_line : FnScope ["spire", "word"] ["spire"] (defScope s_law_line) := ⟨rfl, rfl, rfl, by decide +kernel, rfl, by decide +kernel, by decide +kernel⟩
abbrev s_law_is_name : Stmt := topS 39
theorem sc_law_is_name : FnScope ["item", "sign"] ["item"] (defScope s_law_is_name) := ⟨rfl, rfl, rfl, by decide +kernel, rfl, by decide +kernel, by decide +kernel⟩
abbrev s_law_is_plain : Stmt := topS 40
theorem sc_law_is_plain : FnScope ["item", "sign"] ["item"] (defScope s_law_is_plain) := ⟨rfl, rfl, rfl, by decide +kernel, rfl, by decide +kernel, by decide +kernel⟩
abbrev s_law_told : Stmt := topS 41
theorem sc_law_told : FnScope ["item"] ["item"] (defScope s_law_told) := ⟨rfl, rfl, rfl, by decide +kernel, rfl, by decide +kernel, by decide +kernel⟩
abbrev s_law_worth_wrong : Stmt := topS 42
theorem sc_law_worth_wrong : FnScope ["items", "at"] ["items", "at"] (defScope s_law_worth_wrong) := ⟨rfl, rfl, rfl, by decide +kernel, rfl, by decide +kernel, by decide +kernel⟩
abbrev s_law_wrong : Stmt := topS 43
theorem sc_law_wrong : FnScope ["items", "word"] ["items"] (defScope s_law_wrong) := ⟨rfl, rfl, rfl, by decide +kernel, rfl, by decide +kernel, by decide +kernel⟩
abbrev s_law_parts : Stmt := topS 44
theorem sc_law_parts : FnScope ["items", "word", "found", "at", "left"] ["items"] (defScope s_law_parts) := ⟨rfl, rfl, rfl, by decide +kernel, rfl, by decide +kernel, by decide +kernel⟩
abbrev s_law_bent : Stmt := topS 45
theorem sc_law_bent : FnScope ["spire", "items", "way", "at", "some", "odd"] ["spire", "items"] (defScope s_law_bent) := ⟨rfl, rfl, rfl, by decide +kernel, rfl, by decide +kernel, by decide +kernel⟩
abbrev s_law_heard : Stmt := topS 46
theorem sc_law_heard : FnScope ["ask", "caught", "error"] ["ask"] (defScope s_law_heard) := ⟨rfl, rfl, rfl, by decide +kernel, rfl, by decide +kernel, by decide +kernel⟩
abbrev s_law : Stmt := topS 47
theorem sc_law : FnScope ["script", "spire", "turn", "items", "line", "due", "part", "lap", "bent", "wrong", "caught", "item", "kinds", "odd", "none", "value", "heard", "each"] ["script"] (defScope s_law) := ⟨rfl, rfl, rfl, by decide +kernel, rfl, by decide +kernel, by decide +kernel⟩
abbrev s_BadProgram_init : Stmt := inClass (topS 7) 0
theorem sc_BadProgram_init : FnScope ["self", "part"] ["self", "part"] (defScope s_BadProgram_init) := ⟨rfl, rfl, rfl, by decide +kernel, rfl, by decide +kernel, by decide +kernel⟩
theorem in_BadProgram : IsInit s_BadProgram_init := ⟨_, _, _, _, rfl, sc_BadProgram_init, rfl, rfl⟩
abbrev s_BadLine_init : Stmt := inClass (topS 8) 0
theorem sc_BadLine_init : FnScope ["self", "line", "item"] ["self", "line", "item"] (defScope s_BadLine_init) := ⟨rfl, rfl, rfl, by decide +kernel, rfl, by decide +kernel, by decide +kernel⟩
theorem in_BadLine : IsInit2 s_BadLine_init "line" "item" := ⟨_, _, _, _, _, _, _, _, rfl, sc_BadLine_init, rfl, rfl, rfl, by decide, by decide, by decide, by decide⟩
structure Tx (w : World) (K : PySem.W.Frag) (mg : Str → Option Value) where
  f_is_list : Addr
  fd_is_list : FuncData
  F_is_list : Fun K "is_list" "is_list" s_is_list f_is_list fd_is_list
  g_is_list : mg "is_list" = some (.ref f_is_list)
  b_is_list : Binds K fd_is_list ["value"] []
  f_is_integer : Addr
  fd_is_integer : FuncData
  F_is_integer : Fun K "is_integer" "is_integer" s_is_integer f_is_integer fd_is_integer
  g_is_integer : mg "is_integer" = some (.ref f_is_integer)
  b_is_integer : Binds K fd_is_integer ["value"] []
  f_is_within : Addr
  fd_is_within : FuncData
  F_is_within : Fun K "is_within" "is_within" s_is_within f_is_within fd_is_within
  g_is_within : mg "is_within" = some (.ref f_is_within)
  b_is_within : Binds K fd_is_within ["value", "least", "most"] []
  f_are_letters : Addr
  fd_are_letters : FuncData
  F_are_letters : Fun K "are_letters" "are_letters" s_are_letters f_are_letters fd_are_letters
  g_are_letters : mg "are_letters" = some (.ref f_are_letters)
  b_are_letters : Binds K fd_are_letters ["text"] []
  f_is_name : Addr
  fd_is_name : FuncData
  F_is_name : Fun K "is_name" "is_name" s_is_name f_is_name fd_is_name
  g_is_name : mg "is_name" = some (.ref f_is_name)
  b_is_name : Binds K fd_is_name ["value"] []
  f_is_digits : Addr
  fd_is_digits : FuncData
  F_is_digits : Fun K "is_digits" "is_digits" s_is_digits f_is_digits fd_is_digits
  g_is_digits : mg "is_digits" = some (.ref f_is_digits)
  b_is_digits : Binds K fd_is_digits ["value"] []
  f_is_plain : Addr
  fd_is_plain : FuncData
  F_is_plain : Fun K "is_plain" "is_plain" s_is_plain f_is_plain fd_is_plain
  g_is_plain : mg "is_plain" = some (.ref f_is_plain)
  b_is_plain : Binds K fd_is_plain ["value"] []
  f_kinds_behind : Addr
  fd_kinds_behind : FuncData
  F_kinds_behind : Fun K "kinds_behind" "kinds_behind" s_kinds_behind f_kinds_behind fd_kinds_behind
  g_kinds_behind : mg "kinds_behind" = some (.ref f_kinds_behind)
  b_kinds_behind : Binds K fd_kinds_behind ["kind", "item"] []
  f_fault_in : Addr
  fd_fault_in : FuncData
  F_fault_in : Fun K "fault_in" "fault_in" s_fault_in f_fault_in fd_fault_in
  g_fault_in : mg "fault_in" = some (.ref f_fault_in)
  b_fault_in : Binds K fd_fault_in ["items"] []
  f_plain_of : Addr
  fd_plain_of : FuncData
  F_plain_of : Fun K "plain_of" "plain_of" s_plain_of f_plain_of fd_plain_of
  g_plain_of : mg "plain_of" = some (.ref f_plain_of)
  b_plain_of : Binds K fd_plain_of ["item"] []
  f_worth_of : Addr
  fd_worth_of : FuncData
  F_worth_of : Fun K "worth_of" "worth_of" s_worth_of f_worth_of fd_worth_of
  g_worth_of : mg "worth_of" = some (.ref f_worth_of)
  b_worth_of : Binds K fd_worth_of ["items"] []
  f_parts_of_items : Addr
  fd_parts_of_items : FuncData
  F_parts_of_items : Fun K "parts_of_items" "parts_of_items" s_parts_of_items f_parts_of_items fd_parts_of_items
  g_parts_of_items : mg "parts_of_items" = some (.ref f_parts_of_items)
  b_parts_of_items : Binds K fd_parts_of_items ["items"] []
  f_parts_of : Addr
  fd_parts_of : FuncData
  F_parts_of : Fun K "parts_of" "parts_of" s_parts_of f_parts_of fd_parts_of
  g_parts_of : mg "parts_of" = some (.ref f_parts_of)
  b_parts_of : Binds K fd_parts_of ["line"] []
  f_is_plain_part : Addr
  fd_is_plain_part : FuncData
  F_is_plain_part : Fun K "is_plain_part" "is_plain_part" s_is_plain_part f_is_plain_part fd_is_plain_part
  g_is_plain_part : mg "is_plain_part" = some (.ref f_is_plain_part)
  b_is_plain_part : Binds K fd_is_plain_part ["value"] []
  f_is_worth_part : Addr
  fd_is_worth_part : FuncData
  F_is_worth_part : Fun K "is_worth_part" "is_worth_part" s_is_worth_part f_is_worth_part fd_is_worth_part
  g_is_worth_part : mg "is_worth_part" = some (.ref f_is_worth_part)
  b_is_worth_part : Binds K fd_is_worth_part ["value"] []
  f_is_part : Addr
  fd_is_part : FuncData
  F_is_part : Fun K "is_part" "is_part" s_is_part f_is_part fd_is_part
  g_is_part : mg "is_part" = some (.ref f_is_part)
  b_is_part : Binds K fd_is_part ["kind", "value"] []
  f_are_parts : Addr
  fd_are_parts : FuncData
  F_are_parts : Fun K "are_parts" "are_parts" s_are_parts f_are_parts fd_are_parts
  g_are_parts : mg "are_parts" = some (.ref f_are_parts)
  b_are_parts : Binds K fd_are_parts ["value"] []
  f_items_of_worth : Addr
  fd_items_of_worth : FuncData
  F_items_of_worth : Fun K "items_of_worth" "items_of_worth" s_items_of_worth f_items_of_worth fd_items_of_worth
  g_items_of_worth : mg "items_of_worth" = some (.ref f_items_of_worth)
  b_items_of_worth : Binds K fd_items_of_worth ["worth"] []
  f_line_of : Addr
  fd_line_of : FuncData
  F_line_of : Fun K "line_of" "line_of" s_line_of f_line_of fd_line_of
  g_line_of : mg "line_of" = some (.ref f_line_of)
  b_line_of : Binds K fd_line_of ["parts"] []
  f_law_spire : Addr
  fd_law_spire : FuncData
  F_law_spire : Fun K "_law_spire" "_law_spire" s_law_spire f_law_spire fd_law_spire
  g_law_spire : mg "_law_spire" = some (.ref f_law_spire)
  b_law_spire : Binds K fd_law_spire ["script"] []
  f_law_bell : Addr
  fd_law_bell : FuncData
  F_law_bell : Fun K "_law_bell" "_law_bell" s_law_bell f_law_bell fd_law_bell
  g_law_bell : mg "_law_bell" = some (.ref f_law_bell)
  b_law_bell : Binds K fd_law_bell ["spire", "many"] []
  f_law_pick : Addr
  fd_law_pick : FuncData
  F_law_pick : Fun K "_law_pick" "_law_pick" s_law_pick f_law_pick fd_law_pick
  g_law_pick : mg "_law_pick" = some (.ref f_law_pick)
  b_law_pick : Binds K fd_law_pick ["spire", "some"] []
  f_law_name : Addr
  fd_law_name : FuncData
  F_law_name : Fun K "_law_name" "_law_name" s_law_name f_law_name fd_law_name
  g_law_name : mg "_law_name" = some (.ref f_law_name)
  b_law_name : Binds K fd_law_name ["spire"] []
  f_law_plain : Addr
  fd_law_plain : FuncData
  F_law_plain : Fun K "_law_plain" "_law_plain" s_law_plain f_law_plain fd_law_plain
  g_law_plain : mg "_law_plain" = some (.ref f_law_plain)
  b_law_plain : Binds K fd_law_plain ["spire"] []
  f_law_worth : Addr
  fd_law_worth : FuncData
  F_law_worth : Fun K "_law_worth" "_law_worth" s_law_worth f_law_worth fd_law_worth
  g_law_worth : mg "_law_worth" = some (.ref f_law_worth)
  b_law_worth : Binds K fd_law_worth ["spire", "asks"] []
  f_law_line : Addr
  fd_law_line : FuncData
  F_law_line : Fun K "_law_line" "_law_line" s_law_line f_law_line fd_law_line
  g_law_line : mg "_law_line" = some (.ref f_law_line)
  b_law_line : Binds K fd_law_line ["spire"] []
  f_law_is_name : Addr
  fd_law_is_name : FuncData
  F_law_is_name : Fun K "_law_is_name" "_law_is_name" s_law_is_name f_law_is_name fd_law_is_name
  g_law_is_name : mg "_law_is_name" = some (.ref f_law_is_name)
  b_law_is_name : Binds K fd_law_is_name ["item"] []
  f_law_is_plain : Addr
  fd_law_is_plain : FuncData
  F_law_is_plain : Fun K "_law_is_plain" "_law_is_plain" s_law_is_plain f_law_is_plain fd_law_is_plain
  g_law_is_plain : mg "_law_is_plain" = some (.ref f_law_is_plain)
  b_law_is_plain : Binds K fd_law_is_plain ["item"] []
  f_law_told : Addr
  fd_law_told : FuncData
  F_law_told : Fun K "_law_told" "_law_told" s_law_told f_law_told fd_law_told
  g_law_told : mg "_law_told" = some (.ref f_law_told)
  b_law_told : Binds K fd_law_told ["item"] []
  f_law_worth_wrong : Addr
  fd_law_worth_wrong : FuncData
  F_law_worth_wrong : Fun K "_law_worth_wrong" "_law_worth_wrong" s_law_worth_wrong f_law_worth_wrong fd_law_worth_wrong
  g_law_worth_wrong : mg "_law_worth_wrong" = some (.ref f_law_worth_wrong)
  b_law_worth_wrong : Binds K fd_law_worth_wrong ["items", "at"] []
  f_law_wrong : Addr
  fd_law_wrong : FuncData
  F_law_wrong : Fun K "_law_wrong" "_law_wrong" s_law_wrong f_law_wrong fd_law_wrong
  g_law_wrong : mg "_law_wrong" = some (.ref f_law_wrong)
  b_law_wrong : Binds K fd_law_wrong ["items"] []
  f_law_parts : Addr
  fd_law_parts : FuncData
  F_law_parts : Fun K "_law_parts" "_law_parts" s_law_parts f_law_parts fd_law_parts
  g_law_parts : mg "_law_parts" = some (.ref f_law_parts)
  b_law_parts : Binds K fd_law_parts ["items"] []
  f_law_bent : Addr
  fd_law_bent : FuncData
  F_law_bent : Fun K "_law_bent" "_law_bent" s_law_bent f_law_bent fd_law_bent
  g_law_bent : mg "_law_bent" = some (.ref f_law_bent)
  b_law_bent : Binds K fd_law_bent ["spire", "items"] []
  f_law_heard : Addr
  fd_law_heard : FuncData
  F_law_heard : Fun K "_law_heard" "_law_heard" s_law_heard f_law_heard fd_law_heard
  g_law_heard : mg "_law_heard" = some (.ref f_law_heard)
  b_law_heard : Binds K fd_law_heard ["ask"] []
  f_law : Addr
  fd_law : FuncData
  F_law : Fun K "law" "law" s_law f_law fd_law
  g_law : mg "law" = some (.ref f_law)
  b_law : Binds K fd_law ["script"] []
  n_law : PySem.W.nsIn K mainGlobals "law" = some (some (.ref f_law))
  k_BadLine : Addr
  gk_BadLine : mg "BadLine" = some (.ref k_BadLine)
  kc_BadLine : PySem.W.isClsIn K k_BadLine = true
  kt_BadLine : PySem.W.typeIn K (.ref k_BadLine) = some (.type "type")
  k_BadProgram : Addr
  gk_BadProgram : mg "BadProgram" = some (.ref k_BadProgram)
  kc_BadProgram : PySem.W.isClsIn K k_BadProgram = true
  kt_BadProgram : PySem.W.typeIn K (.ref k_BadProgram) = some (.type "type")
  su_BadLine_BadLine : PySem.W.subIn K (.ref k_BadLine) (.ref k_BadLine) = some true
  su_BadLine_BadProgram : PySem.W.subIn K (.ref k_BadLine) (.ref k_BadProgram) = some false
  su_BadProgram_BadLine : PySem.W.subIn K (.ref k_BadProgram) (.ref k_BadLine) = some false
  su_BadProgram_BadProgram : PySem.W.subIn K (.ref k_BadProgram) (.ref k_BadProgram) = some true
  m_isinstance : mg "isinstance" = none
  m_list : mg "list" = none
  m_tuple : mg "tuple" = none
  m_int : mg "int" = none
  m_bool : mg "bool" = none
  m_str : mg "str" = none
  m_len : mg "len" = none
  m_range : mg "range" = none
  m_enumerate : mg "enumerate" = none
  m_all : mg "all" = none
  m_zip : mg "zip" = none
  m_abs : mg "abs" = none
  m_repr : mg "repr" = none
  e_BadProgram : Er K mg "BadProgram" "BadProgram.__init__" s_BadProgram_init "LetterError"
  e_BadLine : Er2 K mg "BadLine" "BadLine.__init__" s_BadLine_init "LetterError" "line" "item"
  D_FORMS : Addr
  gD_FORMS : mg "FORMS" = some (.ref D_FORMS)
  tD_FORMS : KTab K w D_FORMS [("hear", [.str "name"]), ("say", [.str "worth"]), ("let", [.str "name", .str "worth"]), ("keep", [.str "plain", .str "worth"]), ("while", [.str "plain"]), ("if", [.str "plain"]), ("else", []), ("end", []), ("stop", [])]
  D_NO_NAMES : Addr
  gD_NO_NAMES : mg "NO_NAMES" = some (.ref D_NO_NAMES)
  tD_NO_NAMES : ∀ H : Hp, SqT K H D_NO_NAMES [.str "hear", .str "say", .str "let", .str "keep", .str "while", .str "if", .str "else", .str "end", .str "stop", .str "at", .str "mine"]
  D_SIGNS : Addr
  gD_SIGNS : mg "SIGNS" = some (.ref D_SIGNS)
  tD_SIGNS : ∀ H : Hp, SqT K H D_SIGNS [.str "+", .str "-", .str "*", .str "/", .str "<", .str "="]
  t_MOST_NAME_LETTERS : Tok
  c_MOST_NAME_LETTERS : mg "MOST_NAME_LETTERS" = some (.int 8 t_MOST_NAME_LETTERS)
  t_MOST_PLAIN : Tok
  c_MOST_PLAIN : mg "MOST_PLAIN" = some (.int 4095 t_MOST_PLAIN)
  t_MOST_PLAIN_DIGITS : Tok
  c_MOST_PLAIN_DIGITS : mg "MOST_PLAIN_DIGITS" = some (.int 4 t_MOST_PLAIN_DIGITS)
section
variable {P : Program} {w : World} {K : PySem.W.Frag} {mg : Str → Option Value} {base : Heap} (T : Tx w K mg)
/-! ### checks -/
def sp_is_list (K : PySem.W.Frag) : Sp := fun vs H Q _ => ∃ (x : V) (n : String) (b : Bool), vs = [x] ∧ TyX K H x (.type n) ∧ PySem.W.kitAny K (.type n) [.type "list", .type "tuple"] = some b ∧ ∀ H', Same H H' → Q (.bl b) H'
theorem ok_is_list : FnOk P w K mg base CX0 1 T.f_is_list T.fd_is_list ["value"] (sp_is_list K) := by
  refine T.F_is_list.ok sc_is_list (fun vs H Q E h => ?_) (fun cdv A outer s H vs Q E hr h => ?_)
  · obtain ⟨x, n, b, rfl, _⟩ := h
    rfl
  · obtain ⟨x, n, b, rfl, ht, hk, q⟩ := h
    refine ⟨_, (pss_one (ps_ret (pe_callB call_isiT (by rfl) T.m_isinstance (by decide +kernel) (pa_cons (pv 0) (pa_cons (pe_tup (pa_cons (pe_bltn (v := .ty "list") (by rfl) T.m_list (by decide +kernel) rfl) (pa_cons (pe_bltn (v := .ty "tuple") (by rfl) T.m_tuple (by decide +kernel) rfl) pa_nil))) pa_nil))))), ?_⟩
    refine ⟨x, rfl, by show 2 ≤ sizeLine; decide, fun p np => ?_⟩
    exact ⟨x, p, _, _, _, b, rfl, upd_same, .cons (.ty _) (.cons (.ty _) .nil), tyx_same (same_new np) ht, hk, q _ (same_new np)⟩
def sp_is_integer (K : PySem.W.Frag) : Sp := fun vs H Q _ => ∃ (x : V) (n : String) (a b : Bool), vs = [x] ∧ TyX K H x (.type n) ∧ kitB n "int" = some a ∧ kitB n "bool" = some b ∧ Q (.bl (a && !b)) H
theorem ok_is_integer : FnOk P w K mg base CX0 1 T.f_is_integer T.fd_is_integer ["value"] (sp_is_integer K) := by
  refine T.F_is_integer.ok sc_is_integer (fun vs H Q E h => ?_) (fun cdv A outer s H vs Q E hr h => ?_)
  · obtain ⟨x, n, a, b, rfl, _⟩ := h
    rfl
  · obtain ⟨x, n, a, b, rfl, ht, h1, h2, q⟩ := h
    refine ⟨_, (pss_one (ps_ret (pe_and (pe_callB call_isi (by rfl) T.m_isinstance (by decide +kernel) (pa_cons (pv 0) (pa_cons (pe_bltn (v := .ty "int") (by rfl) T.m_int (by decide +kernel) rfl) pa_nil))) (pe_one (pe_not (pe_callB call_isi (by rfl) T.m_isinstance (by decide +kernel) (pa_cons (pv 0) (pa_cons (pe_bltn (v := .ty "bool") (by rfl) T.m_bool (by decide +kernel) rfl) pa_nil)))))))), ?_⟩
    refine ⟨x, rfl, x, _, _, _, a, rfl, .ty _, ht, kit_ty h1, a, rfl, iteC (fun e => ?_) (fun e => ?_)⟩
    · refine ⟨x, rfl, x, _, _, _, b, rfl, .ty _, ht, kit_ty h2, b, rfl, ?_⟩
      rw [e] at q
      exact q
    · rw [e] at q
      exact q
def sp_is_within (K : PySem.W.Frag) : Sp := fun vs H Q _ => ∃ (x : V) (lo hi : Option Int), vs = [x, bdV lo, bdV hi] ∧ HasInt K H x ∧ Q (.bl (withinV x lo hi)) H
theorem ok_is_within : FnOk P w K mg base CX0 2 T.f_is_within T.fd_is_within ["value", "least", "most"] (sp_is_within K) := by
  refine T.F_is_within.ok sc_is_within (fun vs H Q E h => ?_) (fun cdv A outer s H vs Q E hr h => ?_)
  · obtain ⟨i, lo, hi, rfl, _⟩ := h
    rfl
  · obtain ⟨x, lo, hi, rfl, ⟨n, a, b, ht, k1, k2, e⟩, q⟩ := h
    refine ⟨_, (pss_cons (ps_if (pt_not (pt_val (pe_call (ok_is_integer T) (hr.mono (by decide)) (by rfl) T.g_is_integer T.F_is_integer.kp T.b_is_integer .nil pass0 (pa_cons (pv 0) pa_nil))))
      (pss_one (ps_ret pe_bl))
      pss_nil)
    (pss_one (ps_ret (pe_and (pe_or (pe_cmpR op_isN (pv 1) pe_non (nomark _)) (pe_one (pe_cmpR op_ge (pv 0) (pv 1) (nomark _)))) (pe_one (pe_or (pe_cmpR op_isN (pv 2) pe_non (nomark _)) (pe_one (pe_cmpR op_le (pv 0) (pv 2) (nomark _))))))))), ?_⟩
    refine ⟨_, rfl, x, n, a, b, rfl, ht, k1, k2, _, rfl, ?_⟩
    rw [e]
    cases x with
    | int i =>
      refine iteF ⟨_, rfl, rfl, _, rfl, ?_⟩
      cases lo with
      | none =>
        refine iteT ⟨_, rfl, iteT ⟨_, rfl, rfl, _, rfl, ?_⟩⟩
        cases hi with
        | none => exact iteT q
        | some h => exact iteF ⟨_, rfl, _, rfl, _, _, rfl, rfl, q⟩
      | some l =>
        have q' : Q (.bl (decide (l ≤ i) && hiB i hi)) H := q
        refine iteF ⟨_, rfl, _, rfl, _, _, rfl, rfl, _, rfl, iteC (fun e => ?_) (fun e => ?_)⟩
        · rw [e] at q'
          refine ⟨_, rfl, rfl, _, rfl, ?_⟩
          cases hi with
          | none => exact iteT q'
          | some h => exact iteF ⟨_, rfl, _, rfl, _, _, rfl, rfl, q'⟩
        · rw [e] at q'
          exact q'
    | _ => exact iteT q
/-! ### words, signs, texts -/
def sp_are_letters (K : PySem.W.Frag) : Sp := fun vs H Q _ => ∃ (l : List Nat), vs = [.str (S l)] ∧ Q (.bl (lowB l)) H
theorem ok_are_letters : FnOk P w K mg base CX0 1 T.f_are_letters T.fd_are_letters ["text"] (sp_are_letters K) := by
  refine T.F_are_letters.ok sc_are_letters (fun vs H Q E h => ?_) (fun cdv A outer s H vs Q E hr h => ?_)
  · obtain ⟨l, rfl, _⟩ := h
    rfl
  · obtain ⟨l, rfl, q⟩ := h
    rw [← letters_S] at q
    refine ⟨_, (pss_one (ps_ret (pe_and (pe_m0 PySem.F.slot_str_isascii PySem.F.type_str_isascii mt_isascii (pv 0)) (pe_and (pe_m0 PySem.F.slot_str_isalpha PySem.F.type_str_isalpha mt_isalpha (pv 0)) (pe_one (pe_m0 PySem.F.slot_str_islower PySem.F.type_str_islower mt_islower (pv 0))))))), ?_⟩
    refine ⟨_, rfl, ⟨_, rfl⟩, S l, rfl, rfl, trivial, _, rfl, iteC (fun e => ?_) (fun e => ?_)⟩
    · rw [e] at q
      refine ⟨_, rfl, ⟨_, rfl⟩, S l, rfl, rfl, trivial, _, rfl, iteC (fun e => ?_) (fun e => ?_)⟩
      · rw [e] at q
        exact ⟨_, rfl, ⟨_, rfl⟩, S l, rfl, rfl, trivial, q⟩
      · rw [e] at q
        exact q
    · rw [e] at q
      exact q
/-- a text, or what is none -/
def StrIs (K : PySem.W.Frag) (H : Hp) (x : V) (o : Option (List Nat)) : Prop := match o with
  | some l => x = .str (S l) ∧ l.length ≤ 1000000
  | none => ∃ n, TyX K H x (.type n) ∧ kitB n "str" = some false
theorem StrIs.same {K : PySem.W.Frag} {H H' : Hp} {x : V} {o : Option (List Nat)} (e : Same H H') (h : StrIs K H x o) : StrIs K H' x o := by
  cases o with
  | some l => exact h
  | none =>
    obtain ⟨n, h1, h2⟩ := h
    exact ⟨n, tyx_same e h1, h2⟩
theorem kit_str : kitB "str" "str" = some true := by decide +kernel
def signB (l : List Nat) : Bool := decide (l.length = 1) && l.all sg
end
end K34
namespace K34
open PySem PySem.Spec PyProof.Rows L2 Kx SX LamX
/-! ### items of lines, as values -/
def tblN : List Str := ["hear", "say", "let", "keep", "while", "if", "else", "end", "stop", "at", "mine"]
def sgnN : List Str := ["+", "-", "*", "/", "<", "="]
def nameB (z : Str) : Bool := decide (z.length ≤ 8) && (lowB z.cps.toList && !decide (z ∈ tblN))
def digC (c : Nat) : Bool := decide (48 ≤ c) && decide (c ≤ 57)
def valL (l : List Nat) : Nat := PySem.NumText.digitsVal l
def digB (z : Str) : Bool := decide (1 ≤ z.length) && decide (z.length ≤ 4) && z.cps.toList.all digC && decide (valL z.cps.toList ≤ 4095) && (decide (z = "0") || decide (z.cps.toList.headD 0 ≠ 48))
def plainB (z : Str) : Bool := nameB z || digB z
def behB (k it : Str) : Option (List Str) :=
  if k = "name" then (if nameB it = true then some [] else none)
  else if k = "plain" then (if plainB it = true then some [] else none)
  else if k = "sign" then (if it ∈ sgnN then some ["plain"] else none)
  else if it = "at" ∨ it = "mine" then some ["plain"]
  else if plainB it = true then some ["sign"] else none
def formL : List (Str × List Str) := [("hear", ["name"]), ("say", ["worth"]), ("let", ["name", "worth"]), ("keep", ["plain", "worth"]), ("while", ["plain"]), ("if", ["plain"]), ("else", []), ("end", []), ("stop", [])]
def formOf (z : Str) : Option (List Str) := (formL.find? fun p => decide (p.1 = z)).map (·.2)
def goP : List Str → Nat → List Str → Option Nat
  | ws, p, [] => if ws = [] ∨ ws = [("sign" : Str)] then none else some p
  | [], p, _ :: _ => some p
  | k :: ks, p, it :: r => match behB k it with
    | none => some p
    | some bs => goP (bs ++ ks) (p + 1) r
def wrongP : List Str → Option Nat
  | [] => none
  | w :: r => match formOf w with
    | none => some 0
    | some ks => goP ks 1 r
def worthW (p : Nat) : List Str → Option Nat
  | [] => some p
  | a :: r => if a = "at" ∨ a = "mine" then (match r with
      | [] => some (p + 1)
      | b :: r2 => if plainB b = true then (if r2 = [] then none else some (p + 2)) else some (p + 1))
    else if plainB a = true then (match r with
      | [] => none
      | s :: r2 => if s ∈ sgnN then (match r2 with
        | [] => some (p + 2)
        | b :: r3 => if plainB b = true then (if r3 = [] then none else some (p + 3)) else some (p + 2)) else some (p + 1))
    else some p
theorem goP_nil (p : Nat) (r : List Str) : goP [] p r = if r = [] then none else some p := by
  cases r with
  | nil =>
    show (if (([] : List Str) = [] ∨ _) then _ else _) = _
    rw [if_pos (.inl rfl), if_pos rfl]
  | cons x r => rfl
theorem goP_plain (p : Nat) (r : List Str) : goP ["plain"] p r = match r with
    | [] => some p
    | b :: r2 => if plainB b = true then (if r2 = [] then none else some (p + 1)) else some p := by
  cases r with
  | nil =>
    show (if _ then _ else _) = _
    rw [if_neg (by decide)]
  | cons b r2 =>
    show (match behB "plain" b with | none => some p | some bs => goP (bs ++ []) (p + 1) r2) = _
    have : behB "plain" b = if plainB b = true then some [] else none := rfl
    rw [this]
    by_cases h : plainB b = true
    · rw [if_pos h]
      show goP [] (p + 1) r2 = _
      rw [goP_nil]
      simp [h]
    · rw [if_neg h]
      simp [h]
theorem goP_worth (p : Nat) (r : List Str) : goP ["worth"] p r = worthW p r := by
  cases r with
  | nil =>
    show (if _ then _ else _) = _
    rw [if_neg (by decide)]
    rfl
  | cons a r =>
    show (match behB "worth" a with | none => some p | some bs => goP (bs ++ []) (p + 1) r) = _
    have e : behB "worth" a = if a = "at" ∨ a = "mine" then some [("plain" : Str)] else if plainB a = true then some [("sign" : Str)] else none := rfl
    rw [e]
    unfold worthW
    dsimp only
    by_cases h : a = "at" ∨ a = "mine"
    · rw [if_pos h, if_pos h]
      show goP ["plain"] (p + 1) r = _
      rw [goP_plain]
    · rw [if_neg h, if_neg h]
      by_cases h2 : plainB a = true
      · rw [if_pos h2, if_pos h2]
        show goP ["sign"] (p + 1) r = _
        cases r with
        | nil => rfl
        | cons s r2 =>
          show (match behB "sign" s with | none => some (p + 1) | some bs => goP (bs ++ []) (p + 1 + 1) r2) = _
          have e2 : behB "sign" s = if s ∈ sgnN then some [("plain" : Str)] else none := rfl
          rw [e2]
          by_cases h3 : s ∈ sgnN
          · rw [if_pos h3]
            show goP ["plain"] (p + 2) r2 = _
            rw [goP_plain]
            simp [h3]
          · rw [if_neg h3]
            simp [h3]
      · rw [if_neg h2, if_neg h2]
theorem goP_cons (k : Str) (ks : List Str) (p : Nat) (it : Str) (r : List Str) : goP (k :: ks) p (it :: r) = match behB k it with
    | none => some p
    | some bs => goP (bs ++ ks) (p + 1) r := rfl
/-! ### the parts of a line -/
def toldD (z : Str) : PyData := if digB z = true then .int (valL z.cps.toList) else .str z
def worthD : List Str → List PyData
  | [a] => [.str "plain", toldD a]
  | [a, b] => [.str a, toldD b]
  | [a, s, b] => [.str s, toldD a, toldD b]
  | _ => []
def partsK : List Str → List Str → List PyData
  | [], _ => []
  | k :: ks, r => (if k = "worth" then .tuple (worthD r) else toldD (r.headD "")) :: partsK ks r.tail
def partsD : List Str → List PyData
  | [] => []
  | w :: r => .str w :: partsK ((formOf w).getD []) r
/-! ### what are parts -/
def onS (f : Str → Bool) : PyData → Bool
  | .str z => f z
  | _ => false
def nameD (d : PyData) : Bool := onS nameB d
def plainD : PyData → Bool
  | .str z => nameB z
  | .int i => decide (0 ≤ i) && decide (i ≤ 4095)
  | _ => false
def seqD : PyData → Option (List PyData)
  | .list ds => some ds
  | .tuple ds => some ds
  | _ => none
def worthOk : List PyData → Bool
  | .str w :: ds => (decide (ds.length = 1) && decide (w ∈ (["plain", "at", "mine"] : List Str)) || decide (ds.length = 2) && decide (w ∈ sgnN)) && ds.all plainD
  | _ => false
def worthB (d : PyData) : Bool := match seqD d with
  | some ds => worthOk ds
  | none => false
def partB (k : Str) (d : PyData) : Bool := if k = "name" then nameD d else if k = "worth" then worthB d else plainD d
def zipB : List Str → List PyData → Bool
  | [], [] => true
  | k :: ks, d :: ds => partB k d && zipB ks ds
  | _, _ => false
def partsOk : List PyData → Bool
  | .str w :: ds => match formOf w with
    | some ks => zipB ks ds
    | none => false
  | _ => false
def partsB (d : PyData) : Bool := match seqD d with
  | some ds => partsOk ds
  | none => false
/-! ### the line of parts -/
def textD : PyData → Str
  | .str z => z
  | .int i => toString i
  | _ => ""
def worthI : List PyData → List Str
  | [.str w, a] => if w = "plain" then [textD a] else [w, textD a]
  | [.str w, a, b] => [textD a, w, textD b]
  | _ => []
def itemI (k : Str) (d : PyData) : List Str := if k = "worth" then worthI ((seqD d).getD []) else [textD d]
def itemsK : List Str → List PyData → List Str
  | k :: ks, d :: ds => itemI k d ++ itemsK ks ds
  | _, _ => []
def itemsD : List PyData → List Str
  | .str w :: ds => w :: itemsK ((formOf w).getD []) ds
  | _ => []
/-! ### digits -/
def digsOf (n : Nat) : List Nat := if n < 10 then [48 + n] else if n < 100 then [48 + n / 10, 48 + n % 10] else if n < 1000 then [48 + n / 100, 48 + n / 10 % 10, 48 + n % 10] else [48 + n / 1000, 48 + n / 100 % 10, 48 + n / 10 % 10, 48 + n % 10]
theorem digCh : ∀ d < 10, (Nat.digitChar d).toNat = 48 + d := by decide
theorem digs_small {n : Nat} (h : n < 10) : (Nat.toDigits 10 n).map Char.toNat = [48 + n] := by
  rw [Nat.toDigits_of_lt_base h]
  simp [digCh n h]
theorem digs_step {n : Nat} (h : 10 ≤ n) : (Nat.toDigits 10 n).map Char.toNat = (Nat.toDigits 10 (n / 10)).map Char.toNat ++ [48 + n % 10] := by
  rw [Nat.toDigits_of_base_le (by decide) h, List.map_append]
  simp [digCh (n % 10) (by omega)]
theorem digs_ok {n : Nat} (h : n < 10000) : (Str.ofString (toString (n : Int))).cps.toList = digsOf n := by
  rw [PySem.W.KIN.signs_num]
  unfold digsOf
  split
  · exact digs_small (by assumption)
  · split
    · rw [digs_step (by omega), digs_small (by omega)]
      rfl
    · split
      · rw [digs_step (by omega), digs_step (by omega), digs_small (by omega)]
        rw [show n / 10 / 10 = n / 100 by omega]
        rfl
      · rw [digs_step (by omega), digs_step (by omega), digs_step (by omega), digs_small (by omega)]
        rw [show n / 10 / 10 / 10 = n / 1000 by omega, show n / 10 / 10 % 10 = n / 100 % 10 by omega]
        rfl
theorem digC_iff {c : Nat} : digC c = true ↔ 48 ≤ c ∧ c ≤ 57 := by
  unfold digC
  simp
theorem len4 {l : List Nat} (h1 : 1 ≤ l.length) (h4 : l.length ≤ 4) : (∃ a, l = [a]) ∨ (∃ a b, l = [a, b]) ∨ (∃ a b c, l = [a, b, c]) ∨ ∃ a b c d, l = [a, b, c, d] := by
  match l, h1, h4 with
  | [a], _, _ => exact .inl ⟨a, rfl⟩
  | [a, b], _, _ => exact .inr (.inl ⟨a, b, rfl⟩)
  | [a, b, c], _, _ => exact .inr (.inr (.inl ⟨a, b, c, rfl⟩))
  | [a, b, c, d], _, _ => exact .inr (.inr (.inr ⟨a, b, c, d, rfl⟩))
theorem val1 (a : Nat) : valL [a] = a - 48 := by show 0 * 10 + (a - 48) = _; omega
theorem val2 (a b : Nat) : valL [a, b] = (a - 48) * 10 + (b - 48) := by show (0 * 10 + (a - 48)) * 10 + (b - 48) = _; omega
theorem val3 (a b c : Nat) : valL [a, b, c] = ((a - 48) * 10 + (b - 48)) * 10 + (c - 48) := by show ((0 * 10 + (a - 48)) * 10 + (b - 48)) * 10 + (c - 48) = _; omega
theorem val4 (a b c d : Nat) : valL [a, b, c, d] = (((a - 48) * 10 + (b - 48)) * 10 + (c - 48)) * 10 + (d - 48) := by show (((0 * 10 + (a - 48)) * 10 + (b - 48)) * 10 + (c - 48)) * 10 + (d - 48) = _; omega
theorem dig_canon {l : List Nat} (h : l.all digC = true) (h1 : 1 ≤ l.length) (h4 : l.length ≤ 4) : valL l < 10000 ∧ (digsOf (valL l) = l ↔ (l = [48] ∨ l.headD 0 ≠ 48)) := by
  have hd : ∀ c ∈ l, 48 ≤ c ∧ c ≤ 57 := fun c hc => digC_iff.mp (List.all_eq_true.mp h c hc)
  rcases len4 h1 h4 with ⟨a, rfl⟩ | ⟨a, b, rfl⟩ | ⟨a, b, c, rfl⟩ | ⟨a, b, c, d, rfl⟩
  · have := hd a (by simp)
    rw [val1]
    refine ⟨by omega, ?_⟩
    unfold digsOf
    rw [if_pos (by omega)]
    simp
    omega
  · have ha := hd a (by simp)
    have hb := hd b (by simp)
    rw [val2]
    refine ⟨by omega, ?_⟩
    unfold digsOf
    by_cases e : a = 48
    · subst e
      rw [if_pos (by omega)]
      simp
    · rw [if_neg (by omega), if_pos (by omega)]
      simp [e]
      omega
  · have ha := hd a (by simp)
    have hb := hd b (by simp)
    have hc := hd c (by simp)
    rw [val3]
    refine ⟨by omega, ?_⟩
    unfold digsOf
    by_cases e : a = 48
    · subst e
      split
      · simp
      · rw [if_pos (by omega)]
        simp
    · rw [if_neg (by omega), if_neg (by omega), if_pos (by omega)]
      simp [e]
      omega
  · have ha := hd a (by simp)
    have hb := hd b (by simp)
    have hc := hd c (by simp)
    have he := hd d (by simp)
    rw [val4]
    refine ⟨by omega, ?_⟩
    unfold digsOf
    by_cases e : a = 48
    · subst e
      split
      · simp
      · split
        · simp
        · rw [if_pos (by omega)]
          simp
    · rw [if_neg (by omega), if_neg (by omega), if_neg (by omega)]
      simp [e]
      omega
theorem str_len (z : Str) : z.cps.toList.length = z.length := Array.length_toList
theorem str_eq {a b : Str} : a = b ↔ a.cps.toList = b.cps.toList := ⟨fun e => by rw [e], S_inj⟩
theorem digB_facts {z : Str} (h : digB z = true) : 1 ≤ z.length ∧ z.length ≤ 4 ∧ z.cps.toList.all digC = true ∧ valL z.cps.toList ≤ 4095 ∧ (z.cps.toList = [48] ∨ z.cps.toList.headD 0 ≠ 48) := by
  unfold digB at h
  simp only [Bool.and_eq_true, Bool.or_eq_true, decide_eq_true_eq] at h
  obtain ⟨⟨⟨⟨h1, h2⟩, h3⟩, h4⟩, h5⟩ := h
  exact ⟨h1, h2, h3, h4, h5.elim (fun e => .inl (by rw [e]; rfl)) .inr⟩
theorem dig_text {z : Str} (h : digB z = true) : Str.ofString (toString (valL z.cps.toList : Int)) = z := by
  obtain ⟨h1, h2, h3, h4, h5⟩ := digB_facts h
  obtain ⟨c1, c2⟩ := dig_canon h3 (by rw [str_len]; exact h1) (by rw [str_len]; exact h2)
  exact S_inj (by rw [digs_ok c1]; exact c2.mpr h5)
/-- str(n) is one -/
theorem dig_num {n : Nat} (h : n < 4096) : digB (Str.ofString (toString (n : Int))) = true ∧ valL (Str.ofString (toString (n : Int))).cps.toList = n := by
  have e := digs_ok (n := n) (by omega)
  have l1 : (digsOf n).all digC = true ∧ 1 ≤ (digsOf n).length ∧ (digsOf n).length ≤ 4 ∧ valL (digsOf n) = n ∧ (digsOf n = [48] ∨ (digsOf n).headD 0 ≠ 48) := by
    unfold digsOf
    split
    · refine ⟨by simp [digC_iff]; omega, by simp, by simp, by rw [val1]; omega, ?_⟩
      simp
      omega
    · split
      · refine ⟨by simp [digC_iff]; omega, by simp, by simp, by rw [val2]; omega, ?_⟩
        simp
        omega
      · split
        · refine ⟨by simp [digC_iff]; omega, by simp, by simp, by rw [val3]; omega, ?_⟩
          simp
          omega
        · refine ⟨by simp [digC_iff]; omega, by simp, by simp, by rw [val4]; omega, ?_⟩
          simp
          omega
  obtain ⟨a1, a2, a3, a4, a5⟩ := l1
  refine ⟨?_, by rw [e]; exact a4⟩
  unfold digB
  simp only [Bool.and_eq_true, Bool.or_eq_true, decide_eq_true_eq]
  rw [← str_len, e]
  exact ⟨⟨⟨⟨a2, a3⟩, a1⟩, by rw [a4]; omega⟩, a5.elim (fun q => .inl (S_inj (by rw [e, q]; rfl))) .inr⟩
theorem dig_law {z : Str} (h : z.cps.toList.all digC = true) (h1 : 1 ≤ z.length) (h4 : z.length ≤ 4) : (decide (Str.ofString (toString (valL z.cps.toList : Int)) = z) && decide (valL z.cps.toList < 4096)) = digB z := by
  obtain ⟨c1, c2⟩ := dig_canon h (by rw [str_len]; exact h1) (by rw [str_len]; exact h4)
  rw [Bool.eq_iff_iff]
  unfold digB
  simp only [Bool.and_eq_true, Bool.or_eq_true, decide_eq_true_eq]
  rw [str_eq, digs_ok c1, c2]
  constructor
  · rintro ⟨a, b⟩
    exact ⟨⟨⟨⟨h1, h4⟩, h⟩, by omega⟩, a.elim (fun q => .inl (S_inj (by rw [q]; rfl))) .inr⟩
  · rintro ⟨⟨_, b⟩, a⟩
    exact ⟨a.elim (fun q => .inl (by rw [q]; rfl)) .inr, by omega⟩
theorem name_dig {z : Str} (h : nameB z = true) : digB z = false := by
  cases hd : digB z with
  | false => rfl
  | true =>
    obtain ⟨h1, _, h3, _⟩ := digB_facts hd
    unfold nameB lowB at h
    simp only [Bool.and_eq_true] at h
    obtain ⟨_, ⟨_, h4⟩, _⟩ := h
    cases e : z.cps.toList with
    | nil =>
      rw [← str_len, e] at h1
      exact absurd h1 (by decide)
    | cons c r =>
      rw [e] at h3 h4
      have a := digC_iff.mp (List.all_eq_true.mp h3 c (List.mem_cons_self ..))
      have b := List.all_eq_true.mp h4 c (List.mem_cons_self ..)
      simp [low] at b
      omega
theorem told_text {z : Str} (h : plainB z = true) : textD (toldD z) = z ∧ plainD (toldD z) = true := by
  unfold toldD
  by_cases hd : digB z = true
  · rw [if_pos hd]
    refine ⟨dig_text hd, ?_⟩
    obtain ⟨_, _, _, h4, _⟩ := digB_facts hd
    show (decide ((0 : Int) ≤ (valL z.cps.toList : Int)) && decide ((valL z.cps.toList : Int) ≤ 4095)) = true
    simp only [Bool.and_eq_true, decide_eq_true_eq]
    omega
  · rw [if_neg hd]
    refine ⟨rfl, ?_⟩
    unfold plainB at h
    rw [Bool.or_eq_true] at h
    exact h.resolve_right hd
theorem told_name {z : Str} (h : nameB z = true) : toldD z = .str z := by
  unfold toldD
  rw [name_dig h]
  rfl
mutual
def fitD : PyData → Bool
  | .str z => decide (z.length ≤ 1000000)
  | .list ds => fitAll ds
  | .tuple ds => fitAll ds
  | _ => true
def fitAll : List PyData → Bool
  | [] => true
  | d :: r => fitD d && fitAll r
end
theorem fitAll_mem : ∀ {ds : List PyData}, fitAll ds = true → ∀ d ∈ ds, fitD d = true
  | [], _, _, h => nomatch h
  | d :: r, h, x, hx => by
    have h : (fitD d && fitAll r) = true := h
    rw [Bool.and_eq_true] at h
    rcases List.mem_cons.mp hx with rfl | hx
    · exact h.1
    · exact fitAll_mem h.2 x hx
end K34
namespace K34
open PySem PySem.Spec PyProof.Rows L2 Kx SX LamX Ms
/-- the name of the type of data -/
def tyD : PyData → String
  | .none => "NoneType"
  | .bool _ => "bool"
  | .int _ => "int"
  | .str _ => "str"
  | .list _ => "list"
  | .tuple _ => "tuple"
  | _ => "dict"
def isS : PyData → Bool
  | .str _ => true
  | _ => false
theorem dp_ty {K : PySem.W.Frag} {H : Hp} {x : V} {d : PyData} (h : Dp K H x d) : TyX K H x (.type (tyD d)) := by
  cases h with
  | non => exact .base .non
  | bl b => exact .base (.bl b)
  | int i => exact .base (.int i)
  | str z => exact .base (.str z)
  | lst h _ => exact tyL h
  | tup h _ => exact tyT h
theorem dp_str {K : PySem.W.Frag} {H : Hp} {x : V} {d : PyData} (h : Dp K H x d) : kitB (tyD d) "str" = some (isS d) := by
  cases h <;> (show kitB _ "str" = some _; dsimp only [tyD, isS]; decide +kernel)
theorem str_S (z : Str) : z = S z.cps.toList := S_inj rfl
theorem sq_NN {K : PySem.W.Frag} {mg : Str → Option Value} {w : World} (T : Tx w K mg) (H : Hp) : SqT K H T.D_NO_NAMES (tblN.map V.str) := T.tD_NO_NAMES H
theorem sq_SG {K : PySem.W.Frag} {mg : Str → Option Value} {w : World} (T : Tx w K mg) (H : Hp) : SqT K H T.D_SIGNS (sgnN.map V.str) := T.tD_SIGNS H
theorem flat_strs (zs : List Str) : (zs.map V.str).all flatV = true := by
  rw [List.all_map]
  exact List.all_eq_true.mpr fun _ _ => rfl
theorem inV_strs (z : Str) (zs : List Str) : inV (.str z) (zs.map V.str) = decide (z ∈ zs) := by
  unfold inV
  rw [List.any_map]
  rw [Bool.eq_iff_iff, decide_eq_true_eq, List.any_eq_true]
  constructor
  · rintro ⟨y, hy, e⟩
    have : y = z := by simpa [eqV] using e
    exact this ▸ hy
  · intro h
    exact ⟨z, h, by simp [eqV]⟩
theorem uni_dig : ∀ c < 128, Unicode.isDigit c = digC c := by decide +kernel
theorem dig_ascii (z : Str) : (Txt.isascii z && Txt.isdigit z) = (decide (1 ≤ z.length) && z.cps.toList.all digC) := by
  have e1 : Txt.isascii z = z.cps.toList.all fun c => decide (c < 128) := by unfold Txt.isascii; rw [← Array.all_toList]
  have e2 : Txt.isdigit z = (decide (z.length > 0) && z.cps.toList.all Unicode.isDigit) := by unfold Txt.isdigit; rw [← Array.all_toList]
  rw [e1, e2, Bool.eq_iff_iff]
  simp only [Bool.and_eq_true, decide_eq_true_eq, List.all_eq_true]
  constructor
  · rintro ⟨h1, h2, h3⟩
    exact ⟨h2, fun c hc => by rw [← uni_dig c (h1 c hc)]; exact h3 c hc⟩
  · rintro ⟨h1, h2⟩
    have h3 : ∀ c ∈ z.cps.toList, c < 128 := fun c hc => by have := digC_iff.mp (h2 c hc); omega
    exact ⟨h3, h1, fun c hc => by rw [uni_dig c (h3 c hc)]; exact h2 c hc⟩
theorem int_dig {z : Str} (h : z.cps.toList.all digC = true) (h1 : 1 ≤ z.length) (h4 : z.length ≤ 4) : intText? z = some ((valL z.cps.toList : Nat) : Int) := by
  refine PySem.intText_digits (fun c hc => digC_iff.mp (List.all_eq_true.mp h c hc)) (fun e => ?_) (by omega)
  rw [← str_len, e] at h1
  exact absurd h1 (by decide)
theorem decS (a b : Str) : decide (V.str a = V.str b) = decide (a = b) := by
  by_cases z : a = b
  · rw [z]; simp
  · rw [decide_eq_false z, decide_eq_false (fun y => z (V.str.inj y))]
section
variable {P : Program} {w : World} {K : PySem.W.Frag} {mg : Str → Option Value} {base : Heap} (T : Tx w K mg)
/-! ### names and plains -/
def sp_is_name (K : PySem.W.Frag) : Sp := fun vs H Q _ => ∃ (x : V) (d : PyData), vs = [x] ∧ Dp K H x d ∧ fitD d = true ∧ Q (.bl (onS nameB d)) H
theorem ok_is_name : FnOk P w K mg base CX0 2 T.f_is_name T.fd_is_name ["value"] (sp_is_name K) := by
  refine T.F_is_name.ok sc_is_name (fun vs H Q E h => ?_) (fun cdv A outer s H vs Q E hr h => ?_)
  · obtain ⟨x, d, rfl, _⟩ := h
    rfl
  · obtain ⟨x, d, rfl, hx, hf, q⟩ := h
    refine ⟨_, (pss_cons (ps_if (PW.pt (pw_or (pt_not (pt_val (pe_callB call_isi (by rfl) T.m_isinstance (by decide +kernel) (pa_cons (pv 0) (pa_cons (pe_bltn (v := .ty "str") (by rfl) T.m_str (by decide +kernel) rfl) pa_nil))))) (pw_or1 (pt_cmpR op_gt (pe_callB call_len_str (by rfl) T.m_len PySem.boot_len (pa_cons (pv 0) pa_nil)) (pe_glob (v := .int 8) (by rfl) T.c_MOST_NAME_LETTERS ⟨_, rfl⟩) (nomark _)))))
      (pss_one (ps_ret pe_bl))
      pss_nil)
    (pss_one (ps_ret (pe_and (pe_call (ok_are_letters T) (hr.mono (by decide)) (by rfl) T.g_are_letters T.F_are_letters.kp T.b_are_letters .nil pass0 (pa_cons (pv 0) pa_nil)) (pe_one (pe_cmpR op_notIn_seq (pv 0) (pe_glob (v := .ref T.D_NO_NAMES) (by rfl) T.gD_NO_NAMES rfl) rfl)))))), ?_⟩
    refine ⟨x, rfl, x, _, _, _, isS d, rfl, .ty _, dp_ty hx, kit_ty (dp_str hx), _, rfl, ?_⟩
    cases hx with
    | str z =>
      have hz : z.length ≤ 1000000 := of_decide_eq_true hf
      have q : Q (.bl (nameB z)) H := q
      refine iteF (A := _) ⟨_, rfl, z, rfl, Nat.le_trans hz (by decide), _, _, rfl, rfl, _, rfl, iteC (fun e => ?_) (fun e => ?_)⟩
      · have e := of_decide_eq_true e
        have : nameB z = false := by unfold nameB; rw [decide_eq_false (by omega)]; rfl
        rw [this] at q
        exact q
      · have e := of_decide_eq_false e
        have : nameB z = (lowB z.cps.toList && !decide (z ∈ tblN)) := by unfold nameB; rw [decide_eq_true (by omega)]; rfl
        rw [this] at q
        dsimp only [tNext]
        refine go_ret (go_and ?_)
        refine ⟨_, rfl, z.cps.toList, congrArg (fun t => [V.str t]) (str_S z), _, rfl, iteC (fun e2 => ?_) (fun e2 => ?_)⟩
        · rw [e2] at q
          refine ⟨_, rfl, T.D_NO_NAMES, _, rfl, .inr (sq_NN T H), rfl, flat_strs _, ?_⟩
          rw [inV_strs]
          exact q
        · rw [e2] at q
          exact q
    | _ => exact iteT (B := _) q
def sp_is_digits (K : PySem.W.Frag) : Sp := fun vs H Q _ => ∃ (x : V) (d : PyData), vs = [x] ∧ Dp K H x d ∧ fitD d = true ∧ Q (.bl (onS digB d)) H
theorem ok_is_digits : FnOk P w K mg base CX0 1 T.f_is_digits T.fd_is_digits ["value"] (sp_is_digits K) := by
  refine T.F_is_digits.ok sc_is_digits (fun vs H Q E h => ?_) (fun cdv A outer s H vs Q E hr h => ?_)
  · obtain ⟨x, d, rfl, _⟩ := h
    rfl
  · obtain ⟨x, d, rfl, hx, hf, q⟩ := h
    refine ⟨_, (pss_cons (ps_if (PW.pt (pw_or (pt_not (pt_val (pe_callB call_isi (by rfl) T.m_isinstance (by decide +kernel) (pa_cons (pv 0) (pa_cons (pe_bltn (v := .ty "str") (by rfl) T.m_str (by decide +kernel) rfl) pa_nil))))) (pw_or1 (pt_not (pt_chain op_le op_le pe_int (pe_callB call_len_str (by rfl) T.m_len PySem.boot_len (pa_cons (pv 0) pa_nil)) (pe_glob (v := .int 4) (by rfl) T.c_MOST_PLAIN_DIGITS ⟨_, rfl⟩))))))
      (pss_one (ps_ret pe_bl))
      pss_nil)
    (pss_cons (ps_if (PW.pt (pw_or (pt_not (pt_val (pe_m0 PySem.F.slot_str_isascii PySem.F.type_str_isascii mt_isascii (pv 0)))) (pw_or1 (pt_not (pt_val (pe_m0 PySem.F.slot_str_isdigit PySem.F.type_str_isdigit mt_isdigit (pv 0)))))))
      (pss_one (ps_ret pe_bl))
      pss_nil)
    (pss_one (ps_ret (pe_and (pe_cmpR op_le (pe_callTy call_int_str (by rfl) T.m_int (by decide +kernel) (pa_cons (pv 0) pa_nil)) (pe_glob (v := .int 4095) (by rfl) T.c_MOST_PLAIN ⟨_, rfl⟩) (nomark _)) (pe_one (pe_or (pe_cmpR op_eq (pv 0) pe_str (nomark _)) (pe_one (pe_cmpR op_ne (pe_ix ix_str (pv 0) pe_int (fun _ _ => rfl)) pe_str (nomark _)))))))))), ?_⟩
    refine ⟨x, rfl, x, _, _, _, isS d, rfl, .ty _, dp_ty hx, kit_ty (dp_str hx), _, rfl, ?_⟩
    cases hx with
    | str z =>
      have hz : z.length ≤ 1000000 := of_decide_eq_true hf
      have q : Q (.bl (digB z)) H := q
      have no : ∀ {b : Bool}, digB z = b → b = false → Q (.bl false) H := fun {b} e1 e2 => by rw [e1, e2] at q; exact q
      have sz : sizeLine ≥ 1000000 := by decide
      refine iteF (A := _) (go_not (go_test (go_chain (go_c (go_cb (go_cons (go_var rfl (go_nil ⟨z, rfl, Nat.le_trans hz (by decide), _, _, rfl, rfl, _, rfl, iteC (fun e => go_c ⟨_, _, rfl, rfl, _, rfl, ?_⟩) (fun e => ⟨_, rfl, ?_⟩)⟩))))))))
      · have e := of_decide_eq_true e
        refine iteC (fun e4 => no (b := false) ?_ rfl) (fun e4 => ?_)
        · have e4 : decide ((z.length : Int) ≤ 4) = false := by simpa using e4
          have := of_decide_eq_false e4
          unfold digB
          rw [decide_eq_false (p := z.length ≤ 4) (by omega)]
          simp
        have e4 : decide ((z.length : Int) ≤ 4) = true := by simpa using e4
        have e4 := of_decide_eq_true e4
        dsimp only [tNext]
        have hda : (Txt.isascii z && Txt.isdigit z) = false → digB z = false := fun hn => by
          cases hd : digB z with
          | false => rfl
          | true =>
            obtain ⟨h1, _, h3, _⟩ := digB_facts hd
            rw [dig_ascii, h3, decide_eq_true h1] at hn
            exact hn
        refine go_seq (go_if (go_or2 (go_not (go_b ⟨_, rfl, ⟨_, rfl⟩, z, rfl, rfl, trivial, _, rfl, iteC (fun e5 => ?_) (fun e5 => ?_)⟩))))
        · exact iteT (no (hda (by rw [Bool.not_eq_true'] at e5; rw [e5]; rfl)) rfl)
        have e5 : Txt.isascii z = true := by rw [Bool.not_eq_false'] at e5; exact e5
        refine go_not (go_b ⟨_, rfl, ⟨_, rfl⟩, z, rfl, rfl, trivial, _, rfl, iteC (fun e6 => ?_) (fun e6 => ?_)⟩)
        · exact no (hda (by rw [Bool.not_eq_true'] at e6; rw [e5, e6]; rfl)) rfl
        have e6 : Txt.isdigit z = true := by rw [Bool.not_eq_false'] at e6; exact e6
        have ha := dig_ascii z
        rw [e5, e6] at ha
        have ha : (decide (1 ≤ z.length) && z.cps.toList.all digC) = true := ha.symm
        rw [Bool.and_eq_true] at ha
        have h1 := of_decide_eq_true ha.1
        have e0 : digB z = (decide (valL z.cps.toList ≤ 4095) && (decide (z = "0") || decide (z.cps.toList.headD 0 ≠ 48))) := by
          unfold digB
          rw [ha.1, ha.2, decide_eq_true (p := z.length ≤ 4) (by omega)]
          rfl
        rw [e0] at q
        dsimp only [tNext]
        refine go_ret (go_and (go_op (go_cb (go_cons (go_var rfl (go_nil ⟨z, _, rfl, int_dig ha.2 h1 (by omega), by omega, go_c ⟨_, _, rfl, rfl, _, rfl, iteC (fun e7 => ?_) (fun e7 => ?_)⟩⟩))))))
        · have e7 := of_decide_eq_true e7
          rw [decide_eq_true (p := valL z.cps.toList ≤ 4095) (by omega)] at q
          refine go_or (go_op (go_var rfl (go_c ⟨rfl, _, rfl, iteC (fun e8 => ?_) (fun e8 => ?_)⟩)))
          · rw [decS] at e8
            rw [e8] at q
            exact q
          · rw [decS] at e8
            rw [e8] at q
            cases el : z.cps.toList with
            | nil =>
              rw [← str_len, el] at h1
              exact absurd h1 (by decide)
            | cons c r =>
              refine go_op (go_op (go_var rfl (go_c ⟨z, 0, c, rfl, rfl, Nat.le_trans hz (by decide), by rw [el]; exact at_nat (xs := c :: r) (i := 0) (Nat.succ_pos _), go_c ⟨rfl, ?_⟩⟩)))
              rw [decS]
              have : decide ((⟨#[c]⟩ : Str) = "0") = decide (c = 48) := by
                rw [Bool.eq_iff_iff, decide_eq_true_eq, decide_eq_true_eq]
                constructor
                · intro h
                  have := congrArg (fun z : Str => z.cps.toList) h
                  have h2 : (Str.ofString "0").cps.toList = [48] := rfl
                  rw [h2] at this
                  simpa using this
                · intro h
                  rw [h]
                  rfl
              rw [this]
              rw [el] at q
              have : decide ((c :: r).headD 0 ≠ 48) = !decide (c = 48) := by simp
              rw [this] at q
              exact q
        · have e7 := of_decide_eq_false e7
          rw [decide_eq_false (p := valL z.cps.toList ≤ 4095) (by omega)] at q
          exact q
      · have e := of_decide_eq_false e
        refine iteT (B := _) (no (b := false) ?_ rfl)
        unfold digB
        rw [decide_eq_false (p := 1 ≤ z.length) (by omega)]
        rfl
    | _ => exact iteT (B := _) q
def sp_is_plain (K : PySem.W.Frag) : Sp := fun vs H Q _ => ∃ (x : V) (d : PyData), vs = [x] ∧ Dp K H x d ∧ fitD d = true ∧ Q (.bl (onS plainB d)) H
theorem ok_is_plain : FnOk P w K mg base CX0 3 T.f_is_plain T.fd_is_plain ["value"] (sp_is_plain K) := by
  refine T.F_is_plain.ok sc_is_plain (fun vs H Q E h => ?_) (fun cdv A outer s H vs Q E hr h => ?_)
  · obtain ⟨x, d, rfl, _⟩ := h
    rfl
  · obtain ⟨x, d, rfl, hx, hf, q⟩ := h
    refine ⟨_, (pss_one (ps_ret (pe_or (pe_call (ok_is_name T) (hr.mono (by decide)) (by rfl) T.g_is_name T.F_is_name.kp T.b_is_name .nil pass0 (pa_cons (pv 0) pa_nil)) (pe_one (pe_call (ok_is_digits T) (hr.mono (by decide)) (by rfl) T.g_is_digits T.F_is_digits.kp T.b_is_digits .nil pass0 (pa_cons (pv 0) pa_nil)))))), ?_⟩
    have e0 : onS plainB d = (onS nameB d || onS digB d) := by cases d <;> rfl
    rw [e0] at q
    refine ⟨x, rfl, x, d, rfl, hx, hf, _, rfl, iteC (fun e => ?_) (fun e => ⟨x, rfl, x, d, rfl, hx, hf, ?_⟩)⟩
    · rw [e] at q
      exact q
    · rw [e] at q
      exact q
def optL : Option (List Str) → V → Hp → Prop
  | none, v, _ => v = .non
  | some ks, v, H => ∃ p, v = .ref p ∧ H p = some (.tup (ks.map V.str))
def sp_kinds_behind (K : PySem.W.Frag) : Sp := fun vs H Q _ => ∃ (k it : Str), vs = [.str k, .str it] ∧ it.length ≤ 1000000 ∧ ∀ v H', Same H H' → optL (behB k it) v H' → Q v H'
theorem ok_kinds_behind : FnOk P w K mg base CX0 4 T.f_kinds_behind T.fd_kinds_behind ["kind", "item"] (sp_kinds_behind K) := by
  refine T.F_kinds_behind.ok sc_kinds_behind (fun vs H Q E h => ?_) (fun cdv A outer s H vs Q E hr h => ?_)
  · obtain ⟨k, it, rfl, _⟩ := h
    rfl
  · obtain ⟨k, it, rfl, hz, q⟩ := h
    refine ⟨_, (pss_cons (ps_if (pt_cmpR op_eq (pv 0) pe_str (nomark _))
      (pss_one (ps_ret (pe_ifExp (pt_val (pe_call (ok_is_name T) (hr.mono (by decide)) (by rfl) T.g_is_name T.F_is_name.kp T.b_is_name .nil pass0 (pa_cons (pv 1) pa_nil))) (pe_tup pa_nil) pe_non)))
      pss_nil)
    (pss_cons (ps_if (pt_cmpR op_eq (pv 0) pe_str (nomark _))
      (pss_one (ps_ret (pe_ifExp (pt_val (pe_call (ok_is_plain T) (hr.mono (by decide)) (by rfl) T.g_is_plain T.F_is_plain.kp T.b_is_plain .nil pass0 (pa_cons (pv 1) pa_nil))) (pe_tup pa_nil) pe_non)))
      pss_nil)
    (pss_cons (ps_if (pt_cmpR op_eq (pv 0) pe_str (nomark _))
      (pss_one (ps_ret (pe_ifExp (pt_cmpR op_in_seq (pv 1) (pe_glob (v := .ref T.D_SIGNS) (by rfl) T.gD_SIGNS rfl) rfl) (pe_tup (pa_cons pe_str pa_nil)) pe_non)))
      pss_nil)
    (pss_cons (ps_if (pt_cmpR op_in_seq (pv 1) (pe_tup (pa_cons pe_str (pa_cons pe_str pa_nil))) rfl)
      (pss_one (ps_ret (pe_tup (pa_cons pe_str pa_nil))))
      pss_nil)
    (pss_one (ps_ret (pe_ifExp (pt_val (pe_call (ok_is_plain T) (hr.mono (by decide)) (by rfl) T.g_is_plain T.F_is_plain.kp T.b_is_plain .nil pass0 (pa_cons (pv 1) pa_nil))) (pe_tup (pa_cons pe_str pa_nil)) pe_non))))))), ?_⟩
    have fz : fitD (.str it) = true := decide_eq_true hz
    have ret : ∀ (ks : List Str) (H1 : Hp), Same H H1 → behB k it = some ks → ∀ p, H1 p = none → Q (.ref p) (upd H1 p (.tup (ks.map V.str))) := fun ks H1 e e1 p np => q _ _ (e.trans (same_new np)) (by rw [e1]; exact ⟨p, rfl, upd_same⟩)
    have non : ∀ (H1 : Hp), Same H H1 → behB k it = none → Q .non H1 := fun H1 e e1 => q _ _ e (by rw [e1]; rfl)
    have ss : Same H H := fun _ _ h => h
    refine go_seq (go_if (go_test (go_op (go_var rfl (go_c ⟨rfl, _, rfl, iteC (fun e => ?_) (fun e => ?_)⟩)))))
    · rw [decS] at e
      have e := of_decide_eq_true e
      refine go_ret (go_ife ⟨_, rfl, .str it, .str it, rfl, .str it, fz, _, rfl, iteC (fun e2 => ?_) (fun e2 => ?_)⟩)
      · exact go_tup (go_nil ⟨Nat.zero_le _, fun p np => ret [] H ss (by unfold behB; rw [if_pos e, if_pos (show nameB it = true from e2)]) p np⟩)
      · exact go_c (non H ss (by unfold behB; rw [if_pos e, if_neg (by rw [show nameB it = false from e2]; decide)]))
    rw [decS] at e
    have n1 := of_decide_eq_false e
    clear e
    dsimp only [tNext]
    refine go_seq (go_if (go_test (go_op (go_var rfl (go_c ⟨rfl, _, rfl, iteC (fun e => ?_) (fun e => ?_)⟩)))))
    · rw [decS] at e
      have e := of_decide_eq_true e
      refine go_ret (go_ife ⟨_, rfl, .str it, .str it, rfl, .str it, fz, _, rfl, iteC (fun e2 => ?_) (fun e2 => ?_)⟩)
      · exact go_tup (go_nil ⟨Nat.zero_le _, fun p np => ret [] H ss (by unfold behB; rw [if_neg n1, if_pos e, if_pos (show plainB it = true from e2)]) p np⟩)
      · exact go_c (non H ss (by unfold behB; rw [if_neg n1, if_pos e, if_neg (by rw [show plainB it = false from e2]; decide)]))
    rw [decS] at e
    have n2 := of_decide_eq_false e
    clear e
    dsimp only [tNext]
    refine go_seq (go_if (go_test (go_op (go_var rfl (go_c ⟨rfl, _, rfl, iteC (fun e => ?_) (fun e => ?_)⟩)))))
    · rw [decS] at e
      have e := of_decide_eq_true e
      refine go_ret (go_ife (go_test (go_op (go_var rfl (go_c ⟨T.D_SIGNS, _, rfl, .inr (sq_SG T H), rfl, flat_strs _, _, rfl, ?_⟩)))))
      rw [inV_strs]
      refine iteC (fun e2 => ?_) (fun e2 => ?_)
      · exact go_tup (go_cons (go_c (go_nil ⟨by show 1 ≤ sizeLine; decide, fun p np => ret [("plain" : Str)] H ss (by unfold behB; rw [if_neg n1, if_neg n2, if_pos e, if_pos (of_decide_eq_true (by simpa using e2))]) p np⟩)))
      · exact go_c (non H ss (by unfold behB; rw [if_neg n1, if_neg n2, if_pos e, if_neg (of_decide_eq_false (by simpa using e2))]))
    rw [decS] at e
    have n3 := of_decide_eq_false e
    clear e
    dsimp only [tNext]
    refine go_seq (go_if (go_test (go_op (go_var rfl (go_tup (go_cons (go_c (go_cons (go_c (go_nil ⟨by show 2 ≤ sizeLine; decide, fun p np => ?_⟩))))))))))
    refine ⟨p, [("at" : Str), "mine"].map V.str, rfl, .inr (.inl (.inl upd_same)), rfl, rfl, _, rfl, ?_⟩
    rw [inV_strs]
    have s1 := same_new (o := HO.tup [V.str "at", V.str "mine"]) np
    generalize upd H p (HO.tup [V.str "at", V.str "mine"]) = H1 at s1 ⊢
    refine iteC (fun e => ?_) (fun e => ?_)
    · have e : it = "at" ∨ it = "mine" := by simpa using e
      exact go_ret (go_tup (go_cons (go_c (go_nil ⟨by show 1 ≤ sizeLine; decide, fun p np => ret [("plain" : Str)] H1 s1 (by unfold behB; rw [if_neg n1, if_neg n2, if_neg n3, if_pos e]) p np⟩))))
    have n4 : ¬ (it = "at" ∨ it = "mine") := by simpa using e
    dsimp only [tNext]
    refine go_ret (go_ife ⟨_, rfl, .str it, .str it, rfl, .str it, fz, _, rfl, iteC (fun e2 => ?_) (fun e2 => ?_)⟩)
    · exact go_tup (go_cons (go_c (go_nil ⟨by show 1 ≤ sizeLine; decide, fun p np => ret [("sign" : Str)] H1 s1 (by unfold behB; rw [if_neg n1, if_neg n2, if_neg n3, if_neg n4, if_pos (show plainB it = true from e2)]) p np⟩)))
    · exact go_c (non H1 s1 (by unfold behB; rw [if_neg n1, if_neg n2, if_neg n3, if_neg n4, if_neg (by rw [show plainB it = false from e2]; decide)]))
end
end K34
namespace K34
open PySem PySem.Spec PyProof.Rows L2 Kx SX LamX Ms
def optV : Option Nat → V
  | none => .non
  | some n => .int (n : Int)
theorem dpAll_strs {K : PySem.W.Frag} {H : Hp} : ∀ (zs : List Str), DpAll K H (zs.map V.str) (zs.map PyData.str)
  | [] => .nil
  | z :: r => .cons (.str z) (dpAll_strs r)
theorem at_str {zs : List Str} {i : Nat} {z : Str} (e : zs[i]? = some z) : atI (zs.map V.str) (i : Int) = some (.str z) := by
  have hi := (List.getElem?_eq_some_iff.mp e).1
  rw [at_nat (by rw [List.length_map]; exact hi), List.getElem_map]
  rw [List.getElem?_eq_getElem hi] at e
  rw [Option.some.inj e]
def kindL : List Str := ["name", "worth", "plain", "sign"]
theorem pl_str {z : Str} (h : cdC z.cps.toList) : Pl 0 (.str z) := by
  have := pl_text h
  rw [← str_S] at this
  exact this
theorem pl_kind : ∀ k ∈ kindL, Pl 0 (.str k) := fun k hk => by
  refine pl_str ?_
  simp only [kindL, List.mem_cons, List.not_mem_nil, or_false] at hk
  rcases hk with rfl | rfl | rfl | rfl <;> exact ok_ofString _
theorem eqv_str (a b : Str) : PyData.eqv (.str a) (.str b) = decide (a = b) := by
  have := eqv_text a.cps.toList b.cps.toList
  rw [← str_S, ← str_S] at this
  rw [this, Bool.eq_iff_iff, decide_eq_true_eq, decide_eq_true_eq]
  exact str_eq.symm
theorem eqv_strs (xs ys : List Str) : PyData.eqv (.list (xs.map PyData.str)) (.list (ys.map PyData.str)) = decide (xs = ys) := eqvAll_map eqv_str xs ys
theorem beh_kind {k it : Str} {ks : List Str} (h : behB k it = some ks) : ∀ k ∈ ks, k ∈ kindL := by
  unfold behB at h
  (repeat' split at h) <;> cases h <;> decide
theorem form_kind : ∀ p ∈ formL, ∀ k ∈ p.2, k ∈ kindL := by decide
theorem form_mem {w : Str} {ks : List Str} (h : formOf w = some ks) : (w, ks) ∈ formL := by
  unfold formOf at h
  cases e : formL.find? fun p => decide (p.1 = w) with
  | none => rw [e] at h; cases h
  | some p =>
    rw [e] at h
    cases h
    have h1 := List.mem_of_find?_eq_some e
    have h2 := of_decide_eq_true (List.find?_some (p := fun p : Str × List Str => decide (p.1 = w)) e)
    rw [← h2]
    exact h1
theorem form_none {w : Str} (h : formOf w = none) : w ∉ formL.map (·.1) := fun m => by
  obtain ⟨p, hp, rfl⟩ := List.mem_map.mp m
  unfold formOf at h
  cases e : formL.find? fun q => decide (q.1 = p.1) with
  | none => exact (List.find?_eq_none.mp e p hp) (decide_eq_true rfl)
  | some p => rw [e] at h; cases h
theorem form_len : ∀ p ∈ formL, p.2.length ≤ 2 := by decide
def formV : List (Str × List V) := formL.map fun p => (p.1, p.2.map V.str)
theorem formV_mem {w : Str} {ks : List Str} (h : formOf w = some ks) : (w, ks.map V.str) ∈ formV := List.mem_map.mpr ⟨_, form_mem h, rfl⟩
theorem formV_keys : formV.map (·.1) = formL.map (·.1) := by unfold formV; rw [List.map_map]; rfl
theorem form_dec (w : Str) : decide (w ∈ formV.map (·.1)) = (formOf w).isSome := by
  rw [formV_keys]
  cases h : formOf w with
  | none => exact decide_eq_false (form_none h)
  | some ks => exact decide_eq_true (List.mem_map.mpr ⟨_, form_mem h, rfl⟩)
theorem tab_F {K : PySem.W.Frag} {mg : Str → Option Value} {w : World} (T : Tx w K mg) : KTab K w T.D_FORMS formV := T.tD_FORMS
theorem beh_len {k it : Str} {ks : List Str} (h : behB k it = some ks) : ks.length ≤ 1 := by
  unfold behB at h
  (repeat' split at h) <;> cases h <;> decide
section
variable {P : Program} {w : World} {K : PySem.W.Frag} {mg : Str → Option Value} {base : Heap} (T : Tx w K mg)
/-! ### the first item that cannot stand -/
def sp_fault_in (K : PySem.W.Frag) : Sp := fun vs H Q _ => ∃ (a : Addr) (items : List Str), vs = [.ref a] ∧ SqL K H a (items.map V.str) ∧ items ≠ [] ∧ items.length ≤ 100000 ∧ (∀ z ∈ items, z.length ≤ 1000000) ∧ ∀ H', Same H H' → Q (optV (wrongP items)) H'
theorem ok_fault_in : FnOk P w K mg base CX0 5 T.f_fault_in T.fd_fault_in ["items"] (sp_fault_in K) := by
  refine T.F_fault_in.ok sc_fault_in (fun vs H Q E h => ?_) (fun cdv A outer s H vs Q E hr h => ?_)
  · obtain ⟨a, items, rfl, _⟩ := h
    rfl
  · obtain ⟨a, items, rfl, hs, hne, hl, hz, q⟩ := h
    obtain ⟨w0, r0, rfl⟩ : ∃ w0 r0, items = w0 :: r0 := by
      cases items with
      | nil => exact absurd rfl hne
      | cons x r => exact ⟨x, r, rfl⟩
    refine ⟨_, (pss_cons (ps_if (pt_cmpR op_notInT (pe_ix ix_list (pv 0) pe_int (fun _ _ => rfl)) (pe_glob (v := .ref T.D_FORMS) (by rfl) T.gD_FORMS rfl) rfl)
      (pss_one (ps_ret pe_int))
      pss_nil)
    (pss_cons (ps_set (i := 1) sc_fault_in.nd rfl (.inl rfl) (pe_callTy call_list_of (by rfl) T.m_list (by decide +kernel) (pa_cons (pe_ix ix_kT (pe_glob (v := .ref T.D_FORMS) (by rfl) T.gD_FORMS rfl) (pe_ix ix_list (pv 0) pe_int (fun _ _ => rfl)) (fun _ _ => rfl)) pa_nil)))
    (pss_cons (ps_for PassesOwn.never rfl (pi_range2 (by rfl) T.m_range (pa_cons pe_int (pa_cons (pe_callB call_len_seq (by rfl) T.m_len PySem.boot_len (pa_cons (pv 0) pa_nil)) pa_nil))) (pg_name (i := 2) sc_fault_in.nd rfl (.inl rfl))
      (pss_cons (ps_if (pt_not (pt_truth (pv 1) (fun _ => rfl)))
        (pss_one (ps_ret (pv 2)))
        pss_nil)
      (pss_cons (ps_set (i := 3) sc_fault_in.nd rfl (.inl rfl) (pe_call (ok_kinds_behind T) (hr.mono (by decide)) (by rfl) T.g_kinds_behind T.F_kinds_behind.kp T.b_kinds_behind .nil pass0 (pa_cons (pe_ix ix_list (pv 1) pe_int (fun _ _ => rfl)) (pa_cons (pe_ix ix_list (pv 0) (pv 2) (fun _ _ => rfl)) pa_nil))))
      (pss_cons (ps_if (pt_cmpR op_isN (pv 3) pe_non (nomark _))
        (pss_one (ps_ret (pv 2)))
        pss_nil)
      (pss_one (ps_set (i := 1) sc_fault_in.nd rfl (.inl rfl) (pe_op op_cat (pe_callTy call_list_of (by rfl) T.m_list (by decide +kernel) (pa_cons (pv 3) pa_nil)) (pe_slice sl_list (pv 1) (po_some pe_int) po_none))))))))
    (pss_one (ps_ret (pe_ifExp (pt_cmpR (op_inDT hr.units) (pv 1) (pe_tup (pa_cons (pe_lst pa_nil) (pa_cons (pe_lst (pa_cons pe_str pa_nil)) pa_nil))) rfl) pe_non (pe_callB call_len_seq (by rfl) T.m_len PySem.boot_len (pa_cons (pv 0) pa_nil)))))))), ?_⟩
    have at0 : atI ((w0 :: r0).map V.str) 0 = some (.str w0) := at_nat (xs := (w0 :: r0).map V.str) (i := 0) (Nat.succ_pos _)
    refine go_seq (go_if (go_test (go_op (go_op (go_var rfl (go_c ⟨a, _, 0, _, rfl, rfl, hs, at0, go_c ⟨w0, T.D_FORMS, _, rfl, rfl, tab_F T, _, rfl, ?_⟩⟩))))))
    rw [form_dec]
    cases hf : formOf w0 with
    | none =>
      have e : wrongP (w0 :: r0) = some 0 := by show (match formOf w0 with | none => some 0 | some ks => goP ks 1 r0) = _; rw [hf]
      rw [e] at q
      exact iteT (B := _) (go_ret (go_c (q H (Same.refl H))))
    | some ks =>
      have e : wrongP (w0 :: r0) = goP ks 1 r0 := by show (match formOf w0 with | none => some 0 | some ks => goP ks 1 r0) = _; rw [hf]
      rw [e] at q
      refine iteF (A := _) ?_
      dsimp only [tNext]
      refine go_seq (go_asg (go_cb (go_cons (go_op (go_c (go_op (go_var rfl (go_c ⟨a, _, 0, _, rfl, rfl, hs, at0, T.D_FORMS, _, w0, _, rfl, rfl, tab_F T, formV_mem hf, fun F hF => go_nil ⟨F, _, rfl, .inr (hF H), fun W nW => ?_⟩⟩))))))))
      dsimp only [gName]
      have s0 := same_new (o := HO.lst (ks.map V.str)) nW
      have hW : upd H W (HO.lst (ks.map V.str)) W = some (.lst (ks.map V.str)) := upd_same
      generalize upd H W (HO.lst (ks.map V.str)) = H1 at s0 hW ⊢
      have lk : ks.length ≤ 2 := form_len _ (form_mem hf)
      have hlr : r0.length + 1 ≤ 100000 := hl
      refine go_seq ⟨_, rfl, a, _, rfl, .inl (s0.seq hs), 1, _, rfl, ⟨by decide, by decide, ?_, ?_⟩, ?_⟩
      · rw [List.length_map]
        omega
      · rw [List.length_map, List.length_cons]
        omega
      have en : ((((w0 :: r0).map V.str).length : Int) - 1).toNat = r0.length := by
        rw [List.length_map, List.length_cons]
        omega
      rw [en]
      refine for_range (lo := 1) (n := r0.length) (fun i σ H' => ∃ (W : Addr) (ws : List Str) (o2 o3 : Option V), σ = [some (.ref a), some (.ref W), o2, o3] ∧ Same H H' ∧ H' W = some (.lst (ws.map V.str)) ∧ (∀ k ∈ ws, k ∈ kindL) ∧ ws.length ≤ i + 2 ∧ goP ws (1 + i) (r0.drop i) = goP ks 1 r0)
        ⟨W, ks, none, none, rfl, s0, hW, form_kind _ (form_mem hf), by omega, by rw [List.drop_zero]⟩ (fun i σ' Hc hi h => ?_) (fun σ' Hc h => ?_)
      · obtain ⟨W, ws, o2, o3, rfl, sc, hW, hk, lw, eg⟩ := h
        obtain ⟨it, hit⟩ : ∃ it, r0[i]? = some it := ⟨_, List.getElem?_eq_getElem hi⟩
        have ed : r0.drop i = it :: r0.drop (i + 1) := by
          rw [List.drop_eq_getElem_cons hi]
          rw [List.getElem?_eq_getElem hi] at hit
          rw [Option.some.inj hit]
        rw [ed] at eg
        have hzi : it.length ≤ 1000000 := hz it (List.mem_cons_of_mem _ (List.mem_of_getElem? hit))
        have atI1 : atI ((w0 :: r0).map V.str) (1 + (i : Int)) = some (.str it) := by
          rw [show (1 + (i : Int)) = ((i + 1 : Nat) : Int) by omega, at_nat (by rw [List.length_map, List.length_cons]; omega)]
          rw [List.getElem_map]
          rw [List.getElem?_eq_getElem hi] at hit
          simp only [List.getElem_cons_succ]
          rw [Option.some.inj hit]
        dsimp only [gName]
        refine go_seq (go_if (go_not (go_var rfl ⟨!(ws.map V.str).isEmpty, .inl ⟨_, .inl (.inl hW), rfl⟩, ?_⟩)))
        cases ws with
        | nil =>
          refine iteT (B := _) (go_ret (go_var rfl ?_))
          have : goP ks 1 r0 = some (1 + i) := eg.symm
          rw [this] at q
          have : Q (.int ((1 + i : Nat) : Int)) Hc := q Hc sc
          rw [show ((1 + i : Nat) : Int) = 1 + (i : Int) by omega] at this
          exact this
        | cons k kr =>
          refine iteF (A := _) ?_
          dsimp only [tNext]
          rw [goP_cons] at eg
          refine go_seq (go_asg (go_cons (go_op (go_var rfl (go_c ⟨W, _, 0, .str k, rfl, rfl, .inl (.inl hW), at_nat (xs := (k :: kr).map V.str) (i := 0) (Nat.succ_pos _), go_cons (go_op (go_var rfl (go_var rfl ⟨a, _, _, .str it, rfl, rfl, sc.seq hs, atI1, go_nil ?_⟩)))⟩)))))
          refine ⟨k, it, rfl, hzi, fun v H2 s2 hv => ?_⟩
          dsimp only [gName]
          refine go_seq (go_if (go_test (go_op (go_var rfl (go_c ⟨rfl, _, rfl, ?_⟩)))))
          cases hb : behB k it with
          | none =>
            rw [hb] at hv eg
            obtain rfl : v = .non := hv
            refine iteT (B := _) (go_ret (go_var rfl ?_))
            have : goP ks 1 r0 = some (1 + i) := eg.symm
            rw [this] at q
            have : Q (.int ((1 + i : Nat) : Int)) H2 := q H2 (sc.trans s2)
            rw [show ((1 + i : Nat) : Int) = 1 + (i : Int) by omega] at this
            exact this
          | some bs =>
            rw [hb] at hv eg
            obtain ⟨p, rfl, hp⟩ := hv
            refine iteF (A := _) ?_
            dsimp only [tNext]
            have lb := beh_len hb
            have hW2 := s2 _ _ hW
            refine go_asg (go_op (go_cb (go_cons (go_var rfl (go_nil ⟨p, _, rfl, .inr (.inl (.inl hp)), fun L nL => ?_⟩)))))
            have s3 := same_new (o := HO.lst (bs.map V.str)) nL
            have hL : upd H2 L (HO.lst (bs.map V.str)) L = some (.lst (bs.map V.str)) := upd_same
            generalize upd H2 L (HO.lst (bs.map V.str)) = H3 at s3 hL ⊢
            have hW3 := s3 _ _ hW2
            refine ⟨_, rfl, 1, rfl, W, (k :: kr).map V.str, rfl, .inl (.inl hW3), fun C nC => ?_⟩
            have s4 := same_new (o := HO.lst (cutV ((k :: kr).map V.str) (some 1) none)) nC
            have hC : upd H3 C (HO.lst (cutV ((k :: kr).map V.str) (some 1) none)) C = some (.lst (cutV ((k :: kr).map V.str) (some 1) none)) := upd_same
            have ec : cutV ((k :: kr).map V.str) (some 1) none = kr.map V.str := cut_from (List.map V.str (k :: kr)) 1
            rw [ec] at hC s4 ⊢
            generalize upd H3 C (HO.lst (kr.map V.str)) = H4 at s4 hC ⊢
            have lw : kr.length + 1 ≤ i + 2 := lw
            refine ⟨L, C, _, _, rfl, rfl, s4 _ _ hL, hC, ?_, fun N nN => ?_⟩
            · rw [List.length_map, List.length_map]
              exact Nat.le_trans (show bs.length + kr.length ≤ 200000 by omega) (by decide)
            dsimp only [gName]
            refine ⟨N, bs ++ kr, _, _, rfl, (((sc.trans s2).trans s3).trans s4).trans (same_new nN), ?_, fun z hz => ?_, ?_, ?_⟩
            · rw [upd_same, List.map_append]
            · rcases List.mem_append.mp hz with hz | hz
              · exact beh_kind hb z hz
              · exact hk z (List.mem_cons_of_mem _ hz)
            · rw [List.length_append]
              omega
            · rw [show 1 + (i + 1) = 1 + i + 1 by omega]
              exact eg
      · obtain ⟨W, ws, o2, o3, rfl, sc, hW, hk, lw, eg⟩ := h
        rw [List.drop_length] at eg
        refine go_ret (go_ife (go_test (go_op (go_var rfl (go_tup (go_cons (go_lst (go_nil ⟨Nat.zero_le _, fun p1 n1 => go_cons (go_lst (go_cons (go_c (go_nil ⟨by show 1 ≤ sizeLine; decide, fun p2 n2 => go_nil ⟨by show 2 ≤ sizeLine; decide, fun p3 n3 => ?_⟩⟩))))⟩))))))))
        have s1 := same_new (o := HO.lst []) n1
        have h1 : upd Hc p1 (HO.lst []) p1 = some (.lst []) := upd_same
        generalize upd Hc p1 (HO.lst []) = H1 at s1 h1 n2 n3 ⊢
        have s2 := same_new (o := HO.lst [V.str "sign"]) n2
        have h2 : upd H1 p2 (HO.lst [V.str "sign"]) p2 = some (.lst [V.str "sign"]) := upd_same
        generalize upd H1 p2 (HO.lst [V.str "sign"]) = H2 at s2 h2 n3 ⊢
        have s3 := same_new (o := HO.tup [V.ref p1, V.ref p2]) n3
        have h3 : upd H2 p3 (HO.tup [V.ref p1, V.ref p2]) p3 = some (.tup [V.ref p1, V.ref p2]) := upd_same
        generalize upd H2 p3 (HO.tup [V.ref p1, V.ref p2]) = H3 at s3 h3 ⊢
        have sx := ((sc.trans s1).trans s2).trans s3
        refine ⟨.list (ws.map PyData.str), [.list [], .list [.str "sign"]], .lst (.inl (.inl (s3 _ _ (s2 _ _ (s1 _ _ hW))))) (dpAll_strs ws), .tup (.inl (.inl h3)) (.cons (.lst (.inl (.inl (s3 _ _ (s2 _ _ h1)))) .nil) (.cons (.lst (.inl (.inl (s3 _ _ h2))) (.cons (.str _) .nil)) .nil)), ?_, by decide +kernel, by decide, _, rfl, ?_⟩
        · exact (Pl.lst fun d m => by
            obtain ⟨k, hk2, rfl⟩ := List.mem_map.mp m
            exact pl_kind k (hk k hk2)).shaped (by decide)
        · have : (([.list [], .list [.str "sign"]] : List PyData).any fun z => PyData.eqv z (.list (ws.map PyData.str))) = decide (ws = [] ∨ ws = [("sign" : Str)]) := by
            show (PyData.eqv (.list (([] : List Str).map PyData.str)) _ || (PyData.eqv (.list ([("sign" : Str)].map PyData.str)) _ || false)) = _
            rw [eqv_strs, eqv_strs, Bool.or_false, Bool.eq_iff_iff, Bool.or_eq_true, decide_eq_true_eq, decide_eq_true_eq, decide_eq_true_eq]
            exact ⟨fun h => h.imp Eq.symm Eq.symm, fun h => h.imp Eq.symm Eq.symm⟩
          rw [this]
          have eg' : (if ws = [] ∨ ws = [("sign" : Str)] then none else some (1 + r0.length)) = goP ks 1 r0 := by
            rw [← eg]
            cases ws <;> rfl
          rw [← eg'] at q
          refine iteC (fun e => ?_) (fun e => ?_)
          · rw [if_pos (of_decide_eq_true e)] at q
            exact go_c (q H3 sx)
          · rw [if_neg (of_decide_eq_false e)] at q
            refine go_cb (go_cons (go_var rfl (go_nil ⟨a, _, rfl, .inl (sx.seq hs), ?_⟩)))
            have : Q (.int ((1 + r0.length : Nat) : Int)) H3 := q H3 sx
            rw [List.length_map, List.length_cons, show ((r0.length + 1 : Nat) : Int) = ((1 + r0.length : Nat) : Int) by omega]
            exact this
/-! ### the parts of a line -/
def sp_plain_of (K : PySem.W.Frag) : Sp := fun vs H Q _ => ∃ (z : Str), vs = [.str z] ∧ z.length ≤ 1000000 ∧ ∀ v, (∀ H', Dp K H' v (toldD z)) → Q v H
theorem ok_plain_of : FnOk P w K mg base CX0 2 T.f_plain_of T.fd_plain_of ["item"] (sp_plain_of K) := by
  refine T.F_plain_of.ok sc_plain_of (fun vs H Q E h => ?_) (fun cdv A outer s H vs Q E hr h => ?_)
  · obtain ⟨z, rfl, _⟩ := h
    rfl
  · obtain ⟨z, rfl, hz, q⟩ := h
    refine ⟨_, (pss_one (ps_ret (pe_ifExp (pt_val (pe_call (ok_is_digits T) (hr.mono (by decide)) (by rfl) T.g_is_digits T.F_is_digits.kp T.b_is_digits .nil pass0 (pa_cons (pv 0) pa_nil))) (pe_callTy call_int_str (by rfl) T.m_int (by decide +kernel) (pa_cons (pv 0) pa_nil)) (pv 0)))), ?_⟩
    refine go_ret (go_ife ⟨_, rfl, .str z, .str z, rfl, .str z, decide_eq_true hz, _, rfl, iteC (fun e => ?_) (fun e => ?_)⟩)
    · have e : digB z = true := e
      obtain ⟨h1, h2, h3, _⟩ := digB_facts e
      refine go_cb (go_cons (go_var rfl (go_nil ⟨z, _, rfl, int_dig h3 h1 h2, by omega, q _ fun H' => ?_⟩)))
      unfold toldD
      rw [if_pos e]
      exact .int _
    · have e : digB z = false := e
      refine go_var rfl (q _ fun H' => ?_)
      unfold toldD
      rw [if_neg (by rw [e]; decide)]
      exact .str _
end
end K34
namespace K34
open PySem PySem.Spec PyProof.Rows L2 Kx SX LamX Ms
theorem len3 {l : List Str} (h1 : 1 ≤ l.length) (h3 : l.length ≤ 3) : (∃ x, l = [x]) ∨ (∃ x y, l = [x, y]) ∨ (∃ x y z, l = [x, y, z]) := by
  cases l with
  | nil => exact absurd h1 (by decide)
  | cons x l =>
    cases l with
    | nil => exact .inl ⟨x, rfl⟩
    | cons y l =>
      cases l with
      | nil => exact .inr (.inl ⟨x, y, rfl⟩)
      | cons z l =>
        cases l with
        | nil => exact .inr (.inr ⟨x, y, z, rfl⟩)
        | cons u l => simp at h3
section
variable {P : Program} {w : World} {K : PySem.W.Frag} {mg : Str → Option Value} {base : Heap} (T : Tx w K mg)
def sp_worth_of (K : PySem.W.Frag) : Sp := fun vs H Q _ => ∃ (a : Addr) (items : List Str), vs = [.ref a] ∧ SqL K H a (items.map V.str) ∧ 1 ≤ items.length ∧ items.length ≤ 3 ∧ (∀ z ∈ items, z.length ≤ 1000000) ∧ ∀ p vs H', Same H H' → H p = none → H' p = some (.tup vs) → (∀ H'', DpAll K H'' vs (worthD items)) → Q (.ref p) H'
theorem ok_worth_of : FnOk P w K mg base CX0 3 T.f_worth_of T.fd_worth_of ["items"] (sp_worth_of K) := by
  refine T.F_worth_of.ok sc_worth_of (fun vs H Q E h => ?_) (fun cdv A outer s H vs Q E hr h => ?_)
  · obtain ⟨a, items, rfl, _⟩ := h
    rfl
  · obtain ⟨a, items, rfl, hs, h1, h3, hz, q⟩ := h
    refine ⟨_, (pss_cons (ps_if (pt_cmpR op_eq (pe_callB call_len_seq (by rfl) T.m_len PySem.boot_len (pa_cons (pv 0) pa_nil)) pe_int (nomark _))
      (pss_one (ps_ret (pe_tup (pa_cons pe_str (pa_cons (pe_call (ok_plain_of T) (hr.mono (by decide)) (by rfl) T.g_plain_of T.F_plain_of.kp T.b_plain_of .nil pass0 (pa_cons (pe_ix ix_list (pv 0) pe_int (fun _ _ => rfl)) pa_nil)) pa_nil)))))
      pss_nil)
    (pss_cons (ps_if (pt_cmpR op_eq (pe_callB call_len_seq (by rfl) T.m_len PySem.boot_len (pa_cons (pv 0) pa_nil)) pe_int (nomark _))
      (pss_one (ps_ret (pe_tup (pa_cons (pe_ix ix_list (pv 0) pe_int (fun _ _ => rfl)) (pa_cons (pe_call (ok_plain_of T) (hr.mono (by decide)) (by rfl) T.g_plain_of T.F_plain_of.kp T.b_plain_of .nil pass0 (pa_cons (pe_ix ix_list (pv 0) pe_int (fun _ _ => rfl)) pa_nil)) pa_nil)))))
      pss_nil)
    (pss_one (ps_ret (pe_tup (pa_cons (pe_ix ix_list (pv 0) pe_int (fun _ _ => rfl)) (pa_cons (pe_call (ok_plain_of T) (hr.mono (by decide)) (by rfl) T.g_plain_of T.F_plain_of.kp T.b_plain_of .nil pass0 (pa_cons (pe_ix ix_list (pv 0) pe_int (fun _ _ => rfl)) pa_nil)) (pa_cons (pe_call (ok_plain_of T) (hr.mono (by decide)) (by rfl) T.g_plain_of T.F_plain_of.kp T.b_plain_of .nil pass0 (pa_cons (pe_ix ix_list (pv 0) pe_int (fun _ _ => rfl)) pa_nil)) pa_nil)))))))), ?_⟩
    have len : ∀ {xs : List Str} {k : Nat} {σ : L2.St} {Q1 : Bool → Hp → Prop}, SqL K H a (xs.map V.str) → (∀ b, b = decide (xs.length = k) → Q1 b H) → σ[0]? = some (some (V.ref a)) → (tTest (tOp rEq (tCB (fun xs H Q => ∃ p ys, xs = [V.ref p] ∧ (SqL K H p ys ∨ SqT K H p ys) ∧ Q (V.int (ys.length : Int)) H) (tCons (tVar 0) tNil)) (tC (V.int (k : Int))))) σ H Q1 := fun {xs k σ Q1} hs hq h0 =>
      go_test (go_op (go_cb (go_cons (go_var h0 (go_nil ⟨a, _, rfl, .inl hs, go_c ⟨rfl, _, rfl, hq _ (by
        rw [decI, List.length_map, Bool.eq_iff_iff, decide_eq_true_eq, decide_eq_true_eq]
        omega)⟩⟩)))))
    rcases len3 h1 h3 with ⟨x, rfl⟩ | ⟨x, y, rfl⟩ | ⟨x, y, z, rfl⟩
    · have a0 : atI ([x].map V.str) 0 = some (.str x) := at_str (i := 0) rfl
      refine go_seq (go_if (len (k := 1) hs (fun b eb => ?_) rfl))
      subst eb
      refine iteT (B := _) (go_ret (go_tup (go_cons (go_c (go_cons ?_)))))
      refine go_cons (go_op (go_var rfl (go_c ⟨a, _, 0, _, rfl, rfl, hs, a0, go_nil ⟨x, rfl, hz x (by simp), fun v hv => go_nil ⟨by show 2 ≤ sizeLine; decide, fun p np => ?_⟩⟩⟩)))
      exact q p _ _ (same_new np) np upd_same fun H2 => .cons (.str _) (.cons (hv _) .nil)
    · have a0 : atI ([x, y].map V.str) 0 = some (.str x) := at_str (i := 0) rfl
      have a1 : atI ([x, y].map V.str) 1 = some (.str y) := at_str (i := 1) rfl
      refine go_seq (go_if (len (k := 1) hs (fun b eb => ?_) rfl))
      subst eb
      refine iteF (A := _) ?_
      dsimp only [tNext]
      refine go_seq (go_if (len (k := 2) hs (fun b eb => ?_) rfl))
      subst eb
      refine iteT (B := _) (go_ret (go_tup (go_cons (go_op (go_var rfl (go_c ⟨a, _, 0, _, rfl, rfl, hs, a0, ?_⟩))))))
      refine go_cons (go_cons (go_op (go_var rfl (go_c ⟨a, _, 1, _, rfl, rfl, hs, a1, go_nil ⟨y, rfl, hz y (by simp), fun v hv => go_nil ⟨by show 2 ≤ sizeLine; decide, fun p np => ?_⟩⟩⟩))))
      exact q p _ _ (same_new np) np upd_same fun H2 => .cons (.str _) (.cons (hv _) .nil)
    · have a0 : atI ([x, y, z].map V.str) 0 = some (.str x) := at_str (i := 0) rfl
      have a1 : atI ([x, y, z].map V.str) 1 = some (.str y) := at_str (i := 1) rfl
      have a2 : atI ([x, y, z].map V.str) 2 = some (.str z) := at_str (i := 2) rfl
      refine go_seq (go_if (len (k := 1) hs (fun b eb => ?_) rfl))
      subst eb
      refine iteF (A := _) ?_
      dsimp only [tNext]
      refine go_seq (go_if (len (k := 2) hs (fun b eb => ?_) rfl))
      subst eb
      refine iteF (A := _) ?_
      dsimp only [tNext]
      refine go_ret (go_tup (go_cons (go_op (go_var rfl (go_c ⟨a, _, 1, _, rfl, rfl, hs, a1, ?_⟩)))))
      refine go_cons (go_cons (go_op (go_var rfl (go_c ⟨a, _, 0, _, rfl, rfl, hs, a0, go_nil ⟨x, rfl, hz x (by simp), fun v hv => ?_⟩⟩))))
      refine go_cons (go_cons (go_op (go_var rfl (go_c ⟨a, _, 2, _, rfl, rfl, hs, a2, go_nil ⟨z, rfl, hz z (by simp), fun v2 hv2 => go_nil ⟨by show 3 ≤ sizeLine; decide, fun p np => ?_⟩⟩⟩))))
      exact q p _ _ (same_new np) np upd_same fun H2 => .cons (.str _) (.cons (hv _) (.cons (hv2 _) .nil))
end
end K34
namespace K34
open PySem PySem.Spec PyProof.Rows L2 Kx SX LamX Ms
/-! ### lines that can stand -/
def Wo (r : List Str) : Prop := (∃ a, r = [a] ∧ plainB a = true ∧ ¬ (a = "at" ∨ a = "mine")) ∨ (∃ a b, r = [a, b] ∧ (a = "at" ∨ a = "mine") ∧ plainB b = true) ∨ (∃ a s b, r = [a, s, b] ∧ plainB a = true ∧ ¬ (a = "at" ∨ a = "mine") ∧ s ∈ sgnN ∧ plainB b = true)
theorem worth_none {p : Nat} {r : List Str} (h : worthW p r = none) : Wo r := by
  cases r with
  | nil => cases h
  | cons a r =>
    unfold worthW at h
    dsimp only at h
    by_cases h1 : a = "at" ∨ a = "mine"
    · rw [if_pos h1] at h
      cases r with
      | nil => cases h
      | cons b r2 =>
        dsimp only at h
        by_cases h2 : plainB b = true
        · rw [if_pos h2] at h
          by_cases h3 : r2 = []
          · subst h3
            exact .inr (.inl ⟨a, b, rfl, h1, h2⟩)
          · rw [if_neg h3] at h
            cases h
        · rw [if_neg h2] at h
          cases h
    · rw [if_neg h1] at h
      by_cases h2 : plainB a = true
      · rw [if_pos h2] at h
        cases r with
        | nil => exact .inl ⟨a, rfl, h2, h1⟩
        | cons s r2 =>
          dsimp only at h
          by_cases h3 : s ∈ sgnN
          · rw [if_pos h3] at h
            cases r2 with
            | nil => cases h
            | cons b r3 =>
              dsimp only at h
              by_cases h4 : plainB b = true
              · rw [if_pos h4] at h
                by_cases h5 : r3 = []
                · subst h5
                  exact .inr (.inr ⟨a, s, b, rfl, h2, h1, h3, h4⟩)
                · rw [if_neg h5] at h
                  cases h
              · rw [if_neg h4] at h
                cases h
          · rw [if_neg h3] at h
            cases h
      · rw [if_neg h2] at h
        cases h
theorem wo_none {p : Nat} {r : List Str} (h : Wo r) : worthW p r = none := by
  rcases h with ⟨a, rfl, h1, h2⟩ | ⟨a, b, rfl, h1, h2⟩ | ⟨a, s, b, rfl, h1, h2, h3, h4⟩
  · unfold worthW
    dsimp only
    rw [if_neg h2, if_pos h1]
  · unfold worthW
    dsimp only
    rw [if_pos h1, if_pos h2, if_pos rfl]
  · unfold worthW
    dsimp only
    rw [if_neg h2, if_pos h1, if_pos h3, if_pos h4, if_pos rfl]
def ShapeK : List Str → List Str → Prop
  | [], r => r = []
  | k :: ks, r => if k = "worth" then ks = [] ∧ Wo r else (k = "name" ∨ k = "plain") ∧ ∃ n r', r = n :: r' ∧ (k = "name" → nameB n = true) ∧ plainB n = true ∧ ShapeK ks r'
theorem shape_worth {r : List Str} (h : Wo r) : ShapeK ["worth"] r := by
  show if _ then _ else _
  rw [if_pos rfl]
  exact ⟨rfl, h⟩
theorem goP_none_nil {p : Nat} {r : List Str} (h : goP [] p r = none) : r = [] := by
  rw [goP_nil] at h
  by_cases e : r = []
  · exact e
  · rw [if_neg e] at h
    cases h
theorem name_plain {z : Str} (h : nameB z = true) : plainB z = true := by
  unfold plainB
  rw [h]
  rfl
theorem shape_name {ks : List Str} {p : Nat} {r : List Str} (h : goP ("name" :: ks) p r = none) (k : ∀ r', goP ks (p + 1) r' = none → ShapeK ks r') : ShapeK ("name" :: ks) r := by
  show if _ then _ else _
  rw [if_neg (by decide)]
  cases r with
  | nil =>
    have h : (if (("name" : Str) :: ks = [] ∨ ("name" : Str) :: ks = [("sign" : Str)]) then none else some p) = none := h
    rw [if_neg (fun z => by
      rcases z with z | z
      · cases z
      · have := (List.cons.inj z).1
        exact absurd this (by decide))] at h
    cases h
  | cons it r =>
    rw [goP_cons] at h
    have e : behB "name" it = if nameB it = true then some [] else none := rfl
    rw [e] at h
    by_cases hn : nameB it = true
    · rw [if_pos hn] at h
      exact ⟨.inl rfl, it, r, rfl, fun _ => hn, name_plain hn, k r h⟩
    · rw [if_neg hn] at h
      cases h
theorem shape_plain {ks : List Str} {p : Nat} {r : List Str} (h : goP ("plain" :: ks) p r = none) (k : ∀ r', goP ks (p + 1) r' = none → ShapeK ks r') : ShapeK ("plain" :: ks) r := by
  show if _ then _ else _
  rw [if_neg (by decide)]
  cases r with
  | nil =>
    have h : (if (("plain" : Str) :: ks = [] ∨ ("plain" : Str) :: ks = [("sign" : Str)]) then none else some p) = none := h
    rw [if_neg (fun z => by
      rcases z with z | z
      · cases z
      · have := (List.cons.inj z).1
        exact absurd this (by decide))] at h
    cases h
  | cons it r =>
    rw [goP_cons] at h
    have e : behB "plain" it = if plainB it = true then some [] else none := rfl
    rw [e] at h
    by_cases hn : plainB it = true
    · rw [if_pos hn] at h
      exact ⟨.inr rfl, it, r, rfl, fun z => absurd z (by decide), hn, k r h⟩
    · rw [if_neg hn] at h
      cases h
theorem shape_of {w : Str} {ks : List Str} (hf : formOf w = some ks) {p : Nat} {r : List Str} (h : goP ks p r = none) : ShapeK ks r := by
  have m := form_mem hf
  simp only [formL, List.mem_cons, List.not_mem_nil, or_false, Prod.mk.injEq] at m
  have wo : ∀ (p : Nat) (r : List Str), goP ["worth"] p r = none → ShapeK ["worth"] r := fun p r h => shape_worth (worth_none (by rw [goP_worth] at h; exact h))
  have ni : ∀ (p : Nat) (r : List Str), goP [] p r = none → ShapeK [] r := fun p r h => goP_none_nil h
  rcases m with ⟨_, rfl⟩ | ⟨_, rfl⟩ | ⟨_, rfl⟩ | ⟨_, rfl⟩ | ⟨_, rfl⟩ | ⟨_, rfl⟩ | ⟨_, rfl⟩ | ⟨_, rfl⟩ | ⟨_, rfl⟩
  · exact shape_name h fun r' => ni _ r'
  · exact wo _ r h
  · exact shape_name h fun r' => wo _ r'
  · exact shape_plain h fun r' => wo _ r'
  · exact shape_plain h fun r' => ni _ r'
  · exact shape_plain h fun r' => ni _ r'
  · exact ni _ r h
  · exact ni _ r h
  · exact ni _ r h
theorem shape_none : ∀ {ks : List Str} {r : List Str} {p : Nat}, ShapeK ks r → goP ks p r = none
  | [], r, p, h => by
    have h : r = [] := h
    subst h
    rfl
  | k :: ks, r, p, h => by
    have h : if k = "worth" then ks = [] ∧ Wo r else (k = "name" ∨ k = "plain") ∧ ∃ n r', r = n :: r' ∧ (k = "name" → nameB n = true) ∧ plainB n = true ∧ ShapeK ks r' := h
    by_cases e : k = "worth"
    · rw [if_pos e] at h
      obtain ⟨rfl, hw⟩ := h
      subst e
      rw [goP_worth]
      exact wo_none hw
    · rw [if_neg e] at h
      obtain ⟨hk, n, r', rfl, h1, h2, h3⟩ := h
      rw [goP_cons]
      have : behB k n = some [] := by
        rcases hk with rfl | rfl
        · show (if nameB n = true then some [] else none) = _
          rw [if_pos (h1 rfl)]
        · show (if plainB n = true then some [] else none) = _
          rw [if_pos h2]
      rw [this]
      exact shape_none h3
/-! ### and back -/
theorem worth_back {r : List Str} (h : Wo r) : worthOk (worthD r) = true ∧ worthI (worthD r) = r := by
  rcases h with ⟨a, rfl, h1, h2⟩ | ⟨a, b, rfl, h1, h2⟩ | ⟨a, s, b, rfl, h1, h2, h3, h4⟩
  · obtain ⟨t1, t2⟩ := told_text h1
    constructor
    · show ((decide (1 = 1) && decide (("plain" : Str) ∈ (["plain", "at", "mine"] : List Str)) || decide (1 = 2) && decide (("plain" : Str) ∈ sgnN)) && ([toldD a].all plainD)) = true
      simp [t2]
    · show (if ("plain" : Str) = "plain" then [textD (toldD a)] else [("plain" : Str), textD (toldD a)]) = _
      rw [if_pos rfl, t1]
  · obtain ⟨t1, t2⟩ := told_text h2
    constructor
    · show ((decide (1 = 1) && decide (a ∈ (["plain", "at", "mine"] : List Str)) || decide (1 = 2) && decide (a ∈ sgnN)) && ([toldD b].all plainD)) = true
      have : a ∈ (["plain", "at", "mine"] : List Str) := by
        rcases h1 with rfl | rfl <;> decide
      simp [t2, this]
    · show (if a = "plain" then [textD (toldD b)] else [a, textD (toldD b)]) = _
      rw [if_neg (by rcases h1 with rfl | rfl <;> decide), t1]
  · obtain ⟨t1, t2⟩ := told_text h1
    obtain ⟨u1, u2⟩ := told_text h4
    constructor
    · show ((decide (2 = 1) && decide (s ∈ (["plain", "at", "mine"] : List Str)) || decide (2 = 2) && decide (s ∈ sgnN)) && ([toldD a, toldD b].all plainD)) = true
      simp [t2, u2, h3]
    · show [textD (toldD a), s, textD (toldD b)] = _
      rw [t1, u1]
theorem shape_back : ∀ {ks r : List Str}, ShapeK ks r → zipB ks (partsK ks r) = true ∧ itemsK ks (partsK ks r) = r
  | [], r, h => by
    have h : r = [] := h
    subst h
    exact ⟨rfl, rfl⟩
  | k :: ks, r, h => by
    have h : if k = "worth" then ks = [] ∧ Wo r else (k = "name" ∨ k = "plain") ∧ ∃ n r', r = n :: r' ∧ (k = "name" → nameB n = true) ∧ plainB n = true ∧ ShapeK ks r' := h
    by_cases e : k = "worth"
    · rw [if_pos e] at h
      obtain ⟨rfl, hw⟩ := h
      subst e
      obtain ⟨b1, b2⟩ := worth_back hw
      refine ⟨?_, ?_⟩
      · show (worthOk (worthD r) && true) = true
        rw [b1]
        rfl
      · show worthI (worthD r) ++ [] = r
        rw [b2, List.append_nil]
    · rw [if_neg e] at h
      obtain ⟨hk, n, r', rfl, h1, h2, h3⟩ := h
      obtain ⟨b1, b2⟩ := shape_back h3
      obtain ⟨t1, t2⟩ := told_text h2
      have ep : partsK (k :: ks) (n :: r') = toldD n :: partsK ks r' := by
        show (if k = "worth" then _ else _) :: _ = _
        rw [if_neg e]
        rfl
      rw [ep]
      refine ⟨?_, ?_⟩
      · show (partB k (toldD n) && zipB ks (partsK ks r')) = true
        rw [b1, Bool.and_true]
        rcases hk with rfl | rfl
        · show nameD (toldD n) = true
          rw [told_name (h1 rfl)]
          exact h1 rfl
        · exact t2
      · show itemI k (toldD n) ++ itemsK ks (partsK ks r') = _
        unfold itemI
        rw [if_neg e, t1, b2]
        rfl
theorem parts_back {w : Str} {r : List Str} (h : wrongP (w :: r) = none) : ∃ ks, formOf w = some ks ∧ ShapeK ks r ∧ partsOk (partsD (w :: r)) = true ∧ itemsD (partsD (w :: r)) = w :: r := by
  have h : (match formOf w with | none => some 0 | some ks => goP ks 1 r) = none := h
  cases hf : formOf w with
  | none => rw [hf] at h; cases h
  | some ks =>
    rw [hf] at h
    have sh := shape_of hf h
    obtain ⟨b1, b2⟩ := shape_back sh
    refine ⟨ks, rfl, sh, ?_, ?_⟩
    · show (match formOf w with | some ks' => zipB ks' (partsK ((formOf w).getD []) r) | none => false) = true
      rw [hf]
      exact b1
    · show w :: itemsK ((formOf w).getD []) (partsK ((formOf w).getD []) r) = _
      rw [hf]
      show w :: itemsK ks (partsK ks r) = _
      rw [b2]
/-- what stands at a place -/
theorem shape_get : ∀ {ks r : List Str} {i : Nat} {k : Str}, ShapeK ks r → ks[i]? = some k → (partsK ks r)[i]? = some (if k = "worth" then .tuple (worthD (r.drop i)) else toldD ((r.drop i).headD "")) ∧ (k = "worth" → 1 ≤ (r.drop i).length ∧ (r.drop i).length ≤ 3) ∧ (k ≠ "worth" → ∃ z, r[i]? = some z ∧ (r.drop i).headD "" = z)
  | [], _, _, _, _, e => by cases e
  | k0 :: ks, r, 0, k, h, e => by
    obtain rfl : k0 = k := by simpa using e
    have h : if k0 = "worth" then ks = [] ∧ Wo r else (k0 = "name" ∨ k0 = "plain") ∧ ∃ n r', r = n :: r' ∧ (k0 = "name" → nameB n = true) ∧ plainB n = true ∧ ShapeK ks r' := h
    refine ⟨rfl, fun ek => ?_, fun ek => ?_⟩
    · rw [if_pos ek] at h
      rcases h.2 with ⟨a, rfl, _⟩ | ⟨a, b, rfl, _⟩ | ⟨a, s, b, rfl, _⟩ <;> exact ⟨by simp, by simp⟩
    · rw [if_neg ek] at h
      obtain ⟨_, n, r', rfl, _⟩ := h
      exact ⟨n, rfl, rfl⟩
  | k0 :: ks, r, i + 1, k, h, e => by
    have e : ks[i]? = some k := by simpa using e
    have h : if k0 = "worth" then ks = [] ∧ Wo r else (k0 = "name" ∨ k0 = "plain") ∧ ∃ n r', r = n :: r' ∧ (k0 = "name" → nameB n = true) ∧ plainB n = true ∧ ShapeK ks r' := h
    by_cases ek : k0 = "worth"
    · rw [if_pos ek] at h
      rw [h.1] at e
      cases e
    · rw [if_neg ek] at h
      obtain ⟨_, n, r', rfl, _, _, h3⟩ := h
      obtain ⟨a1, a2, a3⟩ := shape_get h3 e
      have : partsK (k0 :: ks) (n :: r') = toldD n :: partsK ks r' := by
        show (if k0 = "worth" then _ else _) :: _ = _
        rw [if_neg ek]
        rfl
      rw [this]
      exact ⟨a1, a2, a3⟩
theorem partsK_len : ∀ (ks r : List Str), (partsK ks r).length = ks.length
  | [], _ => rfl
  | k :: ks, r => by
    show (partsK ks r.tail).length + 1 = ks.length + 1
    rw [partsK_len ks]
theorem shape_len : ∀ {ks r : List Str}, ShapeK ks r → r.length ≤ ks.length + 3
  | [], r, h => by
    have h : r = [] := h
    subst h
    exact Nat.zero_le _
  | k :: ks, r, h => by
    have h : if k = "worth" then ks = [] ∧ Wo r else (k = "name" ∨ k = "plain") ∧ ∃ n r', r = n :: r' ∧ (k = "name" → nameB n = true) ∧ plainB n = true ∧ ShapeK ks r' := h
    by_cases e : k = "worth"
    · rw [if_pos e] at h
      obtain ⟨rfl, hw⟩ := h
      rcases hw with ⟨a, rfl, _⟩ | ⟨a, b, rfl, _⟩ | ⟨a, s, b, rfl, _⟩ <;> simp
    · rw [if_neg e] at h
      obtain ⟨hk, n, r', rfl, h1, h2, h3⟩ := h
      have := shape_len h3
      simp
      omega
theorem take_snoc {α : Type} {l : List α} {i : Nat} {x : α} (h : l[i]? = some x) : l.take (i + 1) = l.take i ++ [x] := by
  rw [List.take_succ, h]
  rfl
theorem dpAll_app {K : PySem.W.Frag} {H : Hp} : ∀ {xs ys : List V} {ds es : List PyData}, DpAll K H xs ds → DpAll K H ys es → DpAll K H (xs ++ ys) (ds ++ es)
  | [], _, [], _, _, h => h
  | x :: xs, _, d :: ds, _, h, h2 => by
    cases h with
    | cons a b => exact .cons a (dpAll_app b h2)
theorem dpAll_same {K : PySem.W.Frag} {H H' : Hp} (e : Same H H') : ∀ {xs : List V} {ds : List PyData}, DpAll K H xs ds → DpAll K H' xs ds
  | [], [], _ => .nil
  | x :: xs, d :: ds, h => by
    cases h with
    | cons a b => exact .cons (dp_same e d x a) (dpAll_same e b)
end K34
namespace K34
open PySem PySem.Spec PyProof.Rows L2 Kx SX LamX Ms
section
variable {P : Program} {w : World} {K : PySem.W.Frag} {mg : Str → Option Value} {base : Heap} (T : Tx w K mg)
def sp_parts_of_items (K : PySem.W.Frag) : Sp := fun vs H Q _ => ∃ (a : Addr) (items : List Str), vs = [.ref a] ∧ SqL K H a (items.map V.str) ∧ items ≠ [] ∧ wrongP items = none ∧ (∀ z ∈ items, z.length ≤ 1000000) ∧ ∀ p H', Same H H' → Dp K H' (.ref p) (.tuple (partsD items)) → Q (.ref p) H'
theorem ok_parts_of_items : FnOk P w K mg base CX0 4 T.f_parts_of_items T.fd_parts_of_items ["items"] (sp_parts_of_items K) := by
  refine T.F_parts_of_items.ok sc_parts_of_items (fun vs H Q E h => ?_) (fun cdv A outer s H vs Q E hr h => ?_)
  · obtain ⟨a, items, rfl, _⟩ := h
    rfl
  · obtain ⟨a, items, rfl, hs, hne, hw, hz, q⟩ := h
    obtain ⟨w0, r0, rfl⟩ : ∃ w0 r0, items = w0 :: r0 := by
      cases items with
      | nil => exact absurd rfl hne
      | cons x r => exact ⟨x, r, rfl⟩
    obtain ⟨ks, hf, sh, _, _⟩ := parts_back hw
    have ep : partsD (w0 :: r0) = .str w0 :: partsK ks r0 := by show _ :: partsK ((formOf w0).getD []) r0 = _; rw [hf]; rfl
    rw [ep] at q
    have at0 : atI ((w0 :: r0).map V.str) 0 = some (.str w0) := at_nat (xs := (w0 :: r0).map V.str) (i := 0) (Nat.succ_pos _)
    refine ⟨_, (pss_cons (ps_set (i := 1) sc_parts_of_items.nd rfl (.inl rfl) (pe_lst (pa_cons (pe_ix ix_list (pv 0) pe_int (fun _ _ => rfl)) pa_nil)))
    (pss_cons (ps_for PassesOwn.never rfl (pi_enumT (by rfl) T.m_enumerate (pa_cons (pe_ix ix_kT (pe_glob (v := .ref T.D_FORMS) (by rfl) T.gD_FORMS rfl) (pe_ix ix_list (pv 0) pe_int (fun _ _ => rfl)) (fun _ _ => rfl)) pa_nil)) (pg_tup rfl (pgs_cons (pg_name (i := 2) sc_parts_of_items.nd rfl (.inl rfl)) (pgs_cons (pg_name (i := 3) sc_parts_of_items.nd rfl (.inl rfl)) pgs_nil)))
      (pss_one (ps_if (pt_cmpR op_eq (pv 3) pe_str (nomark _))
        (pss_one (ps_expr (pe_bm PySem.F.plainAttrs_list PySem.F.slot_list_append PySem.F.type_list_append mt_append (pv 1) (pa_cons (pe_call (ok_worth_of T) (hr.mono (by decide)) (by rfl) T.g_worth_of T.F_worth_of.kp T.b_worth_of .nil pass0 (pa_cons (pe_slice sl_list (pv 0) (po_some (pe_op op_add (pv 2) pe_int)) po_none) pa_nil)) pa_nil))))
        (pss_one (ps_expr (pe_bm PySem.F.plainAttrs_list PySem.F.slot_list_append PySem.F.type_list_append mt_append (pv 1) (pa_cons (pe_call (ok_plain_of T) (hr.mono (by decide)) (by rfl) T.g_plain_of T.F_plain_of.kp T.b_plain_of .nil pass0 (pa_cons (pe_ix ix_list (pv 0) (pe_op op_add (pv 2) pe_int) (fun _ _ => rfl)) pa_nil)) pa_nil)))))))
    (pss_one (ps_ret (pe_callTy call_tuple_of (by rfl) T.m_tuple (by decide +kernel) (pa_cons (pv 1) pa_nil)))))), ?_⟩
    refine go_seq (go_asg (go_lst (go_cons (go_op (go_var rfl (go_c ⟨a, _, 0, _, rfl, rfl, hs, at0, go_nil ⟨by show 1 ≤ sizeLine; decide, fun L nL => ?_⟩⟩))))))
    dsimp only [gName]
    have s0 := same_new (o := HO.lst [V.str w0]) nL
    have hL : upd H L (HO.lst [V.str w0]) L = some (.lst [V.str w0]) := upd_same
    generalize upd H L (HO.lst [V.str w0]) = H1 at s0 hL ⊢
    refine go_seq ⟨_, rfl, a, _, 0, _, rfl, rfl, s0.seq hs, at0, T.D_FORMS, _, w0, _, rfl, rfl, tab_F T, formV_mem hf, fun F hF => ⟨F, _, rfl, hF H1, ?_⟩⟩
    have hlr : r0.length + 1 ≤ 100000 := by
      have := shape_len sh
      have : ks.length ≤ 2 := form_len _ (form_mem hf)
      omega
    refine for_it walk_enumT (fun i σ Hc => ∃ (o2 o3 : Option V) (vs : List V), σ = [some (.ref a), some (.ref L), o2, o3] ∧ Same H Hc ∧ Hc L = some (.lst vs) ∧ vs.length = i + 1 ∧ DpAll K (er L Hc) vs (.str w0 :: (partsK ks r0).take i))
      ⟨none, none, [.str w0], rfl, s0, hL, rfl, .cons (.str _) .nil⟩ (fun i σ Hc hi h => hF Hc) (fun i x σ Hc Hd hi h hy => ?_) (fun σ Hc h => ?_)
    · obtain ⟨o2, o3, vs, rfl, sc, hL, lv, hd⟩ := h
      obtain ⟨t, x, rfl, nt, rfl, hx⟩ := hy
      obtain ⟨k, hk, rfl⟩ := map_at hx
      obtain ⟨g1, g2, g3⟩ := shape_get sh hk
      have lvL : vs.length < sizeLine := by
        rw [List.length_map] at hi
        have : ks.length ≤ 2 := form_len _ (form_mem hf)
        exact Nat.lt_of_lt_of_le (show vs.length < 100 by omega) (by decide)
      have nLt : L ≠ t := ne_of_none hL nt
      have st := same_new (o := HO.tup [V.int (i : Nat), V.str k]) nt
      refine ⟨t, _, rfl, .inl (.inl upd_same), rfl, _, _, rfl, _, _, rfl, rfl, ?_⟩
      generalize upd Hc t (HO.tup [V.int (i : Nat), V.str k]) = H2 at st ⊢
      have tk : (partsK ks r0).take (i + 1) = (partsK ks r0).take i ++ [if k = "worth" then .tuple (worthD (r0.drop i)) else toldD ((r0.drop i).headD "")] := take_snoc g1
      have fin : ∀ (v : V) (H3 : Hp), Same H2 H3 → (Dp K (er L H3) v (if k = "worth" then .tuple (worthD (r0.drop i)) else toldD ((r0.drop i).headD ""))) → ∃ (o2 o3 : Option V) (vs' : List V), [some (V.ref a), some (V.ref L), some (V.int (i : Nat)), some (V.str k)] = [some (V.ref a), some (V.ref L), o2, o3] ∧ Same H (upd H3 L (.lst (vs ++ [v]))) ∧ upd H3 L (.lst (vs ++ [v])) L = some (.lst vs') ∧ vs'.length = i + 1 + 1 ∧ DpAll K (er L (upd H3 L (.lst (vs ++ [v])))) vs' (.str w0 :: (partsK ks r0).take (i + 1)) := fun v H3 s3 hv => by
        have mv : Mv L H3 (upd H3 L (.lst (vs ++ [v]))) := Mv.upd _ _ _
        have s0' : Same H H3 := (sc.trans st).trans s3
        refine ⟨_, _, vs ++ [v], rfl, fun b o hb => ?_, upd_same, by rw [List.length_append, lv]; rfl, ?_⟩
        · exact mv b o (ne_of_none hb nL) (s0' b o hb)
        · rw [tk, ← List.cons_append]
          exact dpAll_app (dpAll_same (er_same (st.trans s3)) (dpAll_same (fun b o h => h) hd) |> dpAll_same (er_mv mv)) (.cons (dp_same (er_mv mv) _ _ hv) .nil)
      have hL2 := st _ _ hL
      refine go_if (go_test (go_op (go_var rfl (go_c ⟨rfl, _, rfl, ?_⟩))))
      rw [decS]
      have rd : (w0 :: r0).drop (i + 1) = r0.drop i := rfl
      refine iteC (fun e => ?_) (fun e => ?_)
      · have e := of_decide_eq_true e
        obtain ⟨w1, w3⟩ := g2 e
        refine go_drop (go_bm (go_var rfl ⟨.inl ⟨rfl, _, .inl (.inl hL2)⟩, go_cons ?_⟩))
        refine ⟨_, rfl, _, rfl, (i : Int), 1, rfl, rfl, _, rfl, a, (w0 :: r0).map V.str, rfl, (sc.trans st).seq hs, fun C nC => ?_⟩
        have ec : cutV ((w0 :: r0).map V.str) (some ((i : Int) + 1)) none = (r0.drop i).map V.str := by
          have := cut_from ((w0 :: r0).map V.str) (i + 1)
          rw [show ((i + 1 : Nat) : Int) = (i : Int) + 1 by omega] at this
          rw [this, ← List.map_drop]
          rfl
        rw [ec]
        have s5 := same_new (o := HO.lst ((r0.drop i).map V.str)) nC
        have hC : upd H2 C (HO.lst ((r0.drop i).map V.str)) C = some (.lst ((r0.drop i).map V.str)) := upd_same
        generalize upd H2 C (HO.lst ((r0.drop i).map V.str)) = H4 at s5 hC ⊢
        refine ⟨C, _, rfl, .inl (.inl hC), w1, w3, fun z hz' => hz z (List.mem_cons_of_mem _ (List.mem_of_mem_drop hz')), fun p ws H5 s6 np hp hw => ?_⟩
        have hL5 := s6 _ _ (s5 _ _ hL2)
        have npL : p ≠ L := fun z => by
          rw [z, hL5] at hp
          cases hp
        refine ⟨L, _, _, rfl, rfl, hL5, lvL, ?_⟩
        refine fin _ H5 (s5.trans s6) ?_
        rw [if_pos e]
        exact .tup (.inl (.inl (er_at npL hp))) (hw _)
      · have e := of_decide_eq_false e
        obtain ⟨z, hz1, hz2⟩ := g3 e
        refine go_drop (go_bm (go_var rfl ⟨.inl ⟨rfl, _, .inl (.inl hL2)⟩, go_cons ?_⟩))
        have ai : atI ((w0 :: r0).map V.str) ((i : Int) + 1) = some (.str z) := by
          have := at_str (zs := w0 :: r0) (i := i + 1) (z := z) (by simpa using hz1)
          rw [show ((i + 1 : Nat) : Int) = (i : Int) + 1 by omega] at this
          exact this
        refine ⟨_, rfl, _, rfl, (i : Int), 1, rfl, rfl, a, _, _, .str z, rfl, rfl, (sc.trans st).seq hs, ai, ?_⟩
        refine ⟨z, rfl, hz z (List.mem_cons_of_mem _ (List.mem_of_getElem? hz1)), fun v hv => ?_⟩
        refine ⟨L, _, _, rfl, rfl, hL2, lvL, ?_⟩
        refine fin _ H2 (Same.refl _) ?_
        rw [if_neg e, hz2]
        exact hv _
    · obtain ⟨o2, o3, vs, rfl, sc, hL, lv, hd⟩ := h
      dsimp only
      refine go_ret (go_cb (go_cons (go_var rfl (go_nil ⟨L, _, rfl, .inl ⟨.inl (.inl hL), fun p np => ?_⟩⟩))))
      have e : (partsK ks r0).take ((ks.map V.str).length) = partsK ks r0 := List.take_of_length_le (by rw [partsK_len, List.length_map]; exact Nat.le_refl _)
      rw [e] at hd
      exact q p _ (sc.trans (same_new np)) (.tup (.inl (.inl upd_same)) (dpAll_same (er_le.trans (same_new np)) hd))
theorem item_len : ∀ (l acc : List Nat), ∀ it ∈ itemsA acc l, it.length ≤ acc.length + l.length
  | [], acc, it, h => by
    have : it = acc := by simpa [itemsA] using h
    subst this
    exact Nat.le_refl _
  | c :: r, acc, it, h => by
    have h : it ∈ (if c = 32 then acc :: itemsA [] r else itemsA (acc ++ [c]) r) := h
    by_cases e : c = 32
    · rw [if_pos e] at h
      rcases List.mem_cons.mp h with rfl | h
      · exact Nat.le_add_right _ _
      · have := item_len r [] it h
        simp at this ⊢
        omega
    · rw [if_neg e] at h
      have := item_len r (acc ++ [c]) it h
      simp at this ⊢
      omega
def itemsOf (z : Str) : List Str := (itemsA [] z.cps.toList).map S
def sp_parts_of (CL : Addr) (K : PySem.W.Frag) : Sp := fun vs H Q E => ∃ (x : V) (d : PyData), vs = [x] ∧ Dp K H x d ∧
  ((isS d = false ∧ RaisedTwo E CL "line" "item" H (.int 0) (.int 0)) ∨
   ∃ z : Str, x = .str z ∧ z.length ≤ 90000 ∧ (∀ n, wrongP (itemsOf z) = some n → RaisedTwo E CL "line" "item" H (.int 0) (.int (n : Int))) ∧
     (wrongP (itemsOf z) = none → ∀ p H', Same H H' → Dp K H' (.ref p) (.tuple (partsD (itemsOf z))) → Q (.ref p) H'))
theorem ok_parts_of : FnOk P w K mg base (L2.CX P w) 6 T.f_parts_of T.fd_parts_of ["line"] (sp_parts_of T.e_BadLine.C K) := by
  refine T.F_parts_of.okX sc_parts_of (fun vs H Q E h => ?_) (fun cdv A outer s H vs Q E hr h => ?_)
  · obtain ⟨x, d, rfl, _⟩ := h
    rfl
  · obtain ⟨x, d, rfl, hx, h⟩ := h
    refine ⟨_, (pss_cons (ps_if (pt_not (pt_val (pe_callB call_isi (by rfl) T.m_isinstance (by decide +kernel) (pa_cons (pv 0) (pa_cons (pe_bltn (v := .ty "str") (by rfl) T.m_str (by decide +kernel) rfl) pa_nil)))))
      (pss_one (ps_raise rfl (takes_of rfl rfl rfl rfl) (pmk_oex T.e_BadLine.oex T.e_BadLine.iC T.e_BadLine.tI (ok_init2 T.e_BadLine in_BadLine) (hr.mono (by decide)) T.e_BadLine.b .nil pass0 (by rfl) T.e_BadLine.gC (pa_cons pe_int (pa_cons pe_int pa_nil)))))
      pss_nil)
    (pss_cons (ps_set (i := 1) sc_parts_of.nd rfl (.inl rfl) (pe_split (pv 0) pe_str))
    (pss_cons (ps_set (i := 2) sc_parts_of.nd rfl (.inl rfl) (pe_call (ok_fault_in T) (hr.mono (by decide)) (by rfl) T.g_fault_in T.F_fault_in.kp T.b_fault_in .nil pass0 (pa_cons (pv 1) pa_nil)))
    (pss_cons (ps_if (pt_cmpR op_notN (pv 2) pe_non (nomark _))
      (pss_one (ps_raise rfl (takes_of rfl rfl rfl rfl) (pmk_oex T.e_BadLine.oex T.e_BadLine.iC T.e_BadLine.tI (ok_init2 T.e_BadLine in_BadLine) (hr.mono (by decide)) T.e_BadLine.b .nil pass0 (by rfl) T.e_BadLine.gC (pa_cons pe_int (pa_cons (pv 2) pa_nil)))))
      pss_nil)
    (pss_one (ps_ret (pe_call (ok_parts_of_items T) (hr.mono (by decide)) (by rfl) T.g_parts_of_items T.F_parts_of_items.kp T.b_parts_of_items .nil pass0 (pa_cons (pv 1) pa_nil)))))))), ?_⟩
    refine go_seq (go_if (go_not (go_b ⟨x, rfl, x, _, _, _, isS d, rfl, .ty _, dp_ty hx, kit_ty (dp_str hx), _, rfl, ?_⟩)))
    rcases h with ⟨e, hE⟩ | ⟨z, rfl, hz, hE, q⟩
    · rw [e]
      exact iteT (B := True) (mk_part2 T.e_BadLine.oex T.e_BadLine.np T.e_BadLine.np2 hE)
    obtain rfl : d = .str z := by cases hx; rfl
    refine iteF (A := True) ?_
    dsimp only [tNext]
    obtain ⟨l, rfl⟩ : ∃ l, z = S l := ⟨_, str_S z⟩
    have hl : l.length ≤ 90000 := by rw [S_len] at hz; exact hz
    have ei : itemsOf (S l) = (itemsA [] l).map S := rfl
    refine go_seq (go_asg ⟨_, rfl, ⟨_, rfl⟩, S l, " ", rfl, rfl, rfl, by rw [S_len]; exact Nat.le_trans (Nat.add_le_add_right hl 2) (by decide : 90000 + 2 ≤ sizeLine), fun p np => ?_⟩)
    rw [split_items, ← ei]
    have s1 := same_new (o := HO.lst ((itemsOf (S l)).map V.str)) np
    have hp : upd H p (HO.lst ((itemsOf (S l)).map V.str)) p = some (.lst ((itemsOf (S l)).map V.str)) := upd_same
    have hne : itemsOf (S l) ≠ [] := fun e => by
      have := congrArg List.length e
      rw [ei, List.length_map, items_length] at this
      cases this
    have hlen : (itemsOf (S l)).length ≤ 100000 := by
      rw [ei, List.length_map, items_length]
      have := List.count_le_length (a := 32) (l := l)
      omega
    have hzs : ∀ z ∈ itemsOf (S l), z.length ≤ 1000000 := fun z hz => by
      obtain ⟨it, hi, rfl⟩ := List.mem_map.mp hz
      have := item_len l [] it hi
      rw [S_len]
      simp at this
      omega
    generalize itemsOf (S l) = its at q hE s1 hp hne hlen hzs ⊢
    generalize upd H p (HO.lst (its.map V.str)) = H1 at s1 hp ⊢
    dsimp only [gName]
    refine go_seq (go_asg (go_cons (go_var rfl (go_nil ⟨p, its, rfl, .inl (.inl hp), hne, hlen, hzs, fun H2 s2 => ?_⟩))))
    dsimp only [gName]
    refine go_seq (go_if (go_test (go_op (go_var rfl (go_c ⟨rfl, _, rfl, ?_⟩)))))
    cases hw : wrongP its with
    | some n => exact iteT (B := _) (mk_part2v rfl T.e_BadLine.oex T.e_BadLine.np T.e_BadLine.np2 fun d H' e hd => hE n hw d H' ((s1.trans s2).trans e) hd)
    | none =>
      refine iteF (A := _) ?_
      dsimp only [tNext]
      exact go_ret (go_call (go_cons (go_var rfl (go_nil ⟨p, its, rfl, s2.seq (.inl (.inl hp)), hne, hw, hzs, fun r H' e hd => q hw r H' ((s1.trans s2).trans e) hd⟩))))
end
end K34
namespace K34
open PySem PySem.Spec PyProof.Rows L2 Kx SX LamX Ms
theorem dp_seq {K : PySem.W.Frag} {H : Hp} {x : V} {d : PyData} {ds : List PyData} (h : Dp K H x d) (e : seqD d = some ds) : ∃ a vs, x = .ref a ∧ SqQ K H a vs ∧ DpAll K H vs ds := by
  cases h with
  | lst h1 h2 => cases e; exact ⟨_, _, rfl, .inl h1, h2⟩
  | tup h1 h2 => cases e; exact ⟨_, _, rfl, .inr h1, h2⟩
  | _ => cases e
theorem dp_isl {K : PySem.W.Frag} {H : Hp} {x : V} {d : PyData} (h : Dp K H x d) : PySem.W.kitAny K (.type (tyD d)) [.type "list", .type "tuple"] = some (seqD d).isSome := by
  have k : ∀ n : String, ∀ a b : Bool, kitB n "list" = some a → kitB n "tuple" = some b → PySem.W.kitAny K (.type n) [.type "list", .type "tuple"] = some (a || b) := fun n a b h1 h2 => kit_at h1 h2
  cases h with
  | lst _ _ => exact k "list" true false (by decide +kernel) (by decide +kernel)
  | tup _ _ => exact k "tuple" false true (by decide +kernel) (by decide +kernel)
  | non => exact k "NoneType" false false (by decide +kernel) (by decide +kernel)
  | bl b => exact k "bool" false false (by decide +kernel) (by decide +kernel)
  | int b => exact k "int" false false (by decide +kernel) (by decide +kernel)
  | str b => exact k "str" false false (by decide +kernel) (by decide +kernel)
theorem dp_int {K : PySem.W.Frag} {H : Hp} {x : V} {d : PyData} (h : Dp K H x d) : HasInt K H x := by
  cases h with
  | lst h _ => exact hasInt_lst h
  | tup h _ => exact hasInt_tup h
  | non => exact hasInt_non
  | bl b => exact hasInt_bl b
  | int b => exact hasInt_int b
  | str b => exact hasInt_str b
theorem dpAll_len {K : PySem.W.Frag} {H : Hp} : ∀ {xs : List V} {ds : List PyData}, DpAll K H xs ds → xs.length = ds.length
  | [], _, h => by cases h; rfl
  | x :: xs, _, h => by
    cases h with
    | cons a b => simp [dpAll_len b]
theorem dpAll_get {K : PySem.W.Frag} {H : Hp} : ∀ {xs : List V} {ds : List PyData} {i : Nat} {x : V}, DpAll K H xs ds → xs[i]? = some x → ∃ d, ds[i]? = some d ∧ Dp K H x d
  | [], _, _, _, _, e => by cases e
  | y :: xs, _, 0, x, h, e => by
    cases h with
    | cons a b =>
      obtain rfl : y = x := by simpa using e
      exact ⟨_, rfl, a⟩
  | y :: xs, _, i + 1, x, h, e => by
    cases h with
    | cons a b =>
      obtain ⟨d, h1, h2⟩ := dpAll_get b (by simpa using e)
      exact ⟨d, by simpa using h1, h2⟩
theorem fit_seq {d : PyData} {ds : List PyData} (h : fitD d = true) (e : seqD d = some ds) : fitAll ds = true := by
  cases d with
  | list xs => cases e; exact h
  | tuple xs => cases e; exact h
  | _ => cases e
theorem worthOk_len {ds : List PyData} (h2 : ds.length ≠ 2) (h3 : ds.length ≠ 3) : worthOk ds = false := by
  unfold worthOk
  split
  · rename_i w ds
    rw [List.length_cons] at h2 h3
    rw [decide_eq_false (p := ds.length = 1) (by omega), decide_eq_false (p := ds.length = 2) (by omega)]
    rfl
  · rfl
theorem worthOk_str {d : PyData} {ds : List PyData} (h : isS d = false) : worthOk (d :: ds) = false := by
  cases d <;> first | rfl | cases h
def wordL (n : Nat) : List Str := if n = 1 then ["plain", "at", "mine"] else sgnN
theorem worthOk_in {w : Str} {ds : List PyData} (h : ds.length = 1 ∨ ds.length = 2) : worthOk (.str w :: ds) = (decide (w ∈ wordL ds.length) && ds.all plainD) := by
  show ((decide (ds.length = 1) && decide (w ∈ (["plain", "at", "mine"] : List Str)) || decide (ds.length = 2) && decide (w ∈ sgnN)) && ds.all plainD) = _
  unfold wordL
  rcases h with h | h <;> rw [h] <;> simp
section
variable {P : Program} {w : World} {K : PySem.W.Frag} {mg : Str → Option Value} {base : Heap} (T : Tx w K mg)
/-! ### what are parts -/
def sp_is_plain_part (K : PySem.W.Frag) : Sp := fun vs H Q _ => ∃ (x : V) (d : PyData), vs = [x] ∧ Dp K H x d ∧ fitD d = true ∧ Q (.bl (plainD d)) H
theorem ok_is_plain_part : FnOk P w K mg base CX0 3 T.f_is_plain_part T.fd_is_plain_part ["value"] (sp_is_plain_part K) := by
  refine T.F_is_plain_part.ok sc_is_plain_part (fun vs H Q E h => ?_) (fun cdv A outer s H vs Q E hr h => ?_)
  · obtain ⟨x, d, rfl, _⟩ := h
    rfl
  · obtain ⟨x, d, rfl, hx, hf, q⟩ := h
    refine ⟨_, (pss_one (ps_ret (pe_or (pe_call (ok_is_name T) (hr.mono (by decide)) (by rfl) T.g_is_name T.F_is_name.kp T.b_is_name .nil pass0 (pa_cons (pv 0) pa_nil)) (pe_one (pe_call (ok_is_within T) (hr.mono (by decide)) (by rfl) T.g_is_within T.F_is_within.kp T.b_is_within .nil pass0 (pa_cons (pv 0) (pa_cons pe_int (pa_cons (pe_glob (v := .int 4095) (by rfl) T.c_MOST_PLAIN ⟨_, rfl⟩) pa_nil)))))))), ?_⟩
    refine ⟨x, rfl, x, d, rfl, hx, hf, _, rfl, iteC (fun e => ?_) (fun e => ⟨x, rfl, x, some 0, some 4095, rfl, dp_int hx, ?_⟩)⟩
    · have : plainD d = true := by
        cases d with
        | str z => exact e
        | _ => cases e
      rw [this] at q
      exact q
    · have : withinV x (some 0) (some 4095) = plainD d := by
        cases hx with
        | str z => exact e.symm
        | _ => rfl
      rw [this]
      exact q
def sp_is_worth_part (K : PySem.W.Frag) : Sp := fun vs H Q _ => ∃ (x : V) (d : PyData), vs = [x] ∧ Dp K H x d ∧ fitD d = true ∧ ∀ H', Same H H' → Q (.bl (worthB d)) H'
theorem ok_is_worth_part : FnOk P w K mg base CX0 4 T.f_is_worth_part T.fd_is_worth_part ["value"] (sp_is_worth_part K) := by
  refine T.F_is_worth_part.ok sc_is_worth_part (fun vs H Q E h => ?_) (fun cdv A outer s H vs Q E hr h => ?_)
  · obtain ⟨x, d, rfl, _⟩ := h
    rfl
  · obtain ⟨x, d, rfl, hx, hf, q⟩ := h
    refine ⟨_, (pss_cons (ps_if (PW.pt (pw_or (pt_not (pt_val (pe_call (ok_is_list T) (hr.mono (by decide)) (by rfl) T.g_is_list T.F_is_list.kp T.b_is_list .nil pass0 (pa_cons (pv 0) pa_nil)))) (pw_or (pt_cmpR op_notIn_seq (pe_callB call_len_seq (by rfl) T.m_len PySem.boot_len (pa_cons (pv 0) pa_nil)) (pe_tup (pa_cons pe_int (pa_cons pe_int pa_nil))) rfl) (pw_or1 (pt_not (pt_val (pe_callB call_isi (by rfl) T.m_isinstance (by decide +kernel) (pa_cons (pe_ix ix_seq (pv 0) pe_int (fun _ _ => rfl)) (pa_cons (pe_bltn (v := .ty "str") (by rfl) T.m_str (by decide +kernel) rfl) pa_nil)))))))))
      (pss_one (ps_ret pe_bl))
      pss_nil)
    (pss_cons (ps_set (i := 1) sc_is_worth_part.nd rfl (.inl rfl) (pe_ifExp (pt_cmpR op_eq (pe_callB call_len_seq (by rfl) T.m_len PySem.boot_len (pa_cons (pv 0) pa_nil)) pe_int (nomark _)) (pe_tup (pa_cons pe_str (pa_cons pe_str (pa_cons pe_str pa_nil)))) (pe_glob (v := .ref T.D_SIGNS) (by rfl) T.gD_SIGNS rfl)))
    (pss_one (ps_ret (pe_and (pe_cmpR op_in_seq (pe_ix ix_seq (pv 0) pe_int (fun _ _ => rfl)) (pv 1) rfl) (pe_one (pe_callB (cr_all rfl) (by rfl) T.m_all (by decide +kernel) (pa_cons (pe_lc (own := [("part", 2)]) rfl sc_is_worth_part.nd (pi_seq (pe_slice (L2.SlR.or sl_list sl_tup) (pv 0) (po_some pe_int) po_none)) (blkOk_by (own := [("part", 2)]) (N := ["value", "words", "part"]) (sc := defScope s_is_worth_part) (by decide +kernel)) (fun _ _ _ _ _ => (pg_name (i := 2) sc_is_worth_part.nd rfl (.inl rfl))) (fun _ _ _ _ _ => pts_nil) (fun _ _ _ _ _ => (pe_call (ok_is_plain_part T) (hr.mono (by decide)) (by rfl) T.g_is_plain_part T.F_is_plain_part.kp T.b_is_plain_part .nil pass0 (pa_cons (pv 2) pa_nil)))) pa_nil)))))))), ?_⟩
    refine go_seq (go_if (go_or2 (go_not (go_b ⟨x, rfl, x, _, _, rfl, dp_ty hx, dp_isl hx, fun H1 s1 => ⟨_, rfl, ?_⟩⟩))))
    cases hs : seqD d with
    | none =>
      have : worthB d = false := by unfold worthB; rw [hs]
      rw [this] at q
      exact iteT (B := _) (iteT (B := _) (go_ret (go_c (q H1 s1))))
    | some ds =>
      have eB : worthB d = worthOk ds := by unfold worthB; rw [hs]
      rw [eB] at q
      refine iteF (A := _) ?_
      obtain ⟨a, vs, rfl, hq, hd⟩ := dp_seq (dp_same s1 _ _ hx) hs
      have hfa := fit_seq hf hs
      clear hx hf hs eB
      have ln := dpAll_len hd
      refine go_or2 (go_test (go_op (go_cb (go_cons (go_var rfl (go_nil ⟨a, vs, rfl, hq, go_tup (go_cons (go_c (go_cons (go_c (go_nil ⟨by show 2 ≤ sizeLine; decide, fun p np => ?_⟩)))))⟩))))))
      refine ⟨p, [V.int 2, V.int 3], rfl, .inr (.inl (.inl upd_same)), rfl, rfl, _, rfl, ?_⟩
      have s2 := same_new (o := HO.tup [V.int 2, V.int 3]) np
      generalize upd H1 p (HO.tup [V.int 2, V.int 3]) = H2 at s2 ⊢
      have ei : inV (V.int (vs.length : Int)) [V.int 2, V.int 3] = decide (ds.length = 2 ∨ ds.length = 3) := by
        rw [ln, Bool.eq_iff_iff, decide_eq_true_eq]
        simp [inV, eqV]
        omega
      have hq2 := Same.q s2 hq
      show if (!inV (V.int (vs.length : Int)) [V.int 2, V.int 3]) = true then _ else _
      rw [ei]
      by_cases hl : ds.length = 2 ∨ ds.length = 3
      case neg =>
        rw [decide_eq_false hl]
        rw [worthOk_len (fun e => hl (.inl e)) (fun e => hl (.inr e))] at q
        exact iteT (B := _) (iteT (B := _) (go_ret (go_c (q _ (s1.trans s2)))))
      rw [decide_eq_true hl]
      refine iteF (A := _) ?_
      obtain ⟨v0, vr, rfl⟩ : ∃ v0 vr, vs = v0 :: vr := by
        cases vs with
        | nil => rw [← ln] at hl; rcases hl with h | h <;> cases h
        | cons x r => exact ⟨x, r, rfl⟩
      obtain ⟨d0, dr, rfl, hd0, hdr⟩ : ∃ d0 dr, ds = d0 :: dr ∧ Dp K H1 v0 d0 ∧ DpAll K H1 vr dr := by
        cases hd with
        | cons a b => exact ⟨_, _, rfl, a, b⟩
      have at0 : atI (v0 :: vr) 0 = some v0 := at_nat (xs := v0 :: vr) (i := 0) (Nat.succ_pos _)
      have hd2 := dp_same s2 _ _ hd0
      refine go_not (go_b (go_cb (go_cons (go_op (go_var rfl (go_c (ix_q hq2 at0 (go_cons (go_c (go_nil ⟨v0, _, _, _, isS d0, rfl, .ty _, dp_ty hd2, kit_ty (dp_str hd2), _, rfl, ?_⟩))))))))))
      cases hs : isS d0 with
      | false =>
        rw [worthOk_str hs] at q
        exact iteT (B := _) (go_ret (go_c (q _ (s1.trans s2))))
      | true =>
      obtain ⟨z, rfl⟩ : ∃ z, d0 = .str z := by cases d0 <;> first | exact ⟨_, rfl⟩ | cases hs
      obtain rfl : v0 = .str z := by cases hd0; rfl
      refine iteF (A := _) ?_
      dsimp only [tNext]
      have hn12 : dr.length = 1 ∨ dr.length = 2 := by simpa using hl
      rcases hn12 with hn | hn
      · refine go_seq (go_asg (go_ife (go_test (go_op (go_cb (go_cons (go_var rfl (go_nil ⟨a, _, rfl, hq2, go_c ⟨rfl, _, rfl, ?_⟩⟩))))))))
        rw [show decide (V.int ((V.str z :: vr).length : Int) = V.int 2) = true by rw [decI, ln]; simp [hn]]
        refine iteT (B := _) (go_tup (go_cons (go_c (go_cons (go_c (go_cons (go_c (go_nil ⟨by show 3 ≤ sizeLine; decide, fun W nW => ?_⟩))))))))
        have s3 := same_new (o := HO.tup [V.str "plain", V.str "at", V.str "mine"]) nW
        have hW : SqT K (upd H2 W (HO.tup [V.str "plain", V.str "at", V.str "mine"])) W ((wordL 1).map V.str) := .inl (.inl upd_same)
        generalize upd H2 W (HO.tup [V.str "plain", V.str "at", V.str "mine"]) = H3 at s3 hW ⊢
        dsimp only [gName]
        have hq3 := Same.q s3 hq2
        refine go_ret (go_and (go_op (go_op (go_var rfl (go_c (ix_q hq3 at0 (go_var rfl ⟨W, _, rfl, .inr hW, rfl, flat_strs _, _, rfl, ?_⟩)))))))
        rw [inV_strs]
        have ew : worthOk (.str z :: dr) = (decide (z ∈ wordL dr.length) && dr.all plainD) := worthOk_in (by omega)
        rw [hn] at ew
        rw [ew] at q
        refine iteC (fun e => ?_) (fun e => ?_)
        · have e : decide (z ∈ wordL 1) = true := e
          rw [e] at q
          refine go_cb (go_cons (lc_cut (dr.map fun d => V.bl (plainD d)) (by rw [List.length_map, List.drop_succ_cons, List.drop_zero, dpAll_len hdr]) rfl hq3 (by simp) (by rw [ln]; omega) (fun i x z' Hc Q' R' hx hz' e1 hk => ?_) (fun D Hc e1 hD => ?_)))
          · rw [List.drop_succ_cons, List.drop_zero] at hx
            obtain ⟨dx, h1, h2⟩ := dpAll_get hdr hx
            obtain ⟨dx', h3, rfl⟩ := map_at hz'
            rw [h1] at h3
            cases h3
            dsimp only [gName]
            refine ⟨rfl, iteT (B := True) ?_⟩
            exact ⟨_, rfl, x, dx, rfl, dp_same ((s2.trans s3).trans e1) _ _ h2, fitAll_mem hfa dx (List.mem_cons_of_mem _ (List.mem_of_getElem? h1)), hk _ (Same.refl _)⟩
          · refine go_nil ⟨D, dr.map plainD, rfl, .inl (.inl (by rw [hD, List.map_map]; rfl)), ?_⟩
            have : (dr.map plainD).all id = dr.all plainD := by rw [List.all_map]; rfl
            rw [this]
            exact q Hc (((s1.trans s2).trans s3).trans e1)
        · have e : decide (z ∈ wordL 1) = false := e
          rw [e] at q
          exact q _ ((s1.trans s2).trans s3)
      · refine go_seq (go_asg (go_ife (go_test (go_op (go_cb (go_cons (go_var rfl (go_nil ⟨a, _, rfl, hq2, go_c ⟨rfl, _, rfl, ?_⟩⟩))))))))
        rw [show decide (V.int ((V.str z :: vr).length : Int) = V.int 2) = false by rw [decI, ln]; simp [hn]]
        refine iteF (A := _) (go_c ?_)
        obtain ⟨W, eW⟩ : ∃ W, W = T.D_SIGNS := ⟨_, rfl⟩
        rw [← eW]
        have s3 : Same H2 H2 := Same.refl _
        have hW : SqT K H2 W ((wordL 2).map V.str) := by rw [eW]; exact sq_SG T H2
        clear eW
        dsimp only [gName]
        have hq3 := Same.q s3 hq2
        refine go_ret (go_and (go_op (go_op (go_var rfl (go_c (ix_q hq3 at0 (go_var rfl ⟨W, _, rfl, .inr hW, rfl, flat_strs _, _, rfl, ?_⟩)))))))
        rw [inV_strs]
        have ew : worthOk (.str z :: dr) = (decide (z ∈ wordL dr.length) && dr.all plainD) := worthOk_in (by omega)
        rw [hn] at ew
        rw [ew] at q
        refine iteC (fun e => ?_) (fun e => ?_)
        · have e : decide (z ∈ wordL 2) = true := e
          rw [e] at q
          refine go_cb (go_cons (lc_cut (dr.map fun d => V.bl (plainD d)) (by rw [List.length_map, List.drop_succ_cons, List.drop_zero, dpAll_len hdr]) rfl hq3 (by simp) (by rw [ln]; omega) (fun i x z' Hc Q' R' hx hz' e1 hk => ?_) (fun D Hc e1 hD => ?_)))
          · rw [List.drop_succ_cons, List.drop_zero] at hx
            obtain ⟨dx, h1, h2⟩ := dpAll_get hdr hx
            obtain ⟨dx', h3, rfl⟩ := map_at hz'
            rw [h1] at h3
            cases h3
            dsimp only [gName]
            refine ⟨rfl, iteT (B := True) ?_⟩
            exact ⟨_, rfl, x, dx, rfl, dp_same ((s2.trans s3).trans e1) _ _ h2, fitAll_mem hfa dx (List.mem_cons_of_mem _ (List.mem_of_getElem? h1)), hk _ (Same.refl _)⟩
          · refine go_nil ⟨D, dr.map plainD, rfl, .inl (.inl (by rw [hD, List.map_map]; rfl)), ?_⟩
            have : (dr.map plainD).all id = dr.all plainD := by rw [List.all_map]; rfl
            rw [this]
            exact q Hc (((s1.trans s2).trans s3).trans e1)
        · have e : decide (z ∈ wordL 2) = false := e
          rw [e] at q
          exact q _ ((s1.trans s2).trans s3)
end
end K34
namespace K34
open PySem PySem.Spec PyProof.Rows L2 Kx SX LamX Ms
theorem zipB_eq : ∀ (ks : List Str) (ds : List PyData), zipB ks ds = (decide (ds.length = ks.length) && (List.zipWith partB ks ds).all id)
  | [], [] => rfl
  | [], d :: ds => rfl
  | k :: ks, [] => rfl
  | k :: ks, d :: ds => by
    show (partB k d && zipB ks ds) = _
    rw [zipB_eq ks ds]
    have : decide ((d :: ds).length = (k :: ks).length) = decide (ds.length = ks.length) := by
      rw [Bool.eq_iff_iff, decide_eq_true_eq, decide_eq_true_eq, List.length_cons, List.length_cons]
      omega
    rw [this]
    show _ = (_ && (partB k d && (List.zipWith partB ks ds).all id))
    cases partB k d <;> cases decide (ds.length = ks.length) <;> rfl
section
variable {P : Program} {w : World} {K : PySem.W.Frag} {mg : Str → Option Value} {base : Heap} (T : Tx w K mg)
def sp_is_part (K : PySem.W.Frag) : Sp := fun vs H Q _ => ∃ (k : Str) (x : V) (d : PyData), vs = [.str k, x] ∧ Dp K H x d ∧ fitD d = true ∧ ∀ H', Same H H' → Q (.bl (partB k d)) H'
theorem ok_is_part : FnOk P w K mg base CX0 5 T.f_is_part T.fd_is_part ["kind", "value"] (sp_is_part K) := by
  refine T.F_is_part.ok sc_is_part (fun vs H Q E h => ?_) (fun cdv A outer s H vs Q E hr h => ?_)
  · obtain ⟨k, x, d, rfl, _⟩ := h
    rfl
  · obtain ⟨k, x, d, rfl, hx, hf, q⟩ := h
    refine ⟨_, (pss_cons (ps_if (pt_cmpR op_eq (pv 0) pe_str (nomark _))
      (pss_one (ps_ret (pe_call (ok_is_name T) (hr.mono (by decide)) (by rfl) T.g_is_name T.F_is_name.kp T.b_is_name .nil pass0 (pa_cons (pv 1) pa_nil))))
      pss_nil)
    (pss_one (ps_ret (pe_ifExp (pt_cmpR op_eq (pv 0) pe_str (nomark _)) (pe_call (ok_is_worth_part T) (hr.mono (by decide)) (by rfl) T.g_is_worth_part T.F_is_worth_part.kp T.b_is_worth_part .nil pass0 (pa_cons (pv 1) pa_nil)) (pe_call (ok_is_plain_part T) (hr.mono (by decide)) (by rfl) T.g_is_plain_part T.F_is_plain_part.kp T.b_is_plain_part .nil pass0 (pa_cons (pv 1) pa_nil)))))), ?_⟩
    unfold partB at q
    refine go_seq (go_if (go_test (go_op (go_var rfl (go_c ⟨rfl, _, rfl, ?_⟩)))))
    rw [decS]
    refine iteC (fun e => ?_) (fun e => ?_)
    · rw [if_pos (of_decide_eq_true e)] at q
      exact ⟨_, rfl, x, d, rfl, hx, hf, q H (Same.refl _)⟩
    · rw [if_neg (of_decide_eq_false e)] at q
      dsimp only [tNext]
      refine go_ret (go_ife (go_test (go_op (go_var rfl (go_c ⟨rfl, _, rfl, ?_⟩)))))
      rw [decS]
      refine iteC (fun e => ?_) (fun e => ?_)
      · rw [if_pos (of_decide_eq_true e)] at q
        exact ⟨_, rfl, x, d, rfl, hx, hf, q⟩
      · rw [if_neg (of_decide_eq_false e)] at q
        exact ⟨_, rfl, x, d, rfl, hx, hf, q H (Same.refl _)⟩
def sp_are_parts (K : PySem.W.Frag) : Sp := fun vs H Q _ => ∃ (x : V) (d : PyData), vs = [x] ∧ Dp K H x d ∧ fitD d = true ∧ (∀ ds, seqD d = some ds → ds.length ≤ 1000) ∧ ∀ H', Same H H' → Q (.bl (partsB d)) H'
theorem ok_are_parts : FnOk P w K mg base CX0 6 T.f_are_parts T.fd_are_parts ["value"] (sp_are_parts K) := by
  refine T.F_are_parts.ok sc_are_parts (fun vs H Q E h => ?_) (fun cdv A outer s H vs Q E hr h => ?_)
  · obtain ⟨x, d, rfl, _⟩ := h
    rfl
  · obtain ⟨x, d, rfl, hx, hf, hle, q⟩ := h
    refine ⟨_, (pss_cons (ps_if (PW.pt (pw_or (pt_not (pt_val (pe_call (ok_is_list T) (hr.mono (by decide)) (by rfl) T.g_is_list T.F_is_list.kp T.b_is_list .nil pass0 (pa_cons (pv 0) pa_nil)))) (pw_or (pt_cmpR op_eq (pe_callB call_len_seq (by rfl) T.m_len PySem.boot_len (pa_cons (pv 0) pa_nil)) pe_int (nomark _)) (pw_or (pt_not (pt_val (pe_callB call_isi (by rfl) T.m_isinstance (by decide +kernel) (pa_cons (pe_ix ix_seq (pv 0) pe_int (fun _ _ => rfl)) (pa_cons (pe_bltn (v := .ty "str") (by rfl) T.m_str (by decide +kernel) rfl) pa_nil))))) (pw_or1 (pt_cmpR op_notInT (pe_ix ix_seq (pv 0) pe_int (fun _ _ => rfl)) (pe_glob (v := .ref T.D_FORMS) (by rfl) T.gD_FORMS rfl) rfl))))))
      (pss_one (ps_ret pe_bl))
      pss_nil)
    (pss_cons (ps_set (i := 1) sc_are_parts.nd rfl (.inl rfl) (pe_ix ix_kT (pe_glob (v := .ref T.D_FORMS) (by rfl) T.gD_FORMS rfl) (pe_ix ix_seq (pv 0) pe_int (fun _ _ => rfl)) (fun _ _ => rfl)))
    (pss_one (ps_ret (pe_and (pe_cmpR op_eq (pe_callB call_len_seq (by rfl) T.m_len PySem.boot_len (pa_cons (pv 0) pa_nil)) (pe_op op_add (pe_callB call_len_seq (by rfl) T.m_len PySem.boot_len (pa_cons (pv 1) pa_nil)) pe_int) (nomark _)) (pe_one (pe_callB (cr_all rfl) (by rfl) T.m_all (by decide +kernel) (pa_cons (pe_lc (own := [("kind", 2), ("part", 3)]) rfl sc_are_parts.nd (pi_zipN (by rfl) T.m_zip (pa_cons (pv 1) (pa_cons (pe_slice (L2.SlR.or sl_list sl_tup) (pv 0) (po_some pe_int) po_none) pa_nil))) (blkOk_by (own := [("kind", 2), ("part", 3)]) (N := ["value", "kinds", "kind", "part"]) (sc := defScope s_are_parts) (by decide +kernel)) (fun _ _ _ _ _ => (inK_pg_tup (K := K) (n := 2) (t := (gCons (gName 2) (gCons (gName 3) gNil))) rfl rfl (pgs_cons (pg_name (i := 2) sc_are_parts.nd rfl (.inl rfl)) (pgs_cons (pg_name (i := 3) sc_are_parts.nd rfl (.inl rfl)) pgs_nil)))) (fun _ _ _ _ _ => pts_nil) (fun _ _ _ _ _ => (pe_call (ok_is_part T) (hr.mono (by decide)) (by rfl) T.g_is_part T.F_is_part.kp T.b_is_part .nil pass0 (pa_cons (pv 2) (pa_cons (pv 3) pa_nil))))) pa_nil)))))))), ?_⟩
    refine go_seq (go_if (go_or2 (go_not (go_b ⟨x, rfl, x, _, _, rfl, dp_ty hx, dp_isl hx, fun H1 s1 => ⟨_, rfl, ?_⟩⟩))))
    cases hs : seqD d with
    | none =>
      have : partsB d = false := by unfold partsB; rw [hs]
      rw [this] at q
      exact iteT (B := _) (iteT (B := _) (go_ret (go_c (q H1 s1))))
    | some ds =>
      have eB : partsB d = partsOk ds := by unfold partsB; rw [hs]
      rw [eB] at q
      refine iteF (A := _) ?_
      obtain ⟨a, vs, rfl, hq, hd⟩ := dp_seq (dp_same s1 _ _ hx) hs
      have hfa := fit_seq hf hs
      have hle := hle ds hs
      clear hx hf hs eB
      have ln := dpAll_len hd
      refine go_or2 (go_test (go_op (go_cb (go_cons (go_var rfl (go_nil ⟨a, vs, rfl, hq, go_c ⟨rfl, _, rfl, ?_⟩⟩))))))
      cases vs with
      | nil =>
        cases hd
        exact iteT (B := _) (iteT (B := _) (go_ret (go_c (q H1 s1))))
      | cons v0 vr =>
      obtain ⟨d0, dr, rfl, hd0, hdr⟩ : ∃ d0 dr, ds = d0 :: dr ∧ Dp K H1 v0 d0 ∧ DpAll K H1 vr dr := by
        cases hd with
        | cons a b => exact ⟨_, _, rfl, a, b⟩
      have at0 : atI (v0 :: vr) 0 = some v0 := at_nat (xs := v0 :: vr) (i := 0) (Nat.succ_pos _)
      rw [show decide (V.int ((v0 :: vr).length : Int) = V.int 0) = false by rw [decI]; exact decide_eq_false (by rw [List.length_cons]; omega)]
      refine iteF (A := _) (go_or2 (go_not (go_b (go_cb (go_cons (go_op (go_var rfl (go_c (ix_q hq at0 (go_cons (go_c (go_nil ⟨v0, _, _, _, isS d0, rfl, .ty _, dp_ty hd0, kit_ty (dp_str hd0), _, rfl, ?_⟩))))))))))))
      cases hs : isS d0 with
      | false =>
        have : partsOk (d0 :: dr) = false := by cases d0 <;> first | rfl | cases hs
        rw [this] at q
        exact iteT (B := _) (iteT (B := _) (go_ret (go_c (q H1 s1))))
      | true =>
      obtain ⟨z, rfl⟩ : ∃ z, d0 = .str z := by cases d0 <;> first | exact ⟨_, rfl⟩ | cases hs
      obtain rfl : v0 = .str z := by cases hd0; rfl
      refine iteF (A := _) (go_test (go_op (go_op (go_var rfl (go_c (ix_q hq at0 (go_c ⟨z, T.D_FORMS, _, rfl, rfl, tab_F T, _, rfl, ?_⟩)))))))
      rw [form_dec]
      have eP : partsOk (.str z :: dr) = (match formOf z with | some ks => zipB ks dr | none => false) := rfl
      rw [eP] at q
      cases hf : formOf z with
      | none =>
        rw [hf] at q
        exact iteT (B := _) (go_ret (go_c (q H1 s1)))
      | some ks =>
        rw [hf] at q
        have q : ∀ H', Same H H' → Q (.bl (zipB ks dr)) H' := q
        rw [zipB_eq] at q
        refine iteF (A := _) ?_
        dsimp only [tNext]
        refine go_seq (go_asg (go_op (go_c (go_op (go_var rfl (go_c (ix_q hq at0 ⟨T.D_FORMS, _, z, _, rfl, rfl, tab_F T, formV_mem hf, fun F hF => ?_⟩)))))))
        dsimp only [gName]
        refine go_ret (go_and (go_op (go_cb (go_cons (go_var rfl (go_nil ⟨a, _, rfl, hq, go_op (go_cb (go_cons (go_var rfl (go_nil ⟨F, _, rfl, .inr (hF H1), go_c ⟨_, _, rfl, rfl, rfl, _, rfl, ?_⟩⟩))))⟩))))))
        have el : decide (V.int ((V.str z :: vr).length : Int) = V.int (((ks.map V.str).length : Int) + 1)) = decide (dr.length = ks.length) := by
          rw [decI, ln, List.length_map, Bool.eq_iff_iff, decide_eq_true_eq, decide_eq_true_eq, List.length_cons]
          omega
        rw [el]
        refine iteC (fun e => ?_) (fun e => ?_)
        · rw [e] at q
          have e := of_decide_eq_true e
          have lz : (List.zipWith partB ks dr).length = ks.length := by rw [List.length_zipWith]; omega
          refine go_cb (go_cons (lc_zipC ((List.zipWith partB ks dr).map V.bl) (by rw [List.length_map, lz, List.length_map, List.drop_succ_cons, List.drop_zero, dpAll_len hdr]; omega) rfl (hF H1) rfl hq (by simp) (by rw [ln]; omega) (fun i x y z' t Hc Q' R' hx hy hz' e1 ht hk => ?_) (fun D Hc e1 hD => ?_)))
          · rw [List.drop_succ_cons, List.drop_zero] at hy
            obtain ⟨k, hk1, rfl⟩ := map_at hx
            obtain ⟨dy, h1, h2⟩ := dpAll_get hdr hy
            obtain ⟨b, h3, rfl⟩ := map_at hz'
            have hb : b = partB k dy := by
              rw [List.getElem?_zipWith, hk1, h1] at h3
              exact (Option.some.inj h3).symm
            subst hb
            refine ⟨t, _, rfl, .inl (.inl ht), rfl, _, _, rfl, _, _, rfl, rfl, rfl, iteT (B := True) ?_⟩
            exact ⟨_, rfl, _, rfl, k, y, dy, rfl, dp_same e1 _ _ h2, fitAll_mem hfa dy (List.mem_cons_of_mem _ (List.mem_of_getElem? h1)), fun H4 e4 => hk H4 e4⟩
          · exact go_nil ⟨D, List.zipWith partB ks dr, rfl, .inl (.inl hD), q Hc (s1.trans e1)⟩
        · rw [e] at q
          exact q H1 s1
end
end K34
namespace K34
open PySem PySem.Spec PyProof.Rows L2 Kx SX LamX Ms
/-- what str(..) gives of a plain -/
theorem strOf_D {K : PySem.W.Frag} {H : Hp} {x : V} {d : PyData} (h : Dp K H x d) (hp : plainD d = true) : StrOf x (textD d) := by
  cases h with
  | str z => exact .txt z
  | int i =>
    refine .num i ?_
    have hp : (decide (0 ≤ i) && decide (i ≤ 4095)) = true := hp
    rw [Bool.and_eq_true, decide_eq_true_eq, decide_eq_true_eq] at hp
    by_cases z : i.natAbs = 0
    · rw [z]
      decide
    · exact Nat.lt_of_lt_of_le ((Nat.log2_lt z).mpr (show i.natAbs < 2 ^ 12 by omega)) (by decide)
  | _ => cases hp
theorem text_len {d : PyData} (hp : plainD d = true) : (textD d).length ≤ 8 := by
  cases d with
  | str z =>
    have hp : nameB z = true := hp
    unfold nameB at hp
    rw [Bool.and_eq_true, decide_eq_true_eq] at hp
    exact hp.1
  | int i =>
    have hp : (decide (0 ≤ i) && decide (i ≤ 4095)) = true := hp
    rw [Bool.and_eq_true, decide_eq_true_eq, decide_eq_true_eq] at hp
    obtain ⟨n, rfl⟩ : ∃ n : Nat, i = n := ⟨i.toNat, by omega⟩
    show (Str.ofString (toString (n : Int))).length ≤ 8
    rw [← str_len, digs_ok (by omega)]
    unfold digsOf
    (repeat' split) <;> simp
  | _ => cases hp
theorem sgn_len : ∀ z ∈ sgnN, z.length ≤ 8 ∧ z ≠ "plain" := by decide
theorem word_len : ∀ z ∈ (["plain", "at", "mine"] : List Str), z.length ≤ 8 := by decide
/-- the forms of what tells a worth -/
theorem worth_cases {ds : List PyData} (h : worthOk ds = true) : (∃ w a, ds = [.str w, a] ∧ w ∈ (["plain", "at", "mine"] : List Str) ∧ plainD a = true) ∨ (∃ w a b, ds = [.str w, a, b] ∧ w ∈ sgnN ∧ plainD a = true ∧ plainD b = true) := by
  cases ds with
  | nil => cases h
  | cons d0 dr =>
    cases d0 with
    | str w =>
      have h : ((decide (dr.length = 1) && decide (w ∈ (["plain", "at", "mine"] : List Str)) || decide (dr.length = 2) && decide (w ∈ sgnN)) && dr.all plainD) = true := h
      rw [Bool.and_eq_true, Bool.or_eq_true, Bool.and_eq_true, Bool.and_eq_true, decide_eq_true_eq, decide_eq_true_eq, decide_eq_true_eq, decide_eq_true_eq] at h
      obtain ⟨h1, h2⟩ := h
      rcases h1 with ⟨h1, h3⟩ | ⟨h1, h3⟩
      · obtain ⟨a, rfl⟩ := List.length_eq_one_iff.mp h1
        exact .inl ⟨w, a, rfl, h3, by simpa using h2⟩
      · obtain ⟨a, b, rfl⟩ : ∃ a b, dr = [a, b] := by
          match dr, h1 with
          | [a, b], _ => exact ⟨a, b, rfl⟩
        exact .inr ⟨w, a, b, rfl, h3, by simpa using h2⟩
    | _ => cases h
theorem worthI_len {ds : List PyData} (h : worthOk ds = true) : (worthI ds).length ≤ 3 ∧ ∀ z ∈ worthI ds, z.length ≤ 8 := by
  rcases worth_cases h with ⟨w, a, rfl, h1, h2⟩ | ⟨w, a, b, rfl, h1, h2, h3⟩
  · show (if w = "plain" then [textD a] else [w, textD a]).length ≤ 3 ∧ ∀ z ∈ (if w = "plain" then [textD a] else [w, textD a]), z.length ≤ 8
    split
    · exact ⟨by simp, fun z hz => by rw [List.mem_singleton.mp hz]; exact text_len h2⟩
    · refine ⟨by simp, fun z hz => ?_⟩
      rcases List.mem_cons.mp hz with rfl | hz
      · exact word_len _ h1
      · rw [List.mem_singleton.mp hz]
        exact text_len h2
  · refine ⟨by show 3 ≤ 3; decide, fun z hz => ?_⟩
    have hz : z ∈ [textD a, w, textD b] := hz
    simp only [List.mem_cons, List.not_mem_nil, or_false] at hz
    rcases hz with rfl | rfl | rfl
    · exact text_len h2
    · exact (sgn_len _ h1).1
    · exact text_len h3
theorem itemI_len {k : Str} {d : PyData} (h : partB k d = true) : (itemI k d).length ≤ 3 ∧ ∀ z ∈ itemI k d, z.length ≤ 8 := by
  unfold itemI
  unfold partB at h
  by_cases e1 : k = "name"
  · rw [if_pos e1] at h
    have : plainD d = true := by cases d <;> first | exact h | cases h
    rw [if_neg (by rw [e1]; decide)]
    exact ⟨by simp, fun z hz => by rw [List.mem_singleton.mp hz]; exact text_len this⟩
  · rw [if_neg e1] at h
    by_cases e2 : k = "worth"
    · rw [if_pos e2] at h ⊢
      unfold worthB at h
      cases hs : seqD d with
      | none => rw [hs] at h; cases h
      | some ds =>
        rw [hs] at h
        exact worthI_len h
    · rw [if_neg e2] at h ⊢
      exact ⟨by simp, fun z hz => by rw [List.mem_singleton.mp hz]; exact text_len h⟩
section
variable {P : Program} {w : World} {K : PySem.W.Frag} {mg : Str → Option Value} {base : Heap} (T : Tx w K mg)
def sp_items_of_worth (K : PySem.W.Frag) : Sp := fun vs H Q _ => ∃ (x : V) (d : PyData), vs = [x] ∧ Dp K H x d ∧ worthB d = true ∧ ∀ p H', Same H H' → H p = none → H' p = some (.lst ((itemI "worth" d).map V.str)) → Q (.ref p) H'
theorem ok_items_of_worth : FnOk P w K mg base CX0 1 T.f_items_of_worth T.fd_items_of_worth ["worth"] (sp_items_of_worth K) := by
  refine T.F_items_of_worth.ok sc_items_of_worth (fun vs H Q E h => ?_) (fun cdv A outer s H vs Q E hr h => ?_)
  · obtain ⟨x, d, rfl, _⟩ := h
    rfl
  · obtain ⟨x, d, rfl, hx, hw, q⟩ := h
    refine ⟨_, (pss_cons (ps_if (pt_cmpR op_eq (pe_ix ix_seq (pv 0) pe_int (fun _ _ => rfl)) pe_str (nomark _))
      (pss_one (ps_ret (pe_lst (pa_cons (pe_callTy call_strE (by rfl) T.m_str (by decide +kernel) (pa_cons (pe_ix ix_seq (pv 0) pe_int (fun _ _ => rfl)) pa_nil)) pa_nil))))
      pss_nil)
    (pss_cons (ps_if (pt_cmpR op_eq (pe_callB call_len_seq (by rfl) T.m_len PySem.boot_len (pa_cons (pv 0) pa_nil)) pe_int (nomark _))
      (pss_one (ps_ret (pe_lst (pa_cons (pe_ix ix_seq (pv 0) pe_int (fun _ _ => rfl)) (pa_cons (pe_callTy call_strE (by rfl) T.m_str (by decide +kernel) (pa_cons (pe_ix ix_seq (pv 0) pe_int (fun _ _ => rfl)) pa_nil)) pa_nil)))))
      pss_nil)
    (pss_one (ps_ret (pe_lst (pa_cons (pe_callTy call_strE (by rfl) T.m_str (by decide +kernel) (pa_cons (pe_ix ix_seq (pv 0) pe_int (fun _ _ => rfl)) pa_nil)) (pa_cons (pe_ix ix_seq (pv 0) pe_int (fun _ _ => rfl)) (pa_cons (pe_callTy call_strE (by rfl) T.m_str (by decide +kernel) (pa_cons (pe_ix ix_seq (pv 0) pe_int (fun _ _ => rfl)) pa_nil)) pa_nil)))))))), ?_⟩
    unfold worthB at hw
    cases hs : seqD d with
    | none => rw [hs] at hw; cases hw
    | some ds =>
    rw [hs] at hw
    have hw : worthOk ds = true := hw
    have eI : itemI "worth" d = worthI ds := by unfold itemI; rw [if_pos rfl, hs]; rfl
    rw [eI] at q
    obtain ⟨a, vs, rfl, hq, hd⟩ := dp_seq hx hs
    clear hx hs eI
    rcases worth_cases hw with ⟨w0, d1, rfl, h1, h2⟩ | ⟨w0, d1, d2, rfl, h1, h2, h3⟩
    · obtain ⟨v1, rfl, g1⟩ : ∃ v1, vs = [.str w0, v1] ∧ Dp K H v1 d1 := by
        cases hd with
        | cons x1 y1 =>
          cases y1 with
          | cons x2 y2 =>
            cases y2
            cases x1
            exact ⟨_, rfl, x2⟩
      have at0 : atI [V.str w0, v1] 0 = some (V.str w0) := at_nat (xs := [V.str w0, v1]) (i := 0) (by simp)
      have at1 : atI [V.str w0, v1] 1 = some v1 := at_nat (xs := [V.str w0, v1]) (i := 1) (by simp)
      have so := strOf_D g1 h2
      refine go_seq (go_if (go_test (go_op (go_op (go_var rfl (go_c (ix_q hq at0 (go_c ⟨rfl, _, rfl, ?_⟩))))))))
      rw [decS]
      have q : ∀ p H', Same H H' → H p = none → H' p = some (.lst ((if w0 = "plain" then [textD d1] else [w0, textD d1]).map V.str)) → Q (.ref p) H' := q
      refine iteC (fun e => ?_) (fun e => ?_)
      · rw [if_pos (of_decide_eq_true e)] at q
        exact go_ret (go_lst (go_cons (go_cb (go_cons (go_op (go_var rfl (go_c (ix_q hq at1 (go_nil ⟨v1, _, rfl, so, go_nil ⟨by show 1 ≤ sizeLine; decide, fun p np => q p _ (same_new np) np upd_same⟩⟩)))))))))
      · rw [if_neg (of_decide_eq_false e)] at q
        dsimp only [tNext]
        refine go_seq (go_if (go_test (go_op (go_cb (go_cons (go_var rfl (go_nil ⟨a, _, rfl, hq, go_c ⟨rfl, _, rfl, ?_⟩⟩)))))))
        rw [show decide (V.int ([V.str w0, v1].length : Int) = V.int 2) = true by rw [decI]; rfl]
        refine iteT (B := _) ?_
        refine go_ret (go_lst (go_cons (go_op (go_var rfl (go_c (ix_q hq at0 (go_cons (go_cb (go_cons (go_op (go_var rfl (go_c (ix_q hq at1 (go_nil ⟨v1, _, rfl, so, go_nil ⟨by show 2 ≤ sizeLine; decide, fun p np => q p _ (same_new np) np upd_same⟩⟩))))))))))))))
    · obtain ⟨v1, v2, rfl, g1, g2⟩ : ∃ v1 v2, vs = [.str w0, v1, v2] ∧ Dp K H v1 d1 ∧ Dp K H v2 d2 := by
        cases hd with
        | cons x1 y1 =>
          cases y1 with
          | cons x2 y2 =>
            cases y2 with
            | cons x3 y3 =>
              cases y3
              cases x1
              exact ⟨_, _, rfl, x2, x3⟩
      have at0 : atI [V.str w0, v1, v2] 0 = some (V.str w0) := at_nat (xs := [V.str w0, v1, v2]) (i := 0) (by simp)
      have at1 : atI [V.str w0, v1, v2] 1 = some v1 := at_nat (xs := [V.str w0, v1, v2]) (i := 1) (by simp)
      have at2 : atI [V.str w0, v1, v2] 2 = some v2 := at_nat (xs := [V.str w0, v1, v2]) (i := 2) (by simp)
      have so1 := strOf_D g1 h2
      have so2 := strOf_D g2 h3
      refine go_seq (go_if (go_test (go_op (go_op (go_var rfl (go_c (ix_q hq at0 (go_c ⟨rfl, _, rfl, ?_⟩))))))))
      rw [decS, decide_eq_false (sgn_len _ h1).2]
      refine iteF (A := _) ?_
      dsimp only [tNext]
      refine go_seq (go_if (go_test (go_op (go_cb (go_cons (go_var rfl (go_nil ⟨a, _, rfl, hq, go_c ⟨rfl, _, rfl, ?_⟩⟩)))))))
      rw [show decide (V.int ([V.str w0, v1, v2].length : Int) = V.int 2) = false by rw [decI]; rfl]
      refine iteF (A := _) ?_
      dsimp only [tNext]
      refine go_ret (go_lst (go_cons (go_cb (go_cons (go_op (go_var rfl (go_c (ix_q hq at1 (go_nil ⟨v1, _, rfl, so1, ?_⟩)))))))))
      refine go_cons (go_op (go_var rfl (go_c (ix_q hq at0 (go_cons (go_cb (go_cons (go_op (go_var rfl (go_c (ix_q hq at2 (go_nil ⟨v2, _, rfl, so2, go_nil ⟨by show 3 ≤ sizeLine; decide, fun p np => q p _ (same_new np) np upd_same⟩⟩))))))))))))
end
end K34
namespace K34
open PySem PySem.Spec PyProof.Rows L2 Kx SX LamX Ms
theorem itemsK_snoc : ∀ {ks : List Str} {ds : List PyData} {k : Str} {d : PyData}, ks.length = ds.length → itemsK (ks ++ [k]) (ds ++ [d]) = itemsK ks ds ++ itemI k d
  | [], [], k, d, _ => by show itemI k d ++ [] = [] ++ itemI k d; simp
  | k0 :: ks, d0 :: ds, k, d, h => by
    show itemI k0 d0 ++ itemsK (ks ++ [k]) (ds ++ [d]) = (itemI k0 d0 ++ itemsK ks ds) ++ itemI k d
    rw [itemsK_snoc (by simpa using h), List.append_assoc]
  | [], _ :: _, _, _, h => by cases h
  | _ :: _, [], _, _, h => by cases h
theorem zipB_get : ∀ {ks : List Str} {ds : List PyData} {i : Nat} {k : Str} {d : PyData}, zipB ks ds = true → ks[i]? = some k → ds[i]? = some d → partB k d = true
  | [], _, _, _, _, _, h, _ => by cases h
  | _ :: _, [], _, _, _, _, _, h => by cases h
  | k0 :: ks, d0 :: ds, 0, k, d, h, h1, h2 => by
    have h : (partB k0 d0 && zipB ks ds) = true := h
    rw [Bool.and_eq_true] at h
    obtain rfl : k0 = k := by simpa using h1
    obtain rfl : d0 = d := by simpa using h2
    exact h.1
  | k0 :: ks, d0 :: ds, i + 1, k, d, h, h1, h2 => by
    have h : (partB k0 d0 && zipB ks ds) = true := h
    rw [Bool.and_eq_true] at h
    exact zipB_get h.2 (by simpa using h1) (by simpa using h2)
theorem zipB_len {ks : List Str} {ds : List PyData} (h : zipB ks ds = true) : ds.length = ks.length := by
  rw [zipB_eq, Bool.and_eq_true, decide_eq_true_eq] at h
  exact h.1
theorem itemsK_len : ∀ {ks : List Str} {ds : List PyData}, zipB ks ds = true → (itemsK ks ds).length ≤ 3 * ks.length ∧ ∀ z ∈ itemsK ks ds, z.length ≤ 8
  | [], _, _ => ⟨Nat.zero_le _, fun _ h => nomatch h⟩
  | _ :: _, [], h => by cases h
  | k :: ks, d :: ds, h => by
    have h : (partB k d && zipB ks ds) = true := h
    rw [Bool.and_eq_true] at h
    obtain ⟨a1, a2⟩ := itemI_len h.1
    obtain ⟨b1, b2⟩ := itemsK_len h.2
    refine ⟨?_, fun z hz => ?_⟩
    · show (itemI k d ++ itemsK ks ds).length ≤ _
      rw [List.length_append, List.length_cons]
      omega
    · rcases List.mem_append.mp hz with hz | hz
      · exact a2 z hz
      · exact b2 z hz
theorem sum_le : ∀ {zs : List Str} {k : Nat}, (∀ z ∈ zs, z.length ≤ k) → (zs.map (·.length)).sum ≤ zs.length * k
  | [], _, _ => Nat.zero_le _
  | z :: zs, k, h => by
    have h1 := h z (List.mem_cons_self ..)
    have h2 := sum_le (zs := zs) fun y m => h y (List.mem_cons_of_mem _ m)
    rw [List.map_cons, List.sum_cons, List.length_cons, Nat.succ_mul]
    omega
theorem form_wlen : ∀ p ∈ formL, p.1.length ≤ 8 := by decide
theorem take_items_len : ∀ {ks : List Str} {ds : List PyData} {i : Nat}, zipB ks ds = true → (itemsK (ks.take i) (ds.take i)).length ≤ 3 * ks.length
  | [], _, i, _ => by cases i <;> exact Nat.zero_le _
  | _ :: _, [], _, h => by cases h
  | k :: ks, d :: ds, 0, h => Nat.zero_le _
  | k :: ks, d :: ds, i + 1, h => by
    have h : (partB k d && zipB ks ds) = true := h
    rw [Bool.and_eq_true] at h
    obtain ⟨a1, _⟩ := itemI_len h.1
    have := take_items_len (i := i) h.2
    show (itemI k d ++ itemsK (ks.take i) (ds.take i)).length ≤ _
    rw [List.length_append, List.length_cons]
    omega
section
variable {P : Program} {w : World} {K : PySem.W.Frag} {mg : Str → Option Value} {base : Heap} (T : Tx w K mg)
def sp_line_of (CP : Addr) (K : PySem.W.Frag) : Sp := fun vs H Q E => ∃ (x : V) (d : PyData), vs = [x] ∧ Dp K H x d ∧ fitD d = true ∧ (∀ ds, seqD d = some ds → ds.length ≤ 1000) ∧
  ((partsB d = false ∧ RaisedPart E CP H "parts") ∨ (partsB d = true ∧ ∀ ds, seqD d = some ds → ∀ H', Same H H' → Q (.str (Txt.join " " (itemsD ds))) H'))
theorem ok_line_of : FnOk P w K mg base (L2.CX P w) 7 T.f_line_of T.fd_line_of ["parts"] (sp_line_of T.e_BadProgram.C K) := by
  refine T.F_line_of.okX sc_line_of (fun vs H Q E h => ?_) (fun cdv A outer s H vs Q E hr h => ?_)
  · obtain ⟨x, d, rfl, _⟩ := h
    rfl
  · obtain ⟨x, d, rfl, hx, hf, hle, h⟩ := h
    refine ⟨_, (pss_cons (ps_if (pt_not (pt_val (pe_call (ok_are_parts T) (hr.mono (by decide)) (by rfl) T.g_are_parts T.F_are_parts.kp T.b_are_parts .nil pass0 (pa_cons (pv 0) pa_nil))))
      (pss_one (ps_raise rfl (takes_of rfl rfl rfl rfl) (pmk_oex T.e_BadProgram.oex T.e_BadProgram.iC T.e_BadProgram.tI (ok_init T.e_BadProgram in_BadProgram) (hr.mono (by decide)) T.e_BadProgram.b .nil pass0 (by rfl) T.e_BadProgram.gC (pa_cons pe_str pa_nil))))
      pss_nil)
    (pss_cons (ps_set (i := 1) sc_line_of.nd rfl (.inl rfl) (pe_lst (pa_cons (pe_ix ix_seq (pv 0) pe_int (fun _ _ => rfl)) pa_nil)))
    (pss_cons (ps_for (passes_of rfl) rfl (pi_zipN (by rfl) T.m_zip (pa_cons (pe_ix ix_kT (pe_glob (v := .ref T.D_FORMS) (by rfl) T.gD_FORMS rfl) (pe_ix ix_seq (pv 0) pe_int (fun _ _ => rfl)) (fun _ _ => rfl)) (pa_cons (pe_slice (L2.SlR.or sl_list sl_tup) (pv 0) (po_some pe_int) po_none) pa_nil))) (pg_tup rfl (pgs_cons (pg_name (i := 2) sc_line_of.nd rfl (.inl rfl)) (pgs_cons (pg_name (i := 3) sc_line_of.nd rfl (.inl rfl)) pgs_nil)))
      (pss_one (ps_expr (pe_bm PySem.F.plainAttrs_list PySem.F.slot_list_extend PySem.F.type_list_extend mt_extend (pv 1) (pa_cons (pe_ifExp (pt_cmpR op_eq (pv 2) pe_str (nomark _)) (pe_call (ok_items_of_worth T) (hr.mono (by decide)) (by rfl) T.g_items_of_worth T.F_items_of_worth.kp T.b_items_of_worth .nil pass0 (pa_cons (pv 3) pa_nil)) (pe_lst (pa_cons (pe_callTy call_strE (by rfl) T.m_str (by decide +kernel) (pa_cons (pv 3) pa_nil)) pa_nil))) pa_nil)))))
    (pss_one (ps_ret (pe_join pe_str (pv 1))))))), ?_⟩
    refine go_seq (go_if (go_not (go_b ⟨x, rfl, x, d, rfl, hx, hf, hle, fun H1 s1 => ⟨_, rfl, ?_⟩⟩)))
    rcases h with ⟨e, hE⟩ | ⟨e, q⟩
    · rw [e]
      exact iteT (B := _) (mk_part T.e_BadProgram.oex T.e_BadProgram.np fun d' H' e' hd => hE d' H' (s1.trans e') hd)
    rw [e]
    refine iteF (A := _) ?_
    dsimp only [tNext]
    unfold partsB at e
    cases hs : seqD d with
    | none => rw [hs] at e; cases e
    | some ds =>
    rw [hs] at e
    have e : partsOk ds = true := e
    have q := q ds hs
    obtain ⟨a, vs, rfl, hq, hd⟩ := dp_seq (dp_same s1 _ _ hx) hs
    obtain ⟨z, dr, rfl⟩ : ∃ z dr, ds = .str z :: dr := by
      cases ds with
      | nil => cases e
      | cons d0 dr => cases d0 <;> first | exact ⟨_, _, rfl⟩ | cases e
    obtain ⟨vr, rfl, hdr⟩ : ∃ vr, vs = .str z :: vr ∧ DpAll K H1 vr dr := by
      cases hd with
      | cons a b => cases a; exact ⟨_, rfl, b⟩
    have e : (match formOf z with | some ks => zipB ks dr | none => false) = true := e
    cases hfo : formOf z with
    | none => rw [hfo] at e; cases e
    | some ks =>
    rw [hfo] at e
    have e : zipB ks dr = true := e
    have q : ∀ H', Same H H' → Q (.str (Txt.join " " (z :: itemsK ((formOf z).getD []) dr))) H' := q
    rw [hfo] at q
    have q : ∀ H', Same H H' → Q (.str (Txt.join " " (z :: itemsK ks dr))) H' := q
    clear hx hf hle hs hd
    have lk : ks.length ≤ 2 := form_len _ (form_mem hfo)
    have ld := zipB_len e
    have lv := dpAll_len hdr
    have at0 : atI (V.str z :: vr) 0 = some (V.str z) := at_nat (xs := V.str z :: vr) (i := 0) (Nat.succ_pos _)
    refine go_seq (go_asg (go_lst (go_cons (go_op (go_var rfl (go_c (ix_q hq at0 (go_nil ⟨by show 1 ≤ sizeLine; decide, fun L nL => ?_⟩))))))))
    have s2 := same_new (o := HO.lst [V.str z]) nL
    have hL : upd H1 L (HO.lst [V.str z]) L = some (.lst [V.str z]) := upd_same
    have nH := s1.free nL
    generalize upd H1 L (HO.lst [V.str z]) = H2 at s2 hL ⊢
    dsimp only [gName]
    have hq2 := Same.q s2 hq
    refine go_seq ⟨_, rfl, ix_q hq2 at0 ⟨T.D_FORMS, _, z, _, rfl, rfl, tab_F T, formV_mem hfo, fun F hF => ?_⟩⟩
    rcases hq2 with hq2 | hq2
    · refine cutL rfl hq2 fun p np => ⟨F, p, ks.map V.str, _, rfl, hF _, .inl ⟨.inl (.inl upd_same), ?_⟩⟩
      have s3 := same_new (o := HO.lst ((V.str z :: vr).drop 1)) np
      have hp : upd H2 p (HO.lst ((V.str z :: vr).drop 1)) p = some (.lst ((V.str z :: vr).drop 1)) := upd_same
      have npL : p ≠ L := fun z => by rw [z, hL] at np; cases np
      have hL3 := s3 _ _ hL
      generalize upd H2 p (HO.lst ((V.str z :: vr).drop 1)) = H3 at s3 hp hL3 ⊢
      refine for_it (walk_zipN (xs := ks.map V.str) (ys := (V.str z :: vr).drop 1) rfl) (fun i σ Hc => ∃ (o2 o3 : Option V), σ = [some (.ref a), some (.ref L), o2, o3] ∧ Mv L H3 Hc ∧ Hc L = some (.lst ((z :: itemsK (ks.take i) (dr.take i)).map V.str)))
        ⟨none, none, rfl, Mv.of (Same.refl _), hL3⟩ (fun i σ Hc hi h => ?_) (fun i x σ Hc Hd hi h hy => ?_) (fun σ Hc h => ?_)
      · obtain ⟨o2, o3, rfl, mv, hLc⟩ := h
        exact ⟨hF Hc, .inl (.inl (mv p _ npL hp))⟩
      · obtain ⟨o2, o3, rfl, mv, hLc⟩ := h
        obtain ⟨t, x', y', rfl, nt, rfl, hx, hy2⟩ := hy
        obtain ⟨k, hk, rfl⟩ := map_at hx
        rw [List.drop_succ_cons, List.drop_zero] at hy2
        obtain ⟨dy, hd1, hd2⟩ := dpAll_get hdr hy2
        have pk := zipB_get e hk hd1
        have st := same_new (o := HO.tup [V.str k, y']) nt
        refine ⟨t, _, rfl, .inl (.inl upd_same), rfl, _, _, rfl, _, _, rfl, rfl, ?_⟩
        generalize upd Hc t (HO.tup [V.str k, y']) = H4 at st ⊢
        have hL4 := st _ _ hLc
        have mv4 : Mv L H3 H4 := mv.trans (Mv.of st)
        have s14 : Same H1 H4 := fun b o hb => mv4 b o (ne_of_none hb nL) (s3 _ _ (s2 _ _ hb))
        have ex : itemsK (ks.take (i + 1)) (dr.take (i + 1)) = itemsK (ks.take i) (dr.take i) ++ itemI k dy := by
          rw [take_snoc hk, take_snoc hd1]
          exact itemsK_snoc (by rw [List.length_take, List.length_take]; omega)
        obtain ⟨bi, _⟩ := itemI_len pk
        have bound : ((z :: itemsK (ks.take i) (dr.take i)).map V.str).length + ((itemI k dy).map V.str).length ≤ sizeLine := by
          have h1 := take_items_len (i := i) e
          rw [List.length_map, List.length_map, List.length_cons]
          exact Nat.le_trans (show _ ≤ 100 by omega) (by decide)
        have fin : ∀ (q' : Addr) (H5 : Hp), Same H4 H5 → H5 q' = some (.lst ((itemI k dy).map V.str)) → rExtend (V.ref L) [V.ref q'] H5 fun _ H6 => ∃ (o2 o3 : Option V), [some (V.ref a), some (V.ref L), some (V.str k), some y'] = [some (V.ref a), some (V.ref L), o2, o3] ∧ Mv L H3 H6 ∧ H6 L = some (.lst ((z :: itemsK (ks.take (i + 1)) (dr.take (i + 1))).map V.str)) := fun q' H5 s5 hq' =>
          ⟨L, q', _, _, rfl, rfl, s5 _ _ hL4, hq', bound, _, _, rfl, (mv4.trans (Mv.of s5)).trans (Mv.upd _ _ _), by rw [upd_same, ex, ← List.cons_append, List.map_append]⟩
        refine go_drop (go_bm (go_var rfl ⟨.inl ⟨rfl, _, .inl (.inl hL4)⟩, go_cons (go_ife (go_test (go_op (go_var rfl (go_c ⟨rfl, _, rfl, ?_⟩)))))⟩))
        rw [decS]
        refine iteC (fun ek => ?_) (fun ek => ?_)
        · have ek := of_decide_eq_true ek
          subst ek
          refine go_call (go_cons (go_var rfl (go_nil ⟨y', dy, rfl, dp_same s14 _ _ hd2, ?_, fun q' H5 s5 _ hq' => fin q' H5 s5 hq'⟩)))
          have pk : (if ("worth" : Str) = "name" then nameD dy else if ("worth" : Str) = "worth" then worthB dy else plainD dy) = true := pk
          rw [if_neg (by decide), if_pos rfl] at pk
          exact pk
        · have ek := of_decide_eq_false ek
          have ei : itemI k dy = [textD dy] := by unfold itemI; rw [if_neg ek]
          have pp : plainD dy = true := by
            unfold partB at pk
            by_cases e1 : k = "name"
            · rw [if_pos e1] at pk
              cases dy <;> first | exact pk | cases pk
            · rw [if_neg e1, if_neg ek] at pk
              exact pk
          refine go_lst (go_cons (go_cb (go_cons (go_var rfl (go_nil ⟨y', _, rfl, strOf_D (dp_same s14 _ _ hd2) pp, go_nil ⟨by show 1 ≤ sizeLine; decide, fun q' nq => ?_⟩⟩)))))
          exact fin q' _ (same_new nq) (by rw [upd_same, ei]; rfl)
      · obtain ⟨o2, o3, rfl, mv, hLc⟩ := h
        have el : min (ks.map V.str).length ((V.str z :: vr).drop 1).length = ks.length := by
          rw [List.length_map, List.drop_succ_cons, List.drop_zero, lv, ld]
          omega
        rw [el, List.take_length, ← ld, List.take_length] at hLc
        have s1c : Same H1 Hc := fun b o hb => mv b o (ne_of_none hb nL) (s3 _ _ (s2 _ _ hb))
        obtain ⟨bl, bz⟩ := itemsK_len e
        have zl : z.length ≤ 8 := form_wlen _ (form_mem hfo)
        dsimp only
        refine ⟨⟨_, rfl⟩, _, rfl, " ", L, z :: itemsK ks dr, rfl, rfl, .inl (.inl (.inl hLc)), ?_, q Hc (s1.trans s1c)⟩
        have hs := sum_le (zs := z :: itemsK ks dr) (k := 8) fun y hy => by
          rcases List.mem_cons.mp hy with rfl | hy
          · exact zl
          · exact bz y hy
        have : (" " : Str).length = 1 := rfl
        rw [this, List.length_cons] at *
        omega
    · refine cutT rfl hq2 (by simp) fun p np => ⟨F, p, ks.map V.str, _, rfl, hF _, .inr ⟨.inl (.inl upd_same), ?_⟩⟩
      have s3 := same_new (o := HO.tup ((V.str z :: vr).drop 1)) np
      have hp : upd H2 p (HO.tup ((V.str z :: vr).drop 1)) p = some (.tup ((V.str z :: vr).drop 1)) := upd_same
      have npL : p ≠ L := fun z => by rw [z, hL] at np; cases np
      have hL3 := s3 _ _ hL
      generalize upd H2 p (HO.tup ((V.str z :: vr).drop 1)) = H3 at s3 hp hL3 ⊢
      refine for_it (walk_zipTT (xs := ks.map V.str) (ys := (V.str z :: vr).drop 1) rfl) (fun i σ Hc => ∃ (o2 o3 : Option V), σ = [some (.ref a), some (.ref L), o2, o3] ∧ Mv L H3 Hc ∧ Hc L = some (.lst ((z :: itemsK (ks.take i) (dr.take i)).map V.str)))
        ⟨none, none, rfl, Mv.of (Same.refl _), hL3⟩ (fun i σ Hc hi h => ?_) (fun i x σ Hc Hd hi h hy => ?_) (fun σ Hc h => ?_)
      · obtain ⟨o2, o3, rfl, mv, hLc⟩ := h
        exact ⟨hF Hc, .inl (.inl (mv p _ npL hp))⟩
      · obtain ⟨o2, o3, rfl, mv, hLc⟩ := h
        obtain ⟨t, x', y', rfl, nt, rfl, hx, hy2⟩ := hy
        obtain ⟨k, hk, rfl⟩ := map_at hx
        rw [List.drop_succ_cons, List.drop_zero] at hy2
        obtain ⟨dy, hd1, hd2⟩ := dpAll_get hdr hy2
        have pk := zipB_get e hk hd1
        have st := same_new (o := HO.tup [V.str k, y']) nt
        refine ⟨t, _, rfl, .inl (.inl upd_same), rfl, _, _, rfl, _, _, rfl, rfl, ?_⟩
        generalize upd Hc t (HO.tup [V.str k, y']) = H4 at st ⊢
        have hL4 := st _ _ hLc
        have mv4 : Mv L H3 H4 := mv.trans (Mv.of st)
        have s14 : Same H1 H4 := fun b o hb => mv4 b o (ne_of_none hb nL) (s3 _ _ (s2 _ _ hb))
        have ex : itemsK (ks.take (i + 1)) (dr.take (i + 1)) = itemsK (ks.take i) (dr.take i) ++ itemI k dy := by
          rw [take_snoc hk, take_snoc hd1]
          exact itemsK_snoc (by rw [List.length_take, List.length_take]; omega)
        obtain ⟨bi, _⟩ := itemI_len pk
        have bound : ((z :: itemsK (ks.take i) (dr.take i)).map V.str).length + ((itemI k dy).map V.str).length ≤ sizeLine := by
          have h1 := take_items_len (i := i) e
          rw [List.length_map, List.length_map, List.length_cons]
          exact Nat.le_trans (show _ ≤ 100 by omega) (by decide)
        have fin : ∀ (q' : Addr) (H5 : Hp), Same H4 H5 → H5 q' = some (.lst ((itemI k dy).map V.str)) → rExtend (V.ref L) [V.ref q'] H5 fun _ H6 => ∃ (o2 o3 : Option V), [some (V.ref a), some (V.ref L), some (V.str k), some y'] = [some (V.ref a), some (V.ref L), o2, o3] ∧ Mv L H3 H6 ∧ H6 L = some (.lst ((z :: itemsK (ks.take (i + 1)) (dr.take (i + 1))).map V.str)) := fun q' H5 s5 hq' =>
          ⟨L, q', _, _, rfl, rfl, s5 _ _ hL4, hq', bound, _, _, rfl, (mv4.trans (Mv.of s5)).trans (Mv.upd _ _ _), by rw [upd_same, ex, ← List.cons_append, List.map_append]⟩
        refine go_drop (go_bm (go_var rfl ⟨.inl ⟨rfl, _, .inl (.inl hL4)⟩, go_cons (go_ife (go_test (go_op (go_var rfl (go_c ⟨rfl, _, rfl, ?_⟩)))))⟩))
        rw [decS]
        refine iteC (fun ek => ?_) (fun ek => ?_)
        · have ek := of_decide_eq_true ek
          subst ek
          refine go_call (go_cons (go_var rfl (go_nil ⟨y', dy, rfl, dp_same s14 _ _ hd2, ?_, fun q' H5 s5 _ hq' => fin q' H5 s5 hq'⟩)))
          have pk : (if ("worth" : Str) = "name" then nameD dy else if ("worth" : Str) = "worth" then worthB dy else plainD dy) = true := pk
          rw [if_neg (by decide), if_pos rfl] at pk
          exact pk
        · have ek := of_decide_eq_false ek
          have ei : itemI k dy = [textD dy] := by unfold itemI; rw [if_neg ek]
          have pp : plainD dy = true := by
            unfold partB at pk
            by_cases e1 : k = "name"
            · rw [if_pos e1] at pk
              cases dy <;> first | exact pk | cases pk
            · rw [if_neg e1, if_neg ek] at pk
              exact pk
          refine go_lst (go_cons (go_cb (go_cons (go_var rfl (go_nil ⟨y', _, rfl, strOf_D (dp_same s14 _ _ hd2) pp, go_nil ⟨by show 1 ≤ sizeLine; decide, fun q' nq => ?_⟩⟩)))))
          exact fin q' _ (same_new nq) (by rw [upd_same, ei]; rfl)
      · obtain ⟨o2, o3, rfl, mv, hLc⟩ := h
        have el : min (ks.map V.str).length ((V.str z :: vr).drop 1).length = ks.length := by
          rw [List.length_map, List.drop_succ_cons, List.drop_zero, lv, ld]
          omega
        rw [el, List.take_length, ← ld, List.take_length] at hLc
        have s1c : Same H1 Hc := fun b o hb => mv b o (ne_of_none hb nL) (s3 _ _ (s2 _ _ hb))
        obtain ⟨bl, bz⟩ := itemsK_len e
        have zl : z.length ≤ 8 := form_wlen _ (form_mem hfo)
        dsimp only
        refine ⟨⟨_, rfl⟩, _, rfl, " ", L, z :: itemsK ks dr, rfl, rfl, .inl (.inl (.inl hLc)), ?_, q Hc (s1.trans s1c)⟩
        have hs := sum_le (zs := z :: itemsK ks dr) (k := 8) fun y hy => by
          rcases List.mem_cons.mp hy with rfl | hy
          · exact zl
          · exact bz y hy
        have : (" " : Str).length = 1 := rfl
        rw [this, List.length_cons] at *
        omega
end
end K34
namespace K34
open PySem PySem.Spec PyProof.Rows L2 Kx SX LamX Ms
section
variable {P : Program} {w : World} {K : PySem.W.Frag} {mg : Str → Option Value} {base : Heap} (T : Tx w K mg)
/-! ### draws -/
def sp_law_bell (K : PySem.W.Frag) : Sp := fun vs H Q _ => ∃ (a c : Addr) (m : Int) (n : Nat), vs = [.ref a, .int m] ∧ 0 < m ∧ m ≤ 1000000 ∧ Wh H a c n ∧ n < 1000000 ∧ ∀ (r : Int) (H' : Hp), 0 ≤ r → r < m → Mv a H H' → Wh H' a c (n + 1) → Q (.int r) H'
theorem ok_law_bell : FnOk P w K mg base CX0 1 T.f_law_bell T.fd_law_bell ["spire", "many"] (sp_law_bell K) := by
  refine T.F_law_bell.ok sc_law_bell (fun vs H Q E h => ?_) (fun cdv A outer s H vs Q E hr h => ?_)
  · obtain ⟨a, c, m, n, rfl, _⟩ := h
    rfl
  · obtain ⟨a, c, m, n, rfl, hm, hM, ⟨cs, t, l, h1, h2, h3, h4, h5⟩, hn, q⟩ := h
    refine ⟨_, (pss_cons (ps_if (pt_cmpR op_gt (pe_ix ix_list (pv 0) pe_int (fun _ _ => rfl)) pe_int (nomark _))
      (pss_cons (ps_set (i := 2) sc_law_bell.nd rfl (.inl rfl) (pe_callTy call_int1 (by rfl) T.m_int (by decide +kernel) (pa_cons (pe_ix ix_list (pv 0) pe_int (fun _ _ => rfl)) pa_nil)))
      (pss_cons (ps_asg (pe_op op_fdivN (pv 2) (pv 1)) (pg_sub (pv 0) pe_int set_list))
      (pss_one (ps_ret (pe_op op_modN (pe_callTy call_int1 (by rfl) T.m_int (by decide +kernel) (pa_cons (pv 2) pa_nil)) (pv 1))))))
      pss_nil)
    (pss_cons (ps_set (i := 3) sc_law_bell.nd rfl (.inl rfl) (pe_ix ix_list (pv 0) pe_int (fun _ _ => rfl)))
    (pss_cons (ps_asg (pe_op op_add (pv 3) pe_int) (pg_sub (pv 0) pe_int set_list))
    (pss_cons (ps_set (i := 4) sc_law_bell.nd rfl (.inl rfl) (pe_op op_add (pe_op op_mul pe_int (pv 3)) pe_int))
    (pss_cons (ps_if (pt_cmpR (op_neD hr.units) (pe_ix ix_list (pv 0) pe_int (fun _ _ => rfl)) (pe_lst pa_nil) (nomark _))
      (pss_one (ps_set (i := 4) sc_law_bell.nd rfl (.inl rfl) (pe_ix ix_list (pe_ix ix_list (pv 0) pe_int (fun _ _ => rfl)) (pe_op op_modN (pe_callTy call_int1 (by rfl) T.m_int (by decide +kernel) (pa_cons (pv 3) pa_nil)) (pe_callB call_len_seq (by rfl) T.m_len PySem.boot_len (pa_cons (pe_ix ix_list (pv 0) pe_int (fun _ _ => rfl)) pa_nil))) (fun _ _ => rfl))))
      pss_nil)
    (pss_cons (ps_if (PW.pt (pw_and (pt_cmpR op_lt (pv 3) (pe_callB call_len_seq (by rfl) T.m_len PySem.boot_len (pa_cons (pe_ix ix_list (pv 0) pe_int (fun _ _ => rfl)) pa_nil)) (nomark _)) (pw_and1 (pt_cmpR op_ge (pe_callB call_abs (by rfl) T.m_abs (by decide +kernel) (pa_cons (pv 4) pa_nil)) (pe_op op_pow pe_int pe_int) (nomark _)))))
      (pss_cons (ps_set (i := 2) sc_law_bell.nd rfl (.inl rfl) (pe_op op_add (pe_op op_mul pe_int (pe_op op_sub (pe_callB call_abs (by rfl) T.m_abs (by decide +kernel) (pa_cons (pe_callTy call_int1 (by rfl) T.m_int (by decide +kernel) (pa_cons (pv 4) pa_nil)) pa_nil)) (pe_op op_pow pe_int pe_int))) (pe_callTy call_int1 (by rfl) T.m_int (by decide +kernel) (pa_cons (pe_cmpR op_lt (pv 4) pe_int (nomark _)) pa_nil))))
      (pss_cons (ps_asg (pe_op op_fdivN (pv 2) (pv 1)) (pg_sub (pv 0) pe_int set_list))
      (pss_one (ps_ret (pe_op op_modN (pe_callTy call_int1 (by rfl) T.m_int (by decide +kernel) (pa_cons (pv 2) pa_nil)) (pv 1))))))
      pss_nil)
    (pss_cons (ps_set (i := 5) sc_law_bell.nd rfl (.inl rfl) (pe_op op_modN (pe_callTy call_int1 (by rfl) T.m_int (by decide +kernel) (pa_cons (pe_op op_pow (pe_op op_add (pe_op op_add (pe_op op_modN (pe_callTy call_int1 (by rfl) T.m_int (by decide +kernel) (pa_cons (pv 4) pa_nil)) pe_int) (pe_op op_mul pe_int (pv 3))) pe_int) pe_int) pa_nil)) pe_int))
    (pss_cons (ps_set (i := 5) sc_law_bell.nd rfl (.inl rfl) (pe_op op_modN (pe_callTy call_int1 (by rfl) T.m_int (by decide +kernel) (pa_cons (pe_op op_pow (pe_op op_add (pe_op op_add (pe_op op_mul (pv 5) (pe_op op_add (pe_op op_mul pe_int (pv 3)) pe_int)) (pe_op op_mul (pe_op op_mul pe_int (pv 3)) (pv 3))) pe_int) pe_int) pa_nil)) pe_int))
    (pss_one (ps_ret (pe_op op_modN (pe_callTy call_int1 (by rfl) T.m_int (by decide +kernel) (pa_cons (pe_op op_fdivN (pv 5) pe_int) pa_nil)) (pv 1)))))))))))), ?_⟩
    have hac := wh_ac h1 h2
    have m0 : m ≠ 0 := by omega
    have mS : m.natAbs < 1073741824 := by omega
    have fin : ∀ (x y z : Int) (H' : Hp), Mv a H H' → H' a = some (.lst [.ref c, .int y, .int z]) → 0 ≤ y → y ≤ n + 1 → Q (.int (x.fmod m)) H' := fun x y z H' mv ha y0 y1 =>
      q _ _ (Int.fmod_nonneg_of_pos _ hm) (Int.fmod_lt_of_pos _ hm) mv ⟨cs, y, z, ha, mv c _ (fun e => hac e.symm) h2, h3, y0, by omega⟩
    refine ⟨_, rfl, a, _, 2, .int l, rfl, rfl, .inl (.inl h1), rfl, _, _, rfl, rfl, _, rfl, iteC (fun e => ?_) (fun e => ?_)⟩
    · refine ⟨_, rfl, a, _, 2, .int l, rfl, rfl, .inl (.inl h1), rfl, .inl ⟨l, rfl, ?_⟩⟩
      refine ⟨_, rfl, _, rfl, l, m, rfl, rfl, ⟨m0, mS⟩, _, rfl, a, _, 2, 2, rfl, rfl, h1, rfl, ?_⟩
      refine ⟨_, rfl, .inl ⟨l, rfl, _, rfl, l, m, rfl, rfl, m0, ?_⟩⟩
      exact fin _ t (l.fdiv m) _ (Mv.upd _ _ _) upd_same h4 (by omega)
    · clear e
      refine ⟨_, rfl, a, _, 1, .int t, rfl, rfl, .inl (.inl h1), rfl, ?_⟩
      refine ⟨_, rfl, t, 1, rfl, rfl, _, rfl, a, _, 1, 1, rfl, rfl, h1, rfl, ?_⟩
      refine ⟨_, rfl, _, t, rfl, rfl, .inl ⟨by decide, by decide⟩, _, _, rfl, rfl, ?_⟩
      refine genI (P := fun v => gName 4 v _ _ _) (fun c0 => ?_)
      generalize hH1 : upd H a (HO.lst ([V.ref c, .int t, .int l].set 1 (.int (t + 1)))) = H1
      have a1 : H1 a = some (.lst [.ref c, .int (t + 1), .int l]) := by rw [← hH1]; exact upd_same
      have c1 : H1 c = some (.lst (cs.map V.int)) := by rw [← hH1, upd_ne (fun e => hac e.symm)]; exact h2
      have mv1 : Mv a H H1 := by rw [← hH1]; exact Mv.upd _ _ _
      refine ⟨_, rfl, a, _, 0, .ref c, rfl, rfl, .inl (.inl a1), rfl, Nat.zero_le _, fun p np => ne_nil (.inl (.inl (same_new np _ _ c1))) upd_same ?_⟩
      generalize hH2 : upd H1 p (HO.lst []) = H2
      have s2 : Same H1 H2 := by rw [← hH2]; exact same_new np
      have a2 := s2 _ _ a1
      have c2 := s2 _ _ c1
      have mv2 : Mv a H H2 := mv1.trans (Mv.of s2)
      refine ⟨_, rfl, cutI (R := fun z => tNext _ (List.set _ 4 (some (V.int z))) H2) c0 (fun _ r => r) (fun key e => ?_) (fun cell => ?_)⟩
      · obtain ⟨v, hv, ev⟩ : ∃ v, v ∈ cs.map V.int ∧ atI (cs.map V.int) (t.fmod ((cs.map V.int).length : Int)) = some v := by
          have z : (0 : Int) < (cs.map V.int).length := by
            cases cs with
            | nil => cases e
            | cons x xs => simp
          exact at_lt (Int.fmod_nonneg_of_pos _ z) (Int.fmod_lt_of_pos _ z)
        obtain ⟨i, _, rfl⟩ := List.mem_map.mp hv
        have z : ((cs.map V.int).length : Int) ≠ 0 := by
          cases cs with
          | nil => cases e
          | cons x xs => simp; omega
        refine ⟨_, rfl, a, _, 0, .ref c, rfl, rfl, .inl (.inl a2), rfl, ?_⟩
        refine ⟨_, rfl, .inl ⟨t, rfl, ?_⟩⟩
        refine ⟨_, rfl, a, _, 0, .ref c, rfl, rfl, .inl (.inl a2), rfl, c, _, rfl, .inl (.inl (.inl c2)), ?_⟩
        exact ⟨t, _, rfl, rfl, z, c, _, _, _, rfl, rfl, .inl (.inl c2), ev, key i⟩
      · refine ⟨_, rfl, _, rfl, a, _, 0, .ref c, rfl, rfl, .inl (.inl a2), rfl, c, _, rfl, .inl (.inl (.inl c2)), _, _, rfl, rfl, _, rfl, cutP (fun _ r => iteF r) (fun r e => ?_) ?_⟩
        · refine ⟨_, rfl, cell, rfl, _, _, rfl, rfl, ⟨by decide, by decide, by decide⟩, _, _, rfl, rfl, _, rfl, iteC (fun e2 => ?_) (fun e2 => r)⟩
          refine ⟨_, rfl, .inl ⟨cell, rfl, cell, rfl, _, _, rfl, rfl, ⟨by decide, by decide, by decide⟩, _, _, rfl, rfl, _, _, rfl, rfl, .inl ⟨by decide, by decide⟩, _, rfl, _, _, rfl, rfl, .inr ⟨_, rfl, _, _, rfl, rfl, ?_⟩⟩⟩
          refine genI (P := fun v => gName 2 v _ _ _) (fun rest => ?_)
          refine ⟨_, rfl, _, rfl, _, _, rfl, rfl, ⟨m0, mS⟩, _, rfl, a, _, 2, 2, rfl, rfl, a2, rfl, ?_⟩
          refine ⟨_, rfl, .inl ⟨rest, rfl, _, rfl, _, _, rfl, rfl, m0, ?_⟩⟩
          exact fin _ (t + 1) _ _ (mv2.trans (Mv.upd _ _ _)) upd_same (by omega) (by omega)
        · refine ⟨_, rfl, .inl ⟨cell, rfl, _, _, rfl, rfl, (by show (_ : Int) ≠ 0; decide), _, rfl, _, _, rfl, rfl, .inl ⟨by decide, by decide⟩, _, _, rfl, rfl, _, _, rfl, rfl, _, _, rfl, rfl, ⟨by decide, by decide, bnd5 (by decide) (by decide) h4 (by omega) (by decide) (by decide) (by decide) (by decide)⟩, .inl ⟨_, rfl, _, _, rfl, rfl, (by show (_ : Int) ≠ 0; decide), ?_⟩⟩⟩
          refine genIB (P := fun v => gName 5 v _ _ _) (by decide) (fun m1 m1a m1b => ?_)
          have m1c : m1 ≤ 4294967296 := Int.le_trans (Int.le_of_lt m1b) (by decide)
          refine ⟨_, rfl, _, rfl, _, _, rfl, rfl, .inl ⟨by decide, by decide⟩, _, _, rfl, rfl, _, _, rfl, rfl, .inl ⟨by omega, by omega⟩, _, rfl, _, _, rfl, rfl, .inl ⟨by decide, by decide⟩, _, rfl, _, _, rfl, rfl, .inr ⟨by omega, by omega⟩, _, _, rfl, rfl, _, _, rfl, rfl, _, _, rfl, rfl, ⟨by decide, by decide, bnd3 m1a m1c h4 (by omega) (by decide) (by decide) (by decide) (by decide) (by decide) (by decide)⟩, .inl ⟨_, rfl, _, _, rfl, rfl, (by show (_ : Int) ≠ 0; decide), ?_⟩⟩
          refine genI (P := fun v => gName 5 v _ _ _) (fun m2 => ?_)
          refine ⟨_, rfl, _, _, rfl, rfl, ⟨by decide, by decide⟩, .inl ⟨_, rfl, _, rfl, _, _, rfl, rfl, m0, ?_⟩⟩
          exact fin _ (t + 1) _ _ mv2 a2 (by omega) (by omega)
/-- one of some things -/
def sp_law_pick (K : PySem.W.Frag) : Sp := fun vs H Q _ => ∃ (a b c : Addr) (xs : List V) (n : Nat), vs = [.ref a, .ref b] ∧ SqL K H b xs ∧ xs ≠ [] ∧ xs.length ≤ 1000000 ∧ Wh H a c n ∧ n < 1000000 ∧ (∀ H', Mv a H H' → SqL K H' b xs) ∧ ∀ (v : V) (H' : Hp), v ∈ xs → Mv a H H' → Wh H' a c (n + 1) → Q v H'
theorem ok_law_pick : FnOk P w K mg base CX0 2 T.f_law_pick T.fd_law_pick ["spire", "some"] (sp_law_pick K) := by
  refine T.F_law_pick.ok sc_law_pick (fun vs H Q E h => ?_) (fun cdv A outer s H vs Q E hr h => ?_)
  · obtain ⟨a, b, c, xs, n, rfl, _⟩ := h
    rfl
  · obtain ⟨a, b, c, xs, n, rfl, hs, hx, hl, hw, hn, hm, q⟩ := h
    refine ⟨_, (pss_one (ps_ret (pe_ix ix_list (pv 1) (pe_call (ok_law_bell T) (hr.mono (by decide)) (by rfl) T.g_law_bell T.F_law_bell.kp T.b_law_bell .nil pass0 (pa_cons (pv 0) (pa_cons (pe_callB call_len_seq (by rfl) T.m_len PySem.boot_len (pa_cons (pv 1) pa_nil)) pa_nil))) (fun _ _ => rfl)))), ?_⟩
    have z : 0 < xs.length := by
      cases xs with
      | nil => exact absurd rfl hx
      | cons x t => simp
    refine ⟨_, rfl, _, rfl, _, rfl, b, xs, rfl, .inl hs, a, c, _, n, rfl, by omega, by omega, hw, hn, fun r H' r0 r1 mv w' => ?_⟩
    obtain ⟨v, hv, ev⟩ := at_lt r0 r1
    exact ⟨b, xs, r, v, rfl, rfl, hm _ mv, ev, q v H' hv mv w'⟩
def sp_law_spire (K : PySem.W.Frag) : Sp := fun vs H Q _ => ∃ (b : Addr) (xs : List Int), vs = [.ref b] ∧ SqL K H b (xs.map V.int) ∧ ∀ (a c : Addr) (H' : Hp), H a = none → Same H H' → Wh H' a c 0 → Q (.ref a) H'
theorem ok_law_spire : FnOk P w K mg base CX0 1 T.f_law_spire T.fd_law_spire ["script"] (sp_law_spire K) := by
  refine T.F_law_spire.ok sc_law_spire (fun vs H Q E h => ?_) (fun cdv A outer s H vs Q E hr h => ?_)
  · obtain ⟨b, xs, rfl, _⟩ := h
    rfl
  · obtain ⟨b, xs, rfl, hs, q⟩ := h
    refine ⟨_, (pss_one (ps_ret (pe_lst (pa_cons (pe_lc (own := [("cell", 1)]) rfl sc_law_spire.nd (pi_list (pe_slice sl_list (pv 0) po_none (po_some pe_int))) (blkOk_by (own := [("cell", 1)]) (N := ["script", "cell"]) (sc := defScope s_law_spire) (by decide +kernel)) (fun _ _ _ _ _ => (pg_name (i := 1) sc_law_spire.nd rfl (.inl rfl))) (fun _ _ _ _ _ => pts_nil) (fun _ _ _ _ _ => (pe_callTy call_int1 (by rfl) T.m_int (by decide +kernel) (pa_cons (pv 1) pa_nil)))) (pa_cons pe_int (pa_cons pe_int pa_nil)))))), ?_⟩
    refine ⟨_, rfl, _, rfl, b, _, rfl, hs, fun p np => ?_⟩
    have hc : cutV (xs.map V.int) none (some 60) = (xs.take 60).map V.int := by
      rw [List.map_take]
      exact cut_to _ 60
    rw [hc]
    refine ⟨p, rfl, ⟨_, .inl (.inl upd_same)⟩, fun D nD => lc_mapL id (.inl (.inl upd_same)) nD (by rw [List.length_map, List.length_take]; omega) (fun i x Hc Q' R' hx e1 q' => ?_) (fun Hc e1 hD => ?_)⟩
    · obtain ⟨j, _, rfl⟩ := List.mem_map.mp (List.mem_of_getElem? hx)
      refine ⟨rfl, ?_⟩
      refine iteT (B := True) ?_
      exact ⟨_, rfl, .inl ⟨j, rfl, q' Hc (Same.refl _)⟩⟩
    · rw [List.map_id] at hD
      have s0 := (same_new np).trans e1
      refine ⟨by show 3 ≤ sizeLine; decide, fun a na => q a D _ (s0.free na) (s0.trans (same_new na)) ⟨xs.take 60, 0, 0, upd_same, (same_new na) _ _ hD, ?_, by omega, by omega⟩⟩
      rw [List.length_take]
      omega
theorem pickS {a b c : Addr} {zs : List Str} {n : Nat} {H : Hp} {Q : VK} (hb : H b = some (.lst (zs.map V.str))) (hba : b ≠ a) (ne : zs ≠ []) (len : zs.length ≤ 1000) (wh : Wh H a c n) (hn : n < 1000000) (q : ∀ z H', z ∈ zs → Mv a H H' → Wh H' a c (n + 1) → Q (.str z) H') : sp_law_pick K [.ref a, .ref b] H Q (fun _ _ _ => False) := by
  refine ⟨a, b, c, zs.map V.str, n, rfl, .inl (.inl hb), fun e => ne (List.map_eq_nil_iff.mp e), by rw [List.length_map]; omega, wh, hn, fun H' mv => .inl (.inl (mv b _ hba hb)), fun v H' hv mv wh' => ?_⟩
  obtain ⟨z, hz, rfl⟩ := List.mem_map.mp hv
  exact q z H' hz mv wh'
end
end K34
namespace K34
open PySem PySem.Spec PyProof.Rows L2 Kx SX LamX Ms
theorem log_small {i : Int} (h0 : 0 ≤ i) (h1 : i ≤ 4095) : i.natAbs.log2 < 1920 := by
  by_cases z : i.natAbs = 0
  · rw [z]
    decide
  · exact Nat.lt_of_lt_of_le ((Nat.log2_lt z).mpr (show i.natAbs < 2 ^ 12 by omega)) (by decide)
def abcL : List Nat := ("abcdefghijklmnopqrstuvwxyz" : Str).cps.toList
theorem abc_low : ∀ c ∈ abcL, low c = true := by decide
def fewL : List Str := ["x", "y", "total", "abcdefgh", "hears", "at" ++ "a", "z", "ends"]
theorem few_name : ∀ z ∈ fewL, nameB z = true := by decide +kernel
section
variable {P : Program} {w : World} {K : PySem.W.Frag} {mg : Str → Option Value} {base : Heap} (T : Tx w K mg)
def sp_law_name (K : PySem.W.Frag) : Sp := fun vs H Q _ => ∃ (a c : Addr) (n : Nat), vs = [.ref a] ∧ Wh H a c n ∧ n < 900000 ∧ ∀ (z : Str) (H' : Hp), nameB z = true → Mv a H H' → Wh H' a c (n + 10) → Q (.str z) H'
theorem ok_law_name : FnOk P w K mg base CX0 3 T.f_law_name T.fd_law_name ["spire"] (sp_law_name K) := by
  refine T.F_law_name.ok sc_law_name (fun vs H Q E h => ?_) (fun cdv A outer s H vs Q E hr h => ?_)
  · obtain ⟨a, c, n, rfl, _⟩ := h
    rfl
  · obtain ⟨a, c, n, rfl, wh, hn, q⟩ := h
    refine ⟨_, (pss_cons (ps_if (pt_cmpR op_gt (pe_call (ok_law_bell T) (hr.mono (by decide)) (by rfl) T.g_law_bell T.F_law_bell.kp T.b_law_bell .nil pass0 (pa_cons (pv 0) (pa_cons pe_int pa_nil))) pe_int (nomark _))
      (pss_one (ps_ret (pe_call (ok_law_pick T) (hr.mono (by decide)) (by rfl) T.g_law_pick T.F_law_pick.kp T.b_law_pick .nil pass0 (pa_cons (pv 0) (pa_cons (pe_lst (pa_cons pe_str (pa_cons pe_str (pa_cons pe_str (pa_cons pe_str (pa_cons pe_str (pa_cons (pe_op op_add_str pe_str pe_str) (pa_cons pe_str (pa_cons pe_str pa_nil))))))))) pa_nil)))))
      pss_nil)
    (pss_cons (ps_set (i := 2) sc_law_name.nd rfl (.inl rfl) (pe_join pe_str (pe_lc (own := [("turn", 1)]) rfl sc_law_name.nd (pi_range1 (by rfl) T.m_range (pa_cons (pe_op op_add pe_int (pe_call (ok_law_bell T) (hr.mono (by decide)) (by rfl) T.g_law_bell T.F_law_bell.kp T.b_law_bell .nil pass0 (pa_cons (pv 0) (pa_cons pe_int pa_nil)))) pa_nil)) (blkOk_by (own := [("turn", 1)]) (N := ["spire", "turn", "name"]) (sc := defScope s_law_name) (by decide +kernel)) (fun _ _ _ _ _ => (pg_name (i := 1) sc_law_name.nd rfl (.inl rfl))) (fun _ _ _ _ _ => pts_nil) (fun _ _ _ _ _ => (pe_call (ok_law_pick T) (hr.mono (by decide)) (by rfl) T.g_law_pick T.F_law_pick.kp T.b_law_pick .nil pass0 (pa_cons (pv 0) (pa_cons (pe_callTy (call_list_txt rfl) (by rfl) T.m_list (by decide +kernel) (pa_cons pe_str pa_nil)) pa_nil)))))))
    (pss_one (ps_ret (pe_ifExp (pt_cmpR op_in_seq (pv 2) (pe_tup (pa_cons pe_str (pa_cons pe_str (pa_cons pe_str (pa_cons pe_str (pa_cons pe_str (pa_cons pe_str (pa_cons pe_str (pa_cons pe_str (pa_cons pe_str (pa_cons pe_str (pa_cons pe_str pa_nil)))))))))))) rfl) pe_str (pv 2)))))), ?_⟩
    refine go_seq ⟨_, rfl, a, c, 3, _, rfl, by decide, by decide, wh, by omega, fun r H1 r0 r1 m1 w1 => ⟨_, _, rfl, rfl, _, rfl, iteC (fun e => ?_) (fun e => ?_)⟩⟩
    · refine ⟨_, rfl, "at", "a", rfl, rfl, by decide, by show 8 ≤ sizeLine; decide, fun b nb => ?_⟩
      refine pickS (zs := fewL) upd_same (w1.ne nb) (by decide) (by decide) (w1.new nb) (by omega) fun z H2 hz m2 w2 => ?_
      exact q z H2 (few_name z hz) ((m1.new nb).trans m2) (w2.lt (by omega))
    · dsimp only [tNext]
      refine go_seq (go_asg ⟨⟨_, rfl⟩, ?_⟩)
      refine ⟨_, rfl, a, c, 8, _, rfl, by decide, by decide, w1, by omega, fun k H2 k0 k1 m2 w2 => ⟨1, k, rfl, rfl, 1 + k, rfl, by omega, by omega, fun D nD => ?_⟩⟩
      have dw : D ≠ a := w2.ne nD
      have dc : D ≠ c := w2.nc nD
      refine lc_it walk_range (fun j H' => ∃ cs : List Nat, H' D = some (.lst (signsV cs)) ∧ cs.length = j ∧ (∀ x ∈ cs, low x = true) ∧ Mv a H2 H' ∧ Wh H' a c (n + 2 + j)) ⟨[], upd_same, rfl, (fun _ m => nomatch m), Mv.of (same_new nD), (w2.new nD).lt (by omega)⟩ (fun _ _ _ _ => trivial) (fun j x Hd Hx hj h y => ?_) (fun Hd h => ?_)
      · obtain ⟨rfl, rfl⟩ := y
        obtain ⟨cs, hD, hl, hs, mv, wd⟩ := h
        refine ⟨rfl, iteT (B := True) ?_⟩
        refine ⟨_, rfl, abcL, congrArg (fun t => [V.str t]) (str_S _), by decide, fun L nL => ?_⟩
        have nbD : L ≠ D := fun z => by rw [z, hD] at nL; cases nL
        refine ⟨a, L, c, signsV abcL, n + 2 + j, rfl, .inl (.inl upd_same), by decide, by decide, wd.new nL, by omega, fun H' mv' => .inl (.inl (mv' _ _ (wd.ne nL) upd_same)), fun v H3 hv m3 w3 => ?_⟩
        obtain ⟨ch, hch, rfl⟩ := List.mem_map.mp hv
        have hD3 := m3 _ _ dw ((same_new nL) _ _ hD)
        refine ⟨_, hD3, ?_, cs ++ [ch], ?_, ?_, ?_, ?_, ?_⟩
        · unfold signsV
          rw [List.length_map, hl]
          exact Nat.lt_trans (show j < 9 by omega) (by decide)
        · rw [upd_same]
          unfold signsV
          rw [List.map_append]
          rfl
        · rw [List.length_append, hl]
          rfl
        · intro x hx
          rcases List.mem_append.mp hx with hx | hx
          · exact hs x hx
          · rw [List.mem_singleton.mp hx]
            exact abc_low ch hch
        · intro b o hb hz
          rw [upd_ne (ne_of_none hz nD)]
          exact ((mv.new nL).trans m3) b o hb hz
        · exact (w3.set dw dc).lt (by omega)
      · obtain ⟨cs, hD, hl, hs, mv, wd⟩ := h
        have lj : cs.length ≤ 8 ∧ 1 ≤ cs.length := by omega
        refine ⟨"", D, cs.map fun c => S [c], rfl, rfl, .inl (.inl (.inl (by rw [hD]; unfold signsV; rw [List.map_map]; rfl))), ?_, ?_⟩
        · have hs := sum_le (zs := cs.map fun c => S [c]) (k := 1) fun y hy => by
            obtain ⟨c, _, rfl⟩ := List.mem_map.mp hy
            rw [S_len]
            exact Nat.le_refl _
          rw [List.length_map] at hs
          rw [List.length_map]
          have : ("" : Str).length = 0 := rfl
          rw [this]
          omega
        rw [join_signs]
        dsimp only [gName]
        have lowc : lowB cs = true := by
          unfold lowB
          rw [Bool.and_eq_true]
          refine ⟨?_, List.all_eq_true.mpr hs⟩
          cases cs with
          | nil => exact absurd lj.2 (by decide)
          | cons x r => rfl
        refine go_ret (go_ife (go_test (go_op (go_var rfl ⟨by show 11 ≤ sizeLine; decide, fun p np => ⟨p, tblN.map V.str, rfl, .inr (.inl (.inl upd_same)), rfl, flat_strs _, _, rfl, ?_⟩⟩))))
        rw [inV_strs]
        have mm : ∀ {o : HO}, Mv a H (upd Hd p o) := ((m1.trans m2).trans mv).new np
        have ww : ∀ {o : HO}, Wh (upd Hd p o) a c (n + 10) := (wd.new np).lt (by omega)
        refine iteC (fun e => ?_) (fun e => ?_)
        · exact go_c (q "q" _ (by decide +kernel) mm ww)
        · refine go_var rfl (q (S cs) _ ?_ mm ww)
          have e : decide (S cs ∈ tblN) = false := e
          unfold nameB
          rw [e, S_len, decide_eq_true lj.1]
          show (lowB cs && true) = true
          rw [lowc]
          rfl
/-! ### plains, worths, lines -/
theorem plain_no {z : Str} (h : plainB z = true) : ¬ (z = "at" ∨ z = "mine") := by
  rintro (rfl | rfl) <;> revert h <;> decide +kernel
theorem plain_len {z : Str} (h : plainB z = true) : z.length ≤ 8 ∧ 32 ∉ z.cps.toList := by
  unfold plainB at h
  rw [Bool.or_eq_true] at h
  rcases h with h | h
  · unfold nameB lowB at h
    simp only [Bool.and_eq_true, decide_eq_true_eq] at h
    obtain ⟨h1, ⟨_, h2⟩, _⟩ := h
    refine ⟨h1, fun m => ?_⟩
    have := List.all_eq_true.mp h2 32 m
    exact absurd this (by decide)
  · obtain ⟨_, h2, h3, _⟩ := digB_facts h
    refine ⟨by omega, fun m => ?_⟩
    have := List.all_eq_true.mp h3 32 m
    exact absurd this (by decide)
def sp_law_plain (K : PySem.W.Frag) : Sp := fun vs H Q _ => ∃ (a c : Addr) (n : Nat), vs = [.ref a] ∧ Wh H a c n ∧ n < 800000 ∧ ∀ (z : Str) (H' : Hp), plainB z = true → Mv a H H' → Wh H' a c (n + 24) → Q (.str z) H'
theorem ok_law_plain : FnOk P w K mg base CX0 4 T.f_law_plain T.fd_law_plain ["spire"] (sp_law_plain K) := by
  refine T.F_law_plain.ok sc_law_plain (fun vs H Q E h => ?_) (fun cdv A outer s H vs Q E hr h => ?_)
  · obtain ⟨a, c, n, rfl, _⟩ := h
    rfl
  · obtain ⟨a, c, n, rfl, wh, hn, q⟩ := h
    refine ⟨_, (pss_one (ps_ret (pe_call (ok_law_pick T) (hr.mono (by decide)) (by rfl) T.g_law_pick T.F_law_pick.kp T.b_law_pick .nil pass0 (pa_cons (pv 0) (pa_cons (pe_lst (pa_cons (pe_call (ok_law_name T) (hr.mono (by decide)) (by rfl) T.g_law_name T.F_law_name.kp T.b_law_name .nil pass0 (pa_cons (pv 0) pa_nil)) (pa_cons (pe_call (ok_law_name T) (hr.mono (by decide)) (by rfl) T.g_law_name T.F_law_name.kp T.b_law_name .nil pass0 (pa_cons (pv 0) pa_nil)) (pa_cons (pe_callTy call_str_int (by rfl) T.m_str (by decide +kernel) (pa_cons (pe_call (ok_law_bell T) (hr.mono (by decide)) (by rfl) T.g_law_bell T.F_law_bell.kp T.b_law_bell .nil pass0 (pa_cons (pv 0) (pa_cons pe_int pa_nil))) pa_nil)) (pa_cons (pe_callTy call_strE (by rfl) T.m_str (by decide +kernel) (pa_cons (pe_call (ok_law_pick T) (hr.mono (by decide)) (by rfl) T.g_law_pick T.F_law_pick.kp T.b_law_pick .nil pass0 (pa_cons (pv 0) (pa_cons (pe_lst (pa_cons pe_int (pa_cons pe_int (pa_cons (pe_call (ok_law_bell T) (hr.mono (by decide)) (by rfl) T.g_law_bell T.F_law_bell.kp T.b_law_bell .nil pass0 (pa_cons (pv 0) (pa_cons pe_int pa_nil))) pa_nil)))) pa_nil))) pa_nil)) pa_nil))))) pa_nil))))), ?_⟩
    refine go_ret ⟨_, rfl, _, rfl, a, c, n, rfl, wh, by omega, fun z1 H1 hz1 m1 w1 => ?_⟩
    refine ⟨_, rfl, a, c, _, rfl, w1, by omega, fun z2 H2 hz2 m2 w2 => ?_⟩
    refine ⟨_, rfl, a, c, 10, _, rfl, by decide, by decide, w2, by omega, fun r H3 r0 r1 m3 w3 => ?_⟩
    refine ⟨r, rfl, ?_, ?_⟩
    · exact log_small r0 (by omega)
    refine ⟨_, rfl, _, rfl, a, c, 4096, _, rfl, by decide, by decide, w3, by omega, fun k H4 k0 k1 m4 w4 => ?_⟩
    refine ⟨by show 3 ≤ sizeLine; decide, fun p np => ?_⟩
    refine ⟨a, p, c, [.int 0, .int 4095, .int k], _, rfl, .inl (.inl upd_same), by simp, by simp, w4.new np, by omega, fun H' mv => .inl (.inl (mv _ _ (w4.ne np) upd_same)), fun v H5 hv m5 w5 => ?_⟩
    obtain ⟨i, rfl, i0, i1⟩ : ∃ i : Int, v = .int i ∧ 0 ≤ i ∧ i ≤ 4095 := by
      simp only [List.mem_cons, List.not_mem_nil, or_false] at hv
      rcases hv with rfl | rfl | rfl
      · exact ⟨0, rfl, by decide, by decide⟩
      · exact ⟨4095, rfl, by decide, by decide⟩
      · exact ⟨k, rfl, k0, by omega⟩
    refine ⟨_, _, rfl, .num i (log_small i0 i1), by show 4 ≤ sizeLine; decide, fun b nb => ?_⟩
    refine pickS (zs := [z1, z2, toString r, toString i]) upd_same (w5.ne nb) (by simp) (by simp) (w5.new nb) (by omega) fun z H6 hz m6 w6 => ?_
    refine q z H6 ?_ (((((((m1.trans m2).trans m3).trans m4).new np).trans m5).new nb).trans m6) (w6.lt (by omega))
    have num : ∀ {j : Int}, 0 ≤ j → j ≤ 4095 → plainB (toString j) = true := fun {j} h0 h1 => by
      obtain ⟨m, rfl⟩ : ∃ m : Nat, j = m := ⟨j.toNat, by omega⟩
      unfold plainB
      rw [(dig_num (n := m) (by omega)).1, Bool.or_true]
    simp only [List.mem_cons, List.not_mem_nil, or_false] at hz
    rcases hz with rfl | rfl | rfl | rfl
    · exact name_plain hz1
    · exact name_plain hz2
    · exact num r0 (by omega)
    · exact num i0 i1
end
end K34
namespace K34
open PySem PySem.Spec PyProof.Rows L2 Kx SX LamX Ms
section
variable {P : Program} {w : World} {K : PySem.W.Frag} {mg : Str → Option Value} {base : Heap} (T : Tx w K mg)
def sp_law_worth (K : PySem.W.Frag) : Sp := fun vs H Q _ => ∃ (a c : Addr) (n : Nat), vs = [.ref a, .bl true] ∧ Wh H a c n ∧ n < 700000 ∧ ∀ (r : List Str) (p : Addr) (H' : Hp), Wo r → Mv a H H' → H p = none → H' p = some (.lst (r.map V.str)) → Wh H' a c (n + 50) → Q (.ref p) H'
theorem ok_law_worth : FnOk P w K mg base CX0 5 T.f_law_worth T.fd_law_worth ["spire", "asks"] (sp_law_worth K) := by
  refine T.F_law_worth.ok sc_law_worth (fun vs H Q E h => ?_) (fun cdv A outer s H vs Q E hr h => ?_)
  · obtain ⟨a, c, n, rfl, _⟩ := h
    rfl
  · obtain ⟨a, c, n, rfl, wh, hn, q⟩ := h
    refine ⟨_, (pss_cons (ps_par3 (i := 2) (j := 3) (l := 4) rfl sc_law_worth.nd rfl rfl rfl (by decide) (by decide) (by decide) rfl rfl rfl (pa_cons (pe_call (ok_law_bell T) (hr.mono (by decide)) (by rfl) T.g_law_bell T.F_law_bell.kp T.b_law_bell .nil pass0 (pa_cons (pv 0) (pa_cons pe_int pa_nil))) (pa_cons (pe_call (ok_law_plain T) (hr.mono (by decide)) (by rfl) T.g_law_plain T.F_law_plain.kp T.b_law_plain .nil pass0 (pa_cons (pv 0) pa_nil)) (pa_cons (pe_call (ok_law_plain T) (hr.mono (by decide)) (by rfl) T.g_law_plain T.F_law_plain.kp T.b_law_plain .nil pass0 (pa_cons (pv 0) pa_nil)) pa_nil))) (by rfl))
    (pss_cons (ps_if (pt_cmpR op_lt (pv 2) pe_int (nomark _))
      (pss_one (ps_ret (pe_lst (pa_cons (pv 3) pa_nil))))
      pss_nil)
    (pss_cons (ps_if (pt_cmpR op_eq (pv 2) pe_int (nomark _))
      (pss_one (ps_ret (pe_lst (pa_cons pe_str (pa_cons (pv 3) pa_nil)))))
      pss_nil)
    (pss_cons (ps_if (PW.pt (pw_and (pt_cmpR op_eq (pv 2) pe_int (nomark _)) (pw_and1 (pt_val (pv 1)))))
      (pss_one (ps_ret (pe_lst (pa_cons pe_str (pa_cons (pv 3) pa_nil)))))
      pss_nil)
    (pss_one (ps_ret (pe_lst (pa_cons (pv 3) (pa_cons (pe_call (ok_law_pick T) (hr.mono (by decide)) (by rfl) T.g_law_pick T.F_law_pick.kp T.b_law_pick .nil pass0 (pa_cons (pv 0) (pa_cons (pe_lst (pa_cons pe_str (pa_cons pe_str (pa_cons pe_str (pa_cons pe_str (pa_cons pe_str (pa_cons pe_str pa_nil))))))) pa_nil))) (pa_cons (pv 4) pa_nil)))))))))), ?_⟩
    refine go_seq ⟨_, rfl, a, c, 9, n, rfl, by decide, by decide, wh, by omega, fun r H1 r0 r1 m1 w1 => ?_⟩
    refine ⟨_, rfl, a, c, _, rfl, w1, by omega, fun z1 H2 hz1 m2 w2 => ?_⟩
    refine ⟨_, rfl, a, c, _, rfl, w2, by omega, fun z2 H3 hz2 m3 w3 => ?_⟩
    have m13 := (m1.trans m2).trans m3
    have none3 : ∀ {p : Addr}, H3 p = none → p ≠ a → H p = none := fun np ne => m13.none ne np
    refine ⟨_, _, _, rfl, ?_⟩
    dsimp only
    have fin : ∀ (r : List Str) (p : Addr) (H4 : Hp), Wo r → Mv a H3 H4 → Wh H4 a c (n + 50) → H4 p = none → Q (.ref p) (upd H4 p (.lst (r.map V.str))) := fun r p H4 hr m4 w4 np =>
      q r p _ hr ((m13.trans m4).new np) ((m13.trans m4).none (w4.ne np) np) upd_same (w4.new np)
    have w3' : Wh H3 a c (n + 50) := w3.lt (by omega)
    refine go_seq (go_if (go_test (go_op (go_var rfl (go_c ⟨_, _, rfl, rfl, _, rfl, iteC (fun e => ?_) (fun e => ?_)⟩)))))
    · exact go_ret (go_lst (go_cons (go_var rfl (go_nil ⟨by show 1 ≤ sizeLine; decide, fun p np => fin [z1] p H3 (.inl ⟨z1, rfl, hz1, plain_no hz1⟩) (Mv.refl _ _) w3' np⟩))))
    clear e
    dsimp only [tNext]
    refine go_seq (go_if (go_test (go_op (go_var rfl (go_c ⟨rfl, _, rfl, iteC (fun e => ?_) (fun e => ?_)⟩)))))
    · exact go_ret (go_lst (go_cons (go_c (go_cons (go_var rfl (go_nil ⟨by show 2 ≤ sizeLine; decide, fun p np => fin ["at", z1] p H3 (.inr (.inl ⟨_, z1, rfl, .inl rfl, hz1⟩)) (Mv.refl _ _) w3' np⟩))))))
    clear e
    dsimp only [tNext]
    refine go_seq (go_if (go_and2 (go_test (go_op (go_var rfl (go_c ⟨rfl, _, rfl, iteC (fun e => go_b (go_var rfl ⟨_, rfl, ?_⟩)) (fun e => ?_)⟩))))))
    · refine iteT (B := _) ?_
      exact go_ret (go_lst (go_cons (go_c (go_cons (go_var rfl (go_nil ⟨by show 2 ≤ sizeLine; decide, fun p np => fin ["mine", z1] p H3 (.inr (.inl ⟨_, z1, rfl, .inr rfl, hz1⟩)) (Mv.refl _ _) w3' np⟩))))))
    refine iteF (A := _) ?_
    clear e
    dsimp only [tNext]
    refine go_ret (go_lst (go_cons (go_var rfl ?_)))
    refine ⟨_, rfl, by show 6 ≤ sizeLine; decide, fun b nb => ?_⟩
    refine pickS (zs := sgnN) upd_same (w3.ne nb) (by decide) (by decide) (w3.new nb) (by omega) fun s H5 hs m5 w5 => ?_
    exact go_cons (go_var rfl (go_nil ⟨by show 3 ≤ sizeLine; decide, fun p np => fin [z1, s, z2] p H5 (.inr (.inr ⟨z1, s, z2, rfl, hz1, plain_no hz1, hs, hz2⟩)) ((Mv.of (same_new nb)).trans m5) (w5.lt (by omega)) np⟩))
/-- a line that can stand -/
def LineOk (w : Str) (r : List Str) : Prop := ∃ ks, formOf w = some ks ∧ ShapeK ks r
theorem line_none {w : Str} {r : List Str} (h : LineOk w r) : wrongP (w :: r) = none := by
  obtain ⟨ks, h1, h2⟩ := h
  show (match formOf w with | none => some 0 | some ks => goP ks 1 r) = none
  rw [h1]
  exact shape_none h2
theorem shape_n {ks r : List Str} {n : Str} (h : nameB n = true) (hs : ShapeK ks r) : ShapeK ("name" :: ks) (n :: r) := by
  show if _ then _ else _
  rw [if_neg (by decide)]
  exact ⟨.inl rfl, n, r, rfl, fun _ => h, name_plain h, hs⟩
theorem shape_p {ks r : List Str} {n : Str} (h : plainB n = true) (hs : ShapeK ks r) : ShapeK ("plain" :: ks) (n :: r) := by
  show if _ then _ else _
  rw [if_neg (by decide)]
  exact ⟨.inr rfl, n, r, rfl, fun z => absurd z (by decide), h, hs⟩
theorem wo_len {r : List Str} (h : Wo r) : r.length ≤ 3 := by
  rcases h with ⟨a, rfl, _⟩ | ⟨a, b, rfl, _⟩ | ⟨a, s, b, rfl, _⟩ <;> simp
theorem catL {r : List Str} {xs : List V} (h : Wo r) (k : xs.length ≤ 100) : xs.length + (r.map V.str).length ≤ sizeLine := by
  have := wo_len h
  rw [List.length_map]
  exact Nat.le_trans (show _ ≤ 103 by omega) (by decide)
def nineL : List Str := ["hear", "say", "let", "keep", "while", "if", "else", "end", "stop"]
def sp_law_line (K : PySem.W.Frag) : Sp := fun vs H Q _ => ∃ (a c : Addr) (n : Nat), vs = [.ref a] ∧ Wh H a c n ∧ n < 600000 ∧ ∀ (w : Str) (r : List Str) (p : Addr) (H' : Hp), LineOk w r → Mv a H H' → H p = none → H' p = some (.lst ((w :: r).map V.str)) → Wh H' a c (n + 80) → Q (.ref p) H'
theorem ok_law_line : FnOk P w K mg base CX0 6 T.f_law_line T.fd_law_line ["spire"] (sp_law_line K) := by
  refine T.F_law_line.ok sc_law_line (fun vs H Q E h => ?_) (fun cdv A outer s H vs Q E hr h => ?_)
  · obtain ⟨a, c, n, rfl, _⟩ := h
    rfl
  · obtain ⟨a, c, n, rfl, wh, hn, q⟩ := h
    refine ⟨_, (pss_cons (ps_set (i := 1) sc_law_line.nd rfl (.inl rfl) (pe_call (ok_law_pick T) (hr.mono (by decide)) (by rfl) T.g_law_pick T.F_law_pick.kp T.b_law_pick .nil pass0 (pa_cons (pv 0) (pa_cons (pe_lst (pa_cons pe_str (pa_cons pe_str (pa_cons pe_str (pa_cons pe_str (pa_cons pe_str (pa_cons pe_str (pa_cons pe_str (pa_cons pe_str (pa_cons pe_str pa_nil)))))))))) pa_nil))))
    (pss_cons (ps_if (pt_cmpR op_eq (pv 1) pe_str (nomark _))
      (pss_one (ps_ret (pe_lst (pa_cons (pv 1) (pa_cons (pe_call (ok_law_name T) (hr.mono (by decide)) (by rfl) T.g_law_name T.F_law_name.kp T.b_law_name .nil pass0 (pa_cons (pv 0) pa_nil)) pa_nil)))))
      pss_nil)
    (pss_cons (ps_if (pt_cmpR op_eq (pv 1) pe_str (nomark _))
      (pss_one (ps_ret (pe_op op_cat (pe_lst (pa_cons (pv 1) pa_nil)) (pe_call (ok_law_worth T) (hr.mono (by decide)) (by rfl) T.g_law_worth T.F_law_worth.kp T.b_law_worth .nil pass0 (pa_cons (pv 0) (pa_cons pe_bl pa_nil))))))
      pss_nil)
    (pss_cons (ps_if (pt_cmpR op_eq (pv 1) pe_str (nomark _))
      (pss_one (ps_ret (pe_op op_cat (pe_lst (pa_cons (pv 1) (pa_cons (pe_call (ok_law_name T) (hr.mono (by decide)) (by rfl) T.g_law_name T.F_law_name.kp T.b_law_name .nil pass0 (pa_cons (pv 0) pa_nil)) pa_nil))) (pe_call (ok_law_worth T) (hr.mono (by decide)) (by rfl) T.g_law_worth T.F_law_worth.kp T.b_law_worth .nil pass0 (pa_cons (pv 0) (pa_cons pe_bl pa_nil))))))
      pss_nil)
    (pss_cons (ps_if (pt_cmpR op_eq (pv 1) pe_str (nomark _))
      (pss_one (ps_ret (pe_op op_cat (pe_lst (pa_cons (pv 1) (pa_cons (pe_call (ok_law_plain T) (hr.mono (by decide)) (by rfl) T.g_law_plain T.F_law_plain.kp T.b_law_plain .nil pass0 (pa_cons (pv 0) pa_nil)) pa_nil))) (pe_call (ok_law_worth T) (hr.mono (by decide)) (by rfl) T.g_law_worth T.F_law_worth.kp T.b_law_worth .nil pass0 (pa_cons (pv 0) (pa_cons pe_bl pa_nil))))))
      pss_nil)
    (pss_one (ps_ret (pe_ifExp (pt_cmpR op_in_seq (pv 1) (pe_tup (pa_cons pe_str (pa_cons pe_str pa_nil))) rfl) (pe_lst (pa_cons (pv 1) (pa_cons (pe_call (ok_law_plain T) (hr.mono (by decide)) (by rfl) T.g_law_plain T.F_law_plain.kp T.b_law_plain .nil pass0 (pa_cons (pv 0) pa_nil)) pa_nil))) (pe_lst (pa_cons (pv 1) pa_nil)))))))))), ?_⟩
    refine go_seq (go_asg ⟨_, rfl, by show 9 ≤ sizeLine; decide, fun b nb => ?_⟩)
    refine pickS (zs := nineL) upd_same (wh.ne nb) (by decide) (by decide) (wh.new nb) (by omega) fun z H1 hz m1 w1 => ?_
    have m1 := (Mv.of (same_new nb)).trans m1
    dsimp only [gName]
    have fin : ∀ (r : List Str) (p : Addr) (H4 : Hp), LineOk z r → Mv a H1 H4 → Wh H4 a c (n + 80) → H4 p = none → Q (.ref p) (upd H4 p (.lst ((z :: r).map V.str))) := fun r p H4 hr m4 w4 np =>
      q z r p _ hr ((m1.trans m4).new np) ((m1.trans m4).none (w4.ne np) np) upd_same (w4.new np)
    refine go_seq (go_if (go_test (go_op (go_var rfl (go_c ⟨rfl, _, rfl, ?_⟩)))))
    rw [decS]
    refine iteC (fun e => ?_) (fun e => ?_)
    · have e := of_decide_eq_true e
      subst e
      refine go_ret (go_lst (go_cons (go_var rfl ?_)))
      refine ⟨_, rfl, a, c, _, rfl, w1, by omega, fun z1 H2 hz1 m2 w2 => ?_⟩
      exact ⟨by show 2 ≤ sizeLine; decide, fun p np => fin [z1] p H2 ⟨_, rfl, shape_n hz1 rfl⟩ m2 (w2.lt (by omega)) np⟩
    have n1 := of_decide_eq_false e
    clear e
    dsimp only [tNext]
    refine go_seq (go_if (go_test (go_op (go_var rfl (go_c ⟨rfl, _, rfl, ?_⟩)))))
    rw [decS]
    refine iteC (fun e => ?_) (fun e => ?_)
    · have e := of_decide_eq_true e
      subst e
      refine go_ret (go_op (go_lst (go_cons (go_var rfl (go_nil ⟨by show 1 ≤ sizeLine; decide, fun L nL => ?_⟩)))))
      have w1' := w1.new (o := HO.lst [V.str "say"]) nL
      have dL := w1.ne nL
      refine ⟨_, rfl, a, c, _, rfl, w1', by omega, fun r R H2 hr m2 nR hR w2 => ?_⟩
      refine ⟨L, R, _, _, rfl, rfl, m2 _ _ dL upd_same, hR, ?_, fun p np => fin r p H2 ⟨_, rfl, shape_worth hr⟩ ((Mv.of (same_new nL)).trans m2) (w2.lt (by omega)) np⟩
      exact catL hr (by show 1 ≤ 100; decide)
    have n_let := of_decide_eq_false e
    clear e
    dsimp only [tNext]
    refine go_seq (go_if (go_test (go_op (go_var rfl (go_c ⟨rfl, _, rfl, ?_⟩)))))
    rw [decS]
    refine iteC (fun e => ?_) (fun e => ?_)
    · have e := of_decide_eq_true e
      subst e
      refine go_ret (go_op (go_lst (go_cons (go_var rfl ?_))))
      refine ⟨_, rfl, a, c, _, rfl, w1, by omega, fun z1 H2 hz1 m2 w2 => ⟨by show 2 ≤ sizeLine; decide, fun L nL => ?_⟩⟩
      have w2' := w2.new (o := HO.lst [V.str "let", V.str z1]) nL
      have dL := w2.ne nL
      refine ⟨_, rfl, a, c, _, rfl, w2', by omega, fun r R H3 hr m3 nR hR w3 => ?_⟩
      refine ⟨L, R, _, _, rfl, rfl, m3 _ _ dL upd_same, hR, catL hr (by show 2 ≤ 100; decide), fun p np => fin (z1 :: r) p H3 ⟨_, rfl, shape_n hz1 (shape_worth hr)⟩ ((m2.new nL).trans m3) (w3.lt (by omega)) np⟩
    have n_keep := of_decide_eq_false e
    clear e
    dsimp only [tNext]
    refine go_seq (go_if (go_test (go_op (go_var rfl (go_c ⟨rfl, _, rfl, ?_⟩)))))
    rw [decS]
    refine iteC (fun e => ?_) (fun e => ?_)
    · have e := of_decide_eq_true e
      subst e
      refine go_ret (go_op (go_lst (go_cons (go_var rfl ?_))))
      refine ⟨_, rfl, a, c, _, rfl, w1, by omega, fun z1 H2 hz1 m2 w2 => ⟨by show 2 ≤ sizeLine; decide, fun L nL => ?_⟩⟩
      have w2' := w2.new (o := HO.lst [V.str "keep", V.str z1]) nL
      have dL := w2.ne nL
      refine ⟨_, rfl, a, c, _, rfl, w2', by omega, fun r R H3 hr m3 nR hR w3 => ?_⟩
      refine ⟨L, R, _, _, rfl, rfl, m3 _ _ dL upd_same, hR, catL hr (by show 2 ≤ 100; decide), fun p np => fin (z1 :: r) p H3 ⟨_, rfl, shape_p hz1 (shape_worth hr)⟩ ((m2.new nL).trans m3) (w3.lt (by omega)) np⟩
    have n_end := of_decide_eq_false e
    clear e
    dsimp only [tNext]
    refine go_ret (go_ife (go_test (go_op (go_var rfl (go_tup (go_cons (go_c (go_cons (go_c (go_nil ⟨by show 2 ≤ sizeLine; decide, fun b2 nb2 => ⟨b2, [("while" : Str), "if"].map V.str, rfl, .inr (.inl (.inl upd_same)), rfl, flat_strs _, _, rfl, ?_⟩⟩))))))))))
    rw [inV_strs]
    have w1' := w1.new (o := HO.tup [V.str "while", V.str "if"]) nb2
    have m2 := Mv.of (a := a) (same_new (o := HO.tup [V.str "while", V.str "if"]) nb2)
    generalize upd H1 b2 (HO.tup [V.str "while", V.str "if"]) = H2 at w1' m2 ⊢
    refine iteC (fun e => ?_) (fun e => ?_)
    · have e : z = "while" ∨ z = "if" := by simpa using e
      refine go_lst (go_cons (go_var rfl ?_))
      refine ⟨_, rfl, a, c, _, rfl, w1', by omega, fun z1 H3 hz1 m3 w3 => ?_⟩
      refine ⟨by show 2 ≤ sizeLine; decide, fun p np => fin [z1] p H3 ⟨["plain"], ?_, shape_p hz1 rfl⟩ (m2.trans m3) (w3.lt (by omega)) np⟩
      rcases e with rfl | rfl <;> rfl
    · have e : ¬ (z = "while" ∨ z = "if") := by simpa using e
      refine go_lst (go_cons (go_var rfl (go_nil ⟨by show 1 ≤ sizeLine; decide, fun p np => fin [] p H2 ⟨[], ?_, rfl⟩ m2 (w1'.lt (by omega)) np⟩)))
      simp only [nineL, List.mem_cons, List.not_mem_nil, or_false] at hz
      rcases hz with rfl | rfl | rfl | rfl | rfl | rfl | rfl | rfl | rfl
      · exact absurd rfl n1
      · exact absurd rfl n_let
      · exact absurd rfl n_keep
      · exact absurd rfl n_end
      · exact absurd (.inl rfl) e
      · exact absurd (.inr rfl) e
      · rfl
      · rfl
      · rfl
end
end K34
namespace K34
open PySem PySem.Spec PyProof.Rows L2 Kx SX LamX Ms
def decL : List Nat := ("0123456789" : Str).cps.toList
theorem abc_iff (c : Nat) : decide (c ∈ abcL) = low c := by
  rw [Bool.eq_iff_iff, decide_eq_true_eq]
  constructor
  · exact abc_low c
  · intro h
    have h2 : c < 123 := by simp [low] at h; omega
    have := (by decide : ∀ c < 123, low c = true → c ∈ abcL)
    exact this c h2 h
theorem dec_iff (c : Nat) : decide (c ∈ decL) = digC c := by
  rw [Bool.eq_iff_iff, decide_eq_true_eq]
  constructor
  · have := (by decide : ∀ c ∈ decL, digC c = true)
    exact this c
  · intro h
    have h2 : c < 58 := by have := digC_iff.mp h; omega
    have := (by decide : ∀ c < 58, digC c = true → c ∈ decL)
    exact this c h2 h
/-- the signs that are no such -/
def oddV (f : Nat → Bool) (l : List Nat) : List (Option V) := l.map fun c => if f c = true then none else some (V.str (S [c]))
theorem oddV_fm (f : Nat → Bool) : ∀ l : List Nat, (oddV f l).filterMap id = signsV (l.filter fun c => !f c)
  | [] => rfl
  | c :: r => by
    have ih := oddV_fm f r
    unfold oddV signsV at ih ⊢
    rw [List.map_cons, List.filterMap_cons, List.filter_cons]
    by_cases h : f c = true
    · rw [if_pos h, h]
      exact ih
    · have h' : f c = false := by simpa using h
      rw [if_neg h, h']
      show V.str (S [c]) :: _ = _
      rw [ih]
      rfl
theorem filt_nil (f : Nat → Bool) (l : List Nat) : decide (((l.filter fun c => !f c).map fun c => PyData.str (S [c])) = []) = l.all f := by
  rw [Bool.eq_iff_iff, decide_eq_true_eq, List.map_eq_nil_iff, List.filter_eq_nil_iff, List.all_eq_true]
  simp
theorem ne_nilD {K : PySem.W.Frag} {H : Hp} {a p : Addr} {vs : List V} {ds : List PyData} {k : Nat} {Q : VK} (h1 : SqL K H a vs) (hd : Paired (fun v d => Dp K H v d) vs ds) (hp : ∀ d ∈ ds, Pl k d) (hk : k ≤ 60) (h2 : H p = some (.lst [])) (q : Q (.bl (!decide (ds = []))) H) : rNeD K (.ref a) (.ref p) H Q :=
  ⟨_, _, .lst h1 (dpAll_of hd), dp_ints (xs := []) (.inl (.inl h2)), (Pl.lst hp).shaped (by omega), (pl_ints []).shaped (by decide), by
    have e : PyData.eqv (.list ds) (.list (([] : List Int).map PyData.int)) = decide (ds = []) := by
      cases ds with
      | nil => rfl
      | cons d r => rfl
    rw [e]
    exact q⟩
theorem log_small' {n : Nat} (h : n < 10000) : ((n : Nat) : Int).natAbs.log2 < 1920 := by
  rw [Int.natAbs_natCast]
  by_cases z : n = 0
  · rw [z]
    decide
  · exact Nat.lt_of_lt_of_le ((Nat.log2_lt z).mpr (show n < 2 ^ 14 by omega)) (by decide)
def ItOk (z : Str) : Prop := z.length ≤ 1000 ∧ cdC z.cps.toList
section
variable {P : Program} {w : World} {K : PySem.W.Frag} {mg : Str → Option Value} {base : Heap} (T : Tx w K mg)
def sp_law_is_name (K : PySem.W.Frag) : Sp := fun vs H Q _ => ∃ z : Str, vs = [.str z] ∧ ItOk z ∧ ∀ H', Same H H' → Q (.bl (nameB z)) H'
theorem ok_law_is_name : FnOk P w K mg base CX0 1 T.f_law_is_name T.fd_law_is_name ["item"] (sp_law_is_name K) := by
  refine T.F_law_is_name.ok sc_law_is_name (fun vs H Q E h => ?_) (fun cdv A outer s H vs Q E hr h => ?_)
  · obtain ⟨z, rfl, _⟩ := h
    rfl
  · obtain ⟨z, rfl, ⟨hz, hc⟩, q⟩ := h
    refine ⟨_, (pss_cons (ps_if (PW.pt (pw_or (pt_cmpR op_in_seq (pv 0) (pe_tup (pa_cons pe_str (pa_cons pe_str (pa_cons pe_str (pa_cons pe_str (pa_cons pe_str (pa_cons pe_str (pa_cons pe_str (pa_cons pe_str (pa_cons pe_str (pa_cons pe_str (pa_cons pe_str pa_nil)))))))))))) rfl) (pw_or1 (pt_not (pt_chain op_le op_le pe_int (pe_callB call_len_str (by rfl) T.m_len PySem.boot_len (pa_cons (pv 0) pa_nil)) pe_int)))))
      (pss_one (ps_ret pe_bl))
      pss_nil)
    (pss_one (ps_ret (pe_cmpR (op_eqD hr.units) (pe_lc (own := [("sign", 1)]) rfl sc_law_is_name.nd (pi_str (pv 0)) (blkOk_by (own := [("sign", 1)]) (N := ["item", "sign"]) (sc := defScope s_law_is_name) (by decide +kernel)) (fun _ _ _ _ _ => (pg_name (i := 1) sc_law_is_name.nd rfl (.inl rfl))) (fun _ _ _ _ _ => pts_one (pt_cmpR op_notIn_sign (pv 1) pe_str rfl)) (fun _ _ _ _ _ => (pv 1))) (pe_lst pa_nil) (nomark _))))), ?_⟩
    have no : nameB z = false → ∀ H1, Same H H1 → Q (.bl false) H1 := fun e H1 s1 => by have := q H1 s1; rw [e] at this; exact this
    refine go_seq (go_if (go_or2 (go_test (go_op (go_var rfl ⟨by show 11 ≤ sizeLine; decide, fun p np => ⟨p, tblN.map V.str, rfl, .inr (.inl (.inl upd_same)), rfl, flat_strs _, _, rfl, ?_⟩⟩)))))
    rw [inV_strs]
    generalize hHt : upd H p _ = H1
    have s1 : Same H H1 := by rw [← hHt]; exact same_new np
    clear hHt
    refine iteC (fun e => ?_) (fun e => ?_)
    · have e : decide (z ∈ tblN) = true := e
      exact iteT (B := _) (go_ret (go_c (no (by unfold nameB; rw [e]; simp) H1 s1)))
    have e : decide (z ∈ tblN) = false := e
    refine go_not (go_test (go_chain (go_c (go_cb (go_cons (go_var rfl (go_nil ⟨z, rfl, Nat.le_trans hz (by decide), _, _, rfl, rfl, _, rfl, iteC (fun e1 => go_c ⟨_, _, rfl, rfl, _, rfl, ?_⟩) (fun e1 => ⟨_, rfl, ?_⟩)⟩)))))))
    · have e1 := of_decide_eq_true e1
      refine iteC (fun e2 => ?_) (fun e2 => ?_)
      · have e2 : decide ((z.length : Int) ≤ 8) = false := by simpa using e2
        have := of_decide_eq_false e2
        exact go_ret (go_c (no (by unfold nameB; rw [decide_eq_false (p := z.length ≤ 8) (by omega)]; rfl) H1 s1))
      have e2 : decide ((z.length : Int) ≤ 8) = true := by simpa using e2
      have e2 := of_decide_eq_true e2
      dsimp only [tNext]
      obtain ⟨l, rfl⟩ : ∃ l, z = S l := ⟨_, str_S z⟩
      have hc : cdC l := hc
      rw [S_len] at e1 e2 hz
      have en : nameB (S l) = l.all low := by
        unfold nameB
        rw [e, S_len, decide_eq_true (p := l.length ≤ 8) (by omega)]
        show (lowB l && true) = _
        unfold lowB
        cases l with
        | nil => exact absurd e1 (by decide)
        | cons x r => simp
      rw [en] at q
      refine go_ret (go_op (lc_txt (oddV low l) (by unfold oddV; rw [List.length_map]) rfl (by omega) (fun i c z' Hc Q' R' hl hz' e3 hy hn => ?_) (fun D Hc e3 hD => ?_)))
      · obtain ⟨c', h1, rfl⟩ := map_at hz'
        rw [hl] at h1
        cases h1
        refine ⟨rfl, ?_⟩
        refine go_test (go_op (go_var rfl (go_c ⟨c, _, rfl, rfl, _, rfl, ?_⟩)))
        have : (!decide (c ∈ ("abcdefghijklmnopqrstuvwxyz" : Str).cps.toList)) = !low c := congrArg _ (abc_iff c)
        rw [this]
        cases hlo : low c with
        | true =>
          rw [hlo] at hy hn
          exact iteF (A := _) (hn Hc rfl (Same.refl _))
        | false =>
          rw [hlo] at hy hn
          exact iteT (B := _) (go_var rfl (hy _ Hc rfl (Same.refl _)))
      · rw [oddV_fm] at hD
        refine go_lst (go_nil ⟨Nat.zero_le _, fun p2 n2 => ?_⟩)
        refine eq_nilD (.inl (.inl ((same_new n2) _ _ hD))) (dp_signs _) (pl_signs (cdC.sub hc fun c m => (List.mem_filter.mp m).1)) (by decide) upd_same ?_
        rw [filt_nil]
        exact q _ ((s1.trans e3).trans (same_new n2))
    · have e1 := of_decide_eq_false e1
      refine iteT (B := _) (go_ret (go_c (no ?_ H1 s1)))
      have : z.length = 0 := by omega
      have h0 : z.cps.toList = [] := List.length_eq_zero_iff.mp (by rw [str_len]; exact this)
      unfold nameB lowB
      rw [h0]
      simp
def sp_law_is_plain (K : PySem.W.Frag) : Sp := fun vs H Q _ => ∃ z : Str, vs = [.str z] ∧ ItOk z ∧ ∀ H', Same H H' → Q (.bl (plainB z)) H'
theorem ok_law_is_plain : FnOk P w K mg base CX0 2 T.f_law_is_plain T.fd_law_is_plain ["item"] (sp_law_is_plain K) := by
  refine T.F_law_is_plain.ok sc_law_is_plain (fun vs H Q E h => ?_) (fun cdv A outer s H vs Q E hr h => ?_)
  · obtain ⟨z, rfl, _⟩ := h
    rfl
  · obtain ⟨z, rfl, hi, q⟩ := h
    refine ⟨_, (pss_cons (ps_if (pt_val (pe_call (ok_law_is_name T) (hr.mono (by decide)) (by rfl) T.g_law_is_name T.F_law_is_name.kp T.b_law_is_name .nil pass0 (pa_cons (pv 0) pa_nil)))
      (pss_one (ps_ret pe_bl))
      pss_nil)
    (pss_cons (ps_if (PW.pt (pw_or (pt_not (pt_chain op_le op_le pe_int (pe_callB call_len_str (by rfl) T.m_len PySem.boot_len (pa_cons (pv 0) pa_nil)) pe_int)) (pw_or1 (pt_cmpR (op_neD hr.units) (pe_lc (own := [("sign", 1)]) rfl sc_law_is_plain.nd (pi_str (pv 0)) (blkOk_by (own := [("sign", 1)]) (N := ["item", "sign"]) (sc := defScope s_law_is_plain) (by decide +kernel)) (fun _ _ _ _ _ => (pg_name (i := 1) sc_law_is_plain.nd rfl (.inl rfl))) (fun _ _ _ _ _ => pts_one (pt_cmpR op_notIn_sign (pv 1) pe_str rfl)) (fun _ _ _ _ _ => (pv 1))) (pe_lst pa_nil) (nomark _)))))
      (pss_one (ps_ret pe_bl))
      pss_nil)
    (pss_one (ps_ret (pe_and (pe_cmpR op_eq (pe_callTy call_str_int (by rfl) T.m_str (by decide +kernel) (pa_cons (pe_callTy call_int_str (by rfl) T.m_int (by decide +kernel) (pa_cons (pv 0) pa_nil)) pa_nil)) (pv 0) (nomark _)) (pe_one (pe_cmpR op_lt (pe_callTy call_int_str (by rfl) T.m_int (by decide +kernel) (pa_cons (pv 0) pa_nil)) pe_int (nomark _)))))))), ?_⟩
    refine go_seq (go_if ⟨_, rfl, z, rfl, hi, fun H1 s1 => ⟨_, rfl, iteC (fun e => ?_) (fun e => ?_)⟩⟩)
    · have := q H1 s1
      unfold plainB at this
      rw [e] at this
      exact go_ret (go_c this)
    obtain ⟨hz, hc⟩ := hi
    have ep : plainB z = digB z := by unfold plainB; rw [e]; rfl
    rw [ep] at q
    clear e ep
    have no : digB z = false → ∀ H2, Same H H2 → Q (.bl false) H2 := fun e H2 s2 => by have := q H2 s2; rw [e] at this; exact this
    dsimp only [tNext]
    refine go_seq (go_if (go_or2 (go_not (go_test (go_chain (go_c (go_cb (go_cons (go_var rfl (go_nil ⟨z, rfl, Nat.le_trans hz (by decide), _, _, rfl, rfl, _, rfl, iteC (fun e1 => go_c ⟨_, _, rfl, rfl, _, rfl, ?_⟩) (fun e1 => ⟨_, rfl, ?_⟩)⟩))))))))))
    · have e1 := of_decide_eq_true e1
      refine iteC (fun e2 => ?_) (fun e2 => ?_)
      · have e2 : decide ((z.length : Int) ≤ 4) = false := by simpa using e2
        have := of_decide_eq_false e2
        refine iteT (B := _) (go_ret (go_c (no ?_ H1 s1)))
        unfold digB
        rw [decide_eq_false (p := z.length ≤ 4) (by omega)]
        simp
      have e2 : decide ((z.length : Int) ≤ 4) = true := by simpa using e2
      have e2 := of_decide_eq_true e2
      obtain ⟨l, rfl⟩ : ∃ l, z = S l := ⟨_, str_S z⟩
      have hc : cdC l := hc
      have l1 : 1 ≤ (S l).length := by omega
      have l4 : (S l).length ≤ 4 := by omega
      rw [S_len] at e1 e2 hz
      refine go_test (go_op (lc_txt (oddV digC l) (by unfold oddV; rw [List.length_map]) rfl (by omega) (fun i c z' Hc Q' R' hl hz' e3 hy hn => ?_) (fun D Hc e3 hD => ?_)))
      · obtain ⟨c', h1, rfl⟩ := map_at hz'
        rw [hl] at h1
        cases h1
        refine ⟨rfl, ?_⟩
        refine go_test (go_op (go_var rfl (go_c ⟨c, _, rfl, rfl, _, rfl, ?_⟩)))
        have : (!decide (c ∈ ("0123456789" : Str).cps.toList)) = !digC c := congrArg _ (dec_iff c)
        rw [this]
        cases hlo : digC c with
        | true =>
          rw [hlo] at hy hn
          exact iteF (A := _) (hn Hc rfl (Same.refl _))
        | false =>
          rw [hlo] at hy hn
          exact iteT (B := _) (go_var rfl (hy _ Hc rfl (Same.refl _)))
      · rw [oddV_fm] at hD
        refine go_lst (go_nil ⟨Nat.zero_le _, fun p2 n2 => ?_⟩)
        have s2 : Same H (upd Hc p2 (HO.lst [])) := (s1.trans e3).trans (same_new n2)
        refine ne_nilD (.inl (.inl ((same_new n2) _ _ hD))) (dp_signs _) (pl_signs (cdC.sub hc fun c m => (List.mem_filter.mp m).1)) (by decide) upd_same ⟨_, rfl, ?_⟩
        rw [filt_nil]
        generalize upd Hc p2 (HO.lst []) = H2 at s2 ⊢
        cases ha : l.all digC with
        | false =>
          refine iteT (B := _) (go_ret (go_c (no ?_ H2 s2)))
          cases hd : digB (S l) with
          | false => rfl
          | true =>
            obtain ⟨_, _, h3, _⟩ := digB_facts hd
            have h3 : l.all digC = true := h3
            rw [ha] at h3
            cases h3
        | true =>
          refine iteF (A := _) ?_
          dsimp only [tNext]
          have hl := dig_law (z := S l) ha l1 l4
          have iD := int_dig (z := S l) ha l1 l4
          have vle : valL l < 10000 := (dig_canon ha (by omega) (by omega)).1
          have hl : (decide (Str.ofString (toString (valL l : Int)) = S l) && decide (valL l < 4096)) = digB (S l) := hl
          have iD : intText? (S l) = some ((valL l : Nat) : Int) := iD
          have l640 : (S l).length ≤ 640 := by omega
          rw [← hl] at q
          refine go_ret (go_and (go_op (go_cb (go_cons (go_cb (go_cons (go_var rfl (go_nil ⟨S l, _, rfl, iD, l640, go_nil ⟨_, rfl, log_small' vle, go_var rfl ⟨rfl, _, rfl, ?_⟩⟩⟩))))))))
          rw [decS]
          refine iteC (fun e5 => ?_) (fun e5 => ?_)
          · have e5 : decide (Str.ofString (toString (valL l : Int)) = S l) = true := e5
            rw [e5] at q
            refine go_op (go_cb (go_cons (go_var rfl (go_nil ⟨S l, _, rfl, iD, l640, go_c ⟨_, _, rfl, rfl, ?_⟩⟩))))
            have : decide (((valL l : Nat) : Int) < 4096) = decide (valL l < 4096) := by
              rw [Bool.eq_iff_iff, decide_eq_true_eq, decide_eq_true_eq]
              omega
            show Q (.bl (decide (((valL l : Nat) : Int) < 4096))) H2
            rw [this]
            exact q H2 s2
          · have e5 : decide (Str.ofString (toString (valL l : Int)) = S l) = false := e5
            rw [e5] at q
            exact q H2 s2
    · have e1 := of_decide_eq_false e1
      refine iteT (B := _) (iteT (B := _) (go_ret (go_c (no ?_ H1 s1))))
      unfold digB
      rw [decide_eq_false (p := 1 ≤ z.length) (by omega)]
      rfl
def sp_law_told (K : PySem.W.Frag) : Sp := fun vs H Q _ => ∃ z : Str, vs = [.str z] ∧ ItOk z ∧ plainB z = true ∧ ∀ v H', Same H H' → (∀ H2, Dp K H2 v (toldD z)) → Q v H'
theorem ok_law_told : FnOk P w K mg base CX0 2 T.f_law_told T.fd_law_told ["item"] (sp_law_told K) := by
  refine T.F_law_told.ok sc_law_told (fun vs H Q E h => ?_) (fun cdv A outer s H vs Q E hr h => ?_)
  · obtain ⟨z, rfl, _⟩ := h
    rfl
  · obtain ⟨z, rfl, hi, hp, q⟩ := h
    refine ⟨_, (pss_one (ps_ret (pe_ifExp (pt_val (pe_call (ok_law_is_name T) (hr.mono (by decide)) (by rfl) T.g_law_is_name T.F_law_is_name.kp T.b_law_is_name .nil pass0 (pa_cons (pv 0) pa_nil))) (pv 0) (pe_callTy call_int_str (by rfl) T.m_int (by decide +kernel) (pa_cons (pv 0) pa_nil))))), ?_⟩
    refine go_ret (go_ife ⟨_, rfl, z, rfl, hi, fun H1 s1 => ⟨_, rfl, iteC (fun e => ?_) (fun e => ?_)⟩⟩)
    · refine go_var rfl (q _ H1 s1 fun H2 => ?_)
      rw [told_name e]
      exact .str z
    · have hd : digB z = true := by
        unfold plainB at hp
        rw [e] at hp
        exact hp
      obtain ⟨h1, h4, h3, _⟩ := digB_facts hd
      refine go_cb (go_cons (go_var rfl (go_nil ⟨z, _, rfl, int_dig h3 h1 h4, by omega, q _ H1 s1 fun H2 => ?_⟩)))
      unfold toldD
      rw [if_pos hd]
      exact .int _
end
end K34
namespace K34
open PySem PySem.Spec PyProof.Rows L2 Kx SX LamX Ms
theorem drop_cons {items : List Str} {p : Nat} {x : Str} {r : List Str} (h : items.drop p = x :: r) : items[p]? = some x ∧ items.drop (p + 1) = r ∧ items.length = p + 1 + r.length := by
  have hp : p < items.length := by
    rcases Nat.lt_or_ge p items.length with g | g
    · exact g
    · rw [List.drop_eq_nil_of_le g] at h
      cases h
  rw [List.drop_eq_getElem_cons hp] at h
  injection h with h1 h2
  refine ⟨by rw [List.getElem?_eq_getElem hp, h1], h2, ?_⟩
  have := congrArg List.length h2
  rw [List.length_drop] at this
  omega
section
variable {P : Program} {w : World} {K : PySem.W.Frag} {mg : Str → Option Value} {base : Heap} (T : Tx w K mg)
def sp_law_worth_wrong (K : PySem.W.Frag) : Sp := fun vs H Q _ => ∃ (a : Addr) (items : List Str) (p : Nat), vs = [.ref a, .int (p : Int)] ∧ SqL K H a (items.map V.str) ∧ (∀ z ∈ items, ItOk z) ∧ p ≤ 2 ∧ ∀ H', Same H H' → Q (optV (worthW p (items.drop p))) H'
theorem ok_law_worth_wrong : FnOk P w K mg base CX0 3 T.f_law_worth_wrong T.fd_law_worth_wrong ["items", "at"] (sp_law_worth_wrong K) := by
  refine T.F_law_worth_wrong.ok sc_law_worth_wrong (fun vs H Q E h => ?_) (fun cdv A outer s H vs Q E hr h => ?_)
  · obtain ⟨a, items, p, rfl, _⟩ := h
    rfl
  · obtain ⟨a, items, p, rfl, hs, hi, hp, q⟩ := h
    refine ⟨_, (pss_cons (ps_if (PW.pt (pw_and (pt_cmpR op_lt (pv 1) (pe_callB call_len_seq (by rfl) T.m_len PySem.boot_len (pa_cons (pv 0) pa_nil)) (nomark _)) (pw_and1 (pt_cmpR op_in_seq (pe_ix ix_list (pv 0) (pv 1) (fun _ _ => rfl)) (pe_tup (pa_cons pe_str (pa_cons pe_str pa_nil))) rfl))))
      (pss_one (ps_ret (pe_ifExp (PW.pt (pw_or (pt_cmpR op_ge (pe_op op_add (pv 1) pe_int) (pe_callB call_len_seq (by rfl) T.m_len PySem.boot_len (pa_cons (pv 0) pa_nil)) (nomark _)) (pw_or1 (pt_not (pt_val (pe_call (ok_law_is_plain T) (hr.mono (by decide)) (by rfl) T.g_law_is_plain T.F_law_is_plain.kp T.b_law_is_plain .nil pass0 (pa_cons (pe_ix ix_list (pv 0) (pe_op op_add (pv 1) pe_int) (fun _ _ => rfl)) pa_nil))))))) (pe_op op_add (pv 1) pe_int) (pe_ifExp (pt_cmpR op_gt (pe_callB call_len_seq (by rfl) T.m_len PySem.boot_len (pa_cons (pv 0) pa_nil)) (pe_op op_add (pv 1) pe_int) (nomark _)) (pe_op op_add (pv 1) pe_int) pe_non))))
      pss_nil)
    (pss_cons (ps_if (PW.pt (pw_or (pt_cmpR op_ge (pv 1) (pe_callB call_len_seq (by rfl) T.m_len PySem.boot_len (pa_cons (pv 0) pa_nil)) (nomark _)) (pw_or1 (pt_not (pt_val (pe_call (ok_law_is_plain T) (hr.mono (by decide)) (by rfl) T.g_law_is_plain T.F_law_is_plain.kp T.b_law_is_plain .nil pass0 (pa_cons (pe_ix ix_list (pv 0) (pv 1) (fun _ _ => rfl)) pa_nil)))))))
      (pss_one (ps_ret (pv 1)))
      pss_nil)
    (pss_cons (ps_if (pt_cmpR op_eq (pe_callB call_len_seq (by rfl) T.m_len PySem.boot_len (pa_cons (pv 0) pa_nil)) (pe_op op_add (pv 1) pe_int) (nomark _))
      (pss_one (ps_ret pe_non))
      pss_nil)
    (pss_cons (ps_if (pt_cmpR op_notIn_seq (pe_ix ix_list (pv 0) (pe_op op_add (pv 1) pe_int) (fun _ _ => rfl)) (pe_tup (pa_cons pe_str (pa_cons pe_str (pa_cons pe_str (pa_cons pe_str (pa_cons pe_str (pa_cons pe_str pa_nil))))))) rfl)
      (pss_one (ps_ret (pe_op op_add (pv 1) pe_int)))
      pss_nil)
    (pss_cons (ps_if (PW.pt (pw_or (pt_cmpR op_eq (pe_callB call_len_seq (by rfl) T.m_len PySem.boot_len (pa_cons (pv 0) pa_nil)) (pe_op op_add (pv 1) pe_int) (nomark _)) (pw_or1 (pt_not (pt_val (pe_call (ok_law_is_plain T) (hr.mono (by decide)) (by rfl) T.g_law_is_plain T.F_law_is_plain.kp T.b_law_is_plain .nil pass0 (pa_cons (pe_ix ix_list (pv 0) (pe_op op_add (pv 1) pe_int) (fun _ _ => rfl)) pa_nil)))))))
      (pss_one (ps_ret (pe_op op_add (pv 1) pe_int)))
      pss_nil)
    (pss_one (ps_ret (pe_ifExp (pt_cmpR op_gt (pe_callB call_len_seq (by rfl) T.m_len PySem.boot_len (pa_cons (pv 0) pa_nil)) (pe_op op_add (pv 1) pe_int) (nomark _)) (pe_op op_add (pv 1) pe_int) pe_non)))))))), ?_⟩
    have okI : ∀ {i : Nat} {z : Str}, items[i]? = some z → ItOk z := fun e => hi _ (List.mem_of_getElem? e)
    have L : ((items.map V.str).length : Int) = (items.length : Int) := by rw [List.length_map]
    refine go_seq (go_if (go_and2 (go_test (go_op (go_var rfl (go_cb (go_cons (go_var rfl (go_nil ⟨a, _, rfl, .inl hs, _, _, rfl, rfl, _, rfl, ?_⟩)))))))))
    rw [L]
    cases hd : items.drop p with
    | nil =>
      have hl : items.length ≤ p := by
        have := congrArg List.length hd
        rw [List.length_drop] at this
        simp at this
        omega
      rw [hd] at q
      rw [decide_eq_false (p := (p : Int) < (items.length : Int)) (by omega)]
      refine iteF (A := _) (iteF (A := _) ?_)
      dsimp only [tNext]
      refine go_seq (go_if (go_or2 (go_test (go_op (go_var rfl (go_cb (go_cons (go_var rfl (go_nil ⟨a, _, rfl, .inl hs, _, _, rfl, rfl, _, rfl, ?_⟩)))))))))
      rw [L, decide_eq_true (p := (p : Int) ≥ (items.length : Int)) (by omega)]
      exact iteT (B := _) (iteT (B := _) (go_ret (go_var rfl (q H (Same.refl _)))))
    | cons x r =>
      obtain ⟨ex, er, el⟩ := drop_cons hd
      rw [hd] at q
      rw [decide_eq_true (p := (p : Int) < (items.length : Int)) (by omega)]
      have atx := at_str ex
      refine iteT (B := _) (go_test (go_op (go_op (go_var rfl (go_var rfl ⟨a, _, _, _, rfl, rfl, hs, atx, ?_⟩)))))
      refine go_tup (go_cons (go_c (go_cons (go_c (go_nil ⟨by show 2 ≤ sizeLine; decide, fun b nb => ⟨b, [("at" : Str), "mine"].map V.str, rfl, .inr (.inl (.inl upd_same)), rfl, flat_strs _, _, rfl, ?_⟩⟩)))))
      rw [inV_strs]
      have s1 := same_new (o := HO.tup [V.str "at", V.str "mine"]) nb
      generalize upd H b (HO.tup [V.str "at", V.str "mine"]) = H1 at s1 ⊢
      have hs1 := s1.seq hs
      have LEN : ∀ {Hx : Hp}, SqL K Hx a (items.map V.str) → ∀ {σ : L2.St}, σ[0]? = some (some (V.ref a)) → ∀ {Q1 : VK}, Q1 (.int (items.length : Int)) Hx → tCB (fun xs H_1 Q => ∃ p ys, xs = [V.ref p] ∧ (SqL K H_1 p ys ∨ SqT K H_1 p ys) ∧ Q (V.int (ys.length : Int)) H_1) (tCons (tVar 0) tNil) σ Hx Q1 := fun {Hx} h {σ} h0 {Q1} h1 => ⟨_, h0, a, _, rfl, .inl h, by rw [L]; exact h1⟩
      show if decide (x ∈ ([("at" : Str), "mine"] : List Str)) = true then _ else _
      refine iteC (fun e => ?_) (fun e => ?_)
      · have e : x = "at" ∨ x = "mine" := by simpa using e
        refine go_ret (go_ife (go_or2 (go_test (go_op (go_op (go_var rfl (go_c ⟨_, _, rfl, rfl, LEN hs1 rfl ⟨_, _, rfl, rfl, _, rfl, ?_⟩⟩)))))))
        cases r with
        | nil =>
          have ew : worthW p [x] = some (p + 1) := by unfold worthW; dsimp only; rw [if_pos e]
          rw [ew] at q
          rw [decide_eq_true (p := (items.length : Int) ≤ (p : Int) + 1) (by simp at el; omega)]
          exact iteT (B := _) (iteT (B := _) (go_op (go_var rfl (go_c ⟨_, _, rfl, rfl, q H1 s1⟩))))
        | cons y r2 =>
          obtain ⟨ey, er2, el2⟩ := drop_cons er
          have aty := at_str ey
          rw [show ((p + 1 : Nat) : Int) = (p : Int) + 1 by omega] at aty
          rw [decide_eq_false (p := (items.length : Int) ≤ (p : Int) + 1) (by omega)]
          refine iteF (A := _) (go_not (go_b ⟨_, rfl, _, rfl, _, _, rfl, rfl, a, _, _, _, rfl, rfl, hs1, aty, y, rfl, okI ey, fun H2 s2 => ⟨_, rfl, ?_⟩⟩))
          have s12 := s1.trans s2
          cases hy : plainB y with
          | false =>
            have ew : worthW p (x :: y :: r2) = some (p + 1) := by unfold worthW; dsimp only; rw [if_pos e, if_neg (by rw [hy]; decide)]
            rw [ew] at q
            exact iteT (B := _) (go_op (go_var rfl (go_c ⟨_, _, rfl, rfl, q H2 s12⟩)))
          | true =>
            refine iteF (A := _) (go_ife (go_test (go_op (LEN (s2.seq hs1) rfl (go_op (go_var rfl (go_c ⟨_, _, rfl, rfl, _, _, rfl, rfl, _, rfl, ?_⟩)))))))
            cases r2 with
            | nil =>
              have ew : worthW p [x, y] = none := by unfold worthW; dsimp only; rw [if_pos e, if_pos hy, if_pos rfl]
              rw [ew] at q
              rw [decide_eq_false (p := (p : Int) + 2 < (items.length : Int)) (by simp at el2; omega)]
              exact iteF (A := _) (go_c (q H2 s12))
            | cons u r3 =>
              have ew : worthW p (x :: y :: u :: r3) = some (p + 2) := by unfold worthW; dsimp only; rw [if_pos e, if_pos hy, if_neg (by simp)]
              rw [ew] at q
              rw [decide_eq_true (p := (p : Int) + 2 < (items.length : Int)) (by simp at el2; omega)]
              exact iteT (B := _) (go_op (go_var rfl (go_c ⟨_, _, rfl, rfl, q H2 s12⟩)))
      · have e : ¬ (x = "at" ∨ x = "mine") := by simpa using e
        dsimp only [tNext]
        refine go_seq (go_if (go_or2 (go_test (go_op (go_var rfl (LEN hs1 rfl ⟨_, _, rfl, rfl, _, rfl, ?_⟩))))))
        rw [decide_eq_false (p := (items.length : Int) ≤ (p : Int)) (by omega)]
        refine iteF (A := _) (go_not (go_b ⟨_, rfl, _, rfl, a, _, _, _, rfl, rfl, hs1, atx, x, rfl, okI ex, fun H2 s2 => ⟨_, rfl, ?_⟩⟩))
        have s12 := s1.trans s2
        have hs2 := s2.seq hs1
        cases hx : plainB x with
        | false =>
          have ew : worthW p (x :: r) = some p := by unfold worthW; dsimp only; rw [if_neg e, if_neg (by rw [hx]; decide)]
          rw [ew] at q
          exact iteT (B := _) (go_ret (go_var rfl (q H2 s12)))
        | true =>
          refine iteF (A := _) ?_
          dsimp only [tNext]
          refine go_seq (go_if (go_test (go_op (LEN hs2 rfl (go_op (go_var rfl (go_c ⟨_, _, rfl, rfl, rfl, _, rfl, ?_⟩)))))))
          rw [decI]
          cases r with
          | nil =>
            have ew : worthW p [x] = none := by unfold worthW; dsimp only; rw [if_neg e, if_pos hx]
            rw [ew] at q
            rw [decide_eq_true (p := (items.length : Int) = (p : Int) + 1) (by simp at el; omega)]
            exact iteT (B := _) (go_ret (go_c (q H2 s12)))
          | cons y r2 =>
            obtain ⟨ey, er2, el2⟩ := drop_cons er
            have aty := at_str ey
            rw [show ((p + 1 : Nat) : Int) = (p : Int) + 1 by omega] at aty
            rw [decide_eq_false (p := (items.length : Int) = (p : Int) + 1) (by omega)]
            refine iteF (A := _) ?_
            dsimp only [tNext]
            refine go_seq (go_if (go_test (go_op (go_op (go_var rfl (go_op (go_var rfl (go_c ⟨_, _, rfl, rfl, a, _, _, _, rfl, rfl, hs2, aty, ?_⟩))))))))
            refine ⟨by show 6 ≤ sizeLine; decide, fun b2 nb2 => ⟨b2, sgnN.map V.str, rfl, .inr (.inl (.inl upd_same)), rfl, flat_strs _, _, rfl, ?_⟩⟩
            rw [inV_strs]
            generalize hHt : upd H2 b2 _ = H3
            have s3 : Same H2 H3 := by rw [← hHt]; exact same_new nb2
            clear hHt
            have s13 := s12.trans s3
            have hs3 := s3.seq hs2
            show if (!decide (y ∈ sgnN)) = true then _ else _
            by_cases hg : y ∈ sgnN
            case neg =>
              rw [decide_eq_false hg]
              have ew : worthW p (x :: y :: r2) = some (p + 1) := by unfold worthW; dsimp only; rw [if_neg e, if_pos hx, if_neg hg]
              rw [ew] at q
              exact iteT (B := _) (go_ret (go_op (go_var rfl (go_c ⟨_, _, rfl, rfl, q H3 s13⟩))))
            rw [decide_eq_true hg]
            refine iteF (A := _) ?_
            dsimp only [tNext]
            refine go_seq (go_if (go_or2 (go_test (go_op (LEN hs3 rfl (go_op (go_var rfl (go_c ⟨_, _, rfl, rfl, rfl, _, rfl, ?_⟩))))))))
            rw [decI]
            cases r2 with
            | nil =>
              have ew : worthW p [x, y] = some (p + 2) := by unfold worthW; dsimp only; rw [if_neg e, if_pos hx, if_pos hg]
              rw [ew] at q
              rw [decide_eq_true (p := (items.length : Int) = (p : Int) + 2) (by simp at el2; omega)]
              exact iteT (B := _) (iteT (B := _) (go_ret (go_op (go_var rfl (go_c ⟨_, _, rfl, rfl, q H3 s13⟩)))))
            | cons u r3 =>
              obtain ⟨eu, er3, el3⟩ := drop_cons er2
              have atu := at_str eu
              rw [show ((p + 1 + 1 : Nat) : Int) = (p : Int) + 2 by omega] at atu
              rw [decide_eq_false (p := (items.length : Int) = (p : Int) + 2) (by omega)]
              refine iteF (A := _) (go_not (go_b ⟨_, rfl, _, rfl, _, _, rfl, rfl, a, _, _, _, rfl, rfl, hs3, atu, u, rfl, okI eu, fun H4 s4 => ⟨_, rfl, ?_⟩⟩))
              have s14 := s13.trans s4
              cases hu : plainB u with
              | false =>
                have ew : worthW p (x :: y :: u :: r3) = some (p + 2) := by unfold worthW; dsimp only; rw [if_neg e, if_pos hx, if_pos hg, if_neg (by rw [hu]; decide)]
                rw [ew] at q
                exact iteT (B := _) (go_ret (go_op (go_var rfl (go_c ⟨_, _, rfl, rfl, q H4 s14⟩))))
              | true =>
                refine iteF (A := _) ?_
                dsimp only [tNext]
                refine go_ret (go_ife (go_test (go_op (LEN (s4.seq hs3) rfl (go_op (go_var rfl (go_c ⟨_, _, rfl, rfl, _, _, rfl, rfl, _, rfl, ?_⟩)))))))
                cases r3 with
                | nil =>
                  have ew : worthW p [x, y, u] = none := by unfold worthW; dsimp only; rw [if_neg e, if_pos hx, if_pos hg, if_pos hu, if_pos rfl]
                  rw [ew] at q
                  rw [decide_eq_false (p := (p : Int) + 3 < (items.length : Int)) (by simp at el3; omega)]
                  exact iteF (A := _) (go_c (q H4 s14))
                | cons v r4 =>
                  have ew : worthW p (x :: y :: u :: v :: r4) = some (p + 3) := by unfold worthW; dsimp only; rw [if_neg e, if_pos hx, if_pos hg, if_pos hu, if_neg (by simp)]
                  rw [ew] at q
                  rw [decide_eq_true (p := (p : Int) + 3 < (items.length : Int)) (by simp at el3; omega)]
                  exact iteT (B := _) (go_op (go_var rfl (go_c ⟨_, _, rfl, rfl, q H4 s14⟩)))
end
end K34
namespace K34
open PySem PySem.Spec PyProof.Rows L2 Kx SX LamX Ms
theorem wrong_form {w : Str} {ks r : List Str} (h : formOf w = some ks) : wrongP (w :: r) = goP ks 1 r := by
  show (match formOf w with | none => some 0 | some ks => goP ks 1 r) = _
  rw [h]
theorem goP_pl {k : Str} {ks r : List Str} {b : Bool} {it : Str} (hk : behB k it = if b = true then some [] else none) : goP (k :: ks) 1 (it :: r) = if b = true then goP ks 2 r else some 1 := by
  rw [goP_cons, hk]
  cases b <;> rfl
theorem midB {c : Bool} {T1 T2 : TT} {σ : L2.St} {H : Hp} {Qb : Bool → Hp → Prop} (b1 b2 : Bool) (h1 : ∀ Q : Bool → Hp → Prop, (∀ H', Same H H' → Q b1 H') → T1 σ H Q) (h2 : ∀ Q : Bool → Hp → Prop, (∀ H', Same H H' → Q b2 H') → T2 σ H Q)
    (k : ∀ H', Same H H' → Qb (if c = true then b1 else b2) H') : if c = true then T1 σ H Qb else T2 σ H Qb := by
  cases c with
  | true => exact h1 Qb k
  | false => exact h2 Qb k
def fiveL : List Str := ["hear", "let", "keep", "while", "if"]
theorem wrong5_nil {z : Str} (h : z ∈ fiveL) : wrongP [z] = some 1 := by
  simp only [fiveL, List.mem_cons, List.not_mem_nil, or_false] at h
  rcases h with rfl | rfl | rfl | rfl | rfl <;> rfl
theorem wrong5 {z y : Str} {r : List Str} (h : z ∈ fiveL) : wrongP (z :: y :: r) =
    if (if decide (z ∈ ([("hear" : Str), "let"] : List Str)) = true then nameB y else plainB y) = true then (if decide (z ∈ ([("let" : Str), "keep"] : List Str)) = true then worthW 2 r else if r = [] then none else some 2) else some 1 := by
  have g : ∀ {ks : List Str} {k : Str} {b : Bool}, behB k y = (if b = true then some [] else none) → goP (k :: ks) 1 (y :: r) = if b = true then goP ks 2 r else some 1 := fun hk => goP_pl hk
  simp only [fiveL, List.mem_cons, List.not_mem_nil, or_false] at h
  rcases h with rfl | rfl | rfl | rfl | rfl
  · rw [wrong_form (ks := ["name"]) rfl, g (b := nameB y) rfl, goP_nil]
    rfl
  · rw [wrong_form (ks := ["name", "worth"]) rfl, g (b := nameB y) rfl, goP_worth]
    rfl
  · rw [wrong_form (ks := ["plain", "worth"]) rfl, g (b := plainB y) rfl, goP_worth]
    rfl
  · rw [wrong_form (ks := ["plain"]) rfl, g (b := plainB y) rfl, goP_nil]
    rfl
  · rw [wrong_form (ks := ["plain"]) rfl, g (b := plainB y) rfl, goP_nil]
    rfl
section
variable {P : Program} {w : World} {K : PySem.W.Frag} {mg : Str → Option Value} {base : Heap} (T : Tx w K mg)
def sp_law_wrong (K : PySem.W.Frag) : Sp := fun vs H Q _ => ∃ (a : Addr) (items : List Str), vs = [.ref a] ∧ SqL K H a (items.map V.str) ∧ (∀ z ∈ items, ItOk z) ∧ items ≠ [] ∧ ∀ H', Same H H' → Q (optV (wrongP items)) H'
theorem ok_law_wrong : FnOk P w K mg base CX0 4 T.f_law_wrong T.fd_law_wrong ["items"] (sp_law_wrong K) := by
  refine T.F_law_wrong.ok sc_law_wrong (fun vs H Q E h => ?_) (fun cdv A outer s H vs Q E hr h => ?_)
  · obtain ⟨a, items, rfl, _⟩ := h
    rfl
  · obtain ⟨a, items, rfl, hs, hi, hne, q⟩ := h
    obtain ⟨z, r, rfl⟩ : ∃ z r, items = z :: r := by
      cases items with
      | nil => exact absurd rfl hne
      | cons x r => exact ⟨x, r, rfl⟩
    clear hne
    refine ⟨_, (pss_cons (ps_set (i := 1) sc_law_wrong.nd rfl (.inl rfl) (pe_ix ix_list (pv 0) pe_int (fun _ _ => rfl)))
    (pss_cons (ps_if (pt_cmpR op_in_seq (pv 1) (pe_tup (pa_cons pe_str (pa_cons pe_str (pa_cons pe_str pa_nil)))) rfl)
      (pss_one (ps_ret (pe_ifExp (pt_cmpR op_gt (pe_callB call_len_seq (by rfl) T.m_len PySem.boot_len (pa_cons (pv 0) pa_nil)) pe_int (nomark _)) pe_int pe_non)))
      pss_nil)
    (pss_cons (ps_if (pt_cmpR op_eq (pv 1) pe_str (nomark _))
      (pss_one (ps_ret (pe_call (ok_law_worth_wrong T) (hr.mono (by decide)) (by rfl) T.g_law_worth_wrong T.F_law_worth_wrong.kp T.b_law_worth_wrong .nil pass0 (pa_cons (pv 0) (pa_cons pe_int pa_nil)))))
      pss_nil)
    (pss_cons (ps_if (pt_cmpR op_notIn_seq (pv 1) (pe_tup (pa_cons pe_str (pa_cons pe_str (pa_cons pe_str (pa_cons pe_str (pa_cons pe_str pa_nil)))))) rfl)
      (pss_one (ps_ret pe_int))
      pss_nil)
    (pss_cons (ps_if (PW.pt (pw_or (pt_cmpR op_lt (pe_callB call_len_seq (by rfl) T.m_len PySem.boot_len (pa_cons (pv 0) pa_nil)) pe_int (nomark _)) (pw_or1 (pt_not (pt_ifT (pt_cmpR op_in_seq (pv 1) (pe_tup (pa_cons pe_str (pa_cons pe_str pa_nil))) rfl) (pt_val (pe_call (ok_law_is_name T) (hr.mono (by decide)) (by rfl) T.g_law_is_name T.F_law_is_name.kp T.b_law_is_name .nil pass0 (pa_cons (pe_ix ix_list (pv 0) pe_int (fun _ _ => rfl)) pa_nil))) (pt_val (pe_call (ok_law_is_plain T) (hr.mono (by decide)) (by rfl) T.g_law_is_plain T.F_law_is_plain.kp T.b_law_is_plain .nil pass0 (pa_cons (pe_ix ix_list (pv 0) pe_int (fun _ _ => rfl)) pa_nil))))))))
      (pss_one (ps_ret pe_int))
      pss_nil)
    (pss_cons (ps_if (pt_cmpR op_in_seq (pv 1) (pe_tup (pa_cons pe_str (pa_cons pe_str pa_nil))) rfl)
      (pss_one (ps_ret (pe_call (ok_law_worth_wrong T) (hr.mono (by decide)) (by rfl) T.g_law_worth_wrong T.F_law_worth_wrong.kp T.b_law_worth_wrong .nil pass0 (pa_cons (pv 0) (pa_cons pe_int pa_nil)))))
      pss_nil)
    (pss_one (ps_ret (pe_ifExp (pt_cmpR op_gt (pe_callB call_len_seq (by rfl) T.m_len PySem.boot_len (pa_cons (pv 0) pa_nil)) pe_int (nomark _)) pe_int pe_non))))))))), ?_⟩
    have LEN : ∀ {Hx : Hp}, SqL K Hx a ((z :: r).map V.str) → ∀ {σ : L2.St}, σ[0]? = some (some (V.ref a)) → ∀ {Q1 : VK}, Q1 (.int ((r.length + 1 : Nat) : Int)) Hx → tCB (fun xs H_1 Q => ∃ p ys, xs = [V.ref p] ∧ (SqL K H_1 p ys ∨ SqT K H_1 p ys) ∧ Q (V.int (ys.length : Int)) H_1) (tCons (tVar 0) tNil) σ Hx Q1 := fun {Hx} h {σ} h0 {Q1} h1 => ⟨_, h0, a, _, rfl, .inl h, by rw [List.length_map]; exact h1⟩
    have at0 := at_str (zs := z :: r) (i := 0) rfl
    refine go_seq (go_asg (go_op (go_var rfl (go_c ⟨a, _, 0, _, rfl, rfl, hs, at0, ?_⟩))))
    dsimp only [gName]
    refine go_seq (go_if (go_test (go_op (go_var rfl (go_tup (go_cons (go_c (go_cons (go_c (go_cons (go_c (go_nil ⟨by show 3 ≤ sizeLine; decide, fun p np => ⟨p, [("else" : Str), "end", "stop"].map V.str, rfl, .inr (.inl (.inl upd_same)), rfl, flat_strs _, _, rfl, ?_⟩⟩))))))))))))
    rw [inV_strs]
    generalize hHt : upd H p _ = H1
    have s1 : Same H H1 := by rw [← hHt]; exact same_new np
    clear hHt
    have hs1 := s1.seq hs
    show if decide (z ∈ ([("else" : Str), "end", "stop"] : List Str)) = true then _ else _
    refine iteC (fun e => ?_) (fun e => ?_)
    · have e : z = "else" ∨ z = "end" ∨ z = "stop" := by simpa using e
      have hf : formOf z = some [] := by rcases e with rfl | rfl | rfl <;> rfl
      rw [wrong_form hf, goP_nil] at q
      refine go_ret (go_ife (go_test (go_op (LEN hs1 rfl (go_c ⟨_, _, rfl, rfl, _, rfl, ?_⟩)))))
      cases r with
      | nil => exact iteF (A := _) (go_c (q H1 s1))
      | cons y r2 =>
        rw [if_neg (by simp)] at q
        rw [decide_eq_true (p := (1 : Int) < (((y :: r2).length + 1 : Nat) : Int)) (by simp; omega)]
        exact iteT (B := _) (go_c (q H1 s1))
    have n1 : ¬ (z = "else" ∨ z = "end" ∨ z = "stop") := by simpa using e
    clear e
    dsimp only [tNext]
    refine go_seq (go_if (go_test (go_op (go_var rfl (go_c ⟨rfl, _, rfl, ?_⟩)))))
    rw [decS]
    refine iteC (fun e => ?_) (fun e => ?_)
    · have e := of_decide_eq_true e
      subst e
      rw [wrong_form (ks := ["worth"]) rfl, goP_worth] at q
      exact go_ret ⟨_, rfl, a, "say" :: r, 1, rfl, hs1, hi, by decide, fun H2 s2 => q H2 (s1.trans s2)⟩
    have n2 := of_decide_eq_false e
    clear e
    dsimp only [tNext]
    refine go_seq (go_if (go_test (go_op (go_var rfl ⟨by show 5 ≤ sizeLine; decide, fun p2 np2 => ⟨p2, [("hear" : Str), "let", "keep", "while", "if"].map V.str, rfl, .inr (.inl (.inl upd_same)), rfl, flat_strs _, _, rfl, ?_⟩⟩))))
    rw [inV_strs]
    generalize hHt : upd H1 p2 _ = H2
    have s2 : Same H1 H2 := by rw [← hHt]; exact same_new np2
    clear hHt
    have hs2 := s2.seq hs1
    have s12 := s1.trans s2
    show if (!decide (z ∈ ([("hear" : Str), "let", "keep", "while", "if"] : List Str))) = true then _ else _
    by_cases h5 : z ∈ ([("hear" : Str), "let", "keep", "while", "if"] : List Str)
    case neg =>
      rw [decide_eq_false h5]
      have hf : formOf z = none := by
        cases hf : formOf z with
        | none => rfl
        | some ks =>
          have m := form_mem hf
          have m2 : z ∈ formL.map (·.1) := List.mem_map.mpr ⟨_, m, rfl⟩
          simp only [formL, List.map_cons, List.map_nil, List.mem_cons, List.not_mem_nil, or_false] at m2
          simp only [List.mem_cons, List.not_mem_nil, or_false, not_or] at h5 n1
          obtain ⟨a1, a2, a3⟩ := n1
          obtain ⟨b1, b2, b3, b4, b5⟩ := h5
          rcases m2 with h | h | h | h | h | h | h | h | h <;> contradiction
      have ew : wrongP (z :: r) = some 0 := by
        show (match formOf z with | none => some 0 | some ks => goP ks 1 r) = _
        rw [hf]
      rw [ew] at q
      exact iteT (B := _) (go_ret (go_c (q H2 s12)))
    rw [decide_eq_true h5]
    refine iteF (A := _) ?_
    dsimp only [tNext]
    refine go_seq (go_if (go_or2 (go_test (go_op (LEN hs2 rfl (go_c ⟨_, _, rfl, rfl, _, rfl, ?_⟩))))))
    have h5 : z ∈ fiveL := h5
    cases r with
    | nil =>
      rw [wrong5_nil h5] at q
      exact iteT (B := _) (iteT (B := _) (go_ret (go_c (q H2 s12))))
    | cons y r2 =>
    rw [wrong5 h5] at q
    have at1 := at_str (zs := z :: y :: r2) (i := 1) rfl
    have iy : ItOk y := hi y (by simp)
    rw [decide_eq_false (p := ((((y :: r2).length + 1 : Nat) : Int) < 2)) (by simp; omega)]
    refine iteF (A := _) (go_not (go_ifT (go_test (go_op (go_var rfl ⟨by show 2 ≤ sizeLine; decide, fun p3 np3 => ⟨p3, [("hear" : Str), "let"].map V.str, rfl, .inr (.inl (.inl upd_same)), rfl, flat_strs _, _, rfl, ?_⟩⟩)))))
    rw [inV_strs]
    generalize hHt : upd H2 p3 _ = H3
    have s3 : Same H2 H3 := by rw [← hHt]; exact same_new np3
    clear hHt
    have hs3 := s3.seq hs2
    have s13 := s12.trans s3
    show if decide (z ∈ ([("hear" : Str), "let"] : List Str)) = true then _ else _
    refine midB (nameB y) (plainB y) (fun Q1 k => go_b ⟨_, rfl, a, _, 1, _, rfl, rfl, hs3, at1, y, rfl, iy, fun H4 s4 => ⟨_, rfl, k H4 s4⟩⟩) (fun Q1 k => go_b ⟨_, rfl, a, _, 1, _, rfl, rfl, hs3, at1, y, rfl, iy, fun H4 s4 => ⟨_, rfl, k H4 s4⟩⟩) (fun H4 s4 => ?_)
    have hs4 := s4.seq hs3
    have s14 := s13.trans s4
    generalize (if decide (z ∈ ([("hear" : Str), "let"] : List Str)) = true then nameB y else plainB y) = bT at q ⊢
    cases bT with
    | false => exact iteT (B := _) (go_ret (go_c (q H4 s14)))
    | true =>
      refine iteF (A := _) ?_
      dsimp only [tNext]
      have q : ∀ H', Same H H' → Q (optV (if decide (z ∈ ([("let" : Str), "keep"] : List Str)) = true then worthW 2 r2 else if r2 = [] then none else some 2)) H' := q
      refine go_seq (go_if (go_test (go_op (go_var rfl ⟨by show 2 ≤ sizeLine; decide, fun p4 np4 => ⟨p4, [("let" : Str), "keep"].map V.str, rfl, .inr (.inl (.inl upd_same)), rfl, flat_strs _, _, rfl, ?_⟩⟩))))
      rw [inV_strs]
      generalize hHt : upd H4 p4 _ = H5
      have s5 : Same H4 H5 := by rw [← hHt]; exact same_new np4
      clear hHt
      have hs5 := s5.seq hs4
      have s15 := s14.trans s5
      show if decide (z ∈ ([("let" : Str), "keep"] : List Str)) = true then _ else _
      refine iteC (fun e => ?_) (fun e => ?_)
      · rw [e] at q
        exact go_ret ⟨_, rfl, a, z :: y :: r2, 2, rfl, hs5, hi, by decide, fun H6 s6 => q H6 (s15.trans s6)⟩
      · rw [e] at q
        have q : ∀ H', Same H H' → Q (optV (if r2 = [] then none else some 2)) H' := q
        dsimp only [tNext]
        refine go_ret (go_ife (go_test (go_op (LEN hs5 rfl (go_c ⟨_, _, rfl, rfl, _, rfl, ?_⟩)))))
        cases r2 with
        | nil => exact iteF (A := _) (go_c (q H5 s15))
        | cons u r3 =>
          rw [if_neg (by simp)] at q
          rw [decide_eq_true (p := (2 : Int) < (((y :: u :: r3).length + 1 : Nat) : Int)) (by simp; omega)]
          exact iteT (B := _) (go_c (q H5 s15))
end
end K34
namespace K34
open PySem PySem.Spec PyProof.Rows L2 Kx SX LamX Ms
theorem midS {t : TS} {σ : L2.St} {H : Hp} {D : Ends} (R : L2.St → Hp → Prop) (h1 : ∀ D1 : Ends, (∀ σ' H', R σ' H' → D1.nx σ' H') → t D1 σ H) (h2 : ∀ σ' H', R σ' H' → D.nx σ' H') : t D σ H := h1 D h2
def sayL : List Str := ["say", "let", "keep"]
theorem parts_form {w : Str} {ks r : List Str} (h : formOf w = some ks) : partsD (w :: r) = .str w :: partsK ks r := by
  show _ :: partsK ((formOf w).getD []) r = _
  rw [h]
  rfl
/-- how the parts of a line are made up -/
theorem parts_split {z : Str} {r : List Str} (h : LineOk z r) : (z ∈ fiveL → ∃ y r2, r = y :: r2 ∧ plainB y = true ∧ (z ∈ sayL → Wo r2) ∧ partsD (z :: r) = [.str z, toldD y] ++ (if decide (z ∈ sayL) = true then [.tuple (worthD r2)] else [])) ∧
    (z ∉ fiveL → (z ∈ sayL → Wo r) ∧ partsD (z :: r) = [.str z] ++ (if decide (z ∈ sayL) = true then [.tuple (worthD r)] else [])) := by
  obtain ⟨ks, hf, sh⟩ := h
  have m := form_mem hf
  rw [parts_form hf]
  have un : ∀ {k : Str} {ks r : List Str}, ShapeK (k :: ks) r → k ≠ "worth" → ∃ n r', r = n :: r' ∧ plainB n = true ∧ ShapeK ks r' := fun {k ks r} h e => by
    have h : if k = "worth" then ks = [] ∧ Wo r else (k = "name" ∨ k = "plain") ∧ ∃ n r', r = n :: r' ∧ (k = "name" → nameB n = true) ∧ plainB n = true ∧ ShapeK ks r' := h
    rw [if_neg e] at h
    obtain ⟨_, n, r', h1, _, h2, h3⟩ := h
    exact ⟨n, r', h1, h2, h3⟩
  have uw : ∀ {r : List Str}, ShapeK ["worth"] r → Wo r := fun {r} h => by
    have h : if ("worth" : Str) = "worth" then ([] : List Str) = [] ∧ Wo r else _ := h
    rw [if_pos rfl] at h
    exact h.2
  simp only [formL, List.mem_cons, List.not_mem_nil, or_false, Prod.mk.injEq] at m
  rcases m with ⟨rfl, rfl⟩ | ⟨rfl, rfl⟩ | ⟨rfl, rfl⟩ | ⟨rfl, rfl⟩ | ⟨rfl, rfl⟩ | ⟨rfl, rfl⟩ | ⟨rfl, rfl⟩ | ⟨rfl, rfl⟩ | ⟨rfl, rfl⟩
  · obtain ⟨n, r', rfl, h2, h3⟩ := un sh (by decide)
    exact ⟨fun _ => ⟨n, r', rfl, h2, fun m => absurd m (by decide), rfl⟩, fun m => absurd (by decide) m⟩
  · exact ⟨fun m => absurd m (by decide), fun _ => ⟨fun _ => uw sh, rfl⟩⟩
  · obtain ⟨n, r', rfl, h2, h3⟩ := un sh (by decide)
    exact ⟨fun _ => ⟨n, r', rfl, h2, fun _ => uw h3, rfl⟩, fun m => absurd (by decide) m⟩
  · obtain ⟨n, r', rfl, h2, h3⟩ := un sh (by decide)
    exact ⟨fun _ => ⟨n, r', rfl, h2, fun _ => uw h3, rfl⟩, fun m => absurd (by decide) m⟩
  · obtain ⟨n, r', rfl, h2, h3⟩ := un sh (by decide)
    exact ⟨fun _ => ⟨n, r', rfl, h2, fun m => absurd m (by decide), rfl⟩, fun m => absurd (by decide) m⟩
  · obtain ⟨n, r', rfl, h2, h3⟩ := un sh (by decide)
    exact ⟨fun _ => ⟨n, r', rfl, h2, fun m => absurd m (by decide), rfl⟩, fun m => absurd (by decide) m⟩
  · exact ⟨fun m => absurd m (by decide), fun _ => ⟨fun m => absurd m (by decide), rfl⟩⟩
  · exact ⟨fun m => absurd m (by decide), fun _ => ⟨fun m => absurd m (by decide), rfl⟩⟩
  · exact ⟨fun m => absurd m (by decide), fun _ => ⟨fun m => absurd m (by decide), rfl⟩⟩
section
variable {P : Program} {w : World} {K : PySem.W.Frag} {mg : Str → Option Value} {base : Heap} (T : Tx w K mg)
def sp_law_parts (K : PySem.W.Frag) : Sp := fun vs H Q _ => ∃ (a : Addr) (z : Str) (r : List Str), vs = [.ref a] ∧ SqL K H a ((z :: r).map V.str) ∧ (∀ y ∈ z :: r, ItOk y) ∧ LineOk z r ∧ ∀ p H', Same H H' → Dp K H' (.ref p) (.tuple (partsD (z :: r))) → Q (.ref p) H'
theorem ok_law_parts : FnOk P w K mg base CX0 3 T.f_law_parts T.fd_law_parts ["items"] (sp_law_parts K) := by
  refine T.F_law_parts.ok sc_law_parts (fun vs H Q E h => ?_) (fun cdv A outer s H vs Q E hr h => ?_)
  · obtain ⟨a, z, r, rfl, _⟩ := h
    rfl
  · obtain ⟨a, z, r, rfl, hs, hi, hl, q⟩ := h
    refine ⟨_, (pss_cons (ps_par3 (i := 1) (j := 2) (l := 3) rfl sc_law_parts.nd rfl rfl rfl (by decide) (by decide) (by decide) rfl rfl rfl (pa_cons (pe_ix ix_list (pv 0) pe_int (fun _ _ => rfl)) (pa_cons (pe_lst (pa_cons (pe_ix ix_list (pv 0) pe_int (fun _ _ => rfl)) pa_nil)) (pa_cons pe_int pa_nil))) (by rfl))
    (pss_cons (ps_if (pt_cmpR op_in_seq (pv 1) (pe_tup (pa_cons pe_str (pa_cons pe_str (pa_cons pe_str (pa_cons pe_str (pa_cons pe_str pa_nil)))))) rfl)
      (pss_cons (ps_expr (pe_bm PySem.F.plainAttrs_list PySem.F.slot_list_append PySem.F.type_list_append mt_append (pv 2) (pa_cons (pe_call (ok_law_told T) (hr.mono (by decide)) (by rfl) T.g_law_told T.F_law_told.kp T.b_law_told .nil pass0 (pa_cons (pe_ix ix_list (pv 0) pe_int (fun _ _ => rfl)) pa_nil)) pa_nil)))
      (pss_one (ps_set (i := 3) sc_law_parts.nd rfl (.inl rfl) pe_int)))
      pss_nil)
    (pss_cons (ps_if (pt_cmpR op_in_seq (pv 1) (pe_tup (pa_cons pe_str (pa_cons pe_str (pa_cons pe_str pa_nil)))) rfl)
      (pss_cons (ps_set (i := 4) sc_law_parts.nd rfl (.inl rfl) (pe_slice sl_list (pv 0) (po_some (pv 3)) po_none))
      (pss_one (ps_if (pt_cmpR op_eq (pe_callB call_len_seq (by rfl) T.m_len PySem.boot_len (pa_cons (pv 4) pa_nil)) pe_int (nomark _))
        (pss_one (ps_expr (pe_bm PySem.F.plainAttrs_list PySem.F.slot_list_append PySem.F.type_list_append mt_append (pv 2) (pa_cons (pe_tup (pa_cons (pe_ix ix_list (pv 4) pe_int (fun _ _ => rfl)) (pa_cons (pe_call (ok_law_told T) (hr.mono (by decide)) (by rfl) T.g_law_told T.F_law_told.kp T.b_law_told .nil pass0 (pa_cons (pe_ix ix_list (pv 4) pe_int (fun _ _ => rfl)) pa_nil)) (pa_cons (pe_call (ok_law_told T) (hr.mono (by decide)) (by rfl) T.g_law_told T.F_law_told.kp T.b_law_told .nil pass0 (pa_cons (pe_ix ix_list (pv 4) pe_int (fun _ _ => rfl)) pa_nil)) pa_nil)))) pa_nil))))
        (pss_one (ps_expr (pe_bm PySem.F.plainAttrs_list PySem.F.slot_list_append PySem.F.type_list_append mt_append (pv 2) (pa_cons (pe_ifExp (pt_cmpR op_eq (pe_callB call_len_seq (by rfl) T.m_len PySem.boot_len (pa_cons (pv 4) pa_nil)) pe_int (nomark _)) (pe_tup (pa_cons (pe_ix ix_list (pv 4) pe_int (fun _ _ => rfl)) (pa_cons (pe_call (ok_law_told T) (hr.mono (by decide)) (by rfl) T.g_law_told T.F_law_told.kp T.b_law_told .nil pass0 (pa_cons (pe_ix ix_list (pv 4) pe_int (fun _ _ => rfl)) pa_nil)) pa_nil))) (pe_tup (pa_cons pe_str (pa_cons (pe_call (ok_law_told T) (hr.mono (by decide)) (by rfl) T.g_law_told T.F_law_told.kp T.b_law_told .nil pass0 (pa_cons (pe_ix ix_list (pv 4) pe_int (fun _ _ => rfl)) pa_nil)) pa_nil)))) pa_nil)))))))
      pss_nil)
    (pss_one (ps_ret (pe_callTy call_tuple_of (by rfl) T.m_tuple (by decide +kernel) (pa_cons (pv 2) pa_nil))))))), ?_⟩
    obtain ⟨p5, pn5⟩ := parts_split hl
    have at0 := at_str (zs := z :: r) (i := 0) rfl
    have okI : ∀ {i : Nat} {y : Str}, (z :: r)[i]? = some y → ItOk y := fun e => hi _ (List.mem_of_getElem? e)
    refine go_seq ⟨_, rfl, a, _, 0, _, rfl, rfl, hs, at0, _, rfl, a, _, 0, _, rfl, rfl, hs, at0, by show 1 ≤ sizeLine; decide, fun L nL => ?_⟩
    refine ⟨_, _, _, rfl, ?_⟩
    dsimp only
    have s0 := same_new (o := HO.lst [V.str z]) nL
    have hL : upd H L (HO.lst [V.str z]) L = some (.lst [V.str z]) := upd_same
    generalize upd H L (HO.lst [V.str z]) = H0 at s0 hL ⊢
    refine go_seq (midS (fun σ' H' => ∃ (p : Nat) (vs : List V) (r' : List Str) (pre : List PyData), σ' = [some (.ref a), some (.str z), some (.ref L), some (.int (p : Int)), none] ∧ Same H H' ∧ H' L = some (.lst vs) ∧ (z :: r).drop p = r' ∧ vs.length ≤ 2 ∧ (∀ H2, DpAll K H2 vs pre) ∧ (z ∈ sayL → Wo r') ∧ partsD (z :: r) = pre ++ (if decide (z ∈ sayL) = true then [.tuple (worthD r')] else [])) (fun D1 hD1 => ?_) (fun σ' H' hR => ?_))
    · refine go_if (go_test (go_op (go_var rfl ⟨by show 5 ≤ sizeLine; decide, fun b nb => ⟨b, fiveL.map V.str, rfl, .inr (.inl (.inl upd_same)), rfl, flat_strs _, _, rfl, ?_⟩⟩)))
      rw [inV_strs]
      generalize hHt : upd H0 b _ = H1
      have s1 : Same H0 H1 := by rw [← hHt]; exact same_new nb
      clear hHt
      have s01 := s0.trans s1
      have hL1 := s1 _ _ hL
      show if decide (z ∈ fiveL) = true then _ else _
      refine iteC (fun e => ?_) (fun e => ?_)
      · obtain ⟨y, r2, rfl, hy, hw, ep⟩ := p5 (of_decide_eq_true e)
        have at1 := at_str (zs := z :: y :: r2) (i := 1) rfl
        refine go_seq (go_drop (go_bm (go_var rfl ⟨.inl ⟨rfl, _, .inl (.inl hL1)⟩, go_cons ?_⟩)))
        refine ⟨_, rfl, a, _, 1, _, rfl, rfl, s01.seq hs, at1, y, rfl, okI (i := 1) rfl, hy, fun v H2 s2 hv => ?_⟩
        refine ⟨L, _, _, rfl, rfl, s2 _ _ hL1, by show 1 < sizeLine; decide, ?_⟩
        dsimp only
        refine go_asg (go_c ?_)
        dsimp only [gName]
        refine hD1 _ _ ⟨2, [.str z, v], r2, [.str z, toldD y], rfl, ?_, upd_same, rfl, by simp, fun H3 => .cons (.str _) (.cons (hv _) .nil), hw, ep⟩
        intro b' o hb
        rw [upd_ne (ne_of_none hb nL)]
        exact s2 _ _ (s01 _ _ hb)
      · obtain ⟨hw, ep⟩ := pn5 (of_decide_eq_false e)
        exact hD1 _ _ ⟨1, [.str z], r, [.str z], rfl, s01, hL1, rfl, by simp, fun H3 => .cons (.str _) .nil, hw, ep⟩
    · obtain ⟨p, vs, r', pre, rfl, sc, hLc, er, lv, hd, hw, ep⟩ := hR
      clear p5 pn5
      dsimp only
      -- the end: what is found, as a tuple
      have fin : ∀ (Hx : Hp) (ws : List V) (t : Addr) (dd : List PyData), z ∈ sayL → Same H Hx → Hx L = some (.lst vs) → Hx t = some (.tup ws) → (∀ H2, DpAll K H2 ws (worthD r')) → ∀ p', upd Hx L (.lst (vs ++ [.ref t])) p' = none → Q (.ref p') (upd (upd Hx L (.lst (vs ++ [.ref t]))) p' (.tup (vs ++ [.ref t]))) := fun Hx ws t dd hz sx hLx ht hws p' np' => by
        have tL : t ≠ L := fun e => by rw [e, hLx] at ht; cases ht
        have s1 : Same H (upd Hx L (.lst (vs ++ [.ref t]))) := fun b' o hb => by
          rw [upd_ne (ne_of_none hb nL)]
          exact sx _ _ hb
        refine q p' _ (s1.trans (same_new np')) (.tup (.inl (.inl upd_same)) ?_)
        rw [ep, decide_eq_true hz]
        refine dpAll_app (hd _) (.cons (.tup (.inl (.inl ((same_new np') _ _ ?_))) (hws _)) .nil)
        rw [upd_ne tL]
        exact ht
      refine go_seq (go_if (go_test (go_op (go_var rfl (go_tup (go_cons (go_c (go_cons (go_c (go_cons (go_c (go_nil ⟨by show 3 ≤ sizeLine; decide, fun b nb => ⟨b, sayL.map V.str, rfl, .inr (.inl (.inl upd_same)), rfl, flat_strs _, _, rfl, ?_⟩⟩))))))))))))
      rw [inV_strs]
      generalize hHt : upd H' b _ = H1
      have s1 : Same H' H1 := by rw [← hHt]; exact same_new nb
      clear hHt
      have s01 := sc.trans s1
      have hL1 := s1 _ _ hLc
      show if decide (z ∈ sayL) = true then _ else _
      refine iteC (fun e => ?_) (fun e => ?_)
      · have e := of_decide_eq_true e
        refine go_seq (go_asg ⟨_, rfl, _, rfl, (p : Int), rfl, a, _, rfl, s01.seq hs, fun C nC => ?_⟩)
        have ec : cutV ((z :: r).map V.str) (some (p : Int)) none = r'.map V.str := by
          rw [cut_from, ← List.map_drop, er]
        rw [ec]
        have s2 := same_new (o := HO.lst (r'.map V.str)) nC
        have hC : upd H1 C (HO.lst (r'.map V.str)) C = some (.lst (r'.map V.str)) := upd_same
        generalize upd H1 C (HO.lst (r'.map V.str)) = H2 at s2 hC ⊢
        dsimp only [gName]
        have s02 := s01.trans s2
        have hL2 := s2 _ _ hL1
        have okR : ∀ y ∈ r', ItOk y := fun y hy => hi y (List.mem_of_mem_drop (by rw [er]; exact hy))
        have hqC : SqL K H2 C (r'.map V.str) := .inl (.inl hC)
        have LEN : ∀ {σ : L2.St}, σ[4]? = some (some (V.ref C)) → ∀ {Q1 : VK}, Q1 (.int (r'.length : Int)) H2 → tCB (fun xs H_1 Q => ∃ p ys, xs = [V.ref p] ∧ (SqL K H_1 p ys ∨ SqT K H_1 p ys) ∧ Q (V.int (ys.length : Int)) H_1) (tCons (tVar 4) tNil) σ H2 Q1 := fun {σ} h0 {Q1} h1 => ⟨_, h0, C, _, rfl, .inl hqC, by rw [List.length_map]; exact h1⟩
        have lvL : vs.length < sizeLine := Nat.lt_of_le_of_lt lv (by decide)
        have tend : ∀ (Hx : Hp) (ws : List V) (t : Addr), Same H2 Hx → Hx t = some (.tup ws) → (∀ H2, DpAll K H2 ws (worthD r')) → ∀ p', upd Hx L (.lst (vs ++ [.ref t])) p' = none → Q (.ref p') (upd (upd Hx L (.lst (vs ++ [.ref t]))) p' (.tup (vs ++ [.ref t]))) := fun Hx ws t sx ht hws => fin Hx ws t [] e (s02.trans sx) (sx _ _ hL2) ht hws
        refine go_if (go_test (go_op (LEN rfl (go_c ⟨rfl, _, rfl, ?_⟩))))
        rw [decI]
        rcases hw e with ⟨x, rfl, hx, _⟩ | ⟨x, y, rfl, _, hy⟩ | ⟨x, s, y, rfl, hx, _, _, hy⟩
        · have a0 := at_str (zs := [x]) (i := 0) rfl
          refine iteF (A := _) (go_drop (go_bm (go_var rfl ⟨.inl ⟨rfl, _, .inl (.inl hL2)⟩, go_cons (go_ife (go_test (go_op (LEN rfl (go_c ⟨rfl, _, rfl, ?_⟩)))))⟩)))
          rw [decI]
          refine iteF (A := _) (go_tup (go_cons (go_c (go_cons ?_))))
          refine ⟨_, rfl, C, _, 0, _, rfl, rfl, hqC, a0, x, rfl, okR x (by simp), hx, fun v H3 s3 hv => ?_⟩
          refine ⟨by show 2 ≤ sizeLine; decide, fun t nt => ⟨L, _, _, rfl, rfl, (same_new nt) _ _ (s3 _ _ hL2), lvL, ?_⟩⟩
          dsimp only
          refine go_ret (go_cb (go_cons (go_var rfl (go_nil ⟨L, _, rfl, .inl ⟨.inl (.inl upd_same), ?_⟩⟩))))
          exact tend _ [.str "plain", v] t (s3.trans (same_new nt)) upd_same fun H4 => .cons (.str _) (.cons (hv _) .nil)
        · have a0 := at_str (zs := [x, y]) (i := 0) rfl
          have a1 := at_str (zs := [x, y]) (i := 1) rfl
          refine iteF (A := _) (go_drop (go_bm (go_var rfl ⟨.inl ⟨rfl, _, .inl (.inl hL2)⟩, go_cons (go_ife (go_test (go_op (LEN rfl (go_c ⟨rfl, _, rfl, ?_⟩)))))⟩)))
          rw [decI]
          refine iteT (B := _) (go_tup (go_cons (go_op (go_var rfl (go_c ⟨C, _, 0, _, rfl, rfl, hqC, a0, go_cons ?_⟩)))))
          refine ⟨_, rfl, C, _, 1, _, rfl, rfl, hqC, a1, y, rfl, okR y (by simp), hy, fun v H3 s3 hv => ?_⟩
          refine ⟨by show 2 ≤ sizeLine; decide, fun t nt => ⟨L, _, _, rfl, rfl, (same_new nt) _ _ (s3 _ _ hL2), lvL, ?_⟩⟩
          dsimp only
          refine go_ret (go_cb (go_cons (go_var rfl (go_nil ⟨L, _, rfl, .inl ⟨.inl (.inl upd_same), ?_⟩⟩))))
          exact tend _ [.str x, v] t (s3.trans (same_new nt)) upd_same fun H4 => .cons (.str _) (.cons (hv _) .nil)
        · have a0 := at_str (zs := [x, s, y]) (i := 0) rfl
          have a1 := at_str (zs := [x, s, y]) (i := 1) rfl
          have a2 := at_str (zs := [x, s, y]) (i := 2) rfl
          refine iteT (B := _) (go_drop (go_bm (go_var rfl ⟨.inl ⟨rfl, _, .inl (.inl hL2)⟩, go_cons (go_tup (go_cons (go_op (go_var rfl (go_c ⟨C, _, 1, _, rfl, rfl, hqC, a1, go_cons ?_⟩)))))⟩)))
          refine ⟨_, rfl, C, _, 0, _, rfl, rfl, hqC, a0, x, rfl, okR x (by simp), hx, fun v H3 s3 hv => ?_⟩
          refine go_cons ⟨_, rfl, C, _, 2, _, rfl, rfl, s3.seq hqC, a2, y, rfl, okR y (by simp), hy, fun v2 H4 s4 hv2 => ?_⟩
          refine ⟨by show 3 ≤ sizeLine; decide, fun t nt => ⟨L, _, _, rfl, rfl, (same_new nt) _ _ (s4 _ _ (s3 _ _ hL2)), lvL, ?_⟩⟩
          dsimp only
          refine go_ret (go_cb (go_cons (go_var rfl (go_nil ⟨L, _, rfl, .inl ⟨.inl (.inl upd_same), ?_⟩⟩))))
          exact tend _ [.str s, v, v2] t ((s3.trans s4).trans (same_new nt)) upd_same fun H4 => .cons (.str _) (.cons (hv _) (.cons (hv2 _) .nil))
      · have e := of_decide_eq_false e
        dsimp only [tNext]
        refine go_ret (go_cb (go_cons (go_var rfl (go_nil ⟨L, _, rfl, .inl ⟨.inl (.inl hL1), fun p' np' => ?_⟩⟩))))
        refine q p' _ (s01.trans (same_new np')) (.tup (.inl (.inl upd_same)) ?_)
        rw [ep, decide_eq_false e]
        show DpAll K _ vs (pre ++ [])
        rw [List.append_nil]
        exact hd _
end
end K34
namespace K34
open PySem PySem.Spec PyProof.Rows L2 Kx SX LamX Ms
def BtOk (z : Str) : Prop := z.length ≤ 20 ∧ cdC z.cps.toList ∧ 32 ∉ z.cps.toList
theorem BtOk.it {z : Str} (h : BtOk z) : ItOk z := ⟨by have := h.1; omega, h.2.1⟩
def someL : List Str := ["", "x", "0", "00", "4095", "4096", "-1", "+", "<", "=", "at", "mine", "say", "abcdefghi", "X", "x1"]
def moreL : List Str := ["stop", "end", "while", "1.5", "**", "let", "9999", "hear", "x\n", "7\n", "stop\n", "\n"]
theorem some_ok : ∀ z ∈ someL ++ moreL, BtOk z := by
  have h : ∀ z ∈ someL ++ moreL, (decide (z.length ≤ 20) && (z.cps.toList.all (fun c => decide (c < 1114112)) && !decide (32 ∈ z.cps.toList))) = true := by decide +kernel
  intro z hz
  have := h z hz
  rw [Bool.and_eq_true, Bool.and_eq_true, decide_eq_true_eq, Bool.not_eq_true', decide_eq_false_iff_not] at this
  exact ⟨this.1, this.2.1, this.2.2⟩
theorem seqI {a n : Nat} (h : a < n) : seqIndex? (a : Int) n = some a := by
  unfold seqIndex?
  have h1 : ¬ ((a : Int) < 0) := by omega
  simp only [h1, if_false]
  have h2 : (decide (0 ≤ (a : Int)) && decide ((a : Int) < (n : Int))) = true := by
    rw [decide_eq_true (by omega), decide_eq_true (by omega)]
    rfl
  rw [if_pos h2, Int.toNat_natCast]
theorem map_eraseIdx {α β : Type} (f : α → β) : ∀ (l : List α) (i : Nat), (l.eraseIdx i).map f = (l.map f).eraseIdx i
  | [], i => by cases i <;> rfl
  | x :: l, 0 => rfl
  | x :: l, i + 1 => by
    show f x :: (l.eraseIdx i).map f = f x :: (l.map f).eraseIdx i
    rw [map_eraseIdx f l i]
theorem ixI {a n : Nat} (h : a < n) : ixN n (a : Int) = some a := by
  unfold ixN
  rw [if_pos (by omega), if_pos (by omega)]
  simp
theorem dpAll_strS {K : PySem.W.Frag} {H : Hp} (zs : List Str) : Paired (fun v d => Dp K H v d) (zs.map V.str) (zs.map PyData.str) := paired_of_map _ _ fun z _ => .str z
theorem map_nilD (zs : List Str) : decide (zs.map PyData.str = []) = decide (zs = []) := by
  rw [Bool.eq_iff_iff, decide_eq_true_eq, decide_eq_true_eq, List.map_eq_nil_iff]
section
variable {P : Program} {w : World} {K : PySem.W.Frag} {mg : Str → Option Value} {base : Heap} (T : Tx w K mg)
def sp_law_bent (K : PySem.W.Frag) : Sp := fun vs H Q _ => ∃ (a c b : Addr) (n : Nat) (items : List Str), vs = [.ref a, .ref b] ∧ Wh H a c n ∧ n < 500000 ∧ SqL K H b (items.map V.str) ∧ items ≠ [] ∧ items.length ≤ 1000 ∧ (∀ y ∈ items, BtOk y) ∧
  ∀ (its : List Str) (p : Addr) (H' : Hp), its ≠ [] → its.length ≤ items.length + 1 → (∀ y ∈ its, BtOk y) → Mv a H H' → H p = none → H' p = some (.lst (its.map V.str)) → Wh H' a c (n + 3) → Q (.ref p) H'
theorem ok_law_bent : FnOk P w K mg base CX0 3 T.f_law_bent T.fd_law_bent ["spire", "items"] (sp_law_bent K) := by
  refine T.F_law_bent.ok sc_law_bent (fun vs H Q E h => ?_) (fun cdv A outer s H vs Q E hr h => ?_)
  · obtain ⟨a, c, b, n, items, rfl, _⟩ := h
    rfl
  · obtain ⟨a, c, b, n, items, rfl, wh, hn, hs, hne, hl, hb, q⟩ := h
    refine ⟨_, (pss_cons (ps_par (i := 1) (j := 2) rfl sc_law_bent.nd rfl rfl (by decide) rfl rfl (pa_cons (pe_callTy call_list_of (by rfl) T.m_list (by decide +kernel) (pa_cons (pv 1) pa_nil)) (pa_cons (pe_call (ok_law_bell T) (hr.mono (by decide)) (by rfl) T.g_law_bell T.F_law_bell.kp T.b_law_bell .nil pass0 (pa_cons (pv 0) (pa_cons pe_int pa_nil))) pa_nil)) (by rfl))
    (pss_cons (ps_set (i := 3) sc_law_bent.nd rfl (.inl rfl) (pe_call (ok_law_bell T) (hr.mono (by decide)) (by rfl) T.g_law_bell T.F_law_bell.kp T.b_law_bell .nil pass0 (pa_cons (pv 0) (pa_cons (pe_callB call_len_seq (by rfl) T.m_len PySem.boot_len (pa_cons (pv 1) pa_nil)) pa_nil))))
    (pss_cons (ps_set (i := 4) sc_law_bent.nd rfl (.inl rfl) (pe_lst (pa_cons pe_str (pa_cons pe_str (pa_cons pe_str (pa_cons pe_str (pa_cons pe_str (pa_cons pe_str (pa_cons pe_str (pa_cons pe_str (pa_cons pe_str (pa_cons pe_str (pa_cons pe_str (pa_cons pe_str (pa_cons pe_str (pa_cons pe_str (pa_cons pe_str (pa_cons pe_str pa_nil))))))))))))))))))
    (pss_cons (ps_set (i := 5) sc_law_bent.nd rfl (.inl rfl) (pe_call (ok_law_pick T) (hr.mono (by decide)) (by rfl) T.g_law_pick T.F_law_pick.kp T.b_law_pick .nil pass0 (pa_cons (pv 0) (pa_cons (pe_op op_cat (pv 4) (pe_lst (pa_cons pe_str (pa_cons pe_str (pa_cons pe_str (pa_cons pe_str (pa_cons pe_str (pa_cons pe_str (pa_cons pe_str (pa_cons pe_str (pa_cons pe_str (pa_cons pe_str (pa_cons pe_str (pa_cons pe_str pa_nil)))))))))))))) pa_nil))))
    (pss_cons (ps_if (pt_cmpR op_lt (pv 2) pe_int (nomark _))
      (pss_one (ps_asg (pv 5) (pg_sub (pv 1) (pv 3) set_list)))
      pss_nil)
    (pss_cons (ps_if (pt_cmpR op_eq (pv 2) pe_int (nomark _))
      (pss_one (ps_expr (pe_bm PySem.F.plainAttrs_list PySem.F.slot_list_pop PySem.F.type_list_pop mt_popAt (pv 1) (pa_cons (pv 3) pa_nil))))
      pss_nil)
    (pss_cons (ps_if (pt_cmpR op_gt (pv 2) pe_int (nomark _))
      (pss_one (ps_expr (pe_bm PySem.F.plainAttrs_list PySem.F.slot_list_insert PySem.F.type_list_insert mt_insert (pv 1) (pa_cons (pe_ifExp (pt_cmpR op_eq (pv 2) pe_int (nomark _)) (pv 3) (pe_callB call_len_seq (by rfl) T.m_len PySem.boot_len (pa_cons (pv 1) pa_nil))) (pa_cons (pv 5) pa_nil)))))
      pss_nil)
    (pss_one (ps_ret (pe_ifExp (pt_cmpR (op_neD hr.units) (pv 1) (pe_lst pa_nil) (nomark _)) (pv 1) (pe_lst (pa_cons pe_str pa_nil)))))))))))), ?_⟩
    refine go_seq ⟨_, rfl, b, _, rfl, .inl hs, fun L nL => ?_⟩
    have hL : upd H L (HO.lst (items.map V.str)) L = some (.lst (items.map V.str)) := upd_same
    have dL := wh.ne nL
    have dc := wh.nc nL
    refine ⟨_, rfl, a, c, 6, n, rfl, by decide, by decide, wh.new nL, by omega, fun way H1 r0 r1 m1 w1 => ⟨_, _, rfl, ?_⟩⟩
    have hL1 := m1 _ _ dL hL
    have m01 := (Mv.of (a := a) (same_new (o := HO.lst (items.map V.str)) nL)).trans m1
    clear hL m1 hs
    dsimp only
    have len0 : 0 < items.length := List.length_pos_iff.mpr hne
    refine go_seq (go_asg ⟨_, rfl, _, rfl, L, _, rfl, .inl (.inl (.inl hL1)), a, c, ((items.map V.str).length : Int), _, rfl, by rw [List.length_map]; omega, by rw [List.length_map]; omega, w1, by omega, fun at_ H2 a0 a1 m2 w2 => ?_⟩)
    rw [List.length_map] at a1
    have hL2 := m2 _ _ dL hL1
    dsimp only [gName]
    refine go_seq (go_asg ⟨by show 16 ≤ sizeLine; decide, fun S1 nS1 => ?_⟩)
    dsimp only [gName]
    have w2' := w2.lt (show n + 1 + 1 ≤ n + 2 by omega)
    have dS : S1 ≠ L := fun z => by rw [z, hL2] at nS1; cases nS1
    have hS1 := upd_same (H := H2) (a := S1) (o := HO.lst (someL.map V.str))
    have sS1 := same_new (o := HO.lst (someL.map V.str)) nS1
    have eS1 : upd H2 S1 (HO.lst (someL.map V.str)) = upd H2 S1 (HO.lst [V.str "", V.str "x", V.str "0", V.str "00", V.str "4095", V.str "4096", V.str "-1", V.str "+", V.str "<", V.str "=", V.str "at", V.str "mine", V.str "say", V.str "abcdefghi", V.str "X", V.str "x1"]) := rfl
    rw [← eS1]
    generalize upd H2 S1 (HO.lst (someL.map V.str)) = H3 at hS1 sS1 ⊢
    refine go_seq (go_asg ⟨_, rfl, _, rfl, by show 12 ≤ sizeLine; decide, fun S2 nS2 => ⟨S1, S2, someL.map V.str, moreL.map V.str, rfl, rfl, (same_new nS2) _ _ hS1, upd_same, by show 16 + 12 ≤ sizeLine; decide, fun S3 nS3 => ?_⟩⟩)
    have s23 : Same H2 (upd (upd H3 S2 (HO.lst (moreL.map V.str))) S3 (HO.lst ((someL ++ moreL).map V.str))) := (sS1.trans (same_new nS2)).trans (same_new nS3)
    have w3 := w2'.same s23
    refine pickS (zs := someL ++ moreL) upd_same (fun z => (w2'.same (sS1.trans (same_new nS2))).ne nS3 z) (by decide) (by decide) w3 (by omega) fun odd H5 hod m5 w5 => ?_
    have hob := some_ok odd hod
    have m25 : Mv a H2 H5 := (Mv.of s23).trans m5
    have hL5 := m25 _ _ dL hL2
    have m05 := (m01.trans m2).trans m25
    clear hod m5 w3 s23 eS1 hS1 sS1 nS3 nS2
    dsimp only [gName]
    -- what is given
    have FIN : ∀ (Hx : Hp) (its : List Str) (σ : L2.St) (D : Ends), σ[1]? = some (some (.ref L)) → D.rt = Q → Hx L = some (.lst (its.map V.str)) → Mv a H Hx → Wh Hx a c (n + 3) → (∀ y ∈ its, BtOk y) → its.length ≤ items.length + 1 → tRet (tIf (tTest (tOp (rNeD K) (tVar 1) (tLst tNil))) (tVar 1) (tLst (tCons (tC (V.str "")) tNil))) D σ Hx := fun Hx its σ D h1 hD hLx mx wx hbx hlx => by
      refine go_ret (go_ife (go_test (go_op (go_var h1 (go_lst (go_nil ⟨Nat.zero_le _, fun p np => ?_⟩))))))
      have s6 := same_new (o := HO.lst []) np
      refine ne_nilD (.inl (.inl (s6 _ _ hLx))) (dpAll_strS its) (k := 0) (fun d hd => ?_) (by decide) upd_same ⟨_, rfl, ?_⟩
      · obtain ⟨y, hy, rfl⟩ := List.mem_map.mp hd
        exact pl_str (hbx y hy).2.1
      rw [map_nilD]
      have s6L := s6 _ _ hLx
      have w6 := wx.new (o := HO.lst []) np
      have m6 := mx.new (o := HO.lst []) np
      generalize upd Hx p (HO.lst []) = H6 at s6L w6 m6 ⊢
      rw [hD]
      by_cases e : its = []
      · rw [decide_eq_true e]
        refine iteF (A := _) (go_lst (go_cons (go_c (go_nil ⟨by show 1 ≤ sizeLine; decide, fun p2 np2 => ?_⟩))))
        exact q [""] p2 _ (by simp) (by simp) (fun y hy => by rw [List.mem_singleton.mp hy]; exact some_ok "" (by decide)) (m6.new np2) (m6.none (w6.ne np2) np2) upd_same (w6.new np2)
      · rw [decide_eq_false e]
        exact iteT (B := _) (go_var h1 (q its L H6 e hlx hbx m6 nL s6L w6))
    have sL : ∀ {o : HO}, Mv a H (upd H5 L o) := fun {o} b' o' hb' hz => by
      rw [upd_ne (ne_of_none hz nL)]
      exact m05 _ _ hb' hz
    have wL : ∀ {o : HO}, Wh (upd H5 L o) a c (n + 3) := fun {o} => (w5.set dL dc).lt (by omega)
    obtain ⟨ai, rfl⟩ : ∃ ai : Nat, at_ = ai := ⟨at_.toNat, by omega⟩
    have hai : ai < (items.map V.str).length := by rw [List.length_map]; omega
    have hai' : ai < items.length := by omega
    have lS : items.length < sizeLine := Nat.lt_of_le_of_lt hl (by decide)
    rcases (show way < 3 ∨ way = 3 ∨ 3 < way by omega) with hw | hw | hw
    · refine go_seq (go_if (go_test (go_op (go_var rfl (go_c ⟨_, _, rfl, rfl, _, rfl, ?_⟩)))))
      rw [decide_eq_true hw]
      refine iteT (B := _) (go_asg (go_var rfl ⟨_, rfl, _, rfl, L, _, _, ai, rfl, rfl, hL5, ixI hai, ?_⟩))
      rw [← List.map_set]
      have hLn := upd_same (H := H5) (a := L) (o := HO.lst ((items.set ai odd).map V.str))
      have mn := sL (o := HO.lst ((items.set ai odd).map V.str))
      have wn := wL (o := HO.lst ((items.set ai odd).map V.str))
      generalize upd H5 L (HO.lst ((items.set ai odd).map V.str)) = H6 at hLn mn wn ⊢
      dsimp only
      refine go_seq (go_if (go_test (go_op (go_var rfl (go_c ⟨rfl, _, rfl, ?_⟩)))))
      rw [decI, decide_eq_false (p := way = 3) (by omega)]
      refine iteF (A := _) ?_
      dsimp only [tNext]
      refine go_seq (go_if (go_test (go_op (go_var rfl (go_c ⟨_, _, rfl, rfl, _, rfl, ?_⟩)))))
      rw [decide_eq_false (p := 3 < way) (by omega)]
      refine iteF (A := _) ?_
      dsimp only [tNext]
      refine FIN H6 _ _ _ rfl rfl hLn mn wn (fun y hy => ?_) (by rw [List.length_set]; omega)
      rcases List.mem_or_eq_of_mem_set hy with hy | rfl
      · exact hb y hy
      · exact hob
    · refine go_seq (go_if (go_test (go_op (go_var rfl (go_c ⟨_, _, rfl, rfl, _, rfl, ?_⟩)))))
      rw [decide_eq_false (p := way < 3) (by omega)]
      refine iteF (A := _) ?_
      dsimp only [tNext]
      refine go_seq (go_if (go_test (go_op (go_var rfl (go_c ⟨rfl, _, rfl, ?_⟩)))))
      rw [decI, decide_eq_true hw]
      refine iteT (B := _) (go_drop (go_bm (go_var rfl ⟨.inl ⟨rfl, _, .inl (.inl hL5)⟩, go_cons (go_var rfl (go_nil ⟨L, _, (ai : Int), ai, _, rfl, rfl, hL5, by omega, by omega, seqI hai, List.getElem?_eq_getElem hai, ?_⟩))⟩)))
      rw [← map_eraseIdx]
      have hLn := upd_same (H := H5) (a := L) (o := HO.lst ((items.eraseIdx ai).map V.str))
      have mn := sL (o := HO.lst ((items.eraseIdx ai).map V.str))
      have wn := wL (o := HO.lst ((items.eraseIdx ai).map V.str))
      generalize upd H5 L (HO.lst ((items.eraseIdx ai).map V.str)) = H6 at hLn mn wn ⊢
      dsimp only
      refine go_seq (go_if (go_test (go_op (go_var rfl (go_c ⟨_, _, rfl, rfl, _, rfl, ?_⟩)))))
      rw [decide_eq_false (p := 3 < way) (by omega)]
      refine iteF (A := _) ?_
      dsimp only [tNext]
      refine FIN H6 _ _ _ rfl rfl hLn mn wn (fun y hy => hb y (List.mem_of_mem_eraseIdx hy)) (by rw [List.length_eraseIdx]; split <;> omega)
    · refine go_seq (go_if (go_test (go_op (go_var rfl (go_c ⟨_, _, rfl, rfl, _, rfl, ?_⟩)))))
      rw [decide_eq_false (p := way < 3) (by omega)]
      refine iteF (A := _) ?_
      dsimp only [tNext]
      refine go_seq (go_if (go_test (go_op (go_var rfl (go_c ⟨rfl, _, rfl, ?_⟩)))))
      rw [decI, decide_eq_false (p := way = 3) (by omega)]
      refine iteF (A := _) ?_
      dsimp only [tNext]
      refine go_seq (go_if (go_test (go_op (go_var rfl (go_c ⟨_, _, rfl, rfl, _, rfl, ?_⟩)))))
      rw [decide_eq_true hw]
      have ins : ∀ (k : Nat) (σ : L2.St) (D : Ends), k ≤ items.length → σ[1]? = some (some (.ref L)) → D.rt = Q → tRet (tIf (tTest (tOp (rNeD K) (tVar 1) (tLst tNil))) (tVar 1) (tLst (tCons (tC (V.str "")) tNil))) D σ (upd H5 L (.lst ((items.map V.str).take ((k : Int)).toNat ++ [V.str odd] ++ (items.map V.str).drop ((k : Int)).toNat))) := fun k σ D hk h1 h2 => by
        rw [Int.toNat_natCast]
        have e : (items.map V.str).take k ++ [V.str odd] ++ (items.map V.str).drop k = (items.take k ++ [odd] ++ items.drop k).map V.str := by simp
        rw [e]
        refine FIN _ _ _ _ h1 h2 upd_same sL wL (fun y hy => ?_) (by simp; omega)
        rw [List.mem_append, List.mem_append, List.mem_singleton] at hy
        rcases hy with (hy | rfl) | hy
        · exact hb y (List.mem_of_mem_take hy)
        · exact hob
        · exact hb y (List.mem_of_mem_drop hy)
      refine iteT (B := _) (go_drop (go_bm (go_var rfl ⟨.inl ⟨rfl, _, .inl (.inl hL5)⟩, go_cons (go_ife (go_test (go_op (go_var rfl (go_c ⟨rfl, _, rfl, ?_⟩)))))⟩)))
      refine iteC (fun e4 => ?_) (fun e4 => ?_)
      · refine go_var rfl (go_cons (go_var rfl (go_nil ⟨L, _, (ai : Int), _, rfl, rfl, hL5, by rw [List.length_map]; exact lS, by omega, by omega, ?_⟩)))
        exact ins ai _ _ (by omega) rfl rfl
      · refine go_cb (go_cons (go_var rfl (go_nil ⟨L, _, rfl, .inl (.inl (.inl hL5)), go_cons (go_var rfl (go_nil ⟨L, _, (((items.map V.str).length : Nat) : Int), _, rfl, rfl, hL5, by rw [List.length_map]; exact lS, by omega, by rw [List.length_map]; omega, ?_⟩))⟩)))
        rw [List.length_map]
        exact ins items.length _ _ (Nat.le_refl _) rfl rfl
end
end K34
namespace K34
open PySem PySem.Spec PyProof.Rows L2 Kx SX LamX Ms
/-- what is heard: the error itself, or None -/
def TTh (CL CP : Addr) : (XK → Hp → VK → Prop) → Hp → VK → Prop := fun tl H Q => ∀ N : VK, (∀ v H', (∀ H'', Same H' H'' → Q .non H'') → N v H') →
  tl (fun cls d H' => ∃ dd : Addr, d = some dd ∧
    ((∃ l i : V, cls = .ref CL ∧ H' dd = some (.xd [("item", i), ("line", l)]) ∧ ∀ a H'', Same H' H'' → H'' a = some (exT a (.ref CL) (some dd)) → Q (.ref a) H'') ∨
     (∃ p : V, cls = .ref CP ∧ H' dd = some (.xd [("part", p)]) ∧ ∀ a H'', Same H' H'' → H'' a = some (exT a (.ref CP) (some dd)) → Q (.ref a) H''))) H N
theorem heard_gives {X : Cx} (T : Tx X.w X.K X.mg) {q : Str} {g : Addr} {cdg : Value} : GivesTo X ["ask", "caught", "error"] "_law_heard" (defScope s_law_heard) g cdg (defBody s_law_heard) "ask" q (TTh T.e_BadLine.C T.e_BadProgram.C) := by
  intro f c' s H Q tl act hc h
  have hr := (0 : Nat)
  refine ⟨_, pss_cons (ps_set (i := 1) sc_law_heard.nd rfl (.inl rfl) pe_non) (pss_cons (ps_keep (X := (cxOf C8.CX0 X.prog X.w X.K X.mg X.base ["ask", "caught", "error"] "_law_heard" (defScope s_law_heard) g cdg X.A X.stack s H C8.E0).nox) (c := .ref T.e_BadProgram.L) (i := 2) (j := 1) (n := "error") (y := "caught")
      (tb := fun W D σ H => ∃ Ech : XK, (∀ cls d σ' H', Ech cls d H' → W cls d σ' H') ∧ σ[0]? = some (some (.ref f)) ∧ H c' = some (CodeO c' q) ∧ tl Ech H fun _ H' => D.nx σ H')
      rfl rfl rfl sc_law_heard.nd rfl rfl rfl rfl rfl ⟨rfl, by decide, .inl T.e_BadProgram.gL⟩ (by decide) (by decide) (fun W pn xe tk _ => ?_))
      (pss_one (ps_ret (pv 1)))), ?_⟩
  · refine ⟨fun pins s' σ H' D I h' => ?_⟩
    obtain ⟨Ech, hW, h1, h2, h3⟩ := h'
    exact (pss_one (ps_expr (act W pn xe Ech _ _ tk hW))).run pins s' σ H' D I ⟨h1, h2, h3⟩
  · refine go_seq (go_asg (go_c ?_))
    dsimp only [gName]
    refine go_seq ⟨_, fun cls d σ' H' h' => ?_, rfl, hc, h _ fun v H' hq => ?_⟩
    · obtain ⟨dd, rfl, h'⟩ := h'
      have eL : T.e_BadLine.L = T.e_BadProgram.L := same_ref T.e_BadLine.gL T.e_BadProgram.gL
      rcases h' with ⟨l, i, rfl, hd, hq⟩ | ⟨p, rfl, hd, hq⟩
      · refine ⟨eL ▸ T.e_BadLine.em, fun a na hl => ?_⟩
        match σ', hl with
        | [x0, x1, x2], _ =>
          dsimp only
          exact go_ret (go_var rfl (hq a _ (same_new na) upd_same))
      · refine ⟨T.e_BadProgram.em, fun a na hl => ?_⟩
        match σ', hl with
        | [x0, x1, x2], _ =>
          dsimp only
          exact go_ret (go_var rfl (hq a _ (same_new na) upd_same))
    · dsimp only
      exact go_ret (go_var rfl (hq _ (Same.refl _)))
theorem heard_givesK {X : Cx} {w : World} {K : PySem.W.Frag} {mg : Str → Option Value} (T : Tx w K mg) (ew : X.w = w) (eK : X.K = K) (em : X.mg = mg) {q : Str} {g : Addr} {cdg : Value} : GivesTo X ["ask", "caught", "error"] "_law_heard" (defScope s_law_heard) g cdg (defBody s_law_heard) "ask" q (TTh T.e_BadLine.C T.e_BadProgram.C) := by
  subst ew
  subst eK
  subst em
  exact heard_gives T
section
variable {P : Program} {w : World} {K : PySem.W.Frag} {mg : Str → Option Value} {base : Heap} (T : Tx w K mg)
def lamTab (Pt : Addr) : List (Addr × Str) := [(Pt, "law.<locals>.<lambda>")]
def sp_law (K : PySem.W.Frag) (Pt : Addr) : Sp := fun vs H Q _ => ∃ (a : Addr) (ns : List Int), vs = [.ref a] ∧ SqL K H a (ns.map V.int) ∧ H Pt = some (.tbl #[]) ∧ ∀ H', Q (.bl true) H'
end
end K34
namespace K34
open PySem PySem.Spec PyProof.Rows L2 Kx SX LamX Ms
/-! ### lines as texts -/
theorem map_S (zs : List Str) : (zs.map fun z => z.cps.toList).map S = zs := by
  rw [List.map_map]
  conv => rhs; rw [← List.map_id zs]
  exact List.map_congr_left fun z _ => (str_S z).symm
theorem join_len {zs : List Str} (h : ∀ z ∈ zs, z.length ≤ 20) : (Txt.join " " zs).length ≤ zs.length * 21 := by
  have e : Txt.join " " zs = S (TL.joinL [32] (zs.map fun z => z.cps.toList)) := by
    conv => lhs; rw [← map_S zs]
    exact join_S [32] _
  rw [e, S_len]
  have := joinL_len (k := 20) (zs.map fun z => z.cps.toList) (fun it m => by
    obtain ⟨z, hz, rfl⟩ := List.mem_map.mp m
    rw [str_len]
    exact h z hz)
  rw [List.length_map] at this
  exact this
theorem items_split (z : Str) : itemsOf z = Txt.split z " " := by
  unfold itemsOf
  rw [← split_items, ← str_S]
theorem items_join {zs : List Str} (hne : zs ≠ []) (h : ∀ z ∈ zs, BtOk z) : itemsOf (Txt.join " " zs) = zs := by
  rw [items_split]
  exact TL.split_join (s := 32) (S := []) rfl (by decide +kernel) hne fun z hz => (h z hz).2.2
theorem sum_join {zs : List Str} (h : ∀ z ∈ zs, z.length ≤ 20) (hl : zs.length ≤ 2000) : (zs.map (·.length)).sum + zs.length * (" " : Str).length ≤ 16777216 := by
  have := sum_le h
  have e : (" " : Str).length = 1 := rfl
  rw [e]
  omega
theorem bt_20 {zs : List Str} (h : ∀ z ∈ zs, BtOk z) : ∀ z ∈ zs, z.length ≤ 20 := fun z hz => (h z hz).1
/-! ### what is drawn -/
theorem plain_bt {z : Str} (h : plainB z = true) : BtOk z := by
  obtain ⟨h1, h2⟩ := plain_len h
  refine ⟨by omega, ?_, h2⟩
  unfold plainB at h
  rw [Bool.or_eq_true] at h
  rcases h with h | h
  · unfold nameB lowB at h
    simp only [Bool.and_eq_true, decide_eq_true_eq] at h
    exact low_cd h.2.1.2
  · obtain ⟨_, _, h3, _⟩ := digB_facts h
    unfold cdC
    rw [List.all_eq_true] at h3 ⊢
    intro c hc
    have := digC_iff.mp (h3 c hc)
    exact decide_eq_true (by omega)
theorem sgn_bt : ∀ z ∈ sgnN, BtOk z := by
  have h : ∀ z ∈ sgnN, (decide (z.length ≤ 20) && (z.cps.toList.all (fun c => decide (c < 1114112)) && !decide (32 ∈ z.cps.toList))) = true := by decide +kernel
  intro z hz
  have := h z hz
  rw [Bool.and_eq_true, Bool.and_eq_true, decide_eq_true_eq, Bool.not_eq_true', decide_eq_false_iff_not] at this
  exact ⟨this.1, this.2.1, this.2.2⟩
theorem word_bt : ∀ z ∈ tblN, BtOk z := by
  have h : ∀ z ∈ tblN, (decide (z.length ≤ 20) && (z.cps.toList.all (fun c => decide (c < 1114112)) && !decide (32 ∈ z.cps.toList))) = true := by decide +kernel
  intro z hz
  have := h z hz
  rw [Bool.and_eq_true, Bool.and_eq_true, decide_eq_true_eq, Bool.not_eq_true', decide_eq_false_iff_not] at this
  exact ⟨this.1, this.2.1, this.2.2⟩
theorem wo_bt {r : List Str} (h : Wo r) : ∀ y ∈ r, BtOk y := by
  rcases h with ⟨a, rfl, h1, _⟩ | ⟨a, b, rfl, h1, h2⟩ | ⟨a, s, b, rfl, h1, _, h3, h4⟩
  · intro y hy
    rw [List.mem_singleton.mp hy]
    exact plain_bt h1
  · intro y hy
    simp only [List.mem_cons, List.not_mem_nil, or_false] at hy
    rcases hy with rfl | rfl
    · rcases h1 with rfl | rfl <;> exact word_bt _ (by decide)
    · exact plain_bt h2
  · intro y hy
    simp only [List.mem_cons, List.not_mem_nil, or_false] at hy
    rcases hy with rfl | rfl | rfl
    · exact plain_bt h1
    · exact sgn_bt _ h3
    · exact plain_bt h4
theorem shape_bt : ∀ {ks r : List Str}, ShapeK ks r → ∀ y ∈ r, BtOk y
  | [], r, h => by
    have h : r = [] := h
    subst h
    exact fun _ h => nomatch h
  | k :: ks, r, h => by
    have h : if k = "worth" then ks = [] ∧ Wo r else (k = "name" ∨ k = "plain") ∧ ∃ n r', r = n :: r' ∧ (k = "name" → nameB n = true) ∧ plainB n = true ∧ ShapeK ks r' := h
    by_cases e : k = "worth"
    · rw [if_pos e] at h
      exact wo_bt h.2
    · rw [if_neg e] at h
      obtain ⟨_, n, r', rfl, _, h2, h3⟩ := h
      intro y hy
      rcases List.mem_cons.mp hy with rfl | hy
      · exact plain_bt h2
      · exact shape_bt h3 y hy
theorem form_tbl : ∀ p ∈ formL, p.1 ∈ tblN := by decide
theorem line_bt {z : Str} {r : List Str} (h : LineOk z r) : ∀ y ∈ z :: r, BtOk y := by
  obtain ⟨ks, hf, sh⟩ := h
  intro y hy
  rcases List.mem_cons.mp hy with rfl | hy
  · exact word_bt _ (form_tbl _ (form_mem hf))
  · exact shape_bt sh y hy
theorem line_len {z : Str} {r : List Str} (h : LineOk z r) : (z :: r).length ≤ 6 := by
  obtain ⟨ks, hf, sh⟩ := h
  have h1 := shape_len sh
  have h2 : ks.length ≤ 2 := form_len _ (form_mem hf)
  rw [List.length_cons]
  omega
/-- a line without fault is one of these -/
theorem line_of_none {z : Str} {r : List Str} (h : wrongP (z :: r) = none) : LineOk z r := by
  obtain ⟨ks, h1, h2, _⟩ := parts_back h
  exact ⟨ks, h1, h2⟩
/-! ### parts as data -/
theorem told_sh {z : Str} (h : BtOk z) : Sh 0 20 (toldD z) := by
  unfold toldD
  by_cases e : digB z = true
  · rw [if_pos e]
    obtain ⟨_, _, _, h4, _⟩ := digB_facts e
    exact (sh_int (by omega)).up (Nat.le_refl _) (Nat.zero_le _)
  · rw [if_neg e]
    exact (sh_str (str_S z) h.2.1).up (Nat.le_refl _) (by rw [str_len]; exact h.1)
theorem str_sh {z : Str} (h : BtOk z) : Sh 0 20 (.str z) := (sh_str (str_S z) h.2.1).up (Nat.le_refl _) (by rw [str_len]; exact h.1)
theorem shA_all {k m : Nat} : ∀ {ds : List PyData}, (∀ d ∈ ds, Sh k m d) → ShA k (ds.length * (m + 1)) ds
  | [], _ => by rw [List.length_nil, Nat.zero_mul]; exact .nil
  | d :: r, h => by
    have := ShA.cons (h d (List.mem_cons_self ..)) (shA_all (ds := r) fun e m => h e (List.mem_cons_of_mem _ m))
    rw [List.length_cons, Nat.succ_mul, Nat.add_comm]
    exact this
theorem worth_sh {r : List Str} (h : Wo r) : Sh 1 63 (.tuple (worthD r)) := by
  have hb := wo_bt h
  have pl : BtOk "plain" := by
    have h : (decide (("plain" : Str).length ≤ 20) && (("plain" : Str).cps.toList.all (fun c => decide (c < 1114112)) && !decide (32 ∈ ("plain" : Str).cps.toList))) = true := by decide +kernel
    rw [Bool.and_eq_true, Bool.and_eq_true, decide_eq_true_eq, Bool.not_eq_true', decide_eq_false_iff_not] at h
    exact ⟨h.1, h.2.1, h.2.2⟩
  have all : ∀ d ∈ worthD r, Sh 0 20 d := by
    rcases h with ⟨a, rfl, _⟩ | ⟨a, b, rfl, _⟩ | ⟨a, s, b, rfl, _⟩
    · intro d hd
      have hd : d ∈ [PyData.str "plain", toldD a] := hd
      simp only [List.mem_cons, List.not_mem_nil, or_false] at hd
      rcases hd with rfl | rfl
      · exact str_sh pl
      · exact told_sh (hb a (by simp))
    · intro d hd
      have hd : d ∈ [PyData.str a, toldD b] := hd
      simp only [List.mem_cons, List.not_mem_nil, or_false] at hd
      rcases hd with rfl | rfl
      · exact str_sh (hb a (by simp))
      · exact told_sh (hb b (by simp))
    · intro d hd
      have hd : d ∈ [PyData.str s, toldD a, toldD b] := hd
      simp only [List.mem_cons, List.not_mem_nil, or_false] at hd
      rcases hd with rfl | rfl | rfl
      · exact str_sh (hb s (by simp))
      · exact told_sh (hb a (by simp))
      · exact told_sh (hb b (by simp))
  have hl : (worthD r).length ≤ 3 := by
    rcases h with ⟨a, rfl, _⟩ | ⟨a, b, rfl, _⟩ | ⟨a, s, b, rfl, _⟩
    · exact (by decide : 2 ≤ 3)
    · exact (by decide : 2 ≤ 3)
    · exact Nat.le_refl 3
  exact (shA_all all).tup.up (Nat.le_refl _) (by omega)
theorem parts_sh {z : Str} {r : List Str} (h : LineOk z r) : Sh 2 1000 (.tuple (partsD (z :: r))) := by
  have hb := line_bt h
  have hl := line_len h
  obtain ⟨p5, pn5⟩ := parts_split h
  have tail : ∀ {r' : List Str}, (z ∈ sayL → Wo r') → ∀ d ∈ (if decide (z ∈ sayL) = true then [PyData.tuple (worthD r')] else []), Sh 1 63 d := fun {r'} hw d hd => by
    by_cases e : z ∈ sayL
    · rw [if_pos (decide_eq_true e)] at hd
      rw [List.mem_singleton.mp hd]
      exact worth_sh (hw e)
    · rw [if_neg (by rw [decide_eq_false e]; decide)] at hd
      cases hd
  have all : (∀ d ∈ partsD (z :: r), Sh 1 63 d) ∧ (partsD (z :: r)).length ≤ 3 := by
    by_cases e : z ∈ fiveL
    · obtain ⟨y, r2, rfl, hy, hw, ep⟩ := p5 e
      rw [ep]
      refine ⟨fun d hd => ?_, ?_⟩
      · rcases List.mem_append.mp hd with hd | hd
        · simp only [List.mem_cons, List.not_mem_nil, or_false] at hd
          rcases hd with rfl | rfl
          · exact (str_sh (hb z (by simp))).up (by decide) (by decide)
          · exact (told_sh (hb y (by simp))).up (by decide) (by decide)
        · exact tail hw d hd
      · rw [List.length_append]
        split <;> simp
    · obtain ⟨hw, ep⟩ := pn5 e
      rw [ep]
      refine ⟨fun d hd => ?_, ?_⟩
      · rcases List.mem_append.mp hd with hd | hd
        · rw [List.mem_singleton.mp hd]
          exact (str_sh (hb z (by simp))).up (by decide) (by decide)
        · exact tail hw d hd
      · rw [List.length_append]
        split <;> simp
  exact (shA_all all.1).tup.up (Nat.le_refl _) (by omega)
/-- a tuple as a list -/
def listD : PyData → PyData
  | .tuple ds => .list ds
  | d => d
theorem partB_list (k : Str) (d : PyData) : partB k (listD d) = partB k d ∧ itemI k (listD d) = itemI k d := by
  cases d with
  | tuple ds => exact ⟨rfl, rfl⟩
  | _ => exact ⟨rfl, rfl⟩
theorem zip_list : ∀ (ks : List Str) (ds : List PyData), zipB ks (ds.map listD) = zipB ks ds ∧ itemsK ks (ds.map listD) = itemsK ks ds
  | [], [] => ⟨rfl, rfl⟩
  | [], _ :: _ => ⟨rfl, rfl⟩
  | _ :: _, [] => ⟨rfl, rfl⟩
  | k :: ks, d :: ds => by
    obtain ⟨a1, a2⟩ := partB_list k d
    obtain ⟨b1, b2⟩ := zip_list ks ds
    refine ⟨?_, ?_⟩
    · show (partB k (listD d) && zipB ks (ds.map listD)) = (partB k d && zipB ks ds)
      rw [a1, b1]
    · show itemI k (listD d) ++ itemsK ks (ds.map listD) = itemI k d ++ itemsK ks ds
      rw [a2, b2]
theorem parts_list {z : Str} {r : List Str} (h : LineOk z r) : partsOk (partsD (z :: r)) = true ∧ itemsD (partsD (z :: r)) = z :: r ∧ partsOk ((partsD (z :: r)).map listD) = true ∧ itemsD ((partsD (z :: r)).map listD) = z :: r := by
  obtain ⟨ks, hf, sh, h1, h2⟩ := parts_back (line_none h)
  refine ⟨h1, h2, ?_, ?_⟩
  · rw [parts_form hf] at h1 ⊢
    have h1 : (match formOf z with | some ks' => zipB ks' (partsK ks r) | none => false) = true := h1
    show (match formOf z with | some ks' => zipB ks' ((partsK ks r).map listD) | none => false) = true
    rw [hf] at h1 ⊢
    have h1 : zipB ks (partsK ks r) = true := h1
    show zipB ks ((partsK ks r).map listD) = true
    rw [(zip_list ks (partsK ks r)).1]
    exact h1
  · rw [parts_form hf] at h2 ⊢
    have h2 : z :: itemsK ((formOf z).getD []) (partsK ks r) = z :: r := h2
    show z :: itemsK ((formOf z).getD []) ((partsK ks r).map listD) = z :: r
    rw [(zip_list _ _).2]
    exact h2
theorem parts_fit {z : Str} {r : List Str} (h : LineOk z r) : fitAll (partsD (z :: r)) = true ∧ fitAll ((partsD (z :: r)).map listD) = true ∧ (partsD (z :: r)).length ≤ 10 := by
  have hb := line_bt h
  have fs : ∀ {y : Str}, BtOk y → fitD (.str y) = true := fun {y} hy => decide_eq_true (by have := hy.1; omega)
  have ft : ∀ {y : Str}, BtOk y → fitD (toldD y) = true := fun {y} hy => by
    unfold toldD
    by_cases e : digB y = true
    · rw [if_pos e]; rfl
    · rw [if_neg e]; exact fs hy
  have tl : ∀ {y : Str}, listD (toldD y) = toldD y := fun {y} => by
    unfold toldD
    by_cases e : digB y = true
    · rw [if_pos e]; rfl
    · rw [if_neg e]; rfl
  have fw : ∀ {r' : List Str}, Wo r' → fitAll (worthD r') = true := fun {r'} hw => by
    have hb := wo_bt hw
    rcases hw with ⟨a, rfl, _⟩ | ⟨a, b, rfl, _⟩ | ⟨a, s, b, rfl, _⟩
    · show (fitD (.str "plain") && (fitD (toldD a) && true)) = true
      rw [ft (hb a (by simp))]
      rfl
    · show (fitD (.str a) && (fitD (toldD b) && true)) = true
      rw [fs (hb a (by simp)), ft (hb b (by simp))]
      rfl
    · show (fitD (.str s) && (fitD (toldD a) && (fitD (toldD b) && true))) = true
      rw [fs (hb s (by simp)), ft (hb a (by simp)), ft (hb b (by simp))]
      rfl
  have app : ∀ {xs ys : List PyData}, fitAll xs = true → fitAll ys = true → fitAll (xs ++ ys) = true := fun {xs ys} h1 h2 => by
    induction xs with
    | nil => exact h2
    | cons x xs ih =>
      have h1 : (fitD x && fitAll xs) = true := h1
      rw [Bool.and_eq_true] at h1
      show (fitD x && fitAll (xs ++ ys)) = true
      rw [h1.1, ih h1.2]
      rfl
  have tail : ∀ {r' : List Str}, (z ∈ sayL → Wo r') → fitAll (if decide (z ∈ sayL) = true then [PyData.tuple (worthD r')] else []) = true ∧ fitAll ((if decide (z ∈ sayL) = true then [PyData.tuple (worthD r')] else []).map listD) = true := fun {r'} hw => by
    by_cases e : z ∈ sayL
    · rw [if_pos (decide_eq_true e)]
      have := fw (hw e)
      exact ⟨by show (fitAll (worthD r') && true) = true; rw [this]; rfl, by show (fitAll (worthD r') && true) = true; rw [this]; rfl⟩
    · rw [if_neg (by rw [decide_eq_false e]; decide)]
      exact ⟨rfl, rfl⟩
  obtain ⟨p5, pn5⟩ := parts_split h
  by_cases e : z ∈ fiveL
  · obtain ⟨y, r2, rfl, hy, hw, ep⟩ := p5 e
    obtain ⟨t1, t2⟩ := tail hw
    have h0 : fitAll [.str z, toldD y] = true := by show (fitD (.str z) && (fitD (toldD y) && true)) = true; rw [fs (hb z (by simp)), ft (hb y (by simp))]; rfl
    rw [ep]
    refine ⟨app h0 t1, ?_, ?_⟩
    · rw [List.map_append]
      have : ([.str z, toldD y] : List PyData).map listD = [.str z, toldD y] := by show [.str z, listD (toldD y)] = _; rw [tl]
      rw [this]
      exact app h0 t2
    · rw [List.length_append]
      split <;> simp
  · obtain ⟨hw, ep⟩ := pn5 e
    obtain ⟨t1, t2⟩ := tail hw
    have h0 : fitAll [.str z] = true := by show (fitD (.str z) && true) = true; rw [fs (hb z (by simp))]; rfl
    rw [ep]
    refine ⟨app h0 t1, ?_, ?_⟩
    · rw [List.map_append]
      exact app h0 t2
    · rw [List.length_append]
      split <;> simp
end K34
namespace K34
open PySem PySem.Spec PyProof.Rows L2 Kx SX LamX Ms
theorem go_callK {sp : Sp} {gV : List V → List V → List V} {E : XK} {t tk : TA} {σ : L2.St} {H : Hp} {Q : VK} (h : t σ H fun vs H1 => tk σ H1 fun zs H2 => sp (gV vs zs) H2 Q E) : tCallK sp gV E t tk σ H Q := h
theorem midV {te : TE} {σ : L2.St} {H : Hp} {Q : VK} (N : V → Hp → Prop) (h1 : ∀ Q1 : VK, (∀ v H', N v H' → Q1 v H') → te σ H Q1) (h2 : ∀ v H', N v H' → Q v H') : te σ H Q := h1 Q h2
theorem sq_of {K : PySem.W.Frag} {A1 A2 : Type} {R : A1 → A2 → Prop} {H13 H' : Hp} {p : Addr} {xs : List V} (hp : H13 p = some (.lst xs)) (h : ∃ (x : A1) (y : A2), R x y ∧ Same H13 H') : SqL K H' p xs := by
  obtain ⟨_, _, _, e⟩ := h
  exact .inl (.inl (e _ _ hp))
theorem goP_le : ∀ (r : List Str) (ws : List Str) (p : Nat) {k : Nat}, goP ws p r = some k → k ≤ p + r.length
  | [], ws, p, k, h => by
    have h : (if ws = [] ∨ ws = [("sign" : Str)] then none else some p) = some k := by cases ws <;> exact h
    by_cases e : ws = [] ∨ ws = [("sign" : Str)]
    · rw [if_pos e] at h
      cases h
    · rw [if_neg e] at h
      cases h
      exact Nat.le_add_right _ _
  | it :: r, [], p, k, h => by
    have h : some p = some k := h
    cases h
    exact Nat.le_add_right _ _
  | it :: r, w :: ws, p, k, h => by
    rw [goP_cons] at h
    cases hb : behB w it with
    | none =>
      rw [hb] at h
      cases h
      exact Nat.le_add_right _ _
    | some bs =>
      rw [hb] at h
      have := goP_le r (bs ++ ws) (p + 1) h
      rw [List.length_cons]
      omega
theorem wrong_le {its : List Str} {k : Nat} (h : wrongP its = some k) : k ≤ its.length + 1 := by
  cases its with
  | nil => cases h
  | cons w r =>
    have h : (match formOf w with | none => some 0 | some ks => goP ks 1 r) = some k := h
    cases hf : formOf w with
    | none =>
      rw [hf] at h
      cases h
      exact Nat.zero_le _
    | some ks =>
      rw [hf] at h
      have := goP_le r ks 1 h
      rw [List.length_cons]
      omega
/-! ### written values -/
def LitT (K : PySem.W.Frag) (t : TE) (d : PyData) : Prop := ∀ (σ : L2.St) (H : Hp) (Q : VK), (∀ v H', Same H H' → Dp K H' v d → (∀ a, H a ≠ none → Dp K (er a H') v d) → Q v H') → t σ H Q
def LitA (K : PySem.W.Frag) (t : TA) (ds : List PyData) : Prop := ∀ (σ : L2.St) (H : Hp) (Q : List V → Hp → Prop), (∀ vs H', Same H H' → DpAll K H' vs ds → (∀ a, H a ≠ none → DpAll K (er a H') vs ds) → Q vs H') → t σ H Q
section
variable {K : PySem.W.Frag}
theorem lit_non : LitT K (tC .non) .none := fun σ H Q k => k _ _ (Same.refl _) .non fun _ _ => .non
theorem lit_bl {b : Bool} : LitT K (tC (.bl b)) (.bool b) := fun σ H Q k => k _ _ (Same.refl _) (.bl b) fun _ _ => .bl b
theorem lit_int {i : Int} : LitT K (tC (.int i)) (.int i) := fun σ H Q k => k _ _ (Same.refl _) (.int i) fun _ _ => .int i
theorem lit_neg {i : Int} : LitT K (tUn (rU fun i => .int (-i)) (tC (.int i))) (.int (-i)) := fun σ H Q k => ⟨i, rfl, k _ _ (Same.refl _) (.int _) fun _ _ => .int _⟩
theorem lit_str {z : Str} : LitT K (tC (.str z)) (.str z) := fun σ H Q k => k _ _ (Same.refl _) (.str z) fun _ _ => .str z
theorem lit_nil : LitA K tNil [] := fun σ H Q k => k _ _ (Same.refl _) .nil fun _ _ => .nil
theorem held_same {H H' : Hp} (e : Same H H') {a : Addr} (h : H a ≠ none) : H' a ≠ none := fun z => by
  cases q : H a with
  | none => exact h q
  | some o => rw [e _ _ q] at z; cases z
theorem lit_cons {t : TE} {u : TA} {d : PyData} {ds : List PyData} (h1 : LitT K t d) (h2 : LitA K u ds) : LitA K (tCons t u) (d :: ds) := fun σ H Q k =>
  h1 σ H _ fun v H1 e1 d1 r1 => h2 σ H1 _ fun vs H2 e2 d2 r2 => k _ _ (e1.trans e2) (.cons (dp_same e2 _ _ d1) d2) fun a ha => .cons (dp_same (er_same e2) _ _ (r1 a ha)) (r2 a (held_same e1 ha))
theorem lit_tup {t : TA} {ds : List PyData} (h : LitA K t ds) (hl : ds.length ≤ 100 := by decide) : LitT K (tTup t) (.tuple ds) := fun σ H Q k =>
  h σ H _ fun vs H1 e1 d1 r1 => ⟨by rw [dpAll_len d1]; exact Nat.le_trans hl (by decide), fun p np => k _ _ (e1.trans (same_new np)) (.tup (.inl (.inl upd_same)) (dpAll_same (same_new np) d1)) fun a ha =>
    .tup (.inl (.inl (er_at (fun z => held_same e1 ha (by rw [← z]; exact np)) upd_same))) (dpAll_same (er_same (same_new np)) (r1 a ha))⟩
theorem lit_lst {t : TA} {ds : List PyData} (h : LitA K t ds) (hl : ds.length ≤ 100 := by decide) : LitT K (tLst t) (.list ds) := fun σ H Q k =>
  h σ H _ fun vs H1 e1 d1 r1 => ⟨by rw [dpAll_len d1]; exact Nat.le_trans hl (by decide), fun p np => k _ _ (e1.trans (same_new np)) (.lst (.inl (.inl upd_same)) (dpAll_same (same_new np) d1)) fun a ha =>
    .lst (.inl (.inl (er_at (fun z => held_same e1 ha (by rw [← z]; exact np)) upd_same))) (dpAll_same (er_same (same_new np)) (r1 a ha))⟩
theorem litA_use {t : TA} {ds : List PyData} {σ : L2.St} {H : Hp} {Q : List V → Hp → Prop} (h : LitA K t ds) (k : ∀ vs H', Same H H' → DpAll K H' vs ds → (∀ a, H a ≠ none → DpAll K (er a H') vs ds) → Q vs H') : t σ H Q := h σ H Q k
end
def oddL : List PyData := [.none, .int 5, .bool true, .list [.str "stop"], .tuple [.str "say", .str "1"]]
def noneL : List PyData := [.none, .int 5, .str "stop", .tuple [], .tuple [.str "go"], .tuple [.str "say"], .tuple [.str "say", .int 5], .tuple [.str "say", .tuple [.str "plain", .int 4096]], .tuple [.str "say", .tuple [.str "plain", .int (-1)]],
  .tuple [.str "say", .tuple [.str "plain", .bool true]], .tuple [.str "say", .tuple [.str "+", .int 1]], .tuple [.str "say", .tuple [.str "+", .int 1, .int 2, .int 3]], .tuple [.str "say", .tuple [.str "mine", .str "X"]]]
def noneM : List PyData := [.tuple [.str "hear", .int 1], .tuple [.str "hear", .str "stop"], .tuple [.str "let", .str "x"], .tuple [.str "let", .int 1, .tuple [.str "plain", .int 1]], .tuple [.str "while", .tuple [.str "plain", .int 1]], .tuple [.str "end", .int 1],
  .tuple [.str "keep", .str "at", .tuple [.str "plain", .int 1]], .tuple [.str "say", .tuple [.str "**", .int 1, .int 2]], .tuple [.str "if", .str "0"], .tuple [.none, .int 1], .tuple [.str "say", .tuple [.none, .int 1]], .tuple [.str "stop", .str ""]]
theorem odd_no : ∀ d ∈ oddL, isS d = false ∧ fitD d = true := by
  have h : (oddL.all fun d => !isS d && fitD d) = true := by decide +kernel
  intro d hd
  have := List.all_eq_true.mp h d hd
  rw [Bool.and_eq_true, Bool.not_eq_true'] at this
  exact this
def lenD (d : PyData) : Bool := match seqD d with
  | some ds => decide (ds.length ≤ 1000)
  | none => true
theorem none_no : ∀ d ∈ noneL ++ noneM, partsB d = false ∧ fitD d = true ∧ ∀ ds, seqD d = some ds → ds.length ≤ 1000 := by
  have h : ((noneL ++ noneM).all fun d => !partsB d && (fitD d && lenD d)) = true := by decide +kernel
  intro d hd
  have := List.all_eq_true.mp h d hd
  rw [Bool.and_eq_true, Bool.and_eq_true, Bool.not_eq_true'] at this
  obtain ⟨h1, h2, h3⟩ := this
  refine ⟨h1, h2, fun ds e => ?_⟩
  unfold lenD at h3
  rw [e] at h3
  exact of_decide_eq_true h3
theorem dp_ext {K : PySem.W.Frag} {H H' : Hp} (e : ExtN H H') : ∀ (d : PyData) (v : V), Dp K H v d → Dp K H' v d := by
  intro d v h
  exact Dp.rec (motive_1 := fun v d _ => Dp K H' v d) (motive_2 := fun vs ds _ => DpAll K H' vs ds) .non .bl .int .str (fun h _ i => .lst (sqL_ext e h) i) (fun h _ i => .tup (sqT_ext e h) i) .nil (fun _ _ a b => .cons a b) h
theorem pick_new {K : PySem.W.Frag} {a c p : Addr} {n : Nat} {xs : List V} {H0 : Hp} {Q : VK} (np : H0 p = none) (wh : Wh H0 a c n) (hn : n < 1000000) (h0 : xs ≠ []) (hl : xs.length ≤ 1000000) (q : ∀ v H', v ∈ xs → Mv a H0 H' → Wh H' a c (n + 1) → Q v H') : sp_law_pick K [.ref a, .ref p] (upd H0 p (.lst xs)) Q (fun _ _ _ => False) := by
  have hpa := wh.ne np
  exact ⟨a, p, c, xs, n, rfl, .inl (.inl upd_same), h0, hl, wh.new np, hn, fun H' m => .inl (.inl (m _ _ hpa upd_same)), fun v H' hv m w' => q v H' hv ((Mv.of (same_new np)).trans m) w'⟩
/-- a held error of a program -/
def ErrQ (CP W : Addr) (H : Hp) (v : V) : Prop := ∃ e dd : Addr, v = .ref e ∧ e ≠ W ∧ dd ≠ W ∧ H e = some (exT e (.ref CP) (some dd)) ∧ H dd = some (.xd [("part", .str "parts")])
theorem ErrQ.ext {CP W : Addr} {H H' : Hp} {v : V} (x : ExtN H H') (h : ErrQ CP W H v) : ErrQ CP W H' v := by
  obtain ⟨e, dd, h1, h2, h3, h4, h5⟩ := h
  exact ⟨e, dd, h1, h2, h3, ext_at x h4 (fun ps z => exT_ne _ (fun φ z => by cases z) z), ext_at x h5⟩
theorem ErrQ.upd {CP W : Addr} {H : Hp} {v : V} {o : HO} (h : ErrQ CP W H v) : ErrQ CP W (L2.upd H W o) v := by
  obtain ⟨e, dd, h1, h2, h3, h4, h5⟩ := h
  exact ⟨e, dd, h1, h2, h3, by rw [upd_ne h2]; exact h4, by rw [upd_ne h3]; exact h5⟩
theorem fm_none (ws : List V) : (ws.map fun _ => (none : Option V)).filterMap id = [] := by
  induction ws with
  | nil => rfl
  | cons x r ih => exact ih
theorem onS_no {f : Str → Bool} {d : PyData} (h : isS d = false) : onS f d = false := by
  cases d <;> first | rfl | cases h
theorem tabs_put {TT : List (Addr × Str)} {H : Hp} {L : Addr} {xs : List V} {o : HO} (t : Tabs TT H) (h : H L = some (.lst xs)) : Tabs TT (upd H L o) := fun p hp => by
  obtain ⟨ps, h1, h2, h3⟩ := t p hp
  refine ⟨ps, by rw [upd_ne (ne_of_two h1 h (fun z => by cases z))]; exact h1, h2, fun pos cv hc => ?_⟩
  obtain ⟨c', e1, e2⟩ := h3 pos cv hc
  exact ⟨c', e1, by rw [upd_ne (ne_of_two e2 h (fun z => by cases z))]; exact e2⟩
def isT : PyData → Bool
  | .tuple _ => true
  | _ => false
theorem dp_isT {K : PySem.W.Frag} {H : Hp} {x : V} {d : PyData} (h : Dp K H x d) : kitB (tyD d) "tuple" = some (isT d) := by
  cases h <;> (show kitB _ "tuple" = some _; dsimp only [tyD, isT]; decide +kernel)
theorem sqT_mv {K : PySem.W.Frag} {H H' : Hp} {N D : Addr} {xs : List V} (nN : H N = none) (mv : Mv N H H') (h : SqT K H D xs) : SqT K H' D xs := Same.t (mv.same nN) h
section
variable {P : Program} {w : World} {K : PySem.W.Frag} {mg : Str → Option Value} {base : Heap} (T : Tx w K mg)
theorem kb_parts_of_0_line : KBinds K T.fd_parts_of ["line"] ["line"] oneG oneG := kb_one T.F_parts_of fun _ _ _ _ _ _ _ => rfl
theorem kb_line_of_0_parts : KBinds K T.fd_line_of ["parts"] ["parts"] oneG oneG := kb_one T.F_line_of fun _ _ _ _ _ _ _ => rfl
theorem kb_is_name_0_value : KBinds K T.fd_is_name ["value"] ["value"] oneG oneG := kb_one T.F_is_name fun _ _ _ _ _ _ _ => rfl
theorem kb_is_plain_0_value : KBinds K T.fd_is_plain ["value"] ["value"] oneG oneG := kb_one T.F_is_plain fun _ _ _ _ _ _ _ => rfl
theorem ok_law {c Pt : Addr} (FC : FunC K "law" "law" s_law T.f_law T.fd_law c) (TB : TabB base mg c Pt) : FnG P w K mg base CX0 11 T.f_law T.fd_law ["script"] (sp_law K Pt) := by
  obtain ⟨oc, od, kV, doc, pm, an, cdv, ct, osl, efd, lk, hcd⟩ := T.F_law_heard.ex
  rw [efd] at lk
  have hbd : Binds K _ ["ask"] [] := efd ▸ T.b_law_heard
  refine okC FC sc_law (fun vs H Q E h => ?_) (fun A outer s H vs Q E hg hr h => ?_)
  · obtain ⟨a, ns, rfl, _⟩ := h
    rfl
  · obtain ⟨s0, ns, rfl, hs, hP, q⟩ := h
    refine ⟨_, (pss_cons (ps_set (i := 1) sc_law.nd rfl (.inl rfl) (pe_call (ok_law_spire T) (hr.mono (by decide)) (by rfl) T.g_law_spire T.F_law_spire.kp T.b_law_spire .nil pass0 (pa_cons (pv 0) pa_nil)))
    (pss_cons (ps_for PassesOwn.never rfl (pi_range1 (by rfl) T.m_range (pa_cons pe_int pa_nil)) (pg_name (i := 2) sc_law.nd rfl (.inl rfl))
      (pss_cons (ps_set (i := 3) sc_law.nd rfl (.inl rfl) (pe_call (ok_law_line T) (hr.mono (by decide)) (by rfl) T.g_law_line T.F_law_line.kp T.b_law_line .nil pass0 (pa_cons (pv 1) pa_nil)))
      (pss_cons (ps_par (i := 4) (j := 5) rfl sc_law.nd rfl rfl (by decide) rfl rfl (pa_cons (pe_join pe_str (pv 3)) (pa_cons (pe_call (ok_law_parts T) (hr.mono (by decide)) (by rfl) T.g_law_parts T.F_law_parts.kp T.b_law_parts .nil pass0 (pa_cons (pv 3) pa_nil)) pa_nil)) (by rfl))
      (pss_cons (ps_if (PW.pt (pw_or (pt_cmpR op_ne (pe_callB (call_reprD hg hr.units) (by rfl) T.m_repr (by decide +kernel) (pa_cons (pe_lst (pa_cons (pe_call (ok_parts_of T) (hr.mono (by decide)) (by rfl) T.g_parts_of T.F_parts_of.kp T.b_parts_of .nil passF (pa_cons (pv 4) pa_nil)) (pa_cons (pe_callK0 (ok_parts_of T) (hr.mono (by decide)) (by rfl) T.g_parts_of T.F_parts_of.kp (kb_parts_of_0_line T) passF (pk_cons (pv 4) pk_nil)) pa_nil))) pa_nil)) (pe_callB (call_reprD hg hr.units) (by rfl) T.m_repr (by decide +kernel) (pa_cons (pe_lst (pa_cons (pv 5) (pa_cons (pv 5) pa_nil))) pa_nil)) (nomark _)) (pw_or1 (pt_cmpR op_ne (pe_call (ok_line_of T) (hr.mono (by decide)) (by rfl) T.g_line_of T.F_line_of.kp T.b_line_of .nil passF (pa_cons (pv 5) pa_nil)) (pv 4) (nomark _)))))
        (pss_one (ps_ret pe_bl))
        pss_nil)
      (pss_cons (ps_if (pt_cmpR op_ne (pe_callK0 (ok_line_of T) (hr.mono (by decide)) (by rfl) T.g_line_of T.F_line_of.kp (kb_line_of_0_parts T) passF (pk_cons (pe_lc (own := [("part", 6)]) rfl sc_law.nd (pi_tup (pv 5)) (blkOk_by (own := [("part", 6)]) (N := ["script", "spire", "turn", "items", "line", "due", "part", "lap", "bent", "wrong", "caught", "item", "kinds", "odd", "none", "value", "heard", "each"]) (sc := defScope s_law) (by decide +kernel)) (fun _ _ _ _ _ => (pg_name (i := 6) sc_law.nd rfl (.inl rfl))) (fun _ _ _ _ _ => pts_nil) (fun _ _ _ _ _ => (pe_ifExp (pt_val (pe_callB (inK_call_isiX (K := K) rfl) (by rfl) T.m_isinstance (by decide +kernel) (pa_cons (pv 6) (pa_cons (pe_bltn (v := .ty "tuple") (by rfl) T.m_tuple (by decide +kernel) rfl) pa_nil)))) (pe_callTy (inK_call_list_of (K := K) rfl) (by rfl) T.m_list (by decide +kernel) (pa_cons (pv 6) pa_nil)) (pv 6)))) pk_nil)) (pv 4) (nomark _))
        (pss_one (ps_ret pe_bl))
        pss_nil)
      (pss_one (ps_for PassesOwn.never rfl (pi_range1 (by rfl) T.m_range (pa_cons pe_int pa_nil)) (pg_name (i := 7) sc_law.nd rfl (.inl rfl))
        (pss_cons (ps_set (i := 8) sc_law.nd rfl (.inr rfl) (pe_join pe_str (pe_call (ok_law_bent T) (hr.mono (by decide)) (by rfl) T.g_law_bent T.F_law_bent.kp T.b_law_bent .nil pass0 (pa_cons (pv 1) (pa_cons (pe_ifExp (pt_cmpR op_lt (pv 7) pe_int (nomark _)) (pv 3) (pe_call (ok_law_bent T) (hr.mono (by decide)) (by rfl) T.g_law_bent T.F_law_bent.kp T.b_law_bent .nil pass0 (pa_cons (pv 1) (pa_cons (pv 3) pa_nil)))) pa_nil)))))
        (pss_cons (ps_set (i := 9) sc_law.nd rfl (.inl rfl) (pe_call (ok_law_wrong T) (hr.mono (by decide)) (by rfl) T.g_law_wrong T.F_law_wrong.kp T.b_law_wrong .nil pass0 (pa_cons (pe_split (pv 8) pe_str) pa_nil)))
        (pss_cons (ps_if (PW.pt (pw_and (pt_cmpR op_isN (pv 9) pe_non (nomark _)) (pw_and1 (pt_cmpR op_ne (pe_callB (call_reprD hg hr.units) (by rfl) T.m_repr (by decide +kernel) (pa_cons (pe_call (ok_parts_of T) (hr.mono (by decide)) (by rfl) T.g_parts_of T.F_parts_of.kp T.b_parts_of .nil passF (pa_cons (pv 8) pa_nil)) pa_nil)) (pe_callB (call_reprD hg hr.units) (by rfl) T.m_repr (by decide +kernel) (pa_cons (pe_call (ok_law_parts T) (hr.mono (by decide)) (by rfl) T.g_law_parts T.F_law_parts.kp T.b_law_parts .nil pass0 (pa_cons (pe_split (pv 8) pe_str) pa_nil)) pa_nil)) (nomark _)))))
          (pss_one (ps_ret pe_bl))
          pss_nil)
        (pss_cons (ps_set (i := 10) sc_law.nd rfl (.inl rfl) (pe_ifExp (pt_cmpR op_notN (pv 9) pe_non (nomark _)) (pe_lamcall (T := (lamTab Pt)) (c := c) (P := Pt) (k := 6) (by rfl) T.g_law_heard T.F_law_heard.kp lk hcd hbd sc_law_heard rfl (.inl rfl) (heard_gives T) TB rfl (List.mem_singleton.mpr rfl) (fun p hp _ => by rw [List.mem_singleton.mp hp]; rfl) (hr.mono (by decide)) (lamS_by (sc := defScope s_law) (by decide +kernel)) rfl (fun _ _ _ _ _ => rfl) (fun A outer s H E f c' hr2 => (pe_call (ok_parts_of T) (hr2.mono (by decide)) (by rfl) T.g_parts_of T.F_parts_of.kp T.b_parts_of .nil (passes_call (takes_of rfl rfl rfl rfl) (fun _ _ _ _ h => h)) (pa_cons (pv 8) pa_nil)))) pe_non))
        (pss_cons (ps_if (PW.pt (pw_and (pt_cmpR op_notN (pv 9) pe_non (nomark _)) (pw_and1 (PW.pt (pw_or (pt_not (pt_val (pe_callB call_isiX (by rfl) T.m_isinstance (by decide +kernel) (pa_cons (pv 10) (pa_cons (pe_glob (v := .ref T.e_BadLine.C) (by rfl) T.e_BadLine.gC rfl) pa_nil))))) (pw_or1 (pt_cmpR op_ne (pe_callB (call_reprD hg hr.units) (by rfl) T.m_repr (by decide +kernel) (pa_cons (pe_tup (pa_cons (pe_xp (pv 10)) (pa_cons (pe_xp (pv 10)) pa_nil))) pa_nil)) (pe_callB (call_reprD hg hr.units) (by rfl) T.m_repr (by decide +kernel) (pa_cons (pe_tup (pa_cons pe_int (pa_cons (pv 9) pa_nil))) pa_nil)) (nomark _))))))))
          (pss_one (ps_ret pe_bl))
          pss_nil)
        (pss_one (ps_for PassesOwn.never rfl (pi_list (pe_split (pv 8) pe_str)) (pg_name (i := 11) sc_law.nd rfl (.inl rfl))
          (pss_cons (ps_set (i := 12) sc_law.nd rfl (.inl rfl) (pe_lst (pa_cons (pe_call (ok_law_is_name T) (hr.mono (by decide)) (by rfl) T.g_law_is_name T.F_law_is_name.kp T.b_law_is_name .nil pass0 (pa_cons (pv 11) pa_nil)) (pa_cons (pe_call (ok_law_is_plain T) (hr.mono (by decide)) (by rfl) T.g_law_is_plain T.F_law_is_plain.kp T.b_law_is_plain .nil pass0 (pa_cons (pv 11) pa_nil)) pa_nil))))
          (pss_one (ps_if (PW.pt (pw_or (pt_cmpR op_ne (pe_callB (call_reprD hg hr.units) (by rfl) T.m_repr (by decide +kernel) (pa_cons (pe_lst (pa_cons (pe_call (ok_is_name T) (hr.mono (by decide)) (by rfl) T.g_is_name T.F_is_name.kp T.b_is_name .nil pass0 (pa_cons (pv 11) pa_nil)) (pa_cons (pe_callK0 (ok_is_plain T) (hr.mono (by decide)) (by rfl) T.g_is_plain T.F_is_plain.kp (kb_is_plain_0_value T) pass0 (pk_cons (pv 11) pk_nil)) pa_nil))) pa_nil)) (pe_callB (call_reprD hg hr.units) (by rfl) T.m_repr (by decide +kernel) (pa_cons (pv 12) pa_nil)) (nomark _)) (pw_or1 (pt_cmpR op_ne (pe_callB (call_reprD hg hr.units) (by rfl) T.m_repr (by decide +kernel) (pa_cons (pe_lst (pa_cons (pe_callK0 (ok_is_name T) (hr.mono (by decide)) (by rfl) T.g_is_name T.F_is_name.kp (kb_is_name_0_value T) pass0 (pk_cons (pv 11) pk_nil)) (pa_cons (pe_call (ok_is_plain T) (hr.mono (by decide)) (by rfl) T.g_is_plain T.F_is_plain.kp T.b_is_plain .nil pass0 (pa_cons (pv 11) pa_nil)) pa_nil))) pa_nil)) (pe_callB (call_reprD hg hr.units) (by rfl) T.m_repr (by decide +kernel) (pa_cons (pv 12) pa_nil)) (nomark _)))))
            (pss_one (ps_ret pe_bl))
            pss_nil)))))))))))))))))
    (pss_cons (ps_set (i := 13) sc_law.nd rfl (.inr rfl) (pe_call (ok_law_pick T) (hr.mono (by decide)) (by rfl) T.g_law_pick T.F_law_pick.kp T.b_law_pick .nil pass0 (pa_cons (pv 1) (pa_cons (pe_lst (pa_cons pe_non (pa_cons pe_int (pa_cons pe_bl (pa_cons (pe_lst (pa_cons pe_str pa_nil)) (pa_cons (pe_tup (pa_cons pe_str (pa_cons pe_str pa_nil))) pa_nil)))))) pa_nil))))
    (pss_cons (ps_set (i := 10) sc_law.nd rfl (.inl rfl) (pe_lamcall (T := (lamTab Pt)) (c := c) (P := Pt) (k := 6) (by rfl) T.g_law_heard T.F_law_heard.kp lk hcd hbd sc_law_heard rfl (.inl rfl) (heard_gives T) TB rfl (List.mem_singleton.mpr rfl) (fun p hp _ => by rw [List.mem_singleton.mp hp]; rfl) (hr.mono (by decide)) (lamS_by (sc := defScope s_law) (by decide +kernel)) rfl (fun _ _ _ _ _ => rfl) (fun A outer s H E f c' hr2 => (pe_call (ok_parts_of T) (hr2.mono (by decide)) (by rfl) T.g_parts_of T.F_parts_of.kp T.b_parts_of .nil (passes_call (takes_of rfl rfl rfl rfl) (fun _ _ _ _ h => h)) (pa_cons (pv 13) pa_nil)))))
    (pss_cons (ps_set (i := 14) sc_law.nd rfl (.inl rfl) (pe_lst (pa_cons pe_non (pa_cons pe_int (pa_cons pe_str (pa_cons (pe_tup pa_nil) (pa_cons (pe_tup (pa_cons pe_str pa_nil)) (pa_cons (pe_tup (pa_cons pe_str pa_nil)) (pa_cons (pe_tup (pa_cons pe_str (pa_cons pe_int pa_nil))) (pa_cons (pe_tup (pa_cons pe_str (pa_cons (pe_tup (pa_cons pe_str (pa_cons pe_int pa_nil))) pa_nil))) (pa_cons (pe_tup (pa_cons pe_str (pa_cons (pe_tup (pa_cons pe_str (pa_cons (pe_un un_neg pe_int) pa_nil))) pa_nil))) (pa_cons (pe_tup (pa_cons pe_str (pa_cons (pe_tup (pa_cons pe_str (pa_cons pe_bl pa_nil))) pa_nil))) (pa_cons (pe_tup (pa_cons pe_str (pa_cons (pe_tup (pa_cons pe_str (pa_cons pe_int pa_nil))) pa_nil))) (pa_cons (pe_tup (pa_cons pe_str (pa_cons (pe_tup (pa_cons pe_str (pa_cons pe_int (pa_cons pe_int (pa_cons pe_int pa_nil))))) pa_nil))) (pa_cons (pe_tup (pa_cons pe_str (pa_cons (pe_tup (pa_cons pe_str (pa_cons pe_str pa_nil))) pa_nil))) pa_nil)))))))))))))))
    (pss_cons (ps_set (i := 14) sc_law.nd rfl (.inl rfl) (pe_op op_cat (pv 14) (pe_lst (pa_cons (pe_tup (pa_cons pe_str (pa_cons pe_int pa_nil))) (pa_cons (pe_tup (pa_cons pe_str (pa_cons pe_str pa_nil))) (pa_cons (pe_tup (pa_cons pe_str (pa_cons pe_str pa_nil))) (pa_cons (pe_tup (pa_cons pe_str (pa_cons pe_int (pa_cons (pe_tup (pa_cons pe_str (pa_cons pe_int pa_nil))) pa_nil)))) (pa_cons (pe_tup (pa_cons pe_str (pa_cons (pe_tup (pa_cons pe_str (pa_cons pe_int pa_nil))) pa_nil))) (pa_cons (pe_tup (pa_cons pe_str (pa_cons pe_int pa_nil))) (pa_cons (pe_tup (pa_cons pe_str (pa_cons pe_str (pa_cons (pe_tup (pa_cons pe_str (pa_cons pe_int pa_nil))) pa_nil)))) (pa_cons (pe_tup (pa_cons pe_str (pa_cons (pe_tup (pa_cons pe_str (pa_cons pe_int (pa_cons pe_int pa_nil)))) pa_nil))) (pa_cons (pe_tup (pa_cons pe_str (pa_cons pe_str pa_nil))) (pa_cons (pe_tup (pa_cons pe_non (pa_cons pe_int pa_nil))) (pa_cons (pe_tup (pa_cons pe_str (pa_cons (pe_tup (pa_cons pe_non (pa_cons pe_int pa_nil))) pa_nil))) (pa_cons (pe_tup (pa_cons pe_str (pa_cons pe_str pa_nil))) pa_nil)))))))))))))))
    (pss_cons (ps_setLc (i := 16) (own := [("value", 15)]) rfl sc_law.nd rfl rfl (sw_true rfl rfl rfl (by decide +kernel)) (pi_list (pv 14)) (blkOk_by (own := [("value", 15)]) (N := ["script", "spire", "turn", "items", "line", "due", "part", "lap", "bent", "wrong", "caught", "item", "kinds", "odd", "none", "value", "heard", "each"]) (sc := defScope s_law) (by decide +kernel)) (fun _ _ _ _ _ => (pg_name (i := 15) sc_law.nd rfl (.inr rfl))) (fun _ _ _ _ _ => pts_nil) (fun _ _ _ _ _ => (pe_lamcall (T := (lamTab Pt)) (TT := TTh T.e_BadLine.C T.e_BadProgram.C) (c := c) (P := Pt) (k := 7) (by rfl) T.g_law_heard T.F_law_heard.kp lk hcd hbd sc_law_heard rfl (.inl rfl) (heard_givesK T rfl rfl rfl) TB rfl (List.mem_singleton.mpr rfl) (fun p hp _ => by rw [List.mem_singleton.mp hp]; rfl) (hr.mono (by decide)) (lamS_by (sc := { kind := ScopeKind.function, names := [(".0", NameKind.local), ("value", NameKind.cell), ("_law_heard", NameKind.globalImplicit)], isGenerator := false, isCoroutine := false }) (by decide +kernel)) rfl (fun _ _ _ _ _ => rfl) (fun A outer s H E f c' hr2 => (pe_call (ok_line_of T) (hr2.mono (by decide)) (by rfl) T.g_line_of T.F_line_of.kp T.b_line_of .nil (passes_call (takes_of rfl rfl rfl rfl) (fun _ _ _ _ h => h)) (pa_cons (pv 15) pa_nil))))))
    (pss_cons (ps_if (PW.pt (pw_or (pt_cmpR (op_neD hr.units) (pe_lc (own := [("each", 17)]) rfl sc_law.nd (pi_list (pv 16)) (blkOk_by (own := [("each", 17)]) (N := ["script", "spire", "turn", "items", "line", "due", "part", "lap", "bent", "wrong", "caught", "item", "kinds", "odd", "none", "value", "heard", "each"]) (sc := defScope s_law) (by decide +kernel)) (fun _ _ _ _ _ => (pg_name (i := 17) sc_law.nd rfl (.inl rfl))) (fun _ _ _ _ _ => pts_one (PW.pt (pw_or (pt_not (pt_val (pe_callB (inK_call_isiX (K := K) rfl) (by rfl) T.m_isinstance (by decide +kernel) (pa_cons (pv 17) (pa_cons (pe_glob (v := .ref T.e_BadProgram.C) (by rfl) T.e_BadProgram.gC rfl) pa_nil))))) (pw_or1 (pt_cmpR op_ne (inK_pe_xp (K := K) rfl (pv 17)) pe_str (nomark _)))))) (fun _ _ _ _ _ => (pv 17))) (pe_lst pa_nil) (nomark _)) (pw_or1 (pt_cmpR op_notBI (pe_call (ok_is_name T) (hr.mono (by decide)) (by rfl) T.g_is_name T.F_is_name.kp T.b_is_name .nil pass0 (pa_cons (pv 13) pa_nil)) pe_bl (nomark _)))))
      (pss_one (ps_ret pe_bl))
      pss_nil)
    (pss_cons (ps_if (pt_cmpR op_notBI (pe_call (ok_is_plain T) (hr.mono (by decide)) (by rfl) T.g_is_plain T.F_is_plain.kp T.b_is_plain .nil pass0 (pa_cons (pv 13) pa_nil)) pe_bl (nomark _))
      (pss_one (ps_ret pe_bl))
      pss_nil)
    (pss_one (ps_ret (pe_and (pe_callB call_isiX (by rfl) T.m_isinstance (by decide +kernel) (pa_cons (pv 10) (pa_cons (pe_glob (v := .ref T.e_BadLine.C) (by rfl) T.e_BadLine.gC rfl) pa_nil))) (pe_one (pe_cmpR (op_eqD hr.units) (pe_tup (pa_cons (pe_xp (pv 10)) (pa_cons (pe_xp (pv 10)) pa_nil))) (pe_tup (pa_cons pe_int (pa_cons pe_int pa_nil))) (nomark _))))))))))))))), ?_⟩
    refine go_seq (go_asg ⟨_, rfl, s0, ns, rfl, hs, fun a c H1 na e1 w0 => ?_⟩)
    have T1 : Tabs (lamTab Pt) H1 := fun p hp => by
      rw [List.mem_singleton.mp hp]
      exact TabS.nil (e1 _ _ hP)
    clear hP na e1 hs
    dsimp only [gName]
    refine go_seq ⟨6, rfl, by decide, by decide, for_range (lo := 0) (n := 6) (fun i σ H' => ∃ (o2 o3 o4 o5 o6 o7 o8 o9 o10 o11 o12 o13 o14 o15 o16 o17 : Option V), σ = [some (.ref s0), some (.ref a), o2, o3, o4, o5, o6, o7, o8, o9, o10, o11, o12, o13, o14, o15, o16, o17] ∧ Wh H' a c (1000 * i) ∧ Tabs (lamTab Pt) H') ⟨none, none, none, none, none, none, none, none, none, none, none, none, none, none, none, none, rfl, w0, T1⟩ (fun i σ' Hc hi h => ?_) (fun σ' Hc h => ?_)⟩
    · obtain ⟨o2, o3, o4, o5, o6, o7, o8, o9, o10, o11, o12, o13, o14, o15, o16, o17, rfl, wi, Ti⟩ := h
      dsimp only [gName]
      -- a line and its parts
      refine go_seq (go_asg ⟨_, rfl, a, c, _, rfl, wi, by omega, fun z r p H2 hl m2 _ hp w2 => ?_⟩)
      have T2 := Tabs.mv Ti wi m2
      clear m2 wi Ti
      dsimp only [gName]
      have hb := line_bt hl
      have hlen := line_len hl
      have hne : z :: r ≠ [] := by simp
      have lw := line_none hl
      obtain ⟨hlz, hlzE⟩ : ∃ lz : Str, lz = Txt.join " " (z :: r) := ⟨_, rfl⟩
      have hiz : itemsOf hlz = z :: r := by rw [hlzE]; exact items_join hne hb
      have hzl : hlz.length ≤ 90000 := by
        rw [hlzE]
        have := join_len (bt_20 hb)
        omega
      refine go_seq ⟨⟨_, rfl⟩, _, rfl, " ", p, z :: r, rfl, rfl, .inl (.inl (.inl hp)), sum_join (bt_20 hb) (by omega), ?_⟩
      refine ⟨_, rfl, p, z, r, rfl, .inl (.inl hp), fun y hy => (hb y hy).it, hl, fun D H3 s3 hD => ⟨_, _, rfl, ?_⟩⟩
      rw [← hlzE]
      have T3 := Tabs.same T2 s3
      have w3 := w2.same s3
      have hp3 := s3 _ _ hp
      clear T2 w2 hp s3
      dsimp only
      have sh1 := parts_sh hl
      have sh2 : Sh 3 3000 (.list [.tuple (partsD (z :: r)), .tuple (partsD (z :: r))]) := (shA_all (k := 2) (m := 1000) (ds := [.tuple (partsD (z :: r)), .tuple (partsD (z :: r))]) (fun d hd => by
        have : d = .tuple (partsD (z :: r)) := by simpa using hd
        rw [this]
        exact sh1)).lst.up (Nat.le_refl _) (show 2 * (1000 + 1) ≤ 3000 by decide)
      obtain ⟨f1, f2, f3⟩ := parts_fit hl
      obtain ⟨g1, g2, g3, g4⟩ := parts_list hl
      have askP : ∀ {Hx : Hp} {Q1 : VK} {E1 : XK}, (∀ q' H', Same Hx H' → Dp K H' (.ref q') (.tuple (partsD (z :: r))) → Q1 (.ref q') H') → sp_parts_of T.e_BadLine.C K [.str hlz] Hx Q1 E1 := fun {Hx Q1 E1} h => ⟨.str hlz, .str hlz, rfl, .str hlz, .inr ⟨hlz, rfl, hzl, fun n hn => absurd hn (by rw [hiz, lw]; simp), fun _ q' H' e hd => h q' H' e (by rw [hiz] at hd; exact hd)⟩⟩
      refine go_seq (go_if (go_or2 (nerepr_t _ sh2 (by decide) (by decide) (fun Q1 k => ?_) (fun H0 e0 Q1 k => ?_) (fun H4 e4 => ?_))))
      · refine go_lst (go_cons (go_call (go_cons (go_var rfl (go_nil (askP fun q1 H5 e1 d1 => ?_))))))
        refine go_cons (go_callK (go_nil (go_cons (go_var rfl (go_nil (askP fun q2 H6 e2 d2 => go_nil ⟨by show 2 ≤ sizeLine; decide, fun L nL => k L _ ((e1.trans e2).trans (same_new nL)) ?_⟩))))))
        have sL := same_new (o := HO.lst [V.ref q1, V.ref q2]) nL
        exact .lst (.inl (.inl upd_same)) (.cons (dp_same (e2.trans sL) _ _ d1) (.cons (dp_same sL _ _ d2) .nil))
      · have hD0 := dp_same e0 _ _ hD
        refine go_lst (go_cons (go_var rfl (go_cons (go_var rfl (go_nil ⟨by show 2 ≤ sizeLine; decide, fun L nL => k L _ (same_new nL) ?_⟩)))))
        have sL := same_new (o := HO.lst [V.ref D, V.ref D]) nL
        exact .lst (.inl (.inl upd_same)) (.cons (dp_same sL _ _ hD0) (.cons (dp_same sL _ _ hD0) .nil))
      · refine iteF (A := _) ?_
        have hD4 := dp_same e4 _ _ hD
        have T4 := Tabs.same T3 e4
        have w4 := w3.same e4
        have hp4 := e4 _ _ hp3
        clear T3 w3 hp3 hD
        refine go_test (go_op ⟨_, rfl, .ref D, .tuple (partsD (z :: r)), rfl, hD4, f1, fun ds e => by cases e; omega, .inr ⟨g1, fun ds e H5 s5 => ?_⟩⟩)
        cases e
        rw [g2, ← hlzE]
        refine ⟨_, rfl, rfl, false, by rw [ne_self], ?_⟩
        refine iteF (A := _) ?_
        dsimp only [tNext]
        have hD5 := dp_same s5 _ _ hD4
        have T5 := Tabs.same T4 s5
        have w5 := w4.same s5
        have hp5 := s5 _ _ hp4
        clear T4 w4 hp4 hD4
        obtain ⟨dv, hDs, hDd⟩ : ∃ dv, SqT K H5 D dv ∧ DpAll K H5 dv (partsD (z :: r)) := by
          cases hD5 with
          | tup h1 h2 => exact ⟨_, h1, h2⟩
        have ldv := dpAll_len hDd
        -- parts as lists
        refine go_seq (go_if (go_test (go_op ?_)))
        refine ⟨_, rfl, D, rfl, ⟨_, hDs⟩, fun N nN => lc_it (walk_tup (xs := dv)) (fun i Hc => ∃ ws, Hc N = some (.lst ws) ∧ ws.length = i ∧ DpAll K (er N Hc) ws (((partsD (z :: r)).map listD).take i) ∧ Mv N H5 Hc) ⟨[], upd_same, rfl, .nil, Mv.upd _ _ _⟩ (fun i Hc _ ⟨ws, _, _, _, mv⟩ => sqT_mv nN mv hDs) (fun i x Hc Hx hi hP hy => ?_) (fun Hc hP => ?_)⟩
        · obtain ⟨ws, hN, lws, hd, mv⟩ := hP
          obtain ⟨rfl, hx⟩ := hy
          obtain ⟨d, hd1, hd2⟩ := dpAll_get hDd hx
          have sN := mv.same nN
          have hx6 := dp_same sN _ _ hd2
          have lmt : ws.length < sizeLine := by
            rw [lws]
            exact Nat.lt_of_lt_of_le (show i < 11 by omega) (by decide)
          have tk : ((partsD (z :: r)).map listD).take (i + 1) = ((partsD (z :: r)).map listD).take i ++ [listD d] := take_snoc (by rw [List.getElem?_map, hd1]; rfl)
          have fin : ∀ (y : V) (H7 : Hp), Same Hx H7 → Dp K (er N H7) y (listD d) → ∃ acc, H7 N = some (.lst acc) ∧ acc.length < sizeLine ∧ ∃ ws, upd H7 N (.lst (acc ++ [y])) N = some (.lst ws) ∧ ws.length = i + 1 ∧ DpAll K (er N (upd H7 N (.lst (acc ++ [y])))) ws (((partsD (z :: r)).map listD).take (i + 1)) ∧ Mv N H5 (upd H7 N (.lst (acc ++ [y]))) := fun y H7 s7 hy => by
            have m7 : Mv N H7 (upd H7 N (.lst (ws ++ [y]))) := Mv.upd _ _ _
            refine ⟨ws, s7 _ _ hN, lmt, ws ++ [y], upd_same, by rw [List.length_append, lws]; rfl, ?_, (mv.trans (Mv.of s7)).trans m7⟩
            rw [tk]
            exact dpAll_app (dpAll_same (er_mv m7) (dpAll_same (er_same s7) hd)) (.cons (dp_same (er_mv m7) _ _ hy) .nil)
          have noN : ∀ {o : HO}, H5 N ≠ some o := fun {o} e => by rw [nN] at e; cases e
          have sE : Same H5 (er N Hx) := fun b o e => er_at (fun q' => by rw [q', nN] at e; cases e) (sN b o e)
          have hxE := dp_same sE _ _ hd2
          dsimp only [gName]
          refine ⟨rfl, iteT (B := True) ?_⟩
          refine go_ife (go_b (go_cb (go_cons (go_var rfl (go_cons (go_c (go_nil (.inl ⟨x, _, _, _, isT d, rfl, .ty _, dp_ty hx6, kit_ty (dp_isT hx6), _, rfl, ?_⟩))))))))
          cases hT : isT d with
          | true =>
            obtain ⟨es, rfl⟩ : ∃ es, d = .tuple es := by cases d <;> first | exact ⟨_, rfl⟩ | cases hT
            obtain ⟨ta, ys, rfl, hq1, hq2⟩ : ∃ ta ys, x = .ref ta ∧ SqT K (er N Hx) ta ys ∧ DpAll K (er N Hx) ys es := by
              cases hxE with
              | tup h1 h2 => exact ⟨_, _, rfl, h1, h2⟩
            refine iteT (B := _) (go_cb (go_cons (go_var rfl (go_nil ⟨ta, ys, rfl, .inr (Same.t er_le hq1), fun l nl => ?_⟩))))
            have nlN : l ≠ N := fun q' => by rw [q', hN] at nl; cases nl
            refine fin _ _ (same_new nl) (.lst (.inl (.inl (er_at nlN upd_same))) (dpAll_same (er_same (same_new nl)) hq2))
          | false =>
            have : listD d = d := by cases d <;> first | rfl | cases hT
            refine iteF (A := _) (go_var rfl (fin _ _ (Same.refl _) ?_))
            rw [this]
            exact hxE
        · obtain ⟨ws, hN, lws, hd, mv⟩ := hP
          rw [List.take_of_length_le (by rw [List.length_map]; omega)] at hd
          have s6 := mv.same nN
          have dN : Dp K Hc (.ref N) (.list ((partsD (z :: r)).map listD)) := .lst (.inl (.inl hN)) (dpAll_same er_le hd)
          refine go_nil ⟨.ref N, .list ((partsD (z :: r)).map listD), rfl, dN, f2, fun ds e => by cases e; rw [List.length_map]; omega, .inr ⟨g3, fun ds e H6 s7 => ?_⟩⟩
          cases e
          rw [g4, ← hlzE]
          refine ⟨_, rfl, rfl, false, by rw [ne_self], ?_⟩
          refine iteF (A := _) ?_
          dsimp only [tNext]
          have s67 := s6.trans s7
          have T6 := Tabs.same T5 s67
          have w6 := w5.same s67
          have hp6 := s67 _ _ hp5
          clear T5 w5 hp5 hD5 hDs hDd dN hd hN mv s6 s7 s67 sh1 sh2 askP
          -- three laps
          refine ⟨3, rfl, by decide, by decide, for_range (lo := 0) (n := 3) (fun j σ H' => ∃ (o6 o7 o8 o9 o10 o11 o12 : Option V), σ = [some (.ref s0), some (.ref a), some (.int (0 + (i : Int))), some (.ref p), some (.str hlz), some (.ref D), o6, o7, o8, o9, o10, o11, o12, o13, o14, o15, o16, o17] ∧ Wh H' a c (1000 * i + 80 + 100 * j) ∧ Tabs (lamTab Pt) H' ∧ H' p = some (.lst ((z :: r).map V.str))) ⟨_, _, _, _, _, _, _, rfl, w6.lt (by omega), T6, hp6⟩ (fun j σ' Hc hj h => ?_) (fun σ' Hc h => ?_)⟩
          · obtain ⟨o6, o7, o8, o9, o10, o11, o12, rfl, wj, Tj, hpj⟩ := h
            dsimp only [gName]
            have pa : p ≠ a := fun e => by
              obtain ⟨o, ho⟩ := wj.held
              rw [← e, hpj] at ho
              obtain ⟨cs, tt, ll, g1, _⟩ := wj
              rw [← e, hpj] at g1
              cases g1
            -- a bent line
            refine go_seq (go_asg ⟨⟨_, rfl⟩, ?_⟩)
            refine go_call (go_cons (go_var rfl (go_cons ?_)))
            refine midV (fun v H' => ∃ (b : Addr) (its : List Str), v = .ref b ∧ its ≠ [] ∧ its.length ≤ 7 ∧ (∀ y ∈ its, BtOk y) ∧ Mv a Hc H' ∧ H' b = some (.lst (its.map V.str)) ∧ Wh H' a c (1000 * i + 80 + 100 * j + 3)) (fun Q1 k => ?_) (fun v H7 hv => ?_)
            · refine go_ife (go_test (go_op (go_var rfl (go_c ⟨_, _, rfl, rfl, _, rfl, iteC (fun e => ?_) (fun e => ?_)⟩))))
              · exact go_var rfl (k _ _ ⟨p, z :: r, rfl, hne, by omega, hb, Mv.refl _ _, hpj, wj.lt (by omega)⟩)
              · refine go_call (go_cons (go_var rfl (go_cons (go_var rfl (go_nil ⟨a, c, p, _, z :: r, rfl, wj, by omega, .inl (.inl hpj), hne, by omega, hb, fun its b H' h1 h2 h3 m _ hb' w' => k _ _ ⟨b, its, rfl, h1, by omega, h3, m, hb', w'⟩⟩)))))
            obtain ⟨b1, its1, rfl, ne1, len1, bt1, m7, hb1, w7⟩ := hv
            refine go_nil ⟨a, c, b1, _, its1, rfl, w7, by omega, .inl (.inl hb1), ne1, by omega, bt1, fun its b2 H8 ne2 len2 bt2 m8 nb2 hb2 w8 => ?_⟩
            have m78 := m7.trans m8
            have hp8 := m78 _ _ pa hpj
            have T8 := Tabs.mv Tj wj m78
            clear m7 m8 m78 hb1 w7 bt1 ne1 nb2 Tj hpj
            refine ⟨" ", b2, its, rfl, rfl, .inl (.inl (.inl hb2)), sum_join (bt_20 bt2) (by omega), ?_⟩
            obtain ⟨bz, hbz⟩ : ∃ bz : Str, bz = Txt.join " " its := ⟨_, rfl⟩
            rw [← hbz]
            have ib : itemsOf bz = its := by rw [hbz]; exact items_join ne2 bt2
            have bl : bz.length ≤ 1000 := by
              rw [hbz]
              have := join_len (bt_20 bt2)
              omega
            have SPL : Txt.split bz " " = its := by rw [← items_split]; exact ib
            have itk : ∀ y ∈ its, ItOk y := fun y hy => (bt2 y hy).it
            have sbl : bz.length + 2 ≤ sizeLine := Nat.le_trans (show bz.length + 2 ≤ 2000 by omega) (by decide)
            clear hbz
            dsimp only [gName]
            -- what is wrong
            refine go_seq (go_asg (go_call (go_cons ⟨_, rfl, ⟨_, rfl⟩, bz, " ", rfl, rfl, rfl, sbl, fun p3 n3 => ?_⟩)))
            rw [SPL]
            refine go_nil ⟨p3, its, rfl, .inl (.inl upd_same), itk, ne2, fun H9 e9 => ?_⟩
            have e89 := (same_new (o := HO.lst (its.map V.str)) n3).trans e9
            have w9 := w8.same e89
            have T9 := Tabs.same T8 e89
            have hp9 := e89 _ _ hp8
            clear e89 e9 n3 w8 T8 hp8 hb2
            dsimp only [gName]
            refine go_seq (midS (fun σ' H' => σ' = [some (.ref s0), some (.ref a), some (.int (0 + (i : Int))), some (.ref p), some (.str hlz), some (.ref D), o6, some (.int (0 + (j : Int))), some (.str bz), some (optV (wrongP its)), o10, o11, o12, o13, o14, o15, o16, o17] ∧ Same H9 H') (fun D1 hD1 => ?_) (fun σ' H10 hR => ?_))
            · refine go_if (go_and2 (go_test (go_op (go_var rfl (go_c ⟨rfl, _, rfl, ?_⟩)))))
              cases hw : wrongP its with
              | some k => exact iteF (A := _) (iteF (A := _) (hD1 _ _ ⟨by rw [hw]; rfl, Same.refl _⟩))
              | none =>
                obtain ⟨z2, r2, rfl⟩ : ∃ z2 r2, its = z2 :: r2 := by
                  cases its with
                  | nil => exact absurd rfl ne2
                  | cons x r => exact ⟨x, r, rfl⟩
                have hl2 := line_of_none hw
                refine iteT (B := _) (nerepr_t _ (parts_sh hl2) (by decide) (by decide) (fun Q1 k => ?_) (fun H0 e0 Q1 k => ?_) (fun H10 e10 => iteF (A := _) (hD1 _ _ ⟨by rw [hw]; rfl, e10⟩)))
                · refine go_call (go_cons (go_var rfl (go_nil ⟨.str bz, .str bz, rfl, .str bz, .inr ⟨bz, rfl, by omega, fun n hn => absurd hn (by rw [ib, hw]; simp), fun _ q' H' e hd => k q' H' e (by rw [ib] at hd; exact hd)⟩⟩)))
                · refine go_call (go_cons ⟨_, rfl, ⟨_, rfl⟩, bz, " ", rfl, rfl, rfl, sbl, fun p4 n4 => ?_⟩)
                  rw [SPL]
                  exact go_nil ⟨p4, z2, r2, rfl, .inl (.inl upd_same), itk, hl2, fun q' H' e hd => k q' H' ((same_new n4).trans e) hd⟩
            obtain ⟨rfl, e10⟩ := hR
            have w10 := w9.same e10
            have T10 := Tabs.same T9 e10
            have hp10 := e10 _ _ hp9
            clear w9 T9 hp9 e10
            dsimp only
            -- what is heard
            refine go_seq (midS (fun σ' H' => ∃ v10 : V, σ' = [some (.ref s0), some (.ref a), some (.int (0 + (i : Int))), some (.ref p), some (.str hlz), some (.ref D), o6, some (.int (0 + (j : Int))), some (.str bz), some (optV (wrongP its)), some v10, o11, o12, o13, o14, o15, o16, o17] ∧ Wh H' a c (1000 * i + 80 + 100 * j + 3 + 3) ∧ Tabs (lamTab Pt) H' ∧ H' p = some (.lst ((z :: r).map V.str)) ∧ ∀ k, wrongP its = some k → ∃ e dd : Addr, v10 = .ref e ∧ H' e = some (exT e (.ref T.e_BadLine.C) (some dd)) ∧ H' dd = some (.xd [("item", .int (k : Int)), ("line", .int 0)])) (fun D1 hD1 => ?_) (fun σ' H11 hR => ?_))
            · refine go_asg (go_ife (go_test (go_op (go_var rfl (go_c ⟨rfl, _, rfl, ?_⟩)))))
              cases hw : wrongP its with
              | none => exact iteF (A := _) (go_c (hD1 _ _ ⟨.non, by rw [hw]; rfl, w10, T10, hp10, fun k hk => by rw [hw] at hk; cases hk⟩))
              | some k =>
                refine iteT (B := _) ⟨T10, fun H11 x11 T11 N hN => ?_⟩
                refine go_call (go_cons (go_var rfl (go_nil ⟨.str bz, .str bz, rfl, .str bz, .inr ⟨bz, rfl, by omega, fun n hn d H12 e12 hd => ⟨d, rfl, .inl ⟨_, _, rfl, hd, fun e H13 e13 he => ?_⟩⟩, fun hn => absurd hn (by rw [ib, hw]; simp)⟩⟩)))
                have hnk : n = k := by rw [ib, hw] at hn; exact (Option.some.inj hn).symm
                subst hnk
                have e113 := e12.trans e13
                refine hD1 _ _ ⟨.ref e, by rw [hw]; rfl, (w10.ext x11).same e113, Tabs.same T11 e113, e113 _ _ (ext_at x11 hp10), fun k' hk' => ?_⟩
                rw [hw] at hk'
                cases hk'
                exact ⟨e, d, rfl, he, e13 _ _ hd⟩
            obtain ⟨v10, rfl, w11, T11, hp11, hE⟩ := hR
            clear w10 T10 hp10
            dsimp only
            refine go_seq (midS (fun σ' H' => σ' = [some (.ref s0), some (.ref a), some (.int (0 + (i : Int))), some (.ref p), some (.str hlz), some (.ref D), o6, some (.int (0 + (j : Int))), some (.str bz), some (optV (wrongP its)), some v10, o11, o12, o13, o14, o15, o16, o17] ∧ Same H11 H') (fun D1 hD1 => ?_) (fun σ' H12 hR => ?_))
            · refine go_if (go_and2 (go_test (go_op (go_var rfl (go_c ⟨rfl, _, rfl, ?_⟩)))))
              cases hw : wrongP its with
              | none => exact iteF (A := _) (iteF (A := _) (hD1 _ _ ⟨by rw [hw], Same.refl _⟩))
              | some k =>
                have kle := wrong_le hw
                obtain ⟨e, dd, rfl, he, hdd⟩ := hE k hw
                refine iteT (B := _) (go_or2 (go_not (go_b ⟨_, rfl, .inr ⟨e, T.e_BadLine.C, dd, _, .ref T.e_BadLine.C, .ref T.e_BadLine.C, true, rfl, he, hdd, T.e_BadLine.exc, fun u r => r, kitOne_self, _, rfl, iteF (A := _) ?_⟩⟩)))
                refine nerepr_t (k := 1) (m := 4) (.tuple [.int 0, .int (k : Int)]) ?_ (by decide) (by decide) (fun Q1 kk => ?_) (fun H0 e0 Q1 kk => ?_) (fun H13 e13 => iteF (A := _) (hD1 _ _ ⟨by rw [hw], e13⟩))
                · exact (shA_all (k := 0) (m := 0) (ds := [.int 0, .int (k : Int)]) (fun d hd => by
                    simp only [List.mem_cons, List.not_mem_nil, or_false] at hd
                    rcases hd with rfl | rfl
                    · exact sh_int (by decide)
                    · exact sh_int (by omega))).tup.up (Nat.le_refl _) (show 2 * 1 ≤ 4 by decide)
                · refine go_tup (go_cons ⟨_, rfl, e, T.e_BadLine.C, dd, _, .int 0, rfl, he, hdd, T.e_BadLine.xf, T.e_BadLine.np, rfl, ?_⟩)
                  refine go_cons ⟨_, rfl, e, T.e_BadLine.C, dd, _, .int (k : Int), rfl, he, hdd, T.e_BadLine.xf, T.e_BadLine.np2, rfl, ?_⟩
                  exact go_nil ⟨by show 2 ≤ sizeLine; decide, fun t nt => kk t _ (same_new nt) (.tup (.inl (.inl upd_same)) (.cons (.int _) (.cons (.int _) .nil)))⟩
                · refine go_tup (go_cons (go_c (go_cons (go_var rfl ?_))))
                  exact go_nil ⟨by show 2 ≤ sizeLine; decide, fun t nt => kk t _ (same_new nt) (.tup (.inl (.inl upd_same)) (.cons (.int _) (.cons (.int _) .nil)))⟩
            obtain ⟨rfl, e12⟩ := hR
            have w12 := w11.same e12
            have T12 := Tabs.same T11 e12
            have hp12 := e12 _ _ hp11
            clear w11 T11 hp11 e12 hE
            dsimp only
            -- each item
            refine ⟨_, rfl, ⟨_, rfl⟩, bz, " ", rfl, rfl, rfl, sbl, fun p9 n9 => ?_⟩
            rw [SPL]
            have hp9' : upd H12 p9 (HO.lst (its.map V.str)) p9 = some (.lst (its.map V.str)) := upd_same
            have e13 := same_new (o := HO.lst (its.map V.str)) n9
            generalize upd H12 p9 (HO.lst (its.map V.str)) = H13 at hp9' e13 ⊢
            refine ⟨p9, rfl, ⟨_, .inl (.inl hp9')⟩, for_it (walk_list (xs := its.map V.str)) (fun m σ H' => ∃ (o11 o12 : Option V), σ = [some (.ref s0), some (.ref a), some (.int (0 + (i : Int))), some (.ref p), some (.str hlz), some (.ref D), o6, some (.int (0 + (j : Int))), some (.str bz), some (optV (wrongP its)), some v10, o11, o12, o13, o14, o15, o16, o17] ∧ Same H13 H') ⟨_, _, rfl, Same.refl _⟩ (fun m σ H' _ h => sq_of hp9' h) (fun m x σ Hx Hy hm h hy => ?_) (fun σ Hx h => ?_)⟩
            · obtain ⟨o11, o12, rfl, ex⟩ := h
              obtain ⟨rfl, hx⟩ := hy
              obtain ⟨y, hy1, rfl⟩ := map_at hx
              have yb := bt2 y (List.mem_of_getElem? hy1)
              have yi := yb.it
              have yf : fitD (.str y) = true := decide_eq_true (by have := yb.1; omega)
              clear hm hx hy1
              dsimp only [gName]
              refine go_seq (go_asg (go_lst (go_cons ?_)))
              refine ⟨_, rfl, y, rfl, yi, fun H14 e14 => ⟨_, rfl, y, rfl, yi, fun H15 e15 => ⟨by show 2 ≤ sizeLine; decide, fun L nL => ?_⟩⟩⟩
              have e16 := ((ex.trans e14).trans e15).trans (same_new (o := HO.lst [.bl (nameB y), .bl (plainB y)]) nL)
              have hL : upd H15 L (HO.lst [.bl (nameB y), .bl (plainB y)]) L = some (.lst [.bl (nameB y), .bl (plainB y)]) := upd_same
              generalize upd H15 L (HO.lst [.bl (nameB y), .bl (plainB y)]) = H16 at e16 hL ⊢
              dsimp only [gName]
              have kin : ∀ H0, Same H16 H0 → ∀ Q1 : VK, (∀ b H', Same H0 H' → Dp K H' (.ref b) (.list [.bool (nameB y), .bool (plainB y)]) → Q1 (.ref b) H') → Q1 (.ref L) H0 := fun H0 e0 Q1 k => k L H0 (Same.refl _) (dp_bc (e0 _ _ hL))
              refine go_if (go_or2 (nerepr_t _ (sh_bb (nameB y) (plainB y)) (by decide) (by decide) (fun Q1 k => ?_) (fun H0 e0 Q1 k => go_var rfl (kin H0 e0 Q1 k)) (fun H17 e17 => iteF (A := _) (nerepr_t _ (sh_bb (nameB y) (plainB y)) (by decide) (by decide) (fun Q1 k => ?_) (fun H0 e0 Q1 k => go_var rfl (kin H0 (e17.trans e0) Q1 k)) (fun H18 e18 => iteF (A := _) ?_)))))
              · refine go_lst (go_cons ⟨_, rfl, .str y, .str y, rfl, .str y, yf, ?_⟩)
                refine go_cons (go_callK (go_nil (go_cons (go_var rfl (go_nil ⟨.str y, .str y, rfl, .str y, yf, go_nil ⟨by show 2 ≤ sizeLine; decide, fun L2 nL2 => k L2 _ (same_new nL2) (dp_bc upd_same)⟩⟩)))))
              · refine go_lst (go_cons (go_callK (go_nil (go_cons (go_var rfl (go_nil ⟨.str y, .str y, rfl, .str y, yf, ?_⟩))))))
                exact go_cons ⟨_, rfl, .str y, .str y, rfl, .str y, yf, go_nil ⟨by show 2 ≤ sizeLine; decide, fun L2 nL2 => k L2 _ (same_new nL2) (dp_bc upd_same)⟩⟩
              · exact ⟨_, _, rfl, (e16.trans e17).trans e18⟩
            · obtain ⟨o11, o12, rfl, ex⟩ := h
              have ee := e13.trans ex
              exact ⟨_, _, _, _, _, _, _, rfl, (w12.same ee).lt (by omega), Tabs.same T12 ee, ee _ _ hp12⟩
          · obtain ⟨o6, o7, o8, o9, o10, o11, o12, rfl, wj, Tj, _⟩ := h
            exact ⟨_, _, _, _, _, _, _, _, _, _, _, _, _, _, _, _, rfl, wj.lt (by omega), Tj⟩
    · obtain ⟨o2, o3, o4, o5, o6, o7, o8, o9, o10, o11, o12, o13, o14, o15, o16, o17, rfl, wi, Ti⟩ := h
      dsimp only
      -- an odd value
      refine go_seq (go_asg (go_call (go_cons (go_var rfl (go_cons (go_lst ?_))))))
      refine litA_use (ds := oddL) (K := K) ?_ (fun vs H2 e2 d2 r2 => ?_)
      · repeat (first | exact lit_nil | exact lit_non | exact lit_bl | exact lit_int | exact lit_neg | exact lit_str | refine lit_cons ?_ ?_ | refine lit_tup ?_ | refine lit_lst ?_)
      have lv := dpAll_len d2
      have w2 := wi.same e2
      have T2 := Tabs.same Ti e2
      refine ⟨by rw [lv]; show 5 ≤ sizeLine; decide, fun b nb => ?_⟩
      have dE : DpAll K (er a H2) vs oddL := r2 a (fun z => by
        obtain ⟨o, ho⟩ := wi.held
        rw [z] at ho
        cases ho)
      refine go_nil (pick_new nb w2 (by omega) (fun e => by rw [e] at lv; cases lv) (by rw [lv]; decide) fun odd H3 hv m3 w3 => ?_)
      have T3 := Tabs.mv T2 w2 m3
      obtain ⟨od', hod, hodd⟩ : ∃ d, d ∈ oddL ∧ Dp K H3 odd d := by
        obtain ⟨k, hk⟩ := List.mem_iff_getElem?.mp hv
        obtain ⟨d, h1, h2⟩ := dpAll_get dE hk
        exact ⟨d, List.mem_of_getElem? h1, dp_same ((er_mv m3).trans er_le) _ _ h2⟩
      obtain ⟨hS, hF⟩ := odd_no od' hod
      clear dE hv m3 w2 T2 nb d2 e2 r2 wi Ti
      dsimp only [gName]
      -- what is heard of it
      refine go_seq (go_asg ⟨T3, fun H4 x4 T4 N hN => ?_⟩)
      have hodd4 := dp_ext x4 _ _ hodd
      refine go_call (go_cons (go_var rfl (go_nil ⟨odd, od', rfl, hodd4, .inl ⟨hS, fun d H5 e5 hd => ⟨d, rfl, .inl ⟨_, _, rfl, hd, fun er0 H6 e6 he => ?_⟩⟩⟩⟩)))
      have hd6 := e6 _ _ hd
      have hodd6 := dp_same (e5.trans e6) _ _ hodd4
      have T6 := Tabs.same T4 (e5.trans e6)
      clear hodd hodd4 T3 T4 x4 hN e5 e6 hd w3
      dsimp only [gName]
      -- values that are no parts
      refine go_seq (go_asg (go_lst ?_))
      refine litA_use (ds := noneL) (K := K) ?_ (fun v1 H7 e7 d7 _ => ?_)
      · repeat (first | exact lit_nil | exact lit_non | exact lit_bl | exact lit_int | exact lit_neg | exact lit_str | refine lit_cons ?_ ?_ | refine lit_tup ?_ | refine lit_lst ?_)
      refine ⟨by rw [dpAll_len d7]; show 13 ≤ sizeLine; decide, fun N1 n1 => ?_⟩
      have e7' := e7.trans (same_new (o := HO.lst v1) n1)
      have d7' := dpAll_same (same_new (o := HO.lst v1) n1) d7
      have h71 : upd H7 N1 (HO.lst v1) N1 = some (.lst v1) := upd_same
      generalize upd H7 N1 (HO.lst v1) = H8 at e7' d7' h71 ⊢
      dsimp only [gName]
      refine go_seq (go_asg (go_op (go_var rfl (go_lst ?_))))
      refine litA_use (ds := noneM) (K := K) ?_ (fun v2 H9 e9 d9 _ => ?_)
      · repeat (first | exact lit_nil | exact lit_non | exact lit_bl | exact lit_int | exact lit_neg | exact lit_str | refine lit_cons ?_ ?_ | refine lit_tup ?_ | refine lit_lst ?_)
      refine ⟨by rw [dpAll_len d9]; show 12 ≤ sizeLine; decide, fun N2 n2 => ⟨N1, N2, _, _, rfl, rfl, (same_new n2) _ _ (e9 _ _ h71), upd_same, by rw [dpAll_len d7', dpAll_len d9]; show 13 + 12 ≤ sizeLine; decide, fun N3 n3 => ?_⟩⟩
      have s9 := (same_new (o := HO.lst v2) n2).trans (same_new (o := HO.lst (v1 ++ v2)) n3)
      have dA : DpAll K (upd (upd H9 N2 (HO.lst v2)) N3 (HO.lst (v1 ++ v2))) (v1 ++ v2) (noneL ++ noneM) := dpAll_app (dpAll_same (e9.trans s9) d7') (dpAll_same s9 d9)
      have hN3 : upd (upd H9 N2 (HO.lst v2)) N3 (HO.lst (v1 ++ v2)) N3 = some (.lst (v1 ++ v2)) := upd_same
      have e10 := (e7'.trans e9).trans s9
      generalize upd (upd H9 N2 (HO.lst v2)) N3 (HO.lst (v1 ++ v2)) = H10 at dA hN3 e10 ⊢
      have T10 := Tabs.same T6 e10
      have he10 := e10 _ _ he
      have hd10 := e10 _ _ hd6
      have hodd10 := dp_same e10 _ _ hodd6
      clear T6 he hd6 hodd6 e10 s9 e9 d9 n2 n3 e7' d7' h71 n1 d7 e7
      dsimp only [gName]
      refine go_seq (go_asg ⟨_, rfl, N3, rfl, ⟨_, .inl (.inl hN3)⟩, fun W nW => lc_it (walk_list (xs := v1 ++ v2)) (fun m Hc => ∃ ws, Hc W = some (.lst ws) ∧ ws.length = m ∧ (∀ y ∈ ws, ErrQ T.e_BadProgram.C W Hc y) ∧ ExtN H10 Hc ∧ Tabs (lamTab Pt) Hc) ⟨[], upd_same, rfl, (fun _ m => nomatch m), ExtN.of (same_new nW), Tabs.same T10 (same_new nW)⟩ (fun m Hc _ h => ?_) (fun m x Hc Hx hm h hy => ?_) (fun Hc h => ?_)⟩)
      · obtain ⟨ws, _, _, _, x1, _⟩ := h
        exact sqL_ext x1 (.inl (.inl hN3))
      · obtain ⟨ws, hW, lws, hws, x1, Tx1⟩ := h
        obtain ⟨rfl, hx⟩ := hy
        obtain ⟨dx, h1, h2⟩ := dpAll_get dA hx
        obtain ⟨no1, no2, no3⟩ := none_no dx (List.mem_of_getElem? h1)
        have lm : ws.length < sizeLine := by
          have := dpAll_len dA
          rw [this] at hm
          rw [lws]
          exact Nat.lt_of_lt_of_le hm (by show 13 + 12 ≤ sizeLine; decide)
        dsimp only [gName]
        refine ⟨rfl, iteT (B := True) ⟨Tx1, fun H11 x11 T11 N hN => ?_⟩⟩
        refine go_call (go_cons (go_var rfl (go_nil ⟨x, dx, rfl, dp_ext (x1.trans x11) _ _ h2, no2, no3, .inl ⟨no1, fun d H12 e12 hd => ⟨d, rfl, .inr ⟨_, rfl, hd, fun e H13 e13 he => ?_⟩⟩⟩⟩)))
        have e113 := e12.trans e13
        have hW13 := e113 _ _ (ext_at x11 hW)
        have xx : ExtN Hx H13 := x11.trans (ExtN.of e113)
        have eW : e ≠ W := fun z => by
          rw [z, hW13] at he
          injection he with he
          exact exT_ne _ (fun φ z => by cases z) he.symm
        have dW : d ≠ W := fun z => by
          have := e13 _ _ hd
          rw [z, hW13] at this
          cases this
        refine ⟨ws, hW13, lm, ws ++ [.ref e], upd_same, by rw [List.length_append, lws]; rfl, fun y hy => ?_, fun b o hb hnt => ?_, fun p hp => ?_⟩
        · rcases List.mem_append.mp hy with hy | hy
          · exact ((hws y hy).ext xx).upd
          · rw [List.mem_singleton.mp hy]
            exact ⟨e, d, rfl, eW, dW, by rw [upd_ne eW]; exact he, by rw [upd_ne dW]; exact e13 _ _ hd⟩
        · rw [upd_ne (ne_of_none hb nW)]
          exact (x1.trans xx) b o hb hnt
        · exact tabs_put (Tabs.same T11 e113) hW13 p hp
      obtain ⟨ws, hW, lws, hws, x1, Tx1⟩ := h
      have he := ext_at x1 he10 (fun ps z => exT_ne _ (fun φ z => by cases z) z)
      have hd := ext_at x1 hd10
      have hodd := dp_ext x1 _ _ hodd10
      have lw25 : ws.length ≤ 100 := by
        rw [lws, dpAll_len dA]
        show 13 + 12 ≤ 100
        decide
      clear dA hN3 T10 he10 hd10 hodd10 x1 Tx1 lws
      dsimp only [gName]
      refine go_seq (go_if (go_or2 (go_test (go_op (lc_lstk (ws.map fun _ => none) (by rw [List.length_map]) rfl (.inl (.inl hW)) (by omega) (fun m x zz Hx Q' R' hx hz ex hy hn => ?_) (fun D2 Hx ex hD2 => ?_))))))
      · obtain ⟨e, dd, rfl, _, _, g1, g2⟩ := hws x (List.mem_of_getElem? hx)
        obtain ⟨_, _, rfl⟩ := map_at hz
        have g1 := ex _ _ g1
        have g2 := ex _ _ g2
        dsimp only [gName]
        refine ⟨rfl, ?_⟩
        refine go_or2 (go_not (go_b ⟨_, rfl, .inr ⟨e, T.e_BadProgram.C, dd, _, .ref T.e_BadProgram.C, .ref T.e_BadProgram.C, true, rfl, g1, g2, T.e_BadProgram.exc, fun u r => r, kitOne_self, _, rfl, iteF (A := _) ?_⟩⟩))
        refine go_test (go_op ⟨_, rfl, e, T.e_BadProgram.C, dd, _, .str "parts", rfl, g1, g2, T.e_BadProgram.xf, T.e_BadProgram.np, rfl, ?_⟩)
        refine go_c ⟨rfl, false, by rw [ne_self], ?_⟩
        exact iteF (A := _) (hn Hx rfl (Same.refl _))
      rw [fm_none] at hD2
      refine go_lst (go_nil ⟨Nat.zero_le _, fun p5 n5 => ?_⟩)
      have e5 := ex.trans (same_new (o := HO.lst []) n5)
      refine ne_nilD (ds := []) (k := 0) (.inl (.inl ((same_new n5) _ _ hD2))) .nil (fun d hd => nomatch hd) (by decide) upd_same ⟨false, rfl, iteF (A := _) ?_⟩
      generalize upd Hx p5 (HO.lst []) = H12 at e5 ⊢
      have he := e5 _ _ he
      have hd := e5 _ _ hd
      have hodd := dp_same e5 _ _ hodd
      refine go_test (go_op ⟨_, rfl, odd, od', rfl, hodd, hF, go_c ⟨false, rfl, .inr ⟨_, rfl, _, rfl, ?_⟩⟩⟩)
      rw [onS_no hS]
      refine iteF (A := _) ?_
      dsimp only [tNext]
      refine go_seq (go_if (go_test (go_op ⟨_, rfl, odd, od', rfl, hodd, hF, go_c ⟨false, rfl, .inr ⟨_, rfl, _, rfl, ?_⟩⟩⟩)))
      rw [onS_no hS]
      refine iteF (A := _) ?_
      dsimp only [tNext]
      refine go_ret (go_and ⟨_, rfl, .inr ⟨er0, T.e_BadLine.C, d, _, .ref T.e_BadLine.C, .ref T.e_BadLine.C, true, rfl, he, hd, T.e_BadLine.exc, fun u r => r, kitOne_self, _, rfl, iteT (B := _) ?_⟩⟩)
      refine go_op (go_tup (go_cons ⟨_, rfl, er0, T.e_BadLine.C, d, _, .int 0, rfl, he, hd, T.e_BadLine.xf, T.e_BadLine.np, rfl, ?_⟩))
      refine go_cons ⟨_, rfl, er0, T.e_BadLine.C, d, _, .int 0, rfl, he, hd, T.e_BadLine.xf, T.e_BadLine.np2, rfl, ?_⟩
      refine go_nil ⟨by show 2 ≤ sizeLine; decide, fun p6 n6 => ?_⟩
      refine go_tup (go_cons (go_c (go_cons (go_c (go_nil ⟨by show 2 ≤ sizeLine; decide, fun p7 n7 => ?_⟩)))))
      have s7 := same_new (o := HO.tup [.int 0, .int 0]) n7
      exact ⟨.tuple [.int 0, .int 0], .tuple [.int 0, .int 0], .tup (.inl (.inl (s7 _ _ upd_same))) (.cons (.int _) (.cons (.int _) .nil)), .tup (.inl (.inl upd_same)) (.cons (.int _) (.cons (.int _) .nil)), by decide +kernel, by decide +kernel, q _⟩
end
end K34
namespace K34
open PySem PySem.Spec PyProof.Rows L2 Kx SX LamX Ms
def tx_mk {w : World} {K : PySem.W.Frag} {h : Heap} {mg : Str → Option Value} (X : K.In h) (G : h.Ns mainGlobals mg)
    {f0 : Addr} {od0 an0 : Option Addr} {sl0 : Array (Option Value)} {oc0 kV0 dc0 pm0 cd0 ct0 : Value}
    {f1 : Addr} {od1 an1 : Option Addr} {sl1 : Array (Option Value)} {oc1 kV1 dc1 pm1 cd1 ct1 : Value}
    {f2 : Addr} {od2 an2 : Option Addr} {sl2 : Array (Option Value)} {oc2 kV2 dc2 pm2 cd2 ct2 : Value}
    {f3 : Addr} {od3 an3 : Option Addr} {sl3 : Array (Option Value)} {oc3 kV3 dc3 pm3 cd3 ct3 : Value}
    {f4 : Addr} {od4 an4 : Option Addr} {sl4 : Array (Option Value)} {oc4 kV4 dc4 pm4 cd4 ct4 : Value}
    {f5 : Addr} {od5 an5 : Option Addr} {sl5 : Array (Option Value)} {oc5 kV5 dc5 pm5 cd5 ct5 : Value}
    {f6 : Addr} {od6 an6 : Option Addr} {sl6 : Array (Option Value)} {oc6 kV6 dc6 pm6 cd6 ct6 : Value}
    {f7 : Addr} {od7 an7 : Option Addr} {sl7 : Array (Option Value)} {oc7 kV7 dc7 pm7 cd7 ct7 : Value}
    {f8 : Addr} {od8 an8 : Option Addr} {sl8 : Array (Option Value)} {oc8 kV8 dc8 pm8 cd8 ct8 : Value}
    {f9 : Addr} {od9 an9 : Option Addr} {sl9 : Array (Option Value)} {oc9 kV9 dc9 pm9 cd9 ct9 : Value}
    {f10 : Addr} {od10 an10 : Option Addr} {sl10 : Array (Option Value)} {oc10 kV10 dc10 pm10 cd10 ct10 : Value}
    {f11 : Addr} {od11 an11 : Option Addr} {sl11 : Array (Option Value)} {oc11 kV11 dc11 pm11 cd11 ct11 : Value}
    {f12 : Addr} {od12 an12 : Option Addr} {sl12 : Array (Option Value)} {oc12 kV12 dc12 pm12 cd12 ct12 : Value}
    {f13 : Addr} {od13 an13 : Option Addr} {sl13 : Array (Option Value)} {oc13 kV13 dc13 pm13 cd13 ct13 : Value}
    {f14 : Addr} {od14 an14 : Option Addr} {sl14 : Array (Option Value)} {oc14 kV14 dc14 pm14 cd14 ct14 : Value}
    {f15 : Addr} {od15 an15 : Option Addr} {sl15 : Array (Option Value)} {oc15 kV15 dc15 pm15 cd15 ct15 : Value}
    {f16 : Addr} {od16 an16 : Option Addr} {sl16 : Array (Option Value)} {oc16 kV16 dc16 pm16 cd16 ct16 : Value}
    {f17 : Addr} {od17 an17 : Option Addr} {sl17 : Array (Option Value)} {oc17 kV17 dc17 pm17 cd17 ct17 : Value}
    {f18 : Addr} {od18 an18 : Option Addr} {sl18 : Array (Option Value)} {oc18 kV18 dc18 pm18 cd18 ct18 : Value}
    {f19 : Addr} {od19 an19 : Option Addr} {sl19 : Array (Option Value)} {oc19 kV19 dc19 pm19 cd19 ct19 : Value}
    {f20 : Addr} {od20 an20 : Option Addr} {sl20 : Array (Option Value)} {oc20 kV20 dc20 pm20 cd20 ct20 : Value}
    {f21 : Addr} {od21 an21 : Option Addr} {sl21 : Array (Option Value)} {oc21 kV21 dc21 pm21 cd21 ct21 : Value}
    {f22 : Addr} {od22 an22 : Option Addr} {sl22 : Array (Option Value)} {oc22 kV22 dc22 pm22 cd22 ct22 : Value}
    {f23 : Addr} {od23 an23 : Option Addr} {sl23 : Array (Option Value)} {oc23 kV23 dc23 pm23 cd23 ct23 : Value}
    {f24 : Addr} {od24 an24 : Option Addr} {sl24 : Array (Option Value)} {oc24 kV24 dc24 pm24 cd24 ct24 : Value}
    {f25 : Addr} {od25 an25 : Option Addr} {sl25 : Array (Option Value)} {oc25 kV25 dc25 pm25 cd25 ct25 : Value}
    {f26 : Addr} {od26 an26 : Option Addr} {sl26 : Array (Option Value)} {oc26 kV26 dc26 pm26 cd26 ct26 : Value}
    {f27 : Addr} {od27 an27 : Option Addr} {sl27 : Array (Option Value)} {oc27 kV27 dc27 pm27 cd27 ct27 : Value}
    {f28 : Addr} {od28 an28 : Option Addr} {sl28 : Array (Option Value)} {oc28 kV28 dc28 pm28 cd28 ct28 : Value}
    {f29 : Addr} {od29 an29 : Option Addr} {sl29 : Array (Option Value)} {oc29 kV29 dc29 pm29 cd29 ct29 : Value}
    {f30 : Addr} {od30 an30 : Option Addr} {sl30 : Array (Option Value)} {oc30 kV30 dc30 pm30 cd30 ct30 : Value}
    {f31 : Addr} {od31 an31 : Option Addr} {sl31 : Array (Option Value)} {oc31 kV31 dc31 pm31 cd31 ct31 : Value}
    {f32 : Addr} {od32 an32 : Option Addr} {sl32 : Array (Option Value)} {oc32 kV32 dc32 pm32 cd32 ct32 : Value}
    {f33 : Addr} {od33 an33 : Option Addr} {sl33 : Array (Option Value)} {oc33 kV33 dc33 pm33 cd33 ct33 : Value}
    {f34 : Addr} {od34 an34 : Option Addr} {sl34 : Array (Option Value)} {oc34 kV34 dc34 pm34 cd34 ct34 : Value}
    {KD_BadLine : Addr}
    {KD_BadProgram : Addr}
    {KE_FORMS : Addr}
    {KV_FORMS0 : Addr} {kd_FORMS0 : Option Addr} {ki_FORMS0 : Array Value} {kn_FORMS0 : Nat} {ks_FORMS0 : Array (Option Value)}
    {KV_FORMS1 : Addr} {kd_FORMS1 : Option Addr} {ki_FORMS1 : Array Value} {kn_FORMS1 : Nat} {ks_FORMS1 : Array (Option Value)}
    {KV_FORMS2 : Addr} {kd_FORMS2 : Option Addr} {ki_FORMS2 : Array Value} {kn_FORMS2 : Nat} {ks_FORMS2 : Array (Option Value)}
    {KV_FORMS3 : Addr} {kd_FORMS3 : Option Addr} {ki_FORMS3 : Array Value} {kn_FORMS3 : Nat} {ks_FORMS3 : Array (Option Value)}
    {KV_FORMS4 : Addr} {kd_FORMS4 : Option Addr} {ki_FORMS4 : Array Value} {kn_FORMS4 : Nat} {ks_FORMS4 : Array (Option Value)}
    {KV_FORMS5 : Addr} {kd_FORMS5 : Option Addr} {ki_FORMS5 : Array Value} {kn_FORMS5 : Nat} {ks_FORMS5 : Array (Option Value)}
    {KV_FORMS6 : Addr} {kd_FORMS6 : Option Addr} {ki_FORMS6 : Array Value} {kn_FORMS6 : Nat} {ks_FORMS6 : Array (Option Value)}
    {KV_FORMS7 : Addr} {kd_FORMS7 : Option Addr} {ki_FORMS7 : Array Value} {kn_FORMS7 : Nat} {ks_FORMS7 : Array (Option Value)}
    {KV_FORMS8 : Addr} {kd_FORMS8 : Option Addr} {ki_FORMS8 : Array Value} {kn_FORMS8 : Nat} {ks_FORMS8 : Array (Option Value)}
    {KW_NO_NAMES : Addr} {wd_NO_NAMES : Option Addr} {wi_NO_NAMES : Array Value} {wn_NO_NAMES : Nat} {ws_NO_NAMES : Array (Option Value)}
    {KW_SIGNS : Addr} {wd_SIGNS : Option Addr} {wi_SIGNS : Array Value} {wn_SIGNS : Nat} {ws_SIGNS : Array (Option Value)}
    {t0 : Tok}
    {t1 : Tok}
    {t2 : Tok}
    (a0 : PySem.W.nsIn K mainGlobals "is_list" = some (some (.ref f0))) (l0 : K.lookup f0 = some ⟨oc0, od0, .func (PySem.W.fnOf "is_list" "is_list" (defArgs s_is_list) (defBody s_is_list) (defScope s_is_list) .none kV0 dc0 pm0 an0 cd0 ct0), sl0⟩) (c0 : PySem.W.codeIn K cd0 "is_list" = true) (k0 : PySem.W.keepIn K (.ref f0) = true)
    (a1 : PySem.W.nsIn K mainGlobals "is_integer" = some (some (.ref f1))) (l1 : K.lookup f1 = some ⟨oc1, od1, .func (PySem.W.fnOf "is_integer" "is_integer" (defArgs s_is_integer) (defBody s_is_integer) (defScope s_is_integer) .none kV1 dc1 pm1 an1 cd1 ct1), sl1⟩) (c1 : PySem.W.codeIn K cd1 "is_integer" = true) (k1 : PySem.W.keepIn K (.ref f1) = true)
    (a2 : PySem.W.nsIn K mainGlobals "is_within" = some (some (.ref f2))) (l2 : K.lookup f2 = some ⟨oc2, od2, .func (PySem.W.fnOf "is_within" "is_within" (defArgs s_is_within) (defBody s_is_within) (defScope s_is_within) .none kV2 dc2 pm2 an2 cd2 ct2), sl2⟩) (c2 : PySem.W.codeIn K cd2 "is_within" = true) (k2 : PySem.W.keepIn K (.ref f2) = true)
    (a3 : PySem.W.nsIn K mainGlobals "are_letters" = some (some (.ref f3))) (l3 : K.lookup f3 = some ⟨oc3, od3, .func (PySem.W.fnOf "are_letters" "are_letters" (defArgs s_are_letters) (defBody s_are_letters) (defScope s_are_letters) .none kV3 dc3 pm3 an3 cd3 ct3), sl3⟩) (c3 : PySem.W.codeIn K cd3 "are_letters" = true) (k3 : PySem.W.keepIn K (.ref f3) = true)
    (a4 : PySem.W.nsIn K mainGlobals "is_name" = some (some (.ref f4))) (l4 : K.lookup f4 = some ⟨oc4, od4, .func (PySem.W.fnOf "is_name" "is_name" (defArgs s_is_name) (defBody s_is_name) (defScope s_is_name) .none kV4 dc4 pm4 an4 cd4 ct4), sl4⟩) (c4 : PySem.W.codeIn K cd4 "is_name" = true) (k4 : PySem.W.keepIn K (.ref f4) = true)
    (a5 : PySem.W.nsIn K mainGlobals "is_digits" = some (some (.ref f5))) (l5 : K.lookup f5 = some ⟨oc5, od5, .func (PySem.W.fnOf "is_digits" "is_digits" (defArgs s_is_digits) (defBody s_is_digits) (defScope s_is_digits) .none kV5 dc5 pm5 an5 cd5 ct5), sl5⟩) (c5 : PySem.W.codeIn K cd5 "is_digits" = true) (k5 : PySem.W.keepIn K (.ref f5) = true)
    (a6 : PySem.W.nsIn K mainGlobals "is_plain" = some (some (.ref f6))) (l6 : K.lookup f6 = some ⟨oc6, od6, .func (PySem.W.fnOf "is_plain" "is_plain" (defArgs s_is_plain) (defBody s_is_plain) (defScope s_is_plain) .none kV6 dc6 pm6 an6 cd6 ct6), sl6⟩) (c6 : PySem.W.codeIn K cd6 "is_plain" = true) (k6 : PySem.W.keepIn K (.ref f6) = true)
    (a7 : PySem.W.nsIn K mainGlobals "kinds_behind" = some (some (.ref f7))) (l7 : K.lookup f7 = some ⟨oc7, od7, .func (PySem.W.fnOf "kinds_behind" "kinds_behind" (defArgs s_kinds_behind) (defBody s_kinds_behind) (defScope s_kinds_behind) .none kV7 dc7 pm7 an7 cd7 ct7), sl7⟩) (c7 : PySem.W.codeIn K cd7 "kinds_behind" = true) (k7 : PySem.W.keepIn K (.ref f7) = true)
    (a8 : PySem.W.nsIn K mainGlobals "fault_in" = some (some (.ref f8))) (l8 : K.lookup f8 = some ⟨oc8, od8, .func (PySem.W.fnOf "fault_in" "fault_in" (defArgs s_fault_in) (defBody s_fault_in) (defScope s_fault_in) .none kV8 dc8 pm8 an8 cd8 ct8), sl8⟩) (c8 : PySem.W.codeIn K cd8 "fault_in" = true) (k8 : PySem.W.keepIn K (.ref f8) = true)
    (a9 : PySem.W.nsIn K mainGlobals "plain_of" = some (some (.ref f9))) (l9 : K.lookup f9 = some ⟨oc9, od9, .func (PySem.W.fnOf "plain_of" "plain_of" (defArgs s_plain_of) (defBody s_plain_of) (defScope s_plain_of) .none kV9 dc9 pm9 an9 cd9 ct9), sl9⟩) (c9 : PySem.W.codeIn K cd9 "plain_of" = true) (k9 : PySem.W.keepIn K (.ref f9) = true)
    (a10 : PySem.W.nsIn K mainGlobals "worth_of" = some (some (.ref f10))) (l10 : K.lookup f10 = some ⟨oc10, od10, .func (PySem.W.fnOf "worth_of" "worth_of" (defArgs s_worth_of) (defBody s_worth_of) (defScope s_worth_of) .none kV10 dc10 pm10 an10 cd10 ct10), sl10⟩) (c10 : PySem.W.codeIn K cd10 "worth_of" = true) (k10 : PySem.W.keepIn K (.ref f10) = true)
    (a11 : PySem.W.nsIn K mainGlobals "parts_of_items" = some (some (.ref f11))) (l11 : K.lookup f11 = some ⟨oc11, od11, .func (PySem.W.fnOf "parts_of_items" "parts_of_items" (defArgs s_parts_of_items) (defBody s_parts_of_items) (defScope s_parts_of_items) .none kV11 dc11 pm11 an11 cd11 ct11), sl11⟩) (c11 : PySem.W.codeIn K cd11 "parts_of_items" = true) (k11 : PySem.W.keepIn K (.ref f11) = true)
    (a12 : PySem.W.nsIn K mainGlobals "parts_of" = some (some (.ref f12))) (l12 : K.lookup f12 = some ⟨oc12, od12, .func (PySem.W.fnOf "parts_of" "parts_of" (defArgs s_parts_of) (defBody s_parts_of) (defScope s_parts_of) .none kV12 dc12 pm12 an12 cd12 ct12), sl12⟩) (c12 : PySem.W.codeIn K cd12 "parts_of" = true) (k12 : PySem.W.keepIn K (.ref f12) = true)
    (a13 : PySem.W.nsIn K mainGlobals "is_plain_part" = some (some (.ref f13))) (l13 : K.lookup f13 = some ⟨oc13, od13, .func (PySem.W.fnOf "is_plain_part" "is_plain_part" (defArgs s_is_plain_part) (defBody s_is_plain_part) (defScope s_is_plain_part) .none kV13 dc13 pm13 an13 cd13 ct13), sl13⟩) (c13 : PySem.W.codeIn K cd13 "is_plain_part" = true) (k13 : PySem.W.keepIn K (.ref f13) = true)
    (a14 : PySem.W.nsIn K mainGlobals "is_worth_part" = some (some (.ref f14))) (l14 : K.lookup f14 = some ⟨oc14, od14, .func (PySem.W.fnOf "is_worth_part" "is_worth_part" (defArgs s_is_worth_part) (defBody s_is_worth_part) (defScope s_is_worth_part) .none kV14 dc14 pm14 an14 cd14 ct14), sl14⟩) (c14 : PySem.W.codeIn K cd14 "is_worth_part" = true) (k14 : PySem.W.keepIn K (.ref f14) = true)
    (a15 : PySem.W.nsIn K mainGlobals "is_part" = some (some (.ref f15))) (l15 : K.lookup f15 = some ⟨oc15, od15, .func (PySem.W.fnOf "is_part" "is_part" (defArgs s_is_part) (defBody s_is_part) (defScope s_is_part) .none kV15 dc15 pm15 an15 cd15 ct15), sl15⟩) (c15 : PySem.W.codeIn K cd15 "is_part" = true) (k15 : PySem.W.keepIn K (.ref f15) = true)
    (a16 : PySem.W.nsIn K mainGlobals "are_parts" = some (some (.ref f16))) (l16 : K.lookup f16 = some ⟨oc16, od16, .func (PySem.W.fnOf "are_parts" "are_parts" (defArgs s_are_parts) (defBody s_are_parts) (defScope s_are_parts) .none kV16 dc16 pm16 an16 cd16 ct16), sl16⟩) (c16 : PySem.W.codeIn K cd16 "are_parts" = true) (k16 : PySem.W.keepIn K (.ref f16) = true)
    (a17 : PySem.W.nsIn K mainGlobals "items_of_worth" = some (some (.ref f17))) (l17 : K.lookup f17 = some ⟨oc17, od17, .func (PySem.W.fnOf "items_of_worth" "items_of_worth" (defArgs s_items_of_worth) (defBody s_items_of_worth) (defScope s_items_of_worth) .none kV17 dc17 pm17 an17 cd17 ct17), sl17⟩) (c17 : PySem.W.codeIn K cd17 "items_of_worth" = true) (k17 : PySem.W.keepIn K (.ref f17) = true)
    (a18 : PySem.W.nsIn K mainGlobals "line_of" = some (some (.ref f18))) (l18 : K.lookup f18 = some ⟨oc18, od18, .func (PySem.W.fnOf "line_of" "line_of" (defArgs s_line_of) (defBody s_line_of) (defScope s_line_of) .none kV18 dc18 pm18 an18 cd18 ct18), sl18⟩) (c18 : PySem.W.codeIn K cd18 "line_of" = true) (k18 : PySem.W.keepIn K (.ref f18) = true)
    (a19 : PySem.W.nsIn K mainGlobals "_law_spire" = some (some (.ref f19))) (l19 : K.lookup f19 = some ⟨oc19, od19, .func (PySem.W.fnOf "_law_spire" "_law_spire" (defArgs s_law_spire) (defBody s_law_spire) (defScope s_law_spire) .none kV19 dc19 pm19 an19 cd19 ct19), sl19⟩) (c19 : PySem.W.codeIn K cd19 "_law_spire" = true) (k19 : PySem.W.keepIn K (.ref f19) = true)
    (a20 : PySem.W.nsIn K mainGlobals "_law_bell" = some (some (.ref f20))) (l20 : K.lookup f20 = some ⟨oc20, od20, .func (PySem.W.fnOf "_law_bell" "_law_bell" (defArgs s_law_bell) (defBody s_law_bell) (defScope s_law_bell) .none kV20 dc20 pm20 an20 cd20 ct20), sl20⟩) (c20 : PySem.W.codeIn K cd20 "_law_bell" = true) (k20 : PySem.W.keepIn K (.ref f20) = true)
    (a21 : PySem.W.nsIn K mainGlobals "_law_pick" = some (some (.ref f21))) (l21 : K.lookup f21 = some ⟨oc21, od21, .func (PySem.W.fnOf "_law_pick" "_law_pick" (defArgs s_law_pick) (defBody s_law_pick) (defScope s_law_pick) .none kV21 dc21 pm21 an21 cd21 ct21), sl21⟩) (c21 : PySem.W.codeIn K cd21 "_law_pick" = true) (k21 : PySem.W.keepIn K (.ref f21) = true)
    (a22 : PySem.W.nsIn K mainGlobals "_law_name" = some (some (.ref f22))) (l22 : K.lookup f22 = some ⟨oc22, od22, .func (PySem.W.fnOf "_law_name" "_law_name" (defArgs s_law_name) (defBody s_law_name) (defScope s_law_name) .none kV22 dc22 pm22 an22 cd22 ct22), sl22⟩) (c22 : PySem.W.codeIn K cd22 "_law_name" = true) (k22 : PySem.W.keepIn K (.ref f22) = true)
    (a23 : PySem.W.nsIn K mainGlobals "_law_plain" = some (some (.ref f23))) (l23 : K.lookup f23 = some ⟨oc23, od23, .func (PySem.W.fnOf "_law_plain" "_law_plain" (defArgs s_law_plain) (defBody s_law_plain) (defScope s_law_plain) .none kV23 dc23 pm23 an23 cd23 ct23), sl23⟩) (c23 : PySem.W.codeIn K cd23 "_law_plain" = true) (k23 : PySem.W.keepIn K (.ref f23) = true)
    (a24 : PySem.W.nsIn K mainGlobals "_law_worth" = some (some (.ref f24))) (l24 : K.lookup f24 = some ⟨oc24, od24, .func (PySem.W.fnOf "_law_worth" "_law_worth" (defArgs s_law_worth) (defBody s_law_worth) (defScope s_law_worth) .none kV24 dc24 pm24 an24 cd24 ct24), sl24⟩) (c24 : PySem.W.codeIn K cd24 "_law_worth" = true) (k24 : PySem.W.keepIn K (.ref f24) = true)
    (a25 : PySem.W.nsIn K mainGlobals "_law_line" = some (some (.ref f25))) (l25 : K.lookup f25 = some ⟨oc25, od25, .func (PySem.W.fnOf "_law_line" "_law_line" (defArgs s_law_line) (defBody s_law_line) (defScope s_law_line) .none kV25 dc25 pm25 an25 cd25 ct25), sl25⟩) (c25 : PySem.W.codeIn K cd25 "_law_line" = true) (k25 : PySem.W.keepIn K (.ref f25) = true)
    (a26 : PySem.W.nsIn K mainGlobals "_law_is_name" = some (some (.ref f26))) (l26 : K.lookup f26 = some ⟨oc26, od26, .func (PySem.W.fnOf "_law_is_name" "_law_is_name" (defArgs s_law_is_name) (defBody s_law_is_name) (defScope s_law_is_name) .none kV26 dc26 pm26 an26 cd26 ct26), sl26⟩) (c26 : PySem.W.codeIn K cd26 "_law_is_name" = true) (k26 : PySem.W.keepIn K (.ref f26) = true)
    (a27 : PySem.W.nsIn K mainGlobals "_law_is_plain" = some (some (.ref f27))) (l27 : K.lookup f27 = some ⟨oc27, od27, .func (PySem.W.fnOf "_law_is_plain" "_law_is_plain" (defArgs s_law_is_plain) (defBody s_law_is_plain) (defScope s_law_is_plain) .none kV27 dc27 pm27 an27 cd27 ct27), sl27⟩) (c27 : PySem.W.codeIn K cd27 "_law_is_plain" = true) (k27 : PySem.W.keepIn K (.ref f27) = true)
    (a28 : PySem.W.nsIn K mainGlobals "_law_told" = some (some (.ref f28))) (l28 : K.lookup f28 = some ⟨oc28, od28, .func (PySem.W.fnOf "_law_told" "_law_told" (defArgs s_law_told) (defBody s_law_told) (defScope s_law_told) .none kV28 dc28 pm28 an28 cd28 ct28), sl28⟩) (c28 : PySem.W.codeIn K cd28 "_law_told" = true) (k28 : PySem.W.keepIn K (.ref f28) = true)
    (a29 : PySem.W.nsIn K mainGlobals "_law_worth_wrong" = some (some (.ref f29))) (l29 : K.lookup f29 = some ⟨oc29, od29, .func (PySem.W.fnOf "_law_worth_wrong" "_law_worth_wrong" (defArgs s_law_worth_wrong) (defBody s_law_worth_wrong) (defScope s_law_worth_wrong) .none kV29 dc29 pm29 an29 cd29 ct29), sl29⟩) (c29 : PySem.W.codeIn K cd29 "_law_worth_wrong" = true) (k29 : PySem.W.keepIn K (.ref f29) = true)
    (a30 : PySem.W.nsIn K mainGlobals "_law_wrong" = some (some (.ref f30))) (l30 : K.lookup f30 = some ⟨oc30, od30, .func (PySem.W.fnOf "_law_wrong" "_law_wrong" (defArgs s_law_wrong) (defBody s_law_wrong) (defScope s_law_wrong) .none kV30 dc30 pm30 an30 cd30 ct30), sl30⟩) (c30 : PySem.W.codeIn K cd30 "_law_wrong" = true) (k30 : PySem.W.keepIn K (.ref f30) = true)
    (a31 : PySem.W.nsIn K mainGlobals "_law_parts" = some (some (.ref f31))) (l31 : K.lookup f31 = some ⟨oc31, od31, .func (PySem.W.fnOf "_law_parts" "_law_parts" (defArgs s_law_parts) (defBody s_law_parts) (defScope s_law_parts) .none kV31 dc31 pm31 an31 cd31 ct31), sl31⟩) (c31 : PySem.W.codeIn K cd31 "_law_parts" = true) (k31 : PySem.W.keepIn K (.ref f31) = true)
    (a32 : PySem.W.nsIn K mainGlobals "_law_bent" = some (some (.ref f32))) (l32 : K.lookup f32 = some ⟨oc32, od32, .func (PySem.W.fnOf "_law_bent" "_law_bent" (defArgs s_law_bent) (defBody s_law_bent) (defScope s_law_bent) .none kV32 dc32 pm32 an32 cd32 ct32), sl32⟩) (c32 : PySem.W.codeIn K cd32 "_law_bent" = true) (k32 : PySem.W.keepIn K (.ref f32) = true)
    (a33 : PySem.W.nsIn K mainGlobals "_law_heard" = some (some (.ref f33))) (l33 : K.lookup f33 = some ⟨oc33, od33, .func (PySem.W.fnOf "_law_heard" "_law_heard" (defArgs s_law_heard) (defBody s_law_heard) (defScope s_law_heard) .none kV33 dc33 pm33 an33 cd33 ct33), sl33⟩) (c33 : PySem.W.codeIn K cd33 "_law_heard" = true) (k33 : PySem.W.keepIn K (.ref f33) = true)
    (a34 : PySem.W.nsIn K mainGlobals "law" = some (some (.ref f34))) (l34 : K.lookup f34 = some ⟨oc34, od34, .func (PySem.W.fnOf "law" "law" (defArgs s_law) (defBody s_law) (defScope s_law) .none kV34 dc34 pm34 an34 cd34 ct34), sl34⟩) (c34 : PySem.W.codeIn K cd34 "law" = true) (k34 : PySem.W.keepIn K (.ref f34) = true)
    (da_BadLine : PySem.W.nsIn K mainGlobals "BadLine" = some (some (.ref KD_BadLine)))
    (di_BadLine : PySem.W.isClsIn K KD_BadLine = true)
    (dy_BadLine : PySem.W.typeIn K (.ref KD_BadLine) = some (.type "type"))
    (da_BadProgram : PySem.W.nsIn K mainGlobals "BadProgram" = some (some (.ref KD_BadProgram)))
    (di_BadProgram : PySem.W.isClsIn K KD_BadProgram = true)
    (dy_BadProgram : PySem.W.typeIn K (.ref KD_BadProgram) = some (.type "type"))
    (ds_BadLine_BadLine : PySem.W.subIn K (.ref KD_BadLine) (.ref KD_BadLine) = some true)
    (ds_BadLine_BadProgram : PySem.W.subIn K (.ref KD_BadLine) (.ref KD_BadProgram) = some false)
    (ds_BadProgram_BadLine : PySem.W.subIn K (.ref KD_BadProgram) (.ref KD_BadLine) = some false)
    (ds_BadProgram_BadProgram : PySem.W.subIn K (.ref KD_BadProgram) (.ref KD_BadProgram) = some true)
    (z0 : PySem.W.nsIn K mainGlobals "isinstance" = some none)
    (z1 : PySem.W.nsIn K mainGlobals "list" = some none)
    (z2 : PySem.W.nsIn K mainGlobals "tuple" = some none)
    (z3 : PySem.W.nsIn K mainGlobals "int" = some none)
    (z4 : PySem.W.nsIn K mainGlobals "bool" = some none)
    (z5 : PySem.W.nsIn K mainGlobals "str" = some none)
    (z6 : PySem.W.nsIn K mainGlobals "len" = some none)
    (z7 : PySem.W.nsIn K mainGlobals "range" = some none)
    (z8 : PySem.W.nsIn K mainGlobals "enumerate" = some none)
    (z9 : PySem.W.nsIn K mainGlobals "all" = some none)
    (z10 : PySem.W.nsIn K mainGlobals "zip" = some none)
    (z11 : PySem.W.nsIn K mainGlobals "abs" = some none)
    (z12 : PySem.W.nsIn K mainGlobals "repr" = some none)
    (er_BadProgram : Er K mg "BadProgram" "BadProgram.__init__" s_BadProgram_init "LetterError")
    (e2_BadLine : Er2 K mg "BadLine" "BadLine.__init__" s_BadLine_init "LetterError" "line" "item")
    (ea_FORMS : PySem.W.nsIn K mainGlobals "FORMS" = some (some (.ref KE_FORMS))) (ed_FORMS : He.dicW K KE_FORMS = some (He.keysIn w.params ["hear", "say", "let", "keep", "while", "if", "else", "end", "stop"]))
    (eb_FORMS0 : PySem.W.nsIn K KE_FORMS "hear" = some (some (.ref KV_FORMS0))) (el_FORMS0 : K.lookup KV_FORMS0 = some ⟨.type "tuple", kd_FORMS0, .seq ki_FORMS0 kn_FORMS0, ks_FORMS0⟩) (wz_FORMS0 : ki_FORMS0.size ≤ sizeLine) (wv_FORMS0 : Vals [.str "name"] ki_FORMS0.toList)
    (eb_FORMS1 : PySem.W.nsIn K KE_FORMS "say" = some (some (.ref KV_FORMS1))) (el_FORMS1 : K.lookup KV_FORMS1 = some ⟨.type "tuple", kd_FORMS1, .seq ki_FORMS1 kn_FORMS1, ks_FORMS1⟩) (wz_FORMS1 : ki_FORMS1.size ≤ sizeLine) (wv_FORMS1 : Vals [.str "worth"] ki_FORMS1.toList)
    (eb_FORMS2 : PySem.W.nsIn K KE_FORMS "let" = some (some (.ref KV_FORMS2))) (el_FORMS2 : K.lookup KV_FORMS2 = some ⟨.type "tuple", kd_FORMS2, .seq ki_FORMS2 kn_FORMS2, ks_FORMS2⟩) (wz_FORMS2 : ki_FORMS2.size ≤ sizeLine) (wv_FORMS2 : Vals [.str "name", .str "worth"] ki_FORMS2.toList)
    (eb_FORMS3 : PySem.W.nsIn K KE_FORMS "keep" = some (some (.ref KV_FORMS3))) (el_FORMS3 : K.lookup KV_FORMS3 = some ⟨.type "tuple", kd_FORMS3, .seq ki_FORMS3 kn_FORMS3, ks_FORMS3⟩) (wz_FORMS3 : ki_FORMS3.size ≤ sizeLine) (wv_FORMS3 : Vals [.str "plain", .str "worth"] ki_FORMS3.toList)
    (eb_FORMS4 : PySem.W.nsIn K KE_FORMS "while" = some (some (.ref KV_FORMS4))) (el_FORMS4 : K.lookup KV_FORMS4 = some ⟨.type "tuple", kd_FORMS4, .seq ki_FORMS4 kn_FORMS4, ks_FORMS4⟩) (wz_FORMS4 : ki_FORMS4.size ≤ sizeLine) (wv_FORMS4 : Vals [.str "plain"] ki_FORMS4.toList)
    (eb_FORMS5 : PySem.W.nsIn K KE_FORMS "if" = some (some (.ref KV_FORMS5))) (el_FORMS5 : K.lookup KV_FORMS5 = some ⟨.type "tuple", kd_FORMS5, .seq ki_FORMS5 kn_FORMS5, ks_FORMS5⟩) (wz_FORMS5 : ki_FORMS5.size ≤ sizeLine) (wv_FORMS5 : Vals [.str "plain"] ki_FORMS5.toList)
    (eb_FORMS6 : PySem.W.nsIn K KE_FORMS "else" = some (some (.ref KV_FORMS6))) (el_FORMS6 : K.lookup KV_FORMS6 = some ⟨.type "tuple", kd_FORMS6, .seq ki_FORMS6 kn_FORMS6, ks_FORMS6⟩) (wz_FORMS6 : ki_FORMS6.size ≤ sizeLine) (wv_FORMS6 : Vals [] ki_FORMS6.toList)
    (eb_FORMS7 : PySem.W.nsIn K KE_FORMS "end" = some (some (.ref KV_FORMS7))) (el_FORMS7 : K.lookup KV_FORMS7 = some ⟨.type "tuple", kd_FORMS7, .seq ki_FORMS7 kn_FORMS7, ks_FORMS7⟩) (wz_FORMS7 : ki_FORMS7.size ≤ sizeLine) (wv_FORMS7 : Vals [] ki_FORMS7.toList)
    (eb_FORMS8 : PySem.W.nsIn K KE_FORMS "stop" = some (some (.ref KV_FORMS8))) (el_FORMS8 : K.lookup KV_FORMS8 = some ⟨.type "tuple", kd_FORMS8, .seq ki_FORMS8 kn_FORMS8, ks_FORMS8⟩) (wz_FORMS8 : ki_FORMS8.size ≤ sizeLine) (wv_FORMS8 : Vals [] ki_FORMS8.toList)
    (wa_NO_NAMES : PySem.W.nsIn K mainGlobals "NO_NAMES" = some (some (.ref KW_NO_NAMES))) (wl_NO_NAMES : K.lookup KW_NO_NAMES = some ⟨.type "tuple", wd_NO_NAMES, .seq wi_NO_NAMES wn_NO_NAMES, ws_NO_NAMES⟩) (wz_NO_NAMES : wi_NO_NAMES.size ≤ sizeLine) (wv_NO_NAMES : Vals [.str "hear", .str "say", .str "let", .str "keep", .str "while", .str "if", .str "else", .str "end", .str "stop", .str "at", .str "mine"] wi_NO_NAMES.toList)
    (wa_SIGNS : PySem.W.nsIn K mainGlobals "SIGNS" = some (some (.ref KW_SIGNS))) (wl_SIGNS : K.lookup KW_SIGNS = some ⟨.type "tuple", wd_SIGNS, .seq wi_SIGNS wn_SIGNS, ws_SIGNS⟩) (wz_SIGNS : wi_SIGNS.size ≤ sizeLine) (wv_SIGNS : Vals [.str "+", .str "-", .str "*", .str "/", .str "<", .str "="] wi_SIGNS.toList)
    (q0 : PySem.W.nsIn K mainGlobals "MOST_NAME_LETTERS" = some (some (.int 8 t0)))
    (q1 : PySem.W.nsIn K mainGlobals "MOST_PLAIN" = some (some (.int 4095 t1)))
    (q2 : PySem.W.nsIn K mainGlobals "MOST_PLAIN_DIGITS" = some (some (.int 4 t2))) : Tx w K mg :=
  {
    f_is_list := f0
    fd_is_list := _
    F_is_list := fun_mk (st := s_is_list) l0 c0 k0
    g_is_list := PySem.W.mg_of X G a0
    b_is_list := (fun_mk (st := s_is_list) l0 c0 k0).binds (ps := ["value"]) fun _ _ _ _ _ _ us hl => match us, hl with | [_], _ => rfl
    f_is_integer := f1
    fd_is_integer := _
    F_is_integer := fun_mk (st := s_is_integer) l1 c1 k1
    g_is_integer := PySem.W.mg_of X G a1
    b_is_integer := (fun_mk (st := s_is_integer) l1 c1 k1).binds (ps := ["value"]) fun _ _ _ _ _ _ us hl => match us, hl with | [_], _ => rfl
    f_is_within := f2
    fd_is_within := _
    F_is_within := fun_mk (st := s_is_within) l2 c2 k2
    g_is_within := PySem.W.mg_of X G a2
    b_is_within := (fun_mk (st := s_is_within) l2 c2 k2).binds (ps := ["value", "least", "most"]) fun _ _ _ _ _ _ us hl => match us, hl with | [_, _, _], _ => rfl
    f_are_letters := f3
    fd_are_letters := _
    F_are_letters := fun_mk (st := s_are_letters) l3 c3 k3
    g_are_letters := PySem.W.mg_of X G a3
    b_are_letters := (fun_mk (st := s_are_letters) l3 c3 k3).binds (ps := ["text"]) fun _ _ _ _ _ _ us hl => match us, hl with | [_], _ => rfl
    f_is_name := f4
    fd_is_name := _
    F_is_name := fun_mk (st := s_is_name) l4 c4 k4
    g_is_name := PySem.W.mg_of X G a4
    b_is_name := (fun_mk (st := s_is_name) l4 c4 k4).binds (ps := ["value"]) fun _ _ _ _ _ _ us hl => match us, hl with | [_], _ => rfl
    f_is_digits := f5
    fd_is_digits := _
    F_is_digits := fun_mk (st := s_is_digits) l5 c5 k5
    g_is_digits := PySem.W.mg_of X G a5
    b_is_digits := (fun_mk (st := s_is_digits) l5 c5 k5).binds (ps := ["value"]) fun _ _ _ _ _ _ us hl => match us, hl with | [_], _ => rfl
    f_is_plain := f6
    fd_is_plain := _
    F_is_plain := fun_mk (st := s_is_plain) l6 c6 k6
    g_is_plain := PySem.W.mg_of X G a6
    b_is_plain := (fun_mk (st := s_is_plain) l6 c6 k6).binds (ps := ["value"]) fun _ _ _ _ _ _ us hl => match us, hl with | [_], _ => rfl
    f_kinds_behind := f7
    fd_kinds_behind := _
    F_kinds_behind := fun_mk (st := s_kinds_behind) l7 c7 k7
    g_kinds_behind := PySem.W.mg_of X G a7
    b_kinds_behind := (fun_mk (st := s_kinds_behind) l7 c7 k7).binds (ps := ["kind", "item"]) fun _ _ _ _ _ _ us hl => match us, hl with | [_, _], _ => rfl
    f_fault_in := f8
    fd_fault_in := _
    F_fault_in := fun_mk (st := s_fault_in) l8 c8 k8
    g_fault_in := PySem.W.mg_of X G a8
    b_fault_in := (fun_mk (st := s_fault_in) l8 c8 k8).binds (ps := ["items"]) fun _ _ _ _ _ _ us hl => match us, hl with | [_], _ => rfl
    f_plain_of := f9
    fd_plain_of := _
    F_plain_of := fun_mk (st := s_plain_of) l9 c9 k9
    g_plain_of := PySem.W.mg_of X G a9
    b_plain_of := (fun_mk (st := s_plain_of) l9 c9 k9).binds (ps := ["item"]) fun _ _ _ _ _ _ us hl => match us, hl with | [_], _ => rfl
    f_worth_of := f10
    fd_worth_of := _
    F_worth_of := fun_mk (st := s_worth_of) l10 c10 k10
    g_worth_of := PySem.W.mg_of X G a10
    b_worth_of := (fun_mk (st := s_worth_of) l10 c10 k10).binds (ps := ["items"]) fun _ _ _ _ _ _ us hl => match us, hl with | [_], _ => rfl
    f_parts_of_items := f11
    fd_parts_of_items := _
    F_parts_of_items := fun_mk (st := s_parts_of_items) l11 c11 k11
    g_parts_of_items := PySem.W.mg_of X G a11
    b_parts_of_items := (fun_mk (st := s_parts_of_items) l11 c11 k11).binds (ps := ["items"]) fun _ _ _ _ _ _ us hl => match us, hl with | [_], _ => rfl
    f_parts_of := f12
    fd_parts_of := _
    F_parts_of := fun_mk (st := s_parts_of) l12 c12 k12
    g_parts_of := PySem.W.mg_of X G a12
    b_parts_of := (fun_mk (st := s_parts_of) l12 c12 k12).binds (ps := ["line"]) fun _ _ _ _ _ _ us hl => match us, hl with | [_], _ => rfl
    f_is_plain_part := f13
    fd_is_plain_part := _
    F_is_plain_part := fun_mk (st := s_is_plain_part) l13 c13 k13
    g_is_plain_part := PySem.W.mg_of X G a13
    b_is_plain_part := (fun_mk (st := s_is_plain_part) l13 c13 k13).binds (ps := ["value"]) fun _ _ _ _ _ _ us hl => match us, hl with | [_], _ => rfl
    f_is_worth_part := f14
    fd_is_worth_part := _
    F_is_worth_part := fun_mk (st := s_is_worth_part) l14 c14 k14
    g_is_worth_part := PySem.W.mg_of X G a14
    b_is_worth_part := (fun_mk (st := s_is_worth_part) l14 c14 k14).binds (ps := ["value"]) fun _ _ _ _ _ _ us hl => match us, hl with | [_], _ => rfl
    f_is_part := f15
    fd_is_part := _
    F_is_part := fun_mk (st := s_is_part) l15 c15 k15
    g_is_part := PySem.W.mg_of X G a15
    b_is_part := (fun_mk (st := s_is_part) l15 c15 k15).binds (ps := ["kind", "value"]) fun _ _ _ _ _ _ us hl => match us, hl with | [_, _], _ => rfl
    f_are_parts := f16
    fd_are_parts := _
    F_are_parts := fun_mk (st := s_are_parts) l16 c16 k16
    g_are_parts := PySem.W.mg_of X G a16
    b_are_parts := (fun_mk (st := s_are_parts) l16 c16 k16).binds (ps := ["value"]) fun _ _ _ _ _ _ us hl => match us, hl with | [_], _ => rfl
    f_items_of_worth := f17
    fd_items_of_worth := _
    F_items_of_worth := fun_mk (st := s_items_of_worth) l17 c17 k17
    g_items_of_worth := PySem.W.mg_of X G a17
    b_items_of_worth := (fun_mk (st := s_items_of_worth) l17 c17 k17).binds (ps := ["worth"]) fun _ _ _ _ _ _ us hl => match us, hl with | [_], _ => rfl
    f_line_of := f18
    fd_line_of := _
    F_line_of := fun_mk (st := s_line_of) l18 c18 k18
    g_line_of := PySem.W.mg_of X G a18
    b_line_of := (fun_mk (st := s_line_of) l18 c18 k18).binds (ps := ["parts"]) fun _ _ _ _ _ _ us hl => match us, hl with | [_], _ => rfl
    f_law_spire := f19
    fd_law_spire := _
    F_law_spire := fun_mk (st := s_law_spire) l19 c19 k19
    g_law_spire := PySem.W.mg_of X G a19
    b_law_spire := (fun_mk (st := s_law_spire) l19 c19 k19).binds (ps := ["script"]) fun _ _ _ _ _ _ us hl => match us, hl with | [_], _ => rfl
    f_law_bell := f20
    fd_law_bell := _
    F_law_bell := fun_mk (st := s_law_bell) l20 c20 k20
    g_law_bell := PySem.W.mg_of X G a20
    b_law_bell := (fun_mk (st := s_law_bell) l20 c20 k20).binds (ps := ["spire", "many"]) fun _ _ _ _ _ _ us hl => match us, hl with | [_, _], _ => rfl
    f_law_pick := f21
    fd_law_pick := _
    F_law_pick := fun_mk (st := s_law_pick) l21 c21 k21
    g_law_pick := PySem.W.mg_of X G a21
    b_law_pick := (fun_mk (st := s_law_pick) l21 c21 k21).binds (ps := ["spire", "some"]) fun _ _ _ _ _ _ us hl => match us, hl with | [_, _], _ => rfl
    f_law_name := f22
    fd_law_name := _
    F_law_name := fun_mk (st := s_law_name) l22 c22 k22
    g_law_name := PySem.W.mg_of X G a22
    b_law_name := (fun_mk (st := s_law_name) l22 c22 k22).binds (ps := ["spire"]) fun _ _ _ _ _ _ us hl => match us, hl with | [_], _ => rfl
    f_law_plain := f23
    fd_law_plain := _
    F_law_plain := fun_mk (st := s_law_plain) l23 c23 k23
    g_law_plain := PySem.W.mg_of X G a23
    b_law_plain := (fun_mk (st := s_law_plain) l23 c23 k23).binds (ps := ["spire"]) fun _ _ _ _ _ _ us hl => match us, hl with | [_], _ => rfl
    f_law_worth := f24
    fd_law_worth := _
    F_law_worth := fun_mk (st := s_law_worth) l24 c24 k24
    g_law_worth := PySem.W.mg_of X G a24
    b_law_worth := (fun_mk (st := s_law_worth) l24 c24 k24).binds (ps := ["spire", "asks"]) fun _ _ _ _ _ _ us hl => match us, hl with | [_, _], _ => rfl
    f_law_line := f25
    fd_law_line := _
    F_law_line := fun_mk (st := s_law_line) l25 c25 k25
    g_law_line := PySem.W.mg_of X G a25
    b_law_line := (fun_mk (st := s_law_line) l25 c25 k25).binds (ps := ["spire"]) fun _ _ _ _ _ _ us hl => match us, hl with | [_], _ => rfl
    f_law_is_name := f26
    fd_law_is_name := _
    F_law_is_name := fun_mk (st := s_law_is_name) l26 c26 k26
    g_law_is_name := PySem.W.mg_of X G a26
    b_law_is_name := (fun_mk (st := s_law_is_name) l26 c26 k26).binds (ps := ["item"]) fun _ _ _ _ _ _ us hl => match us, hl with | [_], _ => rfl
    f_law_is_plain := f27
    fd_law_is_plain := _
    F_law_is_plain := fun_mk (st := s_law_is_plain) l27 c27 k27
    g_law_is_plain := PySem.W.mg_of X G a27
    b_law_is_plain := (fun_mk (st := s_law_is_plain) l27 c27 k27).binds (ps := ["item"]) fun _ _ _ _ _ _ us hl => match us, hl with | [_], _ => rfl
    f_law_told := f28
    fd_law_told := _
    F_law_told := fun_mk (st := s_law_told) l28 c28 k28
    g_law_told := PySem.W.mg_of X G a28
    b_law_told := (fun_mk (st := s_law_told) l28 c28 k28).binds (ps := ["item"]) fun _ _ _ _ _ _ us hl => match us, hl with | [_], _ => rfl
    f_law_worth_wrong := f29
    fd_law_worth_wrong := _
    F_law_worth_wrong := fun_mk (st := s_law_worth_wrong) l29 c29 k29
    g_law_worth_wrong := PySem.W.mg_of X G a29
    b_law_worth_wrong := (fun_mk (st := s_law_worth_wrong) l29 c29 k29).binds (ps := ["items", "at"]) fun _ _ _ _ _ _ us hl => match us, hl with | [_, _], _ => rfl
    f_law_wrong := f30
    fd_law_wrong := _
    F_law_wrong := fun_mk (st := s_law_wrong) l30 c30 k30
    g_law_wrong := PySem.W.mg_of X G a30
    b_law_wrong := (fun_mk (st := s_law_wrong) l30 c30 k30).binds (ps := ["items"]) fun _ _ _ _ _ _ us hl => match us, hl with | [_], _ => rfl
    f_law_parts := f31
    fd_law_parts := _
    F_law_parts := fun_mk (st := s_law_parts) l31 c31 k31
    g_law_parts := PySem.W.mg_of X G a31
    b_law_parts := (fun_mk (st := s_law_parts) l31 c31 k31).binds (ps := ["items"]) fun _ _ _ _ _ _ us hl => match us, hl with | [_], _ => rfl
    f_law_bent := f32
    fd_law_bent := _
    F_law_bent := fun_mk (st := s_law_bent) l32 c32 k32
    g_law_bent := PySem.W.mg_of X G a32
    b_law_bent := (fun_mk (st := s_law_bent) l32 c32 k32).binds (ps := ["spire", "items"]) fun _ _ _ _ _ _ us hl => match us, hl with | [_, _], _ => rfl
    f_law_heard := f33
    fd_law_heard := _
    F_law_heard := fun_mk (st := s_law_heard) l33 c33 k33
    g_law_heard := PySem.W.mg_of X G a33
    b_law_heard := (fun_mk (st := s_law_heard) l33 c33 k33).binds (ps := ["ask"]) fun _ _ _ _ _ _ us hl => match us, hl with | [_], _ => rfl
    f_law := f34
    fd_law := _
    F_law := fun_mk (st := s_law) l34 c34 k34
    g_law := PySem.W.mg_of X G a34
    b_law := (fun_mk (st := s_law) l34 c34 k34).binds (ps := ["script"]) fun _ _ _ _ _ _ us hl => match us, hl with | [_], _ => rfl
    n_law := a34
    k_BadLine := KD_BadLine
    gk_BadLine := PySem.W.mg_of X G da_BadLine
    kc_BadLine := di_BadLine
    kt_BadLine := dy_BadLine
    k_BadProgram := KD_BadProgram
    gk_BadProgram := PySem.W.mg_of X G da_BadProgram
    kc_BadProgram := di_BadProgram
    kt_BadProgram := dy_BadProgram
    su_BadLine_BadLine := ds_BadLine_BadLine
    su_BadLine_BadProgram := ds_BadLine_BadProgram
    su_BadProgram_BadLine := ds_BadProgram_BadLine
    su_BadProgram_BadProgram := ds_BadProgram_BadProgram
    m_isinstance := PySem.W.mg_none_of X G z0
    m_list := PySem.W.mg_none_of X G z1
    m_tuple := PySem.W.mg_none_of X G z2
    m_int := PySem.W.mg_none_of X G z3
    m_bool := PySem.W.mg_none_of X G z4
    m_str := PySem.W.mg_none_of X G z5
    m_len := PySem.W.mg_none_of X G z6
    m_range := PySem.W.mg_none_of X G z7
    m_enumerate := PySem.W.mg_none_of X G z8
    m_all := PySem.W.mg_none_of X G z9
    m_zip := PySem.W.mg_none_of X G z10
    m_abs := PySem.W.mg_none_of X G z11
    m_repr := PySem.W.mg_none_of X G z12
    e_BadProgram := er_BadProgram
    e_BadLine := e2_BadLine
    D_FORMS := KE_FORMS
    gD_FORMS := PySem.W.mg_of X G ea_FORMS
    tD_FORMS := ⟨ed_FORMS, (ktab_cons ⟨_, eb_FORMS0, fun _ => .inr ⟨_, ki_FORMS0, kn_FORMS0, el_FORMS0, rfl, rfl, wz_FORMS0, wv_FORMS0⟩⟩ (ktab_cons ⟨_, eb_FORMS1, fun _ => .inr ⟨_, ki_FORMS1, kn_FORMS1, el_FORMS1, rfl, rfl, wz_FORMS1, wv_FORMS1⟩⟩ (ktab_cons ⟨_, eb_FORMS2, fun _ => .inr ⟨_, ki_FORMS2, kn_FORMS2, el_FORMS2, rfl, rfl, wz_FORMS2, wv_FORMS2⟩⟩ (ktab_cons ⟨_, eb_FORMS3, fun _ => .inr ⟨_, ki_FORMS3, kn_FORMS3, el_FORMS3, rfl, rfl, wz_FORMS3, wv_FORMS3⟩⟩ (ktab_cons ⟨_, eb_FORMS4, fun _ => .inr ⟨_, ki_FORMS4, kn_FORMS4, el_FORMS4, rfl, rfl, wz_FORMS4, wv_FORMS4⟩⟩ (ktab_cons ⟨_, eb_FORMS5, fun _ => .inr ⟨_, ki_FORMS5, kn_FORMS5, el_FORMS5, rfl, rfl, wz_FORMS5, wv_FORMS5⟩⟩ (ktab_cons ⟨_, eb_FORMS6, fun _ => .inr ⟨_, ki_FORMS6, kn_FORMS6, el_FORMS6, rfl, rfl, wz_FORMS6, wv_FORMS6⟩⟩ (ktab_cons ⟨_, eb_FORMS7, fun _ => .inr ⟨_, ki_FORMS7, kn_FORMS7, el_FORMS7, rfl, rfl, wz_FORMS7, wv_FORMS7⟩⟩ (ktab_cons ⟨_, eb_FORMS8, fun _ => .inr ⟨_, ki_FORMS8, kn_FORMS8, el_FORMS8, rfl, rfl, wz_FORMS8, wv_FORMS8⟩⟩ ktab_nil)))))))))⟩
    D_NO_NAMES := KW_NO_NAMES
    gD_NO_NAMES := PySem.W.mg_of X G wa_NO_NAMES
    tD_NO_NAMES := fun _ => .inr ⟨_, wi_NO_NAMES, wn_NO_NAMES, wl_NO_NAMES, rfl, rfl, wz_NO_NAMES, wv_NO_NAMES⟩
    D_SIGNS := KW_SIGNS
    gD_SIGNS := PySem.W.mg_of X G wa_SIGNS
    tD_SIGNS := fun _ => .inr ⟨_, wi_SIGNS, wn_SIGNS, wl_SIGNS, rfl, rfl, wz_SIGNS, wv_SIGNS⟩
    t_MOST_NAME_LETTERS := t0
    c_MOST_NAME_LETTERS := PySem.W.mg_of X G q0
    t_MOST_PLAIN := t1
    c_MOST_PLAIN := PySem.W.mg_of X G q1
    t_MOST_PLAIN_DIGITS := t2
    c_MOST_PLAIN_DIGITS := PySem.W.mg_of X G q2 }
end K34
open PySem PySem.W PyProof.Rows
set_option maxHeartbeats 0 in
theorem PySem.Challenge.cw_anyletter_k34_lines_and_their_parts_holds : PySem.Challenge.rw_anyletter_k34_lines_and_their_parts.Holds := by
  w_on; o_law; k_head; (case hw => w_witness2)
  k_fill
  refine Kx.walkL (l := PySem.Challenge.rw_anyletter_k34_lines_and_their_parts) (n := 63) (k := 11) (x := "script") (y := "law") K34.sp_law rfl (by decide) rfl ⟨rfl, by decide, by decide⟩ (fun w h Y => PySem.W.km_in_of Y) ?hcs ?FF (fun K Pt H a ns hl ht hS => ⟨a, ns, rfl, hS, ht, fun _ => rfl⟩)
  case hcs =>
    intro p
    refine' ⟨⟨_, rfl⟩, Kx.tabIn_of ?ta ?tl ?te ?tl2 ?tv ?tn⟩
    case ta => k_is
    case tl => k_is
    case te => rfl
    case tl2 => k_is
    case tv => rfl
    case tn => rfl
  case FF =>
    intro w mg fa h KX G hmg
    refine' Kx.useIt (K34.tx_mk (w := w) KX G ?a0 ?l0 ?c0 ?k0 ?a1 ?l1 ?c1 ?k1 ?a2 ?l2 ?c2 ?k2 ?a3 ?l3 ?c3 ?k3 ?a4 ?l4 ?c4 ?k4 ?a5 ?l5 ?c5 ?k5 ?a6 ?l6 ?c6 ?k6 ?a7 ?l7 ?c7 ?k7 ?a8 ?l8 ?c8 ?k8 ?a9 ?l9 ?c9 ?k9 ?a10 ?l10 ?c10 ?k10 ?a11 ?l11 ?c11 ?k11 ?a12 ?l12 ?c12 ?k12 ?a13 ?l13 ?c13 ?k13 ?a14 ?l14 ?c14 ?k14 ?a15 ?l15 ?c15 ?k15 ?a16 ?l16 ?c16 ?k16 ?a17 ?l17 ?c17 ?k17 ?a18 ?l18 ?c18 ?k18 ?a19 ?l19 ?c19 ?k19 ?a20 ?l20 ?c20 ?k20 ?a21 ?l21 ?c21 ?k21 ?a22 ?l22 ?c22 ?k22 ?a23 ?l23 ?c23 ?k23 ?a24 ?l24 ?c24 ?k24 ?a25 ?l25 ?c25 ?k25 ?a26 ?l26 ?c26 ?k26 ?a27 ?l27 ?c27 ?k27 ?a28 ?l28 ?c28 ?k28 ?a29 ?l29 ?c29 ?k29 ?a30 ?l30 ?c30 ?k30 ?a31 ?l31 ?c31 ?k31 ?a32 ?l32 ?c32 ?k32 ?a33 ?l33 ?c33 ?k33 ?a34 ?l34 ?c34 ?k34 ?da_BadLine ?di_BadLine ?dy_BadLine ?da_BadProgram ?di_BadProgram ?dy_BadProgram ?ds_BadLine_BadLine ?ds_BadLine_BadProgram ?ds_BadProgram_BadLine ?ds_BadProgram_BadProgram ?z0 ?z1 ?z2 ?z3 ?z4 ?z5 ?z6 ?z7 ?z8 ?z9 ?z10 ?z11 ?z12 ?er_BadProgram ?e2_BadLine ?ea_FORMS ?ed_FORMS ?eb_FORMS0 ?el_FORMS0 ?wz_FORMS0 ?wv_FORMS0 ?eb_FORMS1 ?el_FORMS1 ?wz_FORMS1 ?wv_FORMS1 ?eb_FORMS2 ?el_FORMS2 ?wz_FORMS2 ?wv_FORMS2 ?eb_FORMS3 ?el_FORMS3 ?wz_FORMS3 ?wv_FORMS3 ?eb_FORMS4 ?el_FORMS4 ?wz_FORMS4 ?wv_FORMS4 ?eb_FORMS5 ?el_FORMS5 ?wz_FORMS5 ?wv_FORMS5 ?eb_FORMS6 ?el_FORMS6 ?wz_FORMS6 ?wv_FORMS6 ?eb_FORMS7 ?el_FORMS7 ?wz_FORMS7 ?wv_FORMS7 ?eb_FORMS8 ?el_FORMS8 ?wz_FORMS8 ?wv_FORMS8 ?wa_NO_NAMES ?wl_NO_NAMES ?wz_NO_NAMES ?wv_NO_NAMES ?wa_SIGNS ?wl_SIGNS ?wz_SIGNS ?wv_SIGNS ?q0 ?q1 ?q2) (fun T => ?main)
    (case a0 => k_is)
    (case l0 => k_is)
    (case c0 => k_is)
    (case k0 => k_is)
    (case a1 => k_is)
    (case l1 => k_is)
    (case c1 => k_is)
    (case k1 => k_is)
    (case a2 => k_is)
    (case l2 => k_is)
    (case c2 => k_is)
    (case k2 => k_is)
    (case a3 => k_is)
    (case l3 => k_is)
    (case c3 => k_is)
    (case k3 => k_is)
    (case a4 => k_is)
    (case l4 => k_is)
    (case c4 => k_is)
    (case k4 => k_is)
    (case a5 => k_is)
    (case l5 => k_is)
    (case c5 => k_is)
    (case k5 => k_is)
    (case a6 => k_is)
    (case l6 => k_is)
    (case c6 => k_is)
    (case k6 => k_is)
    (case a7 => k_is)
    (case l7 => k_is)
    (case c7 => k_is)
    (case k7 => k_is)
    (case a8 => k_is)
    (case l8 => k_is)
    (case c8 => k_is)
    (case k8 => k_is)
    (case a9 => k_is)
    (case l9 => k_is)
    (case c9 => k_is)
    (case k9 => k_is)
    (case a10 => k_is)
    (case l10 => k_is)
    (case c10 => k_is)
    (case k10 => k_is)
    (case a11 => k_is)
    (case l11 => k_is)
    (case c11 => k_is)
    (case k11 => k_is)
    (case a12 => k_is)
    (case l12 => k_is)
    (case c12 => k_is)
    (case k12 => k_is)
    (case a13 => k_is)
    (case l13 => k_is)
    (case c13 => k_is)
    (case k13 => k_is)
    (case a14 => k_is)
    (case l14 => k_is)
    (case c14 => k_is)
    (case k14 => k_is)
    (case a15 => k_is)
    (case l15 => k_is)
    (case c15 => k_is)
    (case k15 => k_is)
    (case a16 => k_is)
    (case l16 => k_is)
    (case c16 => k_is)
    (case k16 => k_is)
    (case a17 => k_is)
    (case l17 => k_is)
    (case c17 => k_is)
    (case k17 => k_is)
    (case a18 => k_is)
    (case l18 => k_is)
    (case c18 => k_is)
    (case k18 => k_is)
    (case a19 => k_is)
    (case l19 => k_is)
    (case c19 => k_is)
    (case k19 => k_is)
    (case a20 => k_is)
    (case l20 => k_is)
    (case c20 => k_is)
    (case k20 => k_is)
    (case a21 => k_is)
    (case l21 => k_is)
    (case c21 => k_is)
    (case k21 => k_is)
    (case a22 => k_is)
    (case l22 => k_is)
    (case c22 => k_is)
    (case k22 => k_is)
    (case a23 => k_is)
    (case l23 => k_is)
    (case c23 => k_is)
    (case k23 => k_is)
    (case a24 => k_is)
    (case l24 => k_is)
    (case c24 => k_is)
    (case k24 => k_is)
    (case a25 => k_is)
    (case l25 => k_is)
    (case c25 => k_is)
    (case k25 => k_is)
    (case a26 => k_is)
    (case l26 => k_is)
    (case c26 => k_is)
    (case k26 => k_is)
    (case a27 => k_is)
    (case l27 => k_is)
    (case c27 => k_is)
    (case k27 => k_is)
    (case a28 => k_is)
    (case l28 => k_is)
    (case c28 => k_is)
    (case k28 => k_is)
    (case a29 => k_is)
    (case l29 => k_is)
    (case c29 => k_is)
    (case k29 => k_is)
    (case a30 => k_is)
    (case l30 => k_is)
    (case c30 => k_is)
    (case k30 => k_is)
    (case a31 => k_is)
    (case l31 => k_is)
    (case c31 => k_is)
    (case k31 => k_is)
    (case a32 => k_is)
    (case l32 => k_is)
    (case c32 => k_is)
    (case k32 => k_is)
    (case a33 => k_is)
    (case l33 => k_is)
    (case c33 => k_is)
    (case k33 => k_is)
    (case a34 => k_is)
    (case l34 => k_is)
    (case c34 => k_is)
    (case k34 => k_is)
    (case da_BadLine => k_is)
    (case di_BadLine => k_is)
    (case dy_BadLine => k_is)
    (case da_BadProgram => k_is)
    (case di_BadProgram => k_is)
    (case dy_BadProgram => k_is)
    (case ds_BadLine_BadLine => k_is)
    (case ds_BadLine_BadProgram => k_is)
    (case ds_BadProgram_BadLine => k_is)
    (case ds_BadProgram_BadProgram => k_is)
    (case z0 => k_is)
    (case z1 => k_is)
    (case z2 => k_is)
    (case z3 => k_is)
    (case z4 => k_is)
    (case z5 => k_is)
    (case z6 => k_is)
    (case z7 => k_is)
    (case z8 => k_is)
    (case z9 => k_is)
    (case z10 => k_is)
    (case z11 => k_is)
    (case z12 => k_is)
    (case er_BadProgram =>
      refine' Kx.er_mk KX G ?waC ?waL ?wxL ?whbm ?wsa ?weC ?wtC ?wkC ?wa1 ?wt1 ?wl1 ?wc1 ?wk1 ?wb1 ?wnb ?wga ?wgg ?whd ?whc ?whn ?wht ?whm ?weL ?wdL ?wtL ?wsCL
      (case waC => k_is); (case waL => k_is); (case wxL => k_is); (case whbm => rfl); (case wsa => k_is); (case weC => k_is); (case wtC => k_is); (case wkC => k_is); (case wa1 => k_is); (case wt1 => k_is); (case wl1 => k_is); (case wc1 => k_is); (case wk1 => k_is)
      (case wb1 => exact fun _ _ _ _ _ _ us hl => match us, hl with | [_, _], _ => rfl)
      (case wnb => k_is); (case wga => k_is); (case wgg => k_is); (case whd => k_is); (case whc => k_is); (case whn => k_is); (case wht => k_is); (case whm => k_is); (case weL => k_is); (case wdL => k_is); (case wtL => k_is); (case wsCL => k_is))
    (case e2_BadLine =>
      refine' Kx.er2_mk KX G ?waC ?waL ?wxL ?whbm ?wsa ?weC ?wtC ?wkC ?wa1 ?wt1 ?wl1 ?wc1 ?wk1 ?wb1 ?wnb ?wnb2 ?wga ?wgg ?whd ?whc ?whn ?wht ?whm ?weL ?wdL ?wtL ?wsCL
      (case waC => k_is); (case waL => k_is); (case wxL => k_is); (case whbm => rfl); (case wsa => k_is); (case weC => k_is); (case wtC => k_is); (case wkC => k_is); (case wa1 => k_is); (case wt1 => k_is); (case wl1 => k_is); (case wc1 => k_is); (case wk1 => k_is)
      (case wb1 => exact fun _ _ _ _ _ _ us hl => match us, hl with | [_, _, _], _ => rfl)
      (case wnb => k_is); (case wnb2 => k_is); (case wga => k_is); (case wgg => k_is); (case whd => k_is); (case whc => k_is); (case whn => k_is); (case wht => k_is); (case whm => k_is); (case weL => k_is); (case wdL => k_is); (case wtL => k_is); (case wsCL => k_is))
    (case ea_FORMS => k_is)
    (case ed_FORMS => rfl)
    (case eb_FORMS0 => k_is)
    (case el_FORMS0 => k_is)
    (case wz_FORMS0 => first | decide | decide +kernel | (exact Nat.le_of_ble_eq_true rfl))
    (case wv_FORMS0 => exact .cons ⟨_, rfl⟩ (.nil))
    (case eb_FORMS1 => k_is)
    (case el_FORMS1 => k_is)
    (case wz_FORMS1 => first | decide | decide +kernel | (exact Nat.le_of_ble_eq_true rfl))
    (case wv_FORMS1 => exact .cons ⟨_, rfl⟩ (.nil))
    (case eb_FORMS2 => k_is)
    (case el_FORMS2 => k_is)
    (case wz_FORMS2 => first | decide | decide +kernel | (exact Nat.le_of_ble_eq_true rfl))
    (case wv_FORMS2 => exact .cons ⟨_, rfl⟩ (.cons ⟨_, rfl⟩ (.nil)))
    (case eb_FORMS3 => k_is)
    (case el_FORMS3 => k_is)
    (case wz_FORMS3 => first | decide | decide +kernel | (exact Nat.le_of_ble_eq_true rfl))
    (case wv_FORMS3 => exact .cons ⟨_, rfl⟩ (.cons ⟨_, rfl⟩ (.nil)))
    (case eb_FORMS4 => k_is)
    (case el_FORMS4 => k_is)
    (case wz_FORMS4 => first | decide | decide +kernel | (exact Nat.le_of_ble_eq_true rfl))
    (case wv_FORMS4 => exact .cons ⟨_, rfl⟩ (.nil))
    (case eb_FORMS5 => k_is)
    (case el_FORMS5 => k_is)
    (case wz_FORMS5 => first | decide | decide +kernel | (exact Nat.le_of_ble_eq_true rfl))
    (case wv_FORMS5 => exact .cons ⟨_, rfl⟩ (.nil))
    (case eb_FORMS6 => k_is)
    (case el_FORMS6 => k_is)
    (case wz_FORMS6 => first | decide | decide +kernel | (exact Nat.le_of_ble_eq_true rfl))
    (case wv_FORMS6 => exact .nil)
    (case eb_FORMS7 => k_is)
    (case el_FORMS7 => k_is)
    (case wz_FORMS7 => first | decide | decide +kernel | (exact Nat.le_of_ble_eq_true rfl))
    (case wv_FORMS7 => exact .nil)
    (case eb_FORMS8 => k_is)
    (case el_FORMS8 => k_is)
    (case wz_FORMS8 => first | decide | decide +kernel | (exact Nat.le_of_ble_eq_true rfl))
    (case wv_FORMS8 => exact .nil)
    (case wa_NO_NAMES => k_is)
    (case wl_NO_NAMES => k_is)
    (case wz_NO_NAMES => first | decide | decide +kernel | (exact Nat.le_of_ble_eq_true rfl))
    (case wv_NO_NAMES => exact .cons ⟨_, rfl⟩ (.cons ⟨_, rfl⟩ (.cons ⟨_, rfl⟩ (.cons ⟨_, rfl⟩ (.cons ⟨_, rfl⟩ (.cons ⟨_, rfl⟩ (.cons ⟨_, rfl⟩ (.cons ⟨_, rfl⟩ (.cons ⟨_, rfl⟩ (.cons ⟨_, rfl⟩ (.cons ⟨_, rfl⟩ (.nil))))))))))))
    (case wa_SIGNS => k_is)
    (case wl_SIGNS => k_is)
    (case wz_SIGNS => first | decide | decide +kernel | (exact Nat.le_of_ble_eq_true rfl))
    (case wv_SIGNS => exact .cons ⟨_, rfl⟩ (.cons ⟨_, rfl⟩ (.cons ⟨_, rfl⟩ (.cons ⟨_, rfl⟩ (.cons ⟨_, rfl⟩ (.cons ⟨_, rfl⟩ (.nil)))))))
    (case q0 => k_is)
    (case q1 => k_is)
    (case q2 => k_is)
    case main =>
      obtain rfl := Kx.same_ref (x := "law") T.g_law hmg
      exact ⟨T.fd_law, Kx.binds_one T.F_law (fun _ _ _ _ _ _ _ => rfl), fun c Pt ht base hk hg hTB => (K34.ok_law (P := PySem.Challenge.rw_anyletter_k34_lines_and_their_parts.prog) T (Kx.funC_of T.F_law T.n_law ht) hTB)⟩
