import PyProof.Rows.All
import Wide.All
import OpenK.AllK
import Wide.FinOn
import HandS.ForMost
import HandS.EndBits
import HandS.Wide
import HandS.RaiseMore
import HandS.Walk
import HandS.Style
import KE.DataMinMax
import HandS.Gcd
import PyProof.MaxThree
import PyProof.StrOps2
import PySem.Challenge.RW_leftroads_k02_roads_of_fractions
set_option Elab.async false
set_option linter.all false
set_option maxRecDepth 100000
set_option maxHeartbeats 8000000
/-! Calls where no repr is under way. -/
namespace Lr
open PySem PySem.Spec PyProof.Rows L2
section
variable {P : Program} {w : World} {K : PySem.W.Frag} {mg : Str → Option Value} {base : Heap}
/-- a def that keeps its promise where no repr is under way -/
structure FnG (P : Program) (w : World) (K : PySem.W.Frag) (mg : Str → Option Value) (base : Heap) (CX : CXT) (k : Nat) (f : Addr) (fd : FuncData) (ps : List Str) (sp : Sp) : Prop where
  many : ∀ vs H Q E, sp vs H Q E → vs.length = ps.length
  goes : ∀ (A : Around) (up : List Env) (s : Shared) (H : Hp) (as : Args) (us : List Value) (vs : List V) (Q : VK) (E : XK), A.guards = some [] → Room k A → Env0 P w K mg base A up s H →
    BindsTo s fd as (ps.zip us) → Vals vs us → sp vs H Q E → codeAny (model P w) A (.call (.ref f) as) (CR CX up P w H s Q E) s
theorem FnG.of {CX : CXT} {k : Nat} {f : Addr} {fd : FuncData} {ps : List Str} {sp : Sp} (F : FnOk P w K mg base CX k f fd ps sp) : FnG P w K mg base CX k f fd ps sp :=
  ⟨F.len, fun A up s H as us vs Q E _ => F.run A up s H as us vs Q E⟩
theorem FnG.up {CX : CXT} {j k : Nat} {f : Addr} {fd : FuncData} {ps : List Str} {sp : Sp} (F : FnG P w K mg base CX j f fd ps sp) (l : j ≤ k) : FnG P w K mg base CX k f fd ps sp :=
  ⟨F.many, fun A up s H as us vs Q E g r => F.goes A up s H as us vs Q E g (r.mono l)⟩
theorem FnG.wk {CX : CXT} {k : Nat} {f : Addr} {fd : FuncData} {ps : List Str} {sp sp' : Sp} (F : FnG P w K mg base CX k f fd ps sp) (i : ∀ vs H Q E, sp' vs H Q E → sp vs H Q E) : FnG P w K mg base CX k f fd ps sp' :=
  ⟨fun vs H Q E z => F.many vs H Q E (i _ _ _ _ z), fun A up s H as us vs Q E g r e b v z => F.goes A up s H as us vs Q E g r e b v (i _ _ _ _ z)⟩
/-- a def by its body, as F.ok says, with the guards told -/
theorem okGX {CX : CXT} {x qual : Str} {st : Stmt} {f : Addr} {fd : FuncData} {N ps : List Str} {k : Nat} {sp : Sp} (F : Fun K x qual st f fd) (S : FnScope N ps (defScope st)) (many : ∀ vs H Q E, sp vs H Q E → vs.length = ps.length)
    (body : ∀ (cdv : Value) (A : Around) (up : List Env) (s : Shared) (H : Hp) (vs : List V) (Q : VK) (E : XK), A.guards = some [] → Room k (A.deeper (envOfC qual (defScope st) s.heap.objs.size f cdv)) → sp vs H Q E →
      ∃ t, PSs (cxOf CX P w K mg base N qual (defScope st) f cdv A up s H E) (defBody st) t ∧ t { nx := fun _ H' => Q .non H', rt := Q } (start N vs) H) : FnG P w K mg base CX (k + 1) f fd ps sp := by
  obtain ⟨oc, od, kV, doc, pm, an, cdv, ct, osl, rfl, lk, hcd⟩ := F.ex
  refine ⟨many, fun A up s H as us vs Q E hG hr e0 hb rv hsp => ?_⟩
  have mn := many _ _ _ _ hsp
  have inK : K.In s.heap := e0.mod.kin.keeps fun b o z => (e0.bs b o z).1
  have nl : s.heap.NoLimit := e0.mod.nolimit.keeps fun b o z => (e0.bs b o z).1
  refine codeAny_call_function hr.depth (inK _ _ lk) rfl S.co
    S.gen rfl (PySem.W.codeRec_of inK hcd) (hb _ _ _ _ ?_)
  refine wpAny_newFunctionEnv_cells S.kind (fun ⟨n, v⟩ hy => ?_) fun ev he s1 x => ?_
  · rcases S.par n (List.of_mem_zip hy).1 with z | z
    · exact .inl z
    · exact .inr ⟨z, PySem.W.cellsFrom_some _ _ _ (.inl z)⟩
  · subst he
    refine ⟨nl.keeps x.toInCall.keep, codeAny_func ?_⟩
    obtain ⟨t, ht, hq⟩ := body cdv A up s H vs Q E hG (hr.deeper _) hsp
    have I := inv_start (CX := CX) (qual := qual) (f := f) (cd := cdv) (E := E) S hr.hd e0 mn rv x
    refine wpAny_mono (ht.run [] s1 (start N vs) H _ I hq) (fun fl s' hs => ?_) fun _ _ z => z
    cases fl with
    | ret u =>
      obtain ⟨v, σ', H', J, r1, q⟩ := hs
      exact ⟨v, H', J.os, J.bare, J.base, J.hok, r1, q⟩
    | next =>
      obtain ⟨σ', H', J, q⟩ := hs
      exact ⟨.non, H', J.os, J.bare, J.base, J.hok, rfl, q⟩
    | brk =>
      obtain ⟨_, _, _, q⟩ := hs
      exact q.elim
    | cont =>
      obtain ⟨_, _, _, q⟩ := hs
      exact q.elim
/-- .. of a def that no error leaves -/
theorem okG {x qual : Str} {st : Stmt} {f : Addr} {fd : FuncData} {N ps : List Str} {k : Nat} {sp : Sp} (F : Fun K x qual st f fd) (S : FnScope N ps (defScope st)) (many : ∀ vs H Q E, sp vs H Q E → vs.length = ps.length)
    (body : ∀ (cdv : Value) (A : Around) (up : List Env) (s : Shared) (H : Hp) (vs : List V) (Q : VK) (E : XK), A.guards = some [] → Room k (A.deeper (envOfC qual (defScope st) s.heap.objs.size f cdv)) → sp vs H Q E →
      ∃ t, PSs (cxOf CX0 P w K mg base N qual (defScope st) f cdv A up s H E).nox (defBody st) t ∧ t { nx := fun _ H' => Q .non H', rt := Q } (start N vs) H) : FnG P w K mg base CX0 (k + 1) f fd ps sp :=
  okGX F S many fun cdv A up s H vs Q E g hr z => by
    obtain ⟨t, ht, hq⟩ := body cdv A up s H vs Q E g hr z
    exact ⟨t, ht.nox, hq⟩
end
section
variable {X : Cx} {CX : CXT} {k : Nat} {f : Addr} {fd : FuncData} {ps : List Str} {sp : Sp} {E : XK} {x : Str} {p pos : Pos} {e : Expr} {es : List Expr} {t : TA}
theorem goes_fn {pins : List (Addr × Obj)} {σ : L2.St} {H : Hp} {s : Shared} {Q : VK} {us : List Value} {vs : List V} (F : FnG X.prog X.w X.K X.mg X.base CX k f fd ps sp) (hG : X.A.guards = some []) (hr : Room k X.A) (hb : Binds X.K fd ps []) (hx : Passes CX X E)
    (I : Inv X pins σ H s) (r : Vals vs us) (h : sp vs H Q E) : wpAny (model X.prog X.w) X.A (call (.ref f) us) (EP X pins σ Q) X.xe s := by
  have ln : us.length = ps.length := by
    rw [← r.length]
    exact F.many _ _ _ _ h
  have bt : BindsTo s fd ⟨us, []⟩ (ps.zip us) := by
    have z := hb s us I.kIn (by rw [List.append_nil]; exact ln)
    rw [List.append_nil] at z
    exact z
  refine wpAny_call (codeAny_mono (F.goes X.A X.stack s H ⟨us, []⟩ us vs Q E hG hr I.env0 bt r h) fun rs s' z => ?_)
  match rs, z with
  | .error er, z => exact hx pins σ H s er s' I z
  | .ok (.ret u), z => exact I.after z
/-- f(e, ..) of such a def -/
theorem pe_callG (F : FnG X.prog X.w X.K X.mg X.base CX k f fd ps sp) (hG : X.A.guards = some []) (hr : Room k X.A) (hg : Gl X x) (hm : X.mg x = some (.ref f)) (hk : PySem.W.keepIn X.K (.ref f) = true) (hb : Binds X.K fd ps []) (hx : Passes CX X E)
    (ha : PA X (e :: es) t) (hdb : (x == ("__debug__" : Str)) = false := by decide) (he : starEach (e :: es) X.env = (false, eval e X.env) :: starEach es X.env := by rfl) (hpl : (backTo pos (starEach es X.env)).any (·.1) = false := by rfl) :
    PE X (.Call (.Name x p) (e :: es) [] pos) (tCall sp [] E t) := by
  refine ⟨fun pins s σ H Q I h => ?_⟩
  refine wpAny_Call_Name_kw (ld_glob I hg hm ?_ hdb)
  refine PySem.W.callWith_K (h₀ := X.base) I.ok.mod.kin hk (thn (ha.run pos pins s σ H _ I h) fun us s1 z => ?_) he hpl
  obtain ⟨vs, H1, I1, r1, q⟩ := z
  rw [List.append_nil] at q
  exact ⟨I1.kIn, goes_fn F hG hr hb hx I1 r1 q⟩
end
section
/-- the law's call, from its promise: what stood ahead of it is tracked nowhere but for the script -/
theorem enterG {P : Program} {w : World} {K : PySem.W.Frag} {mg mb : Str → Option Value} {k : Nat} {fa a : Addr} {fd : FuncData} {x : Str} {sp : Sp} {s : Shared} {vs : List Value} {ns : List Int}
    (inK : K.In s.heap) (hm : s.heap.Ns mainGlobals mg) (hb : s.heap.Ns builtinsNs mb) (hbb : ∀ x : Str, x ≠ "__name__" → mb x = bootBuiltins x) (nl : s.heap.NoLimit) (hgen : s.gens = #[])
    (hobj : s.heap.get? a = some { cls := .type "list", data := .seq vs.toArray }) (hi : IntsAre vs ns) (hl : ns.length ≤ sizeLine) (hr : Room k callerA)
    (F : ∀ base : Heap, K.In base → base.Ns mainGlobals mg → FnG P w K mg base CX0 k fa fd [x] sp) (bd : ∀ (s : Shared) (u : Value), BindsTo s fd ⟨[u], []⟩ [(x, u)])
    (hsp : ∀ H : Hp, SqL K H a (ns.map V.int) → (∀ b, b ≠ a → H b = none) → sp [.ref a] H (fun v _ => v = .bl true) fun _ _ _ => False) :
    codeAny (model P w) callerA (.call (.ref fa) ⟨[.ref a], []⟩) (fun r s' => r = .ok (.ret (.bool true)) ∧ OldK s.heap s'.heap ∧ s'.os = s.os ∧ AllBare s'.gens) s := by
  have rv := vals_ints hi
  have ln := hi.length
  -- H tracks at most the script
  have go : ∀ H : Hp, (H = (fun _ => none) ∨ H a = some (.frz { cls := .type "list", data := .seq vs.toArray } (.lst (ns.map V.int))) ∧ K.lookup a = none ∧ ∀ b, b ≠ a → H b = none) → SqL K H a (ns.map V.int) →
      codeAny (model P w) callerA (.call (.ref fa) ⟨[.ref a], []⟩) (fun r s' => r = .ok (.ret (.bool true)) ∧ OldK s.heap s'.heap ∧ s'.os = s.os ∧ AllBare s'.gens) s := by
    intro H hH hS
    have only : ∀ b, b ≠ a → H b = none := fun b nb => by
      rcases hH with z | z
      · rw [z]
      · exact z.2.2 b nb
    have held : ∀ b u, H b = some u → b = a ∧ u = .frz { cls := .type "list", data := .seq vs.toArray } (.lst (ns.map V.int)) ∧ K.lookup a = none := fun b u z => by
      by_cases nb : b = a
      · refine ⟨nb, ?_⟩
        rw [nb] at z
        rcases hH with y | y
        · rw [y] at z
          cases z
        · rw [y.1] at z
          exact ⟨(Option.some.inj z).symm, y.2.1⟩
      · rw [only b nb] at z
        cases z
    have hok : HOk P w H s.heap := fun b u z => by
      obtain ⟨eb, eu, _⟩ := held b u z
      rw [eb, eu]
      exact ⟨hobj, by rw [List.length_map]; exact hl, vs, _, rv, hobj⟩
    -- a dict is not the script
    have dn : ∀ {b : Addr} {m : Str → Option Value}, s.heap.Ns b m → (hidT s.heap H).Ns b m := fun {b m} ⟨o, es, ep, ho, hd, more⟩ => by
      refine ⟨o, es, ep, hidT_get ho ?_, hd, more⟩
      refine only b fun eb => ?_
      rw [eb, hobj] at ho
      rw [← Option.some.inj ho] at hd
      exact nomatch hd
    have inB : K.In (hidT s.heap H) := fun b o z => hidT_get (inK b o z) (by
      cases q : H b with
      | none => rfl
      | some u =>
        obtain ⟨eb, _, nk⟩ := held b u q
        rw [eb, nk] at z
        cases z)
    obtain ⟨mc, n1, n2⟩ := nl
    have e0 : Env0 P w K mg (hidT s.heap H) callerA [] s H := {
      frames := rfl
      mod := ⟨inB, dn hm, ⟨mb, dn hb, hbb⟩, ⟨mc, dn n1, n2⟩⟩
      bs := fun b o z => of_hidT z
      bsz := Nat.le_of_eq (hidT_size _ _)
      funs := trivial
      frf := fun b z => absurd z List.not_mem_nil
      hok := hok
      bare := .of_eq hgen }
    refine codeAny_mono ((F _ inB (dn hm)).goes callerA [] s H _ [.ref a] [.ref a] _ (fun _ _ _ => False) rfl hr e0 (bd s (.ref a)) (.cons rfl .nil) (hsp H hS only)) fun r s' z => ?_
    match r, z with
    | .error _, z => exact z.elim
    | .ok (.ret u), z =>
      obtain ⟨v, H', os, bare, un, hok', r1, q⟩ := z
      cases (show v = V.bl true from q)
      cases (show u = Value.bool true from r1)
      refine ⟨rfl, OldK.of_keep fun b o ho => ?_, os, bare⟩
      cases q : H b with
      | none => exact un.keep b o ho q List.not_mem_nil List.not_mem_nil
      | some u =>
        obtain ⟨eb, eu, _⟩ := held b u q
        rw [eu] at q
        have z1 : s.heap.get? b = some _ := (hok b _ q).1
        have z2 : s'.heap.get? b = some _ := (hok' b _ (un.frzs b _ _ q)).1
        rw [z2, ← z1]
        exact ho
  cases hk : K.lookup a with
  | some o =>
    have z := inK a o hk
    rw [hobj] at z
    cases z
    exact go (fun _ => none) (.inl rfl) (.inr ⟨_, vs.toArray, _, hk, rfl, rfl, rfl, by rw [List.size_toArray, ln]; exact hl, by simpa using rv⟩)
  | none =>
    refine go (fun b => if b = a then some (.frz { cls := .type "list", data := .seq vs.toArray } (.lst (ns.map V.int))) else none) (.inr ⟨if_pos rfl, hk, fun b nb => if_neg nb⟩) (.inl (.inr ⟨_, if_pos rfl⟩))
/-- the goal that k_head leaves -/
theorem walk_ofG {l : PySem.W.OpenLaw} {n k : Nat} {q : Program} {loose : List Str} {XP : (Str → Option Value) → Heap → Prop} {YP : World → Heap → Prop} {d : DefRec} {K : Params → PySem.W.Frag} {sp : World → Sp} {x : Str}
    (hn : l.most = some n) (hn2 : n ≤ sizeLine) (hdf : d.params.defaults = []) (hr : Room k callerA) (hY : ∀ (w : World) (h : Heap), YP w h → (K w.params).In h)
    (F : ∀ (w : World) (mg : Str → Option Value) (fa : Addr) (h : Heap), (K w.params).In h → h.Ns mainGlobals mg → mg d.name = some (.ref fa) →
      ∃ fd : FuncData, (∀ (s : Shared) (u : Value), BindsTo s fd ⟨[u], []⟩ [(x, u)]) ∧ ∀ base : Heap, (K w.params).In base → base.Ns mainGlobals mg → FnG l.prog w (K w.params) mg base CX0 k fa fd [x] (sp w))
    (hsp : ∀ (w : World) (H : Hp) (a : Addr) (ns : List Int), ns.length ≤ n → (∀ z ∈ ns, Builtin.Int.intBits z ≤ 1048576) → SqL (K w.params) H a (ns.map V.int) → (∀ b, b ≠ a → H b = none) → sp w [.ref a] H (fun v _ => v = .bl true) fun _ _ _ => False) :
    PySem.W.WalkO q loose XP YP l.row.toRowW d [] (fun f vs => PySem.call f vs) := by
  refine Att.attach_callB hn hdf fun w s₀ s mg mb fa o pm cd doc a vs ns G Y ho hd hcd hmg hobj hi hlen hbits hg => ?_
  have inK := hY w _ Y
  obtain ⟨fd, bd, hF⟩ := F w mg fa _ inK G.T.g hmg
  exact enterG inK G.T.g G.T.b G.T.builtins G.T.nolimit hg hobj hi (Nat.le_trans hlen hn2) hr hF bd fun H hS only => hsp w H a ns hlen hbits hS only
end
end Lr

namespace Lr
open PySem PySem.Spec PyProof.Rows L2
/-! repr of data -/
/-- what repr writes out within the lines -/
structure Shw (d : PyData) : Prop where
  sh : d.showable = true
  nd : d.hasDict = false
  dp : d.depth ≤ 60
  lv : d.leavesShort 2000 = true
  bk : d.bulk ≤ 8000
theorem Shw.fits {d : PyData} (h : Shw d) : d.shown.length ≤ sizeLine := by
  have z := PyData.shown_le_bulk 2000 (by decide) d h.lv
  have y := h.bk
  have e : sizeLine = 16777216 := by decide
  omega
/-- repr(x), nothing being written out at the time -/
def rRepr (K : PySem.W.Frag) : List V → Hp → VK → Prop := fun xs H Q => ∃ v d, xs = [v] ∧ Dp K H v d ∧ Shw d ∧ Q (.str d.shown) H
section
variable {X : Cx}
theorem call_repr {k : Nat} (hG : X.A.guards = some []) (hr : Room k X.A) : CallR X (.builtin "repr") (rRepr X.K) := by
  intro pins s σ H xs us Q I r h
  obtain ⟨v, d, rfl, hd, hs, q⟩ := h
  obtain ⟨u, rfl, hu⟩ := vals1 r
  have un := hr.units
  obtain ⟨as, rd⟩ := Dp.reads I d v u hd hu
  have far : ∀ (a : Addr), u = .ref a → wpAny (model X.prog X.w) X.A (call (.builtin "repr") [u]) (EP X pins σ Q) X.xe s := fun a ea => by
    rw [ea] at rd ⊢
    exact repr_of_reads' rd hs.sh (PyData.noDict_hsm hs.nd) hG (by have := hs.dp; omega) (fun _ _ z => z) (fun h' u tk hk => ⟨.str d.shown, H, I.kept (t' := tk) hk, ⟨u, rfl⟩, q⟩) hs.fits
  cases hd with
  | non =>
    cases (show u = Value.none from hu)
    exact PySem.P.repr_of_none ⟨.str _, H, I.tok _, ⟨_, rfl⟩, q⟩
  | bl b =>
    cases (show u = Value.bool b from hu)
    exact PySem.P.repr_of_bool ⟨.str _, H, I.tok _, ⟨_, rfl⟩, q⟩
  | int i =>
    obtain ⟨t, e⟩ := (show ∃ t, u = Value.int i t from hu)
    cases e
    exact PySem.P.repr_of_int (of_decide_eq_true hs.sh) ⟨.str _, H, I.tok _, ⟨_, rfl⟩, q⟩
  | str x =>
    obtain ⟨t, e⟩ := (show ∃ t, u = Value.str x t from hu)
    cases e
    exact PySem.P.repr_of_str ⟨.str _, H, I.tok _, ⟨_, rfl⟩, q⟩ hs.fits
  | lst hl ha => exact far _ hu
  | tup hl ha => exact far _ hu
end
/-! forms -/
/-- an int below 2 ^ 1900 -/
def Sml (i : Int) : Prop := i.natAbs < 2 ^ 1900
theorem Sml.lg {i : Int} (h : Sml i) : i.natAbs.log2 < 1920 := Nat.lt_trans (PySem.Flt.log2_lt_of (k := 1900) (by decide) h) (by decide)
theorem Sml.tx {i : Int} (h : Sml i) : (PyData.int i).shown.length ≤ 2000 := by
  have z := int_text_length_le (k := 1920) (by decide) h.lg
  show (Str.ofString (toString i)).length ≤ 2000
  rw [PySem.ofString_length]
  omega
def intsD (l : List Int) : List PyData := l.map PyData.int
theorem ints_ok : ∀ {l : List Int}, (∀ i ∈ l, Sml i) → PyData.showableAll (intsD l) = true ∧ PyData.hasDictAll (intsD l) = false ∧ PyData.leavesShortAll 2000 (intsD l) = true ∧ PyData.bulkAll (intsD l) = l.length ∧ PyData.depthAll (intsD l) ≤ 1
  | [], _ => ⟨rfl, rfl, rfl, rfl, Nat.zero_le _⟩
  | i :: l, h => by
    obtain ⟨h1, h2, h3, h4, h5⟩ := ints_ok (l := l) fun j hj => h j (List.mem_cons_of_mem _ hj)
    have hi := h i List.mem_cons_self
    refine ⟨?_, ?_, ?_, ?_, ?_⟩
    · show (decide (i.natAbs.log2 < 1920) && PyData.showableAll (intsD l)) = true
      rw [decide_eq_true hi.lg, h1]
      rfl
    · show (false || PyData.hasDictAll (intsD l)) = false
      rw [h2]
      rfl
    · show (decide ((PyData.int i).shown.length ≤ 2000) && PyData.leavesShortAll 2000 (intsD l)) = true
      rw [decide_eq_true hi.tx, h3]
      rfl
    · show 0 + 1 + PyData.bulkAll (intsD l) = l.length + 1
      rw [h4]
      omega
    · have e : PyData.depthAll (intsD (i :: l)) = max (PyData.depth (.int i)) (PyData.depthAll (intsD l)) := rfl
      have e0 : PyData.depth (.int i) ≤ 1 := by show (0 : Nat) ≤ 1; omega
      rw [e]
      omega
/-- a tuple of intsD -/
def tupD (l : List Int) : PyData := .tuple (intsD l)
theorem shw_int {i : Int} (h : Sml i) : Shw (.int i) := ⟨decide_eq_true h.lg, rfl, (by show (0 : Nat) ≤ 60; omega), decide_eq_true h.tx, Nat.zero_le _⟩
theorem shw_tup {l : List Int} (h : ∀ i ∈ l, Sml i) (hl : l.length ≤ 8000) : Shw (tupD l) := by
  obtain ⟨h1, h2, h3, h4, h5⟩ := ints_ok h
  refine ⟨h1, h2, ?_, h3, ?_⟩
  · have e : PyData.depth (tupD l) ≤ PyData.depthAll (intsD l) + 1 := by
      first | exact Nat.le_refl _ | exact Nat.le_of_eq (Nat.add_comm _ _)
    omega
  · have e : PyData.bulk (tupD l) = PyData.bulkAll (intsD l) := rfl
    rw [e, h4]
    exact hl
theorem dp_ints {K : PySem.W.Frag} {H : Hp} : ∀ l : List Int, DpAll K H (l.map V.int) (intsD l)
  | [] => .nil
  | i :: l => .cons (.int i) (dp_ints l)
theorem dp_tup {K : PySem.W.Frag} {H : Hp} {a : Addr} {l : List Int} (h : SqT K H a (l.map V.int)) : Dp K H (.ref a) (tupD l) := .tup h (dp_ints l)
end Lr

namespace Lr
open PySem PySem.Spec PyProof.Rows L2
/-! operators on ints of any size that is met here -/
def Cml (i j : Int) : Prop := CMul i j ∨ CMulW i j
def Cpw (i j : Int) : Prop := 0 ≤ j ∧ (Builtin.Int.intBits i : Int) * j ≤ 2 ^ 27
def Cfd (i j : Int) : Prop := CDivN i j ∨ CDivW i j
theorem cml_l {i j : Int} (h : i.natAbs < 2 ^ 64) : Cml i j := .inl (.inl ⟨by omega, by omega⟩)
theorem cml_r {i j : Int} (h : j.natAbs < 2 ^ 64) : Cml i j := .inl (.inr ⟨by omega, by omega⟩)
theorem cml_w {i j : Int} (a b : Nat) (ha : i.natAbs < 2 ^ a) (hb : j.natAbs < 2 ^ b) (h : a + b ≤ 900000 := by decide) : Cml i j := by
  refine .inr (wide_mul (a := a + 1) (b := b + 1) (Nat.lt_of_lt_of_le ha (Nat.pow_le_pow_right (by decide) (by omega))) (Nat.lt_of_lt_of_le hb (Nat.pow_le_pow_right (by decide) (by omega))) (by omega) (by omega) (by omega))
theorem cml_s {i j : Int} (ha : Sml i) (hb : Sml j) : Cml i j := cml_w 1900 1900 ha hb
theorem bits_le {i : Int} {k : Nat} (h : i.natAbs < 2 ^ k) : Builtin.Int.intBits i ≤ k := by
  unfold Builtin.Int.intBits
  split
  · omega
  · rename_i hn
    have h0 : i.natAbs ≠ 0 := by
      intro z
      have : i = 0 := by omega
      simp [this] at hn
    have := (Nat.log2_lt h0).mpr h
    omega
theorem cpw {i j : Int} (k : Nat) (h : i.natAbs < 2 ^ k) (h0 : 0 ≤ j) (hj : (k : Int) * j ≤ 2 ^ 27) : Cpw i j := by
  refine ⟨h0, Int.le_trans (Int.mul_le_mul_of_nonneg_right ?_ h0) hj⟩
  have := bits_le h
  omega
section
variable {X : Cx}
theorem op_mulL : OpR X (binaryOp .Mult) (rI Cml fun i j => .int (i * j)) := opI fun _ _ _ _ _ _ _ hc q => mul_int q (by
  rcases hc with h | h
  · exact h.ok
  · exact h.ok)
theorem op_powL : OpR X (binaryOp .Pow) (rI Cpw fun i j => .int (i ^ j.toNat)) := opI fun _ _ _ _ _ _ _ hc q => pow_int hc.1 hc.2 q
theorem op_fdivL : OpR X (binaryOp .FloorDiv) (rI Cfd fun i j => .int (i.fdiv j)) := by
  intro pins s σ H x y v u Q I rx ry h
  obtain ⟨i, j, ex, ey, hc, q⟩ := h
  rcases hc with hc | hc
  · exact op_fdivN pins s σ H x y v u Q I rx ry ⟨i, j, ex, ey, hc, q⟩
  · have h0 : (0 : Int) < j := hc.1
    exact op_fdivW pins s σ H x y v u Q I rx ry ⟨i, j, ex, ey, hc, by
      show Q (.int (i / j)) H
      rw [← Int.fdiv_eq_ediv_of_nonneg i (by omega)]
      exact q⟩
end
/-! a call by names alone -/
section
variable {X : Cx} {CX : CXT} {k : Nat} {f : Addr} {fd : FuncData} {ps ks : List Str} {sp : Sp} {E : XK} {x : Str} {p pos : Pos} {kws : List Keyword} {tk : TA} {g : List Value → List Value → List Value} {gV : List V → List V → List V}
theorem pe_callK0 (F : FnOk X.prog X.w X.K X.mg X.base CX k f fd ps sp) (hr : Room k X.A) (hg : Gl X x) (hm : X.mg x = some (.ref f)) (hk : PySem.W.keepIn X.K (.ref f) = true) (hb : KBinds X.K fd ps ks g gV) (hx : Passes CX X E) (hkw : PK X kws tk)
    (hall : (backToKw pos (keywordEach kws X.env)).all (·.1.isSome) = true := by rfl) (hks : (backToKw pos (keywordEach kws X.env)).filterMap (·.1) = ks := by rfl) (hdb : (x == ("__debug__" : Str)) = false := by decide)
    (hpl : ((backTo pos (starEach [] X.env)).any (·.1) || (backToKw pos (keywordEach kws X.env)).any (·.1.isNone)) = false := by rfl) :
    PE X (.Call (.Name x p) [] kws pos) (tCallK sp gV E tNil tk) := by
  refine ⟨fun pins s σ H Q I h => ?_⟩
  refine wpAny_Call_Name_kw (ld_glob I hg hm ?_ hdb)
  refine PySem.W.callWith_KW0 (h₀ := X.base) I.ok.mod.kin hk hall (thn (hkw.run pos pins s σ H _ I h) fun ws s2 z => ?_) hpl
  obtain ⟨zs, H2, I2, rz, q2⟩ := z
  refine ⟨I2.kIn, ?_⟩
  rw [hks]
  exact run_fnk (us := []) (vs := []) F hr hb hx I2 .nil rz q2
end
/-! roads as texts -/
/-- the sign of a turn: L (false), R (true) -/
def sg (b : Bool) : Nat := if b then 82 else 76
def rd (w : List Bool) : Str := ⟨(w.map sg).toArray⟩
theorem rd_cps (w : List Bool) : (rd w).cps.toList = w.map sg := by simp [rd]
theorem rd_len (w : List Bool) : (rd w).length = w.length := by
  show (w.map sg).toArray.size = w.length
  simp
theorem str_ext {x y : Str} (h : x.cps.toList = y.cps.toList) : x = y := by
  obtain ⟨a⟩ := x
  obtain ⟨b⟩ := y
  have e : a = b := Array.toList_inj.mp h
  rw [e]
theorem app_list (x y : Str) : (x ++ y).cps.toList = x.cps.toList ++ y.cps.toList := by
  show (x.cps ++ y.cps).toList = _
  simp
theorem rd_app (u v : List Bool) : rd u ++ rd v = rd (u ++ v) := str_ext (by rw [app_list, rd_cps, rd_cps, rd_cps, List.map_append])
theorem rd_nil : rd [] = ("" : Str) := by decide +kernel
theorem rd_L : rd [false] = ("L" : Str) := by decide +kernel
theorem rd_R : rd [true] = ("R" : Str) := by decide +kernel
theorem sg_inj {a b : Bool} (h : sg a = sg b) : a = b := by
  cases a <;> cases b <;> first | rfl | exact absurd h (by decide)
theorem rd_inj {u v : List Bool} (h : rd u = rd v) : u = v := by
  have e : u.map sg = v.map sg := by rw [← rd_cps, ← rd_cps, h]
  exact List.map_inj_right (fun a b => sg_inj) |>.mp e
/-! the purse of the draws -/
/-- the purse at a, n draws at most so far -/
def Pu (H : Hp) (a : Addr) (n : Nat) : Prop := ∃ p0 p1 p2 : Int, H a = some (.lst [.int p0, .int p1, .int p2]) ∧ 0 ≤ p0 ∧ 0 ≤ p1 ∧ p1 < 2 ^ 80 ∧ 0 ≤ p2 ∧ p2 ≤ n
theorem Pu.le {H : Hp} {a : Addr} {n m : Nat} (h : Pu H a n) (l : n ≤ m) : Pu H a m := by
  obtain ⟨p0, p1, p2, h1, h2, h3, h4, h5, h6⟩ := h
  exact ⟨p0, p1, p2, h1, h2, h3, h4, h5, by omega⟩
/-- all that was tracked but for a is as it was -/
def Kp (a : Addr) (H H' : Hp) : Prop := ∀ b o, b ≠ a → H b = some o → H' b = some o
theorem Kp.refl (a : Addr) (H : Hp) : Kp a H H := fun _ _ _ h => h
theorem Kp.trans {a : Addr} {H H1 H2 : Hp} (x : Kp a H H1) (y : Kp a H1 H2) : Kp a H H2 := fun b o n h => y b o n (x b o n h)
theorem Kp.of {a : Addr} {H H' : Hp} (h : Same H H') : Kp a H H' := fun b o _ z => h b o z
theorem Kp.upd (a : Addr) (H : Hp) (o : HO) : Kp a H (upd H a o) := fun b u n h => by rw [upd_ne n]; exact h
theorem Kp.new {a : Addr} {H H' : Hp} {p : Addr} {o : HO} (x : Kp a H H') (h : H' p = none) : Kp a H (L2.upd H' p o) := fun b u n z => by
  rw [upd_ne (ne_of_none (x b u n z) h)]
  exact x b u n z
theorem Pu.same {H H' : Hp} {a : Addr} {n : Nat} (h : Pu H a n) (s : Same H H') : Pu H' a n := by
  obtain ⟨p0, p1, p2, h1, h2⟩ := h
  exact ⟨p0, p1, p2, s _ _ h1, h2⟩
theorem _root_.L2.Same.new {H H' : Hp} {p : Addr} {o : HO} (s : Same H H') (h : H' p = none) : Same H (L2.upd H' p o) := fun b u z => by
  rw [upd_ne (ne_of_none (s b u z) h)]
  exact s b u z
theorem Pu.new {H : Hp} {a p : Addr} {o : HO} {n : Nat} (h : Pu H a n) (hp : H p = none) : Pu (L2.upd H p o) a n := h.same ((L2.Same.refl H).new hp)
theorem Pu.ne {H : Hp} {a p : Addr} {n : Nat} (h : Pu H a n) (hp : H p = none) : a ≠ p := by
  obtain ⟨_, _, _, h1, _⟩ := h
  exact ne_of_none h1 hp
theorem sz {n : Nat} (h : n ≤ 1000000) : n ≤ sizeLine := Nat.le_trans h (by decide)
theorem tup_same {H H' : Hp} {K : PySem.W.Frag} {a : Addr} {xs : List V} (s : Same H H') (h : SqT K H a xs) : SqT K H' a xs := by
  rcases h with (h | ⟨o, h⟩) | h
  · exact .inl (.inl (s _ _ h))
  · exact .inl (.inr ⟨o, s _ _ h⟩)
  · exact .inr h
theorem Kp.tup {H H' : Hp} {a b : Addr} {xs : List V} (x : Kp a H H') (n : b ≠ a) (h : H b = some (.tup xs)) : H' b = some (.tup xs) := x b _ n h
theorem Kp.free {H H' : Hp} {a p : Addr} {n : Nat} (k : Kp a H H') (hp : Pu H' a n) (np : H' p = none) : H p = none := by
  cases e : H p with
  | none => rfl
  | some o =>
    have ne : p ≠ a := (hp.ne np).symm
    rw [k p o ne e] at np
    cases np
end Lr

set_option exponentiation.threshold 5000
namespace Lr
open PySem PySem.Spec PyProof.Rows L2
/-! readings whose ways meet -/
theorem if_val {t : TT} {ta tb : TE} {σ : L2.St} {H : Hp} {Q : VK} (c : Bool) (v : V) (ht : ∀ R : Bool → Hp → Prop, R c H → t σ H R) (h1 : c = true → ∀ R : VK, R v H → ta σ H R) (h2 : c = false → ∀ R : VK, R v H → tb σ H R) (q : Q v H) : tIf t ta tb σ H Q := by
  refine ht _ ?_
  cases c with
  | true => exact iteT (h1 rfl Q q)
  | false => exact iteF (h2 rfl Q q)
/-- .. where either way ends with what P says -/
theorem if_ends {t : TT} {ta tb : TE} {σ : L2.St} {H : Hp} {Q : VK} (P : V → Hp → Prop) (c : Bool) (ht : ∀ R : Bool → Hp → Prop, R c H → t σ H R) (h1 : c = true → ∀ R : VK, (∀ v H', P v H' → R v H') → ta σ H R) (h2 : c = false → ∀ R : VK, (∀ v H', P v H' → R v H') → tb σ H R)
    (q : ∀ v H', P v H' → Q v H') : tIf t ta tb σ H Q := by
  refine ht _ ?_
  cases c with
  | true => exact iteT (h1 rfl Q q)
  | false => exact iteF (h2 rfl Q q)
/-- an if whose ways meet -/
theorem if_meets {t : TT} {ta tb : TS} {D : Ends} {σ : L2.St} {H : Hp} (P : L2.St → Hp → Prop) (c : Bool) (ht : ∀ R : Bool → Hp → Prop, R c H → t σ H R) (h1 : c = true → ∀ N : L2.St → Hp → Prop, (∀ σ' H', P σ' H' → N σ' H') → ta { D with nx := N } σ H)
    (h2 : c = false → ∀ N : L2.St → Hp → Prop, (∀ σ' H', P σ' H' → N σ' H') → tb { D with nx := N } σ H) (q : ∀ σ' H', P σ' H' → D.nx σ' H') : tIfS t ta tb D σ H := by
  refine ht _ ?_
  cases c with
  | true => exact iteT (h1 rfl D.nx q)
  | false => exact iteF (h2 rfl D.nx q)
/-- two ways that meet, behind the test -/
theorem meet {c : Bool} {ta tb : TS} {D : Ends} {σ : L2.St} {H : Hp} (P : L2.St → Hp → Prop) (h1 : c = true → ∀ N : L2.St → Hp → Prop, (∀ σ' H', P σ' H' → N σ' H') → ta { D with nx := N } σ H)
    (h2 : c = false → ∀ N : L2.St → Hp → Prop, (∀ σ' H', P σ' H' → N σ' H') → tb { D with nx := N } σ H) (q : ∀ σ' H', P σ' H' → D.nx σ' H') : if c = true then ta D σ H else tb D σ H := by
  cases c with
  | true => exact iteT (h1 rfl D.nx q)
  | false => exact iteF (h2 rfl D.nx q)
/-! text lemmas -/
theorem nat_of {i : Int} (h : 0 ≤ i) : ∃ n : Nat, i = (n : Int) := ⟨i.toNat, by omega⟩
/-! the turns that a draw puts behind a road -/
def wayMenu : List V := [.str "L", .str "R", .str "LL", .str "RR", .str "LR", .str "RRRRR", .str "LLLLLLL"]
theorem wayMenu_at {r : Int} (h0 : 0 ≤ r) (h1 : r < 7) : ∃ u : List Bool, u.length ≤ 7 ∧ atI wayMenu r = some (.str (rd u)) := by
  have c : r = 0 ∨ r = 1 ∨ r = 2 ∨ r = 3 ∨ r = 4 ∨ r = 5 ∨ r = 6 := by omega
  rcases c with rfl | rfl | rfl | rfl | rfl | rfl | rfl
  · exact ⟨[false], by decide, by decide +kernel⟩
  · exact ⟨[true], by decide, by decide +kernel⟩
  · exact ⟨[false, false], by decide, by decide +kernel⟩
  · exact ⟨[true, true], by decide, by decide +kernel⟩
  · exact ⟨[false, true], by decide, by decide +kernel⟩
  · exact ⟨[true, true, true, true, true], by decide, by decide +kernel⟩
  · exact ⟨[false, false, false, false, false, false, false], by decide, by decide +kernel⟩
theorem rd_app_len {u v : List Bool} (h : u.length + v.length ≤ 1000000) : (rd u).length + (rd v).length ≤ sizeLine := by
  rw [rd_len, rd_len]
  exact sz h
/-! slices -/
theorem cut_rd (w : List Bool) (lo hi : Option Int) : cutS (rd w) lo hi = rd ((w.drop (HT.sIx w.length 0 lo)).take (HT.sIx w.length w.length hi - HT.sIx w.length 0 lo)) := by
  refine str_ext ?_
  rw [rd_cps]
  unfold cutS
  rw [rd_len, rd_cps]
  simp [List.map_take, List.map_drop]
theorem cut_take (w : List Bool) (t : Nat) : cutS (rd w) none (some (t : Int)) = rd (w.take t) := by
  rw [cut_rd, HT.sIx_none, HT.sIx_nat, List.drop_zero, Nat.sub_zero]
  by_cases h : t ≤ w.length
  · rw [Nat.min_eq_left h]
  · rw [Nat.min_eq_right (by omega), List.take_of_length_le (Nat.le_refl _), List.take_of_length_le (by omega)]
theorem cut_drop (w : List Bool) (t : Nat) : cutS (rd w) (some (t : Int)) none = rd (w.drop t) := by
  rw [cut_rd, HT.sIx_none, HT.sIx_nat]
  by_cases h : t ≤ w.length
  · rw [Nat.min_eq_left h, List.take_of_length_le (by rw [List.length_drop]; omega)]
  · rw [Nat.min_eq_right (by omega), List.drop_of_length_le (Nat.le_refl _), List.drop_of_length_le (by omega), List.take_nil]
theorem cut_mid (w : List Bool) (s t : Nat) : cutS (rd w) (some (s : Int)) (some (t : Int)) = rd ((w.take t).drop s) := by
  rw [cut_rd, HT.sIx_nat, HT.sIx_nat, List.drop_take]
  by_cases h : s ≤ w.length
  · rw [Nat.min_eq_left h]
    by_cases h2 : t ≤ w.length
    · rw [Nat.min_eq_left h2]
    · rw [Nat.min_eq_right (by omega), List.take_of_length_le (by rw [List.length_drop]; omega), List.take_of_length_le (by rw [List.length_drop]; omega)]
  · rw [Nat.min_eq_right (show w.length ≤ s by omega), List.drop_of_length_le (Nat.le_refl _), List.drop_of_length_le (show w.length ≤ s by omega), List.take_nil, List.take_nil]
theorem cut_most (w : List Bool) : cutS (rd w) none (some (-1)) = rd w.dropLast := by
  have e : HT.sIx w.length w.length (some (-1)) = w.length - 1 := by
    show (if (-1 : Int) < 0 then ((-1 : Int) + (w.length : Int)).toNat else min (-1 : Int).toNat w.length) = w.length - 1
    rw [if_pos (by decide)]
    omega
  rw [cut_rd, HT.sIx_none, e, List.drop_zero, Nat.sub_zero, List.dropLast_eq_take]
/-! a road walked turn by turn -/
theorem for_rd {w : List Bool} {g : TG} {tb : TS} {D : Ends} {σ : L2.St} {H : Hp} (Pv : List Bool → L2.St → Hp → Prop) (h0 : Pv [] σ H)
    (hs : ∀ pre t post σ H, w = pre ++ t :: post → Pv pre σ H → g (.str (rd [t])) σ H fun σ2 H2 => tb { D with nx := Pv (pre ++ [t]), ct := Pv (pre ++ [t]), bk := D.nx } σ2 H2) (hd : ∀ σ H, Pv w σ H → D.nx σ H) :
    ∃ W : Nat → Nat → L2.St → Hp → Prop, (∃ m, W 0 m σ H) ∧ ∀ i m σ H, W i m σ H →
      ((Its (rd w)).stop i H ∧ D.nx σ H) ∨ ((Its (rd w)).go i H ∧ ∃ N : L2.St → Hp → Prop, (∀ σ' H', N σ' H' → ∃ m', m' < m ∧ W (i + 1) m' σ' H') ∧ ∀ x H', (Its (rd w)).yld i H x H' → g x σ H' fun σ2 H2 => tb { D with nx := N, ct := N, bk := D.nx } σ2 H2) := by
  have es : (rd w).cps.size = w.length := rd_len w
  refine for_it walk_str (fun i σ H => Pv (w.take i) σ H) h0 (fun _ _ _ _ _ => trivial) ?_ ?_
  · rintro i x σ H H' hi p ⟨rfl, c, hc, rfl⟩
    have hi' : i < w.length := by omega
    have ec : c = sg w[i] := by
      have e1 : (rd w).cps.toList[i]? = some c := by rw [Array.getElem?_toList]; exact hc
      rw [rd_cps, List.getElem?_map, List.getElem?_eq_getElem hi'] at e1
      exact (Option.some.inj e1).symm
    have e2 : (⟨#[c]⟩ : Str) = rd [w[i]] := by rw [ec]; rfl
    have z := hs (w.take i) w[i] (w.drop (i + 1)) σ H' (by rw [List.getElem_cons_drop, List.take_append_drop]) p
    rw [e2]
    rw [List.take_append_getElem] at z
    exact z
  · intro σ H p
    rw [es, List.take_length] at p
    exact hd σ H p
theorem eq_L (t : Bool) : decide (V.str (rd [t]) = V.str ("L" : Str)) = !t := by cases t <;> decide +kernel
theorem eq_R (t : Bool) : decide (V.str (rd [t]) = V.str ("R" : Str)) = t := by cases t <;> decide +kernel
/-! counting signs -/
theorem count_L (w : List Bool) : Txt.count (rd w) ("L" : Str) + Txt.count (rd w) ("R" : Str) = (w.length : Int) := by
  have eL : ("L" : Str) = ⟨#[76]⟩ := by decide +kernel
  have eR : ("R" : Str) = ⟨#[82]⟩ := by decide +kernel
  rw [eL, eR, count_cnt, count_cnt, rd_cps]
  induction w with
  | nil => rfl
  | cons t w ih =>
    rw [List.map_cons, cnt_cons, cnt_cons, List.length_cons]
    have e : ((if sg t = 76 then 1 else 0 : Int)) + (if sg t = 82 then 1 else 0) = 1 := by cases t <;> decide
    omega
/-! menus of ints -/
theorem menu_at {l : List Int} {r : Int} (h0 : 0 ≤ r) (h1 : r < l.length) : ∃ t, t ∈ l ∧ atI (l.map V.int) r = some (.int t) := by
  obtain ⟨j, rfl⟩ := nat_of h0
  have hj : j < l.length := by omega
  exact ⟨l[j], List.getElem_mem hj, atI_nat (by rw [List.getElem?_map, List.getElem?_eq_getElem hj]; rfl)⟩
theorem same_kp {p : Addr} {H0 H1 H2 : Hp} (s : Same H0 H1) (n : H0 p = none) (k : Kp p H1 H2) : Same H0 H2 := fun b o h => k b o (ne_of_none h n) (s b o h)
theorem bl2 {b : Bool} {A B : Prop} (h1 : b = true → A) (h2 : b = false → B) : if b = true then A else B := by
  cases b with
  | true => exact iteT (h1 rfl)
  | false => exact iteF (h2 rfl)
/-! a turn exchanged, by a dict -/
def flipKs : List (Key × V) := [(.inr "L", .str "R"), (.inr "R", .str "L"), (.inr "", .str "")]
theorem flip_at {u : List Bool} (h : u.length ≤ 1) : valV (mergeK [] flipKs) (.inr (rd u)) = some (.str (rd (u.map not))) := by
  match u, h with
  | [], _ => decide +kernel
  | [false], _ => decide +kernel
  | [true], _ => decide +kernel
theorem shw_i {i : Int} (h : i.natAbs < 2 ^ 1900) : Shw (.int i) := shw_int h
theorem law_i {m C : Int} {i : Nat} (hi : i < (if (if m < C then m else C) > 1 then (if m < C then m else C) else 1 : Int).toNat) (h1 : 1 ≤ C) (h2 : C ≤ 63) : i < 63 := by
  revert hi
  split <;> split <;> omega
end Lr

set_option exponentiation.threshold 5000
namespace Lr
theorem snoc_ind {α : Type} {P : List α → Prop} (h0 : P []) (h1 : ∀ l x, P l → P (l ++ [x])) (l : List α) : P l := by
  have key : ∀ (n : Nat) (l : List α), l.length = n → P l := by
    intro n
    induction n with
    | zero =>
      intro l hl
      rw [List.length_eq_zero_iff.mp hl]
      exact h0
    | succ n ih =>
      intro l hl
      have hne : l ≠ [] := by
        intro z
        rw [z] at hl
        cases hl
      rw [← List.dropLast_concat_getLast hne]
      exact h1 _ _ (ih _ (by rw [List.length_dropLast]; omega))
  exact key _ l rfl
/-! tuples of four ints that are put one behind the other -/
@[ext] structure M4 where
  (a b c d : Int)
def M4.mul (m n : M4) : M4 := ⟨m.a * n.a + m.b * n.c, m.a * n.b + m.b * n.d, m.c * n.a + m.d * n.c, m.c * n.b + m.d * n.d⟩
def M4.one : M4 := ⟨1, 0, 0, 1⟩
def turnM (m : M4) (t : Bool) : M4 := if t then ⟨m.a, m.a + m.b, m.c, m.c + m.d⟩ else ⟨m.a + m.b, m.b, m.c + m.d, m.d⟩
def mat (w : List Bool) : M4 := w.foldl turnM M4.one
theorem mat_snoc (w : List Bool) (t : Bool) : mat (w ++ [t]) = turnM (mat w) t := by
  unfold mat
  rw [List.foldl_append]
  rfl
theorem turnM_mul (m : M4) (t : Bool) : turnM m t = m.mul (mat [t]) := by
  cases t
  · show (⟨m.a + m.b, m.b, m.c + m.d, m.d⟩ : M4) = ⟨m.a * (1 + 0) + m.b * (0 + 1), m.a * 0 + m.b * 1, m.c * (1 + 0) + m.d * (0 + 1), m.c * 0 + m.d * 1⟩
    ext <;> simp
  · show (⟨m.a, m.a + m.b, m.c, m.c + m.d⟩ : M4) = ⟨m.a * 1 + m.b * 0, m.a * (1 + 0) + m.b * (0 + 1), m.c * 1 + m.d * 0, m.c * (1 + 0) + m.d * (0 + 1)⟩
    ext <;> simp
theorem M4.mul_assoc (x y z : M4) : (x.mul y).mul z = x.mul (y.mul z) := by
  unfold M4.mul
  ext <;> simp [Int.add_mul, Int.mul_add, Int.mul_assoc] <;> omega
theorem M4.mul_one (x : M4) : x.mul M4.one = x := by
  unfold M4.mul M4.one
  ext <;> simp
theorem M4.one_mul (x : M4) : M4.one.mul x = x := by
  unfold M4.mul M4.one
  ext <;> simp
theorem mat_app (u v : List Bool) : mat (u ++ v) = (mat u).mul (mat v) := by
  induction v using snoc_ind with
  | h0 =>
    rw [List.append_nil]
    exact (M4.mul_one _).symm
  | h1 l x ih => rw [← List.append_assoc, mat_snoc, mat_snoc, ih, turnM_mul, turnM_mul (mat l), M4.mul_assoc]
def M4.det (m : M4) : Int := m.a * m.d - m.b * m.c
theorem M4.det_mul (x y : M4) : (x.mul y).det = x.det * y.det := by
  unfold M4.mul M4.det
  simp only [Int.add_mul, Int.mul_add, Int.sub_mul, Int.mul_sub]
  have e1 : x.a * y.a * (x.c * y.b) = x.a * y.b * (x.c * y.a) := by simp [Int.mul_comm, Int.mul_assoc, Int.mul_left_comm]
  have e2 : x.b * y.c * (x.d * y.d) = x.b * y.d * (x.d * y.c) := by simp [Int.mul_comm, Int.mul_assoc, Int.mul_left_comm]
  have e3 : x.a * y.a * (x.d * y.d) = x.a * x.d * (y.a * y.d) := by simp [Int.mul_comm, Int.mul_assoc, Int.mul_left_comm]
  have e4 : x.b * y.c * (x.c * y.b) = x.b * x.c * (y.b * y.c) := by simp [Int.mul_comm, Int.mul_assoc, Int.mul_left_comm]
  have e5 : x.a * y.b * (x.d * y.c) = x.a * x.d * (y.b * y.c) := by simp [Int.mul_comm, Int.mul_assoc, Int.mul_left_comm]
  have e6 : x.b * y.d * (x.c * y.a) = x.b * x.c * (y.a * y.d) := by simp [Int.mul_comm, Int.mul_assoc, Int.mul_left_comm]
  omega
theorem mat_det (w : List Bool) : (mat w).det = 1 := by
  induction w using snoc_ind with
  | h0 => rfl
  | h1 l x ih =>
    rw [mat_app, M4.det_mul, ih]
    cases x <;> rfl
/-- what a road's integers keep -/
structure Nn (m : M4) : Prop where
  a : 0 ≤ m.a
  b : 0 ≤ m.b
  c : 0 ≤ m.c
  d : 0 ≤ m.d
theorem turnM_nn {m : M4} (h : Nn m) (t : Bool) : Nn (turnM m t) := by
  obtain ⟨a, b, c, d⟩ := h
  cases t
  · exact ⟨by show 0 ≤ m.a + m.b; omega, b, by show 0 ≤ m.c + m.d; omega, d⟩
  · exact ⟨a, by show 0 ≤ m.a + m.b; omega, c, by show 0 ≤ m.c + m.d; omega⟩
theorem mat_nn (w : List Bool) : Nn (mat w) := by
  induction w using snoc_ind with
  | h0 => exact ⟨by decide, by decide, by decide, by decide⟩
  | h1 l x ih =>
    rw [mat_snoc]
    exact turnM_nn ih x
/-- how great they may be -/
theorem mat_le (w : List Bool) : (mat w).a + (mat w).b ≤ 2 ^ w.length ∧ (mat w).c + (mat w).d ≤ 2 ^ w.length := by
  induction w using snoc_ind with
  | h0 => exact ⟨by decide, by decide⟩
  | h1 l x ih =>
    have n := mat_nn l
    obtain ⟨a, b, c, d⟩ := n
    rw [mat_snoc, List.length_append]
    have e : (2 : Int) ^ (l.length + [x].length) = 2 ^ l.length * 2 := Int.pow_succ ..
    rw [e]
    cases x
    · show (mat l).a + (mat l).b + (mat l).b ≤ _ ∧ (mat l).c + (mat l).d + (mat l).d ≤ _
      omega
    · show (mat l).a + ((mat l).a + (mat l).b) ≤ _ ∧ (mat l).c + ((mat l).c + (mat l).d) ≤ _
      omega
/-- the fraction of a road -/
def wa (w : List Bool) : Int := (mat w).a + (mat w).b
def wb (w : List Bool) : Int := (mat w).c + (mat w).d
theorem up_R (w : List Bool) : wa (true :: w) = wa w + wb w ∧ wb (true :: w) = wb w := by
  have e : mat (true :: w) = (mat [true]).mul (mat w) := mat_app [true] w
  unfold wa wb
  rw [e]
  show (1 : Int) * (mat w).a + (1 + 0) * (mat w).c + (1 * (mat w).b + (1 + 0) * (mat w).d) = _ ∧ (0 : Int) * (mat w).a + (0 + 1) * (mat w).c + (0 * (mat w).b + (0 + 1) * (mat w).d) = _
  omega
theorem up_L (w : List Bool) : wa (false :: w) = wa w ∧ wb (false :: w) = wa w + wb w := by
  have e : mat (false :: w) = (mat [false]).mul (mat w) := mat_app [false] w
  unfold wa wb
  rw [e]
  show (1 + 0 : Int) * (mat w).a + 0 * (mat w).c + ((1 + 0) * (mat w).b + 0 * (mat w).d) = _ ∧ (0 + 1 : Int) * (mat w).a + 1 * (mat w).c + ((0 + 1) * (mat w).b + 1 * (mat w).d) = _
  omega
theorem pow_lt {n k : Nat} (h : n ≤ k) : (2 : Int) ^ n ≤ 2 ^ k := by
  have := Nat.pow_le_pow_right (show 0 < 2 by decide) h
  have e : ∀ m : Nat, (2 : Int) ^ m = ((2 ^ m : Nat) : Int) := fun m => by simp
  rw [e, e]
  exact Int.ofNat_le.mpr this
theorem up_pos (w : List Bool) : 1 ≤ wa w ∧ 1 ≤ wb w := by
  have n := mat_nn w
  have d := mat_det w
  obtain ⟨a, b, c, e⟩ := n
  unfold M4.det at d
  show 1 ≤ (mat w).a + (mat w).b ∧ 1 ≤ (mat w).c + (mat w).d
  constructor
  · by_cases h : (mat w).a = 0
    · by_cases h2 : (mat w).b = 0
      · rw [h, h2] at d
        simp at d
      · omega
    · omega
  · by_cases h : (mat w).c = 0
    · by_cases h2 : (mat w).d = 0
      · rw [h, h2] at d
        simp at d
      · omega
    · omega
theorem nat_pow_cast (k : Nat) : (2 : Int) ^ k = ((2 ^ k : Nat) : Int) := by simp
/-- the fraction of a road of at most k turns -/
theorem up_lt {w : List Bool} {k : Nat} (h : w.length ≤ k) : (wa w).natAbs ≤ 2 ^ k ∧ (wb w).natAbs ≤ 2 ^ k := by
  obtain ⟨h1, h2⟩ := mat_le w
  obtain ⟨p1, p2⟩ := up_pos w
  have h3 := pow_lt h
  rw [nat_pow_cast k] at h3
  have p1 : 1 ≤ (mat w).a + (mat w).b := p1
  have p2 : 1 ≤ (mat w).c + (mat w).d := p2
  show ((mat w).a + (mat w).b).natAbs ≤ 2 ^ k ∧ ((mat w).c + (mat w).d).natAbs ≤ 2 ^ k
  omega
open L2 in
theorem up_sml {w : List Bool} (h : w.length ≤ 1800) : Sml (wa w) ∧ Sml (wb w) := by
  obtain ⟨h1, h2⟩ := up_lt h
  have e : (2 : Nat) ^ 1800 < 2 ^ 1900 := Nat.pow_lt_pow_right (by decide) (by decide)
  exact ⟨Nat.lt_of_le_of_lt h1 e, Nat.lt_of_le_of_lt h2 e⟩
/-- a pair of small ints is written out -/
theorem shw2 {i j : Int} (h1 : Sml i) (h2 : Sml j) : Shw (tupD [i, j]) := shw_tup (fun x hx => by
  rcases List.mem_cons.mp hx with rfl | hx
  · exact h1
  · rcases List.mem_cons.mp hx with rfl | hx
    · exact h2
    · exact absurd hx List.not_mem_nil) (by show 2 ≤ 8000; decide)
end Lr

set_option exponentiation.threshold 5000
namespace Lr
open PySem PySem.Spec PyProof.Rows L2
/-! min of four ints -/
section
variable {prog : Program} {w : World} {A : Around} {E : Value → Shared → Prop} {s : Shared}
theorem args_min4 (a b c d : Value) : argsOk "min" ⟨[a, b, c, d], []⟩ := by
  unfold argsOk
  kernel_rfl
theorem min_four {a b c d : Int} {t1 t2 t3 t4 : Tok} {Q : Value → Shared → Prop} (hh : A.handled = none)
    (h : ∀ h' tk m t, (∀ x o, s.heap.get? x = some o → h'.get? x = some o) → m ∈ [a, b, c, d] → (∀ y ∈ [a, b, c, d], m ≤ y) → Q (.int m t) { s with heap := h', toks := tk }) :
    wpAny (model prog w) A (call (.builtin "min") [.int a t1, .int b t2, .int c t3, .int d t4]) Q E s := by
  have nm : (toString "min" ++ toString ".loop" : String) = "min.loop" := by decide
  refine call_function_tree F.kind_min F.plain_min
    F.entry_min (args_min4 _ _ _ _) ?_
  show wpAny _ A.in1 (Builtin.Builtins.bindParams "min" ["key", "default"] 0 ⟨[], []⟩
    >>= _) _ _ s
  refine wpAny_bind (wpAny_of_eq
    (show Builtin.Builtins.bindParams "min" ["key", "default"] 0 ⟨[], []⟩ = pure [Option.none, Option.none] from rfl) ?_)
  show wpAny _ A.in1 (newTuple [.int a t1, .int b t2, .int c t3, .int d t4] >>= _) _ _ s
  refine wpAny_bind (wpAny_newObj_type ?_)
  generalize hxs : (#[(a, t1), (b, t2), (c, t3), (d, t4)] : Array (Int × Tok)) = xs
  have exs : (#[.int a t1, .int b t2, .int c t3, .int d t4] : Array Value) = intItems xs := by
    rw [← hxs]
    simp [intItems]
  have enum : numsOf (intItems xs).toList = [a, b, c, d] := by
    rw [nums_intItems, ← hxs]
    rfl
  have size4 : xs.size = 4 := by
    rw [← hxs]
    rfl
  show wpAny _ _ (pyIter (.ref s.heap.objs.size) >>= _) _ _ { s with heap := s.heap.push { cls := .type "tuple", data := .seq #[.int a t1, .int b t2, .int c t3, .int d t4] } }
  rw [exs]
  generalize e1 : s.heap.push { cls := .type "tuple", data := .seq (intItems xs) } = g1
  have hT : g1.IsTuple s.heap.objs.size (intItems xs) := by
    rw [← e1]
    exact ⟨_, Heap.get?_push_size _ rfl, rfl, 0, rfl⟩
  have old1 : ∀ x o, s.heap.get? x = some o → g1.get? x = some o := fun x o z => by
    rw [← e1]
    exact Heap.get?_push_of_some _ z
  have n1 : g1.objs.size = s.heap.objs.size + 1 := by
    rw [← e1]
    exact Heap.size_push ..
  refine wpAny_bind (wpAny_pyIter_tuple hT ?_)
  show wpAny _ _ (_ >>= _) _ _ { s with heap := g1.push { cls := .type "tuple_iterator", data := .fields #[.ref s.heap.objs.size, .int 0 0] } }
  generalize e2 : g1.push { cls := .type "tuple_iterator", data := .fields #[.ref s.heap.objs.size, .int 0 0] } = g2
  have old2 : ∀ x o, g1.get? x = some o → g2.get? x = some o := fun x o z => by
    rw [← e2]
    exact Heap.get?_push_of_some _ z
  have n2 : g2.objs.size = s.heap.objs.size + 2 := by
    rw [← e2, Heap.size_push, n1]
  have hI : g2.IsTupleIter g1.objs.size s.heap.objs.size 0 := by
    rw [← e2]
    exact ⟨_, Heap.get?_push_size _ rfl, rfl, rfl⟩
  have hT2 : g2.IsTuple s.heap.objs.size (intItems xs) := by
    rw [← e2]
    exact hT.push _
  refine wpAny_bind (wpAny_newObj_type ?_)
  have W := Walks.tuple (prog := prog) (w := w) (A := A.in1) hh g1.objs.size s.heap.objs.size (by rw [n1]; exact Nat.ne_of_lt (Nat.lt_succ_self _)) (intItems xs)
  have fresh : g2.objs.size ∉ [g1.objs.size, s.heap.objs.size] := fun z => by
    rcases List.mem_cons.mp z with z | z
    · have z : (g2.objs.size : Nat) = (g1.objs.size : Nat) := z
      omega
    · rcases List.mem_cons.mp z with z | z
      · have z : (g2.objs.size : Nat) = (s.heap.objs.size : Nat) := z
        omega
      · exact absurd z List.not_mem_nil
  have is4 : (intItems xs).size = 4 := by simp [intItems, size4]
  rw [nm]
  refine wpAny_pure ⟨plainId_quiet F.plain_min_loop _, codeAny_min_loop_first W _ (CmpOf.ints_lt (numAt xs) (fun _ _ => intItems_at)) g2.objs.size fresh (by omega)
    (W.frame _ _ _ ⟨hI, hT2⟩ fun x _ o z => Heap.get?_push_of_some _ z) (Heap.get?_push_size _ rfl) fun v h' tk hP hk => ?_⟩
  obtain ⟨t, rfl⟩ := intItems_at hP
  obtain ⟨z1, z2⟩ := argBest_lt (numAt xs) (xs.size - 1)
  have e3 : (intItems xs).size - 1 = xs.size - 1 := by rw [is4, size4]
  rw [e3]
  have mem : ∀ j, j < 4 → numAt xs j ∈ [a, b, c, d] := fun j hj => by
    rw [← enum, nums_intItems, numAt_eq]
    exact PySem.getD_mem (by rw [List.length_map, Array.length_toList]; omega)
  refine h h' tk _ t (fun x o z => ?_) (mem _ (by omega)) fun y hy => ?_
  · have lt : (x : Nat) < (s.heap.objs.size : Nat) := Heap.lt_size z
    refine hk x o (fun z2 => ?_) (Nat.ne_of_lt (Nat.lt_of_lt_of_le lt (by rw [n2]; exact Nat.le_add_right _ _))) (Heap.get?_push_of_some _ (old2 _ _ (old1 _ _ z)))
    rcases List.mem_cons.mp z2 with z2 | z2
    · exact absurd z2 (Nat.ne_of_lt (Nat.lt_of_lt_of_le lt (by rw [n1]; exact Nat.le_add_right _ _)))
    · exact absurd z2 List.not_mem_nil
  · rw [← enum, nums_intItems] at hy
    obtain ⟨j, hj, rfl⟩ := mem_getD hy
    rw [List.length_map, Array.length_toList] at hj
    rw [← numAt_eq]
    exact z2 j (by omega)
end
section
variable {X : Cx}
/-- min(a, b, c, d) -/
def rMin4 : List V → Hp → VK → Prop := fun vs H Q => ∃ a b c d : Int, vs = [.int a, .int b, .int c, .int d] ∧ ∀ m : Int, m ∈ [a, b, c, d] → (∀ y ∈ [a, b, c, d], m ≤ y) → Q (.int m) H
theorem cr_minN (hc : X.calm = true) : CallR X (.builtin "min") rMin4 := by
  intro pins s σ H vs us Q I r h
  obtain ⟨a, b, c, d, rfl, q⟩ := h
  cases r with
  | cons r1 r => cases r with
    | cons r2 r => cases r with
      | cons r3 r => cases r with
        | cons r4 r =>
          cases r
          obtain ⟨t1, rfl⟩ := r1
          obtain ⟨t2, rfl⟩ := r2
          obtain ⟨t3, rfl⟩ := r3
          obtain ⟨t4, rfl⟩ := r4
          exact min_four (I.ok.hd hc) fun h' tk m t hk h1 h2 => ⟨.int m, H, I.kept (t' := tk) hk, ⟨t, rfl⟩, q m h1 h2⟩
/-- max(t), min(t) of a tuple of ints -/
def rMaxT (K : PySem.W.Frag) : List V → Hp → VK → Prop := fun vs H Q => ∃ (a : Addr) (n : Int) (ns : List Int), vs = [.ref a] ∧ SqT K H a ((n :: ns).map V.int) ∧ ns.length ≤ 100 ∧ ∀ m : Int, m ∈ n :: ns → (∀ y ∈ n :: ns, y ≤ m) → Q (.int m) H
def rMinT (K : PySem.W.Frag) : List V → Hp → VK → Prop := fun vs H Q => ∃ (a : Addr) (n : Int) (ns : List Int), vs = [.ref a] ∧ SqT K H a ((n :: ns).map V.int) ∧ ns.length ≤ 100 ∧ ∀ m : Int, m ∈ n :: ns → (∀ y ∈ n :: ns, m ≤ y) → Q (.int m) H
theorem fold_max : ∀ (ns : List Int) (n : Int), ns.foldl max n ∈ n :: ns ∧ ∀ y ∈ n :: ns, y ≤ ns.foldl max n
  | [], n => ⟨List.mem_cons_self, fun y hy => by
      rcases List.mem_cons.mp hy with rfl | hy
      · exact Int.le_refl _
      · exact absurd hy List.not_mem_nil⟩
  | x :: ns, n => by
    obtain ⟨h1, h2⟩ := fold_max ns (max n x)
    have hm := h2 (max n x) List.mem_cons_self
    refine ⟨?_, fun y hy => ?_⟩
    · rcases List.mem_cons.mp h1 with h1 | h1
      · show ns.foldl max (max n x) ∈ n :: x :: ns
        rw [h1]
        by_cases h : n ≤ x
        · rw [Int.max_eq_right h]
          exact List.mem_cons_of_mem _ List.mem_cons_self
        · rw [Int.max_eq_left (by omega)]
          exact List.mem_cons_self
      · exact List.mem_cons_of_mem _ (List.mem_cons_of_mem _ h1)
    · show y ≤ ns.foldl max (max n x)
      rcases List.mem_cons.mp hy with rfl | hy
      · omega
      · rcases List.mem_cons.mp hy with rfl | hy
        · omega
        · exact h2 y (List.mem_cons_of_mem _ hy)
theorem fold_min : ∀ (ns : List Int) (n : Int), ns.foldl min n ∈ n :: ns ∧ ∀ y ∈ n :: ns, ns.foldl min n ≤ y
  | [], n => ⟨List.mem_cons_self, fun y hy => by
      rcases List.mem_cons.mp hy with rfl | hy
      · exact Int.le_refl _
      · exact absurd hy List.not_mem_nil⟩
  | x :: ns, n => by
    obtain ⟨h1, h2⟩ := fold_min ns (min n x)
    have hm := h2 (min n x) List.mem_cons_self
    refine ⟨?_, fun y hy => ?_⟩
    · rcases List.mem_cons.mp h1 with h1 | h1
      · show ns.foldl min (min n x) ∈ n :: x :: ns
        rw [h1]
        by_cases h : n ≤ x
        · rw [Int.min_eq_left h]
          exact List.mem_cons_self
        · rw [Int.min_eq_right (by omega)]
          exact List.mem_cons_of_mem _ List.mem_cons_self
      · exact List.mem_cons_of_mem _ (List.mem_cons_of_mem _ h1)
    · show ns.foldl min (min n x) ≤ y
      rcases List.mem_cons.mp hy with rfl | hy
      · omega
      · rcases List.mem_cons.mp hy with rfl | hy
        · omega
        · exact h2 y (List.mem_cons_of_mem _ hy)
theorem reads_ints {h : Heap} : ∀ {ns : List Int} {us : List Value}, Vals (ns.map V.int) us → ReadsAll h us (ns.map PyData.int) []
  | [], _, r => by
    cases r
    exact .nil
  | n :: ns, _, r => by
    cases r with
    | cons r1 r2 =>
      obtain ⟨t, rfl⟩ := r1
      exact .cons (as := []) (.int n t) (reads_ints r2)
theorem alike_ints (ns : List Int) : PySem.W.AlikeAll (ns.map PyData.int) := by
  refine ⟨fun x hx y hy => ?_, fun x hx => ?_⟩
  · obtain ⟨a, _, rfl⟩ := List.mem_map.mp hx
    obtain ⟨b, _, rfl⟩ := List.mem_map.mp hy
    simp [PySem.W.alike]
  · obtain ⟨a, _, rfl⟩ := List.mem_map.mp hx
    exact fun z => nomatch z
theorem cr_maxT {k : Nat} (hr : Room k X.A) : CallR X (.builtin "max") (rMaxT X.K) := by
  intro pins s σ H vs us Q I r h
  obtain ⟨a, n, ns, rfl, hs, hl, q⟩ := h
  rw [Vals.ref1 r]
  obtain ⟨its, rv, ht, _⟩ := I.tuple hs
  have un := hr.units
  have dp : PyData.depthAll ((n :: ns).map PyData.int) ≤ 0 := by
    generalize n :: ns = l
    induction l with
    | nil => exact Nat.le_refl _
    | cons x l ih =>
      show max 0 (PyData.depthAll (l.map PyData.int)) ≤ 0
      omega
  refine PySem.W.max_tuple_data (x := .int n) (xs := ns.map PyData.int) (as := []) hr.hd (let ⟨o, h1, h2, j, h3⟩ := ht; ⟨o, h1, h2, j, h3⟩) (reads_ints (ns := n :: ns) rv) (alike_ints (n :: ns)) (by
    have : PyData.depthAll (PyData.int n :: ns.map PyData.int) ≤ 0 := dp
    omega) fun i v h' tk bs hv rd hk => ?_
  rw [PySem.W.maxD_ints] at rd
  cases rd
  exact ⟨.int _, H, I.kept (t' := tk) hk, ⟨_, rfl⟩, q _ (fold_max ns n).1 (fold_max ns n).2⟩
theorem cr_minT {k : Nat} (hr : Room k X.A) : CallR X (.builtin "min") (rMinT X.K) := by
  intro pins s σ H vs us Q I r h
  obtain ⟨a, n, ns, rfl, hs, hl, q⟩ := h
  rw [Vals.ref1 r]
  obtain ⟨its, rv, ht, _⟩ := I.tuple hs
  have un := hr.units
  have dp : PyData.depthAll ((n :: ns).map PyData.int) ≤ 0 := by
    generalize n :: ns = l
    induction l with
    | nil => exact Nat.le_refl _
    | cons x l ih =>
      show max 0 (PyData.depthAll (l.map PyData.int)) ≤ 0
      omega
  refine PySem.W.min_tuple_data (x := .int n) (xs := ns.map PyData.int) (as := []) hr.hd (let ⟨o, h1, h2, j, h3⟩ := ht; ⟨o, h1, h2, j, h3⟩) (reads_ints (ns := n :: ns) rv) (alike_ints (n :: ns)) (by
    have : PyData.depthAll (PyData.int n :: ns.map PyData.int) ≤ 0 := dp
    omega) fun i v h' tk bs hv rd hk => ?_
  rw [PySem.W.minD_ints] at rd
  cases rd
  exact ⟨.int _, H, I.kept (t' := tk) hk, ⟨_, rfl⟩, q _ (fold_min ns n).1 (fold_min ns n).2⟩
/-- math.gcd of any ints that are met here -/
def rGcdN : List V → Hp → VK → Prop := fun vs H Q => (∃ a b : Int, vs = [.int a, .int b] ∧ Q (.int ((Nat.gcd a.natAbs b.natAbs : Nat) : Int)) H) ∨
  (∃ a b c : Int, vs = [.int a, .int b, .int c] ∧ Q (.int ((Nat.gcd (Nat.gcd a.natAbs b.natAbs) c.natAbs : Nat) : Int)) H) ∨
  ∃ a b c d : Int, vs = [.int a, .int b, .int c, .int d] ∧ Q (.int ((Nat.gcd (Nat.gcd (Nat.gcd a.natAbs b.natAbs) c.natAbs) d.natAbs : Nat) : Int)) H
theorem args_gcd3 (a b c : Value) : argsOk "math.gcd" ⟨[a, b, c], []⟩ := by
  unfold argsOk
  kernel_rfl
theorem args_gcd4 (a b c d : Value) : argsOk "math.gcd" ⟨[a, b, c, d], []⟩ := by
  unfold argsOk
  kernel_rfl
theorem run_gcd3 (a b c : Int) (t u x : Tok) : Gives (Builtin.«math.gcd» ⟨[.int a t, .int b u, .int c x], []⟩) (.int ((((Nat.gcd 0 a.natAbs).gcd b.natAbs).gcd c.natAbs : Nat) : Int)) :=
  .of_wp fun M A E s Q h => by
    obtain ⟨hp, g, d, tk, os⟩ := s
    wp_walk
    exact ⟨_, rfl, h⟩
theorem run_gcd4 (a b c d : Int) (t u x y : Tok) : Gives (Builtin.«math.gcd» ⟨[.int a t, .int b u, .int c x, .int d y], []⟩) (.int (((((Nat.gcd 0 a.natAbs).gcd b.natAbs).gcd c.natAbs).gcd d.natAbs : Nat) : Int)) :=
  .of_wp fun M A E s Q h => by
    obtain ⟨hp, g, d, tk, os⟩ := s
    wp_walk
    exact ⟨_, rfl, h⟩
theorem cr_gcdN : CallR X (.builtin "math.gcd") rGcdN := by
  intro pins s σ H vs us Q I r h
  rcases h with ⟨a, b, rfl, q⟩ | ⟨a, b, c, rfl, q⟩ | ⟨a, b, c, d, rfl, q⟩
  · obtain ⟨t, u, rfl⟩ := Vals.int2 r
    exact PySem.W.mg_gcd fun _ => ⟨.int _, H, I.tok _, ⟨_, rfl⟩, q⟩
  · cases r with
    | cons r1 r => cases r with
      | cons r2 r => cases r with
        | cons r3 r =>
          cases r
          obtain ⟨t1, rfl⟩ := r1
          obtain ⟨t2, rfl⟩ := r2
          obtain ⟨t3, rfl⟩ := r3
          have g := run_gcd3 a b c t1 t2 t3
          rw [Nat.gcd_zero_left] at g
          exact call_function_meets PySem.W.MGF.kind_gcd PySem.W.MGF.plain_gcd PySem.W.MGF.entry_gcd (args_gcd3 _ _ _) g.meets ⟨.int _, H, I.tok _, ⟨_, rfl⟩, q⟩
  · cases r with
    | cons r1 r => cases r with
      | cons r2 r => cases r with
        | cons r3 r => cases r with
          | cons r4 r =>
            cases r
            obtain ⟨t1, rfl⟩ := r1
            obtain ⟨t2, rfl⟩ := r2
            obtain ⟨t3, rfl⟩ := r3
            obtain ⟨t4, rfl⟩ := r4
            have g := run_gcd4 a b c d t1 t2 t3 t4
            rw [Nat.gcd_zero_left] at g
            exact call_function_meets PySem.W.MGF.kind_gcd PySem.W.MGF.plain_gcd PySem.W.MGF.entry_gcd (args_gcd4 _ _ _ _) g.meets ⟨.int _, H, I.tok _, ⟨_, rfl⟩, q⟩
/-- text * int -/
theorem rep_list (z : Array Nat) (n : Nat) : ((List.replicate n z).foldl (· ++ ·) #[]).toList = (List.replicate n z.toList).flatten := by
  have key : ∀ (n : Nat) (acc : Array Nat), ((List.replicate n z).foldl (· ++ ·) acc).toList = acc.toList ++ (List.replicate n z.toList).flatten := by
    intro n
    induction n with
    | zero => intro acc; simp
    | succ n ih =>
      intro acc
      rw [List.replicate_succ, List.foldl_cons, ih, List.replicate_succ, List.flatten_cons]
      simp
  rw [key]
  simp
def repT (z : Str) (n : Int) : Str := ⟨((List.replicate n.toNat z.cps.toList).flatten).toArray⟩
theorem repT_len (z : Str) (n : Int) : (repT z n).length = z.length * n.toNat := by
  show ((List.replicate n.toNat z.cps.toList).flatten).toArray.size = z.cps.size * n.toNat
  simp [List.length_flatten, Nat.mul_comm]
theorem op_mulS : OpR X (binaryOp .Mult) (fun x y H Q => ∃ (z : Str) (n : Int), x = .str z ∧ y = .int n ∧ z.length ≤ 10000 ∧ -1000 ≤ n ∧ n ≤ 1000 ∧ Q (.str (repT z n)) H) := by
  intro pins s σ H x y v u Q I rx ry h
  obtain ⟨z, n, rfl, rfl, hz, n0, n1, q⟩ := h
  obtain ⟨t, rfl⟩ := rx
  obtain ⟨t2, rfl⟩ := ry
  refine PySem.P.mul_str (by rw [decide_eq_false (by omega), decide_eq_false (by omega)]; rfl) (fun h1 _ => ?_) (fun h1 _ => ?_) ?_
  · have : (2 ^ 63 - 1 : Int) / n ≥ 10000 := by
      have e1 : (10000 : Int) * n ≤ 2 ^ 63 - 1 := by omega
      exact (Int.le_ediv_iff_mul_le (by omega)).mpr e1
    have hz' : ((z.length : Nat) : Int) ≤ 10000 := by omega
    omega
  · have : z.length * n.toNat ≤ 10000 * 1000 := Nat.mul_le_mul hz (by omega)
    unfold PySem.Builtin.Str.tooLong
    exact decide_eq_false (by have e : sizeLine = 16777216 := by decide
                              omega)
  · by_cases h1 : n < 1
    · rw [if_pos h1]
      have e : repT z n = Str.empty := by
        have : n.toNat = 0 := by omega
        unfold repT
        rw [this]
        rfl
      rw [e] at q
      exact ⟨by decide, ⟨.str _, H, I.tok _, ⟨_, rfl⟩, q⟩⟩
    · rw [if_neg h1]
      by_cases h2 : (n == 1 || z.length == 0) = true
      · rw [if_pos h2]
        have e : repT z n = z := by
          refine str_ext ?_
          show ((List.replicate n.toNat z.cps.toList).flatten).toArray.toList = z.cps.toList
          rw [List.toList_toArray]
          rcases Bool.or_eq_true_iff.mp h2 with h3 | h3
          · have : n = 1 := by simpa using h3
            rw [this]
            simp
          · have h4 : z.length = 0 := by simpa using h3
            have h5 : z.cps.toList = [] := by
              rw [← List.length_eq_zero_iff]
              exact h4
            rw [h5]
            simp
        rw [e] at q
        exact ⟨.str _, H, I, ⟨_, rfl⟩, q⟩
      · rw [if_neg h2]
        have e : (⟨(List.replicate n.toNat z.cps).foldl (· ++ ·) #[]⟩ : Str) = repT z n := by
          refine str_ext ?_
          show ((List.replicate n.toNat z.cps).foldl (· ++ ·) #[]).toList = ((List.replicate n.toNat z.cps.toList).flatten).toArray.toList
          rw [rep_list, List.toList_toArray]
        rw [e]
        refine ⟨?_, ⟨.str _, H, I.tok _, ⟨_, rfl⟩, q⟩⟩
        rw [repT_len]
        have : z.length * n.toNat ≤ 10000 * 1000 := Nat.mul_le_mul hz (by omega)
        have e : sizeLine = 16777216 := by decide
        omega
end
/-- a road again and again -/
def repR (w : List Bool) (n : Nat) : List Bool := (List.replicate n w).flatten
theorem rep_rd (w : List Bool) (n : Int) : repT (rd w) n = rd (repR w n.toNat) := by
  refine str_ext ?_
  show ((List.replicate n.toNat (rd w).cps.toList).flatten).toArray.toList = _
  rw [List.toList_toArray, rd_cps, rd_cps]
  unfold repR
  generalize n.toNat = k
  induction k with
  | zero => rfl
  | succ k ih => rw [List.replicate_succ, List.replicate_succ, List.flatten_cons, List.flatten_cons, List.map_append, ih]
theorem repR_len (w : List Bool) (n : Nat) : (repR w n).length = n * w.length := by
  unfold repR
  simp
/-- texts of roads, one behind the other -/
theorem join_rd (ls : List (List Bool)) : Txt.join ("" : Str) (ls.map rd) = rd ls.flatten := by
  refine str_ext ?_
  show (PySem.Builtin.Str.glued ("" : Str) (ls.map rd)).cps.toList = _
  unfold PySem.Builtin.Str.glued
  have key : ∀ (l : List (List Bool)) (acc : Array Nat), ((l.map rd).foldl (fun acc p => acc ++ ("" : Str).cps ++ p.cps) acc).toList = acc.toList ++ l.flatten.map sg := by
    intro l
    induction l with
    | nil => intro acc; simp
    | cons x l ih =>
      intro acc
      rw [List.map_cons, List.foldl_cons, ih]
      have e : (("" : Str)).cps = #[] := by decide +kernel
      rw [e]
      have e2 : (rd x).cps.toList = x.map sg := rd_cps x
      simp [e2]
  cases ls with
  | nil =>
    rw [rd_cps]
    decide +kernel
  | cons x l =>
    show (((x :: l).map rd).drop 1 |>.foldl (fun acc p => acc ++ ("" : Str).cps ++ p.cps) (rd x).cps).toList = _
    rw [List.map_cons, List.drop_succ_cons, List.drop_zero, key, rd_cps, rd_cps, List.flatten_cons, List.map_append]
theorem join_room {ls : List (List Bool)} (h : ls.flatten.length ≤ 1000000) : ((ls.map rd).map (·.length)).sum + (ls.map rd).length * ("" : Str).length ≤ 16777216 := by
  have e : (("" : Str)).length = 0 := by decide +kernel
  have e2 : ((ls.map rd).map (·.length)).sum = ls.flatten.length := by
    rw [List.length_flatten, List.map_map]
    congr 1
    exact List.map_congr_left fun w _ => rd_len w
  rw [e, e2]
  omega
end Lr

set_option exponentiation.threshold 5000
namespace Lr
open PySem PySem.Spec PyProof.Rows L2
theorem eqv_ints : ∀ l m : List Int, PyData.eqvAll (intsD l) (intsD m) = decide (l = m)
  | [], [] => rfl
  | [], y :: m => rfl
  | x :: l, [] => rfl
  | x :: l, y :: m => by
    show ((x == y) && PyData.eqvAll (intsD l) (intsD m)) = _
    rw [eqv_ints l m]
    by_cases h : x = y
    · subst h
      simp
    · simp [h]
theorem eqv_tup (l m : List Int) : PyData.eqv (tupD l) (tupD m) = decide (l = m) := eqv_ints l m
theorem lay_ints : ∀ l : List Int, PyData.canLayAll0 (intsD l) = true
  | [] => rfl
  | x :: l => lay_ints l
theorem depth0_ints : ∀ l : List Int, PyData.depthAll (intsD l) = 0
  | [] => rfl
  | x :: l => by
    show max 0 (PyData.depthAll (intsD l)) = 0
    rw [depth0_ints l]
    rfl
theorem shaped_tup (l : List Int) : SeqAt.shaped (tupD l) = true := by
  have e : PyData.depth (tupD l) ≤ 64 := by
    show PyData.depthAll (intsD l) + 1 ≤ 64
    rw [depth0_ints]
    decide
  show (PyData.canLayAll0 (intsD l) && decide (PyData.depth (tupD l) ≤ 64)) = true
  rw [lay_ints, decide_eq_true e]
  rfl
/-- the fraction of a road is the fraction of its rest, sent by what is ahead -/
theorem wa_app (u v : List Bool) : wa (u ++ v) = (mat u).a * wa v + (mat u).b * wb v ∧ wb (u ++ v) = (mat u).c * wa v + (mat u).d * wb v := by
  unfold wa wb
  rw [mat_app]
  unfold M4.mul
  simp only [Int.mul_add]
  omega
theorem wa_diff (u v : List Bool) : wa (u ++ v) * wb u - wa u * wb (u ++ v) = wa v - wb v := by
  obtain ⟨e1, e2⟩ := wa_app u v
  have d := mat_det u
  rw [e1, e2]
  have e3 : wb u = (mat u).c + (mat u).d := rfl
  have e4 : wa u = (mat u).a + (mat u).b := rfl
  rw [e3, e4]
  unfold M4.det at d
  generalize (mat u).a = a at *
  generalize (mat u).b = b at *
  generalize (mat u).c = c at *
  generalize (mat u).d = e at *
  generalize wa v = x at *
  generalize wb v = y at *
  have f1 : (a * x + b * y) * (c + e) - (a + b) * (c * x + e * y) = (a * e - b * c) * x - (a * e - b * c) * y := by
    simp only [Int.add_mul, Int.mul_add, Int.sub_mul, Int.mul_sub]
    have g1 : a * x * c = a * (c * x) := by rw [Int.mul_assoc, Int.mul_comm x c]
    have g2 : a * x * e = a * e * x := by rw [Int.mul_assoc, Int.mul_comm x e, Int.mul_assoc]
    have g3 : b * y * c = b * c * y := by rw [Int.mul_assoc, Int.mul_comm y c, Int.mul_assoc]
    have g4 : b * y * e = b * (e * y) := by rw [Int.mul_assoc, Int.mul_comm y e]
    have g5 : b * (c * x) = b * c * x := by rw [Int.mul_assoc]
    have g6 : a * (e * y) = a * e * y := by rw [Int.mul_assoc]
    rw [g1, g2, g3, g4, g5, g6]
    omega
  rw [f1, d]
  omega
theorem wa_cons (t : Bool) (v : List Bool) : wa (t :: v) = (if t then wa v + wb v else wa v) ∧ wb (t :: v) = (if t then wb v else wa v + wb v) := by
  cases t
  · exact up_L v
  · exact up_R v
/-- the sign of what is left -/
theorem rest_R {v : List Bool} : wa v > wb v ↔ ∃ r, v = true :: r := by
  match v with
  | [] => exact ⟨fun h => absurd h (by decide), fun ⟨r, z⟩ => nomatch z⟩
  | false :: r =>
    obtain ⟨h1, h2⟩ := up_L r
    obtain ⟨p1, p2⟩ := up_pos r
    exact ⟨fun h => by omega, fun ⟨r, z⟩ => by cases z⟩
  | true :: r =>
    obtain ⟨h1, h2⟩ := up_R r
    obtain ⟨p1, p2⟩ := up_pos r
    exact ⟨fun _ => ⟨r, rfl⟩, fun _ => by omega⟩
theorem rest_nil {v : List Bool} : wa v = wb v ↔ v = [] := by
  match v with
  | [] => exact ⟨fun _ => rfl, fun _ => rfl⟩
  | false :: r =>
    obtain ⟨h1, h2⟩ := up_L r
    obtain ⟨p1, p2⟩ := up_pos r
    exact ⟨fun h => by omega, fun z => nomatch z⟩
  | true :: r =>
    obtain ⟨h1, h2⟩ := up_R r
    obtain ⟨p1, p2⟩ := up_pos r
    exact ⟨fun h => by omega, fun z => nomatch z⟩
/-- unlike roads tell unlike fractions -/
theorem wa_inj : ∀ {u v : List Bool}, wa u = wa v → wb u = wb v → u = v
  | [], v, h1, h2 => by
    have : wa v = wb v := by rw [← h1, ← h2]; rfl
    exact (rest_nil.mp this).symm
  | a :: u, [], h1, h2 => by
    have : wa (a :: u) = wb (a :: u) := by rw [h1, h2]; rfl
    exact rest_nil.mp this
  | a :: u, b :: v, h1, h2 => by
    obtain ⟨p1, p2⟩ := up_pos u
    obtain ⟨q1, q2⟩ := up_pos v
    obtain ⟨e1, e2⟩ := wa_cons a u
    obtain ⟨f1, f2⟩ := wa_cons b v
    rw [e1, f1] at h1
    rw [e2, f2] at h2
    cases a <;> cases b <;> simp at h1 h2
    · rw [wa_inj h1 (by omega)]
    · omega
    · omega
    · rw [wa_inj (by omega) h2]
/-- how many turns R are ahead of what is left -/
theorem runs_R (v : List Bool) : ∃ r, v = List.replicate ((wa v - 1) / wb v).toNat true ++ r ∧ wa r = wa v - ((wa v - 1) / wb v) * wb v ∧ wb r = wb v := by
  induction v with
  | nil => exact ⟨[], rfl, rfl, rfl⟩
  | cons t v ih =>
    obtain ⟨p1, p2⟩ := up_pos v
    cases t with
    | false =>
      obtain ⟨h1, h2⟩ := up_L v
      have e : (wa (false :: v) - 1) / wb (false :: v) = 0 := by
        rw [h1, h2]
        exact Int.ediv_eq_zero_of_lt (by omega) (by omega)
      rw [e]
      exact ⟨false :: v, rfl, by omega, rfl⟩
    | true =>
      obtain ⟨h1, h2⟩ := up_R v
      obtain ⟨r, er, e1, e2⟩ := ih
      have e : (wa (true :: v) - 1) / wb (true :: v) = (wa v - 1) / wb v + 1 := by
        rw [h1, h2, show wa v + wb v - 1 = (wa v - 1) + 1 * wb v by omega, Int.add_mul_ediv_right _ _ (by omega)]
      have n : 0 ≤ (wa v - 1) / wb v := Int.ediv_nonneg (by omega) (by omega)
      have en : ((wa v - 1) / wb v + 1).toNat = ((wa v - 1) / wb v).toNat + 1 := by omega
      rw [e, en]
      refine ⟨r, ?_, ?_, by rw [e2, h2]⟩
      · rw [List.replicate_succ, List.cons_append, ← er]
      · rw [e1, h1, h2, Int.add_mul]
        omega
theorem runs_L (v : List Bool) : ∃ r, v = List.replicate ((wb v - 1) / wa v).toNat false ++ r ∧ wb r = wb v - ((wb v - 1) / wa v) * wa v ∧ wa r = wa v := by
  induction v with
  | nil => exact ⟨[], rfl, rfl, rfl⟩
  | cons t v ih =>
    obtain ⟨p1, p2⟩ := up_pos v
    cases t with
    | true =>
      obtain ⟨h1, h2⟩ := up_R v
      have e : (wb (true :: v) - 1) / wa (true :: v) = 0 := by
        rw [h1, h2]
        exact Int.ediv_eq_zero_of_lt (by omega) (by omega)
      rw [e]
      exact ⟨true :: v, rfl, by omega, rfl⟩
    | false =>
      obtain ⟨h1, h2⟩ := up_L v
      obtain ⟨r, er, e1, e2⟩ := ih
      have e : (wb (false :: v) - 1) / wa (false :: v) = (wb v - 1) / wa v + 1 := by
        rw [h1, h2, show wa v + wb v - 1 = (wb v - 1) + 1 * wa v by omega, Int.add_mul_ediv_right _ _ (by omega)]
      have n : 0 ≤ (wb v - 1) / wa v := Int.ediv_nonneg (by omega) (by omega)
      have en : ((wb v - 1) / wa v + 1).toNat = ((wb v - 1) / wa v).toNat + 1 := by omega
      rw [e, en]
      refine ⟨r, ?_, ?_, by rw [e2, h1]⟩
      · rw [List.replicate_succ, List.cons_append, ← er]
      · rw [e1, h1, h2, Int.add_mul]
        omega
/-- what has no common divisor -/
theorem road_gcd (w : List Bool) : Nat.gcd (wa w).natAbs (wb w).natAbs = 1 := by
  have key : ∀ d : Nat, d ∣ (wa w).natAbs → d ∣ (wb w).natAbs → d = 1 := by
    induction w with
    | nil => intro d h _; exact Nat.dvd_one.mp h
    | cons t v ih =>
      intro d h1 h2
      obtain ⟨p1, p2⟩ := up_pos v
      obtain ⟨e1, e2⟩ := wa_cons t v
      have g1 : (d : Int) ∣ wa (t :: v) := Int.ofNat_dvd_left.mpr h1
      have g2 : (d : Int) ∣ wb (t :: v) := Int.ofNat_dvd_left.mpr h2
      rw [e1] at g1
      rw [e2] at g2
      cases t
      · simp at g1 g2
        have g3 : (d : Int) ∣ wb v := (Int.dvd_add_right g1).mp g2
        exact ih d (Int.ofNat_dvd_left.mp g1) (Int.ofNat_dvd_left.mp g3)
      · simp at g1 g2
        have g3 : (d : Int) ∣ wa v := (Int.dvd_add_left g2).mp g1
        exact ih d (Int.ofNat_dvd_left.mp g3) (Int.ofNat_dvd_left.mp g2)
  exact key _ (Nat.gcd_dvd_left _ _) (Nat.gcd_dvd_right _ _)
end Lr

namespace Lr
open PySem PySem.Spec PyProof.Rows L2
def top (i : Nat) : Stmt := PySem.Challenge.pw_leftroads_k02_roads_of_fractions.main.body.getD i (.Pass ⟨0, 0, 0, 0⟩)
abbrev s__law_rt_ends : Stmt := top 19
abbrev n__law_rt_ends : List Str := ["wording", "low", "high", "sign", "middle"]
theorem sc__law_rt_ends : FnScope n__law_rt_ends ["wording"] (defScope s__law_rt_ends) := ⟨rfl, rfl, rfl, by decide +kernel, rfl, by decide +kernel, by decide +kernel⟩
abbrev s__law_rt_worth : Stmt := top 20
abbrev n__law_rt_worth : List Str := ["wording", "low", "high"]
theorem sc__law_rt_worth : FnScope n__law_rt_worth ["wording"] (defScope s__law_rt_worth) := ⟨rfl, rfl, rfl, by decide +kernel, rfl, by decide +kernel, by decide +kernel⟩
abbrev s__law_coin : Stmt := top 17
abbrev n__law_coin : List Str := ["purse", "many", "drawn", "stirred"]
theorem sc__law_coin : FnScope n__law_coin ["purse", "many"] (defScope s__law_coin) := ⟨rfl, rfl, rfl, by decide +kernel, rfl, by decide +kernel, by decide +kernel⟩
abbrev s__law_rt_fraction : Stmt := top 22
abbrev n__law_rt_fraction : List Str := ["purse", "top", "found", "step", "sign", "longer"]
theorem sc__law_rt_fraction : FnScope n__law_rt_fraction ["purse", "top"] (defScope s__law_rt_fraction) := ⟨rfl, rfl, rfl, by decide +kernel, rfl, by decide +kernel, by decide +kernel⟩
abbrev s__law_rt_text : Stmt := top 21
abbrev n__law_rt_text : List Str := ["pair", "found", "low", "high", "step", "middle"]
theorem sc__law_rt_text : FnScope n__law_rt_text ["pair"] (defScope s__law_rt_text) := ⟨rfl, rfl, rfl, by decide +kernel, rfl, by decide +kernel, by decide +kernel⟩
abbrev s__law_rt_way : Stmt := top 18
abbrev n__law_rt_way : List Str := ["purse", "top", "found", "step"]
theorem sc__law_rt_way : FnScope n__law_rt_way ["purse", "top"] (defScope s__law_rt_way) := ⟨rfl, rfl, rfl, by decide +kernel, rfl, by decide +kernel, by decide +kernel⟩
abbrev s_is_fraction : Stmt := top 8
abbrev n_is_fraction : List Str := ["fraction", "above", "below"]
theorem sc_is_fraction : FnScope n_is_fraction ["fraction"] (defScope s_is_fraction) := ⟨rfl, rfl, rfl, by decide +kernel, rfl, by decide +kernel, by decide +kernel⟩
abbrev s_check_fraction : Stmt := top 9
abbrev n_check_fraction : List Str := ["fraction"]
theorem sc_check_fraction : FnScope n_check_fraction ["fraction"] (defScope s_check_fraction) := ⟨rfl, rfl, rfl, by decide +kernel, rfl, by decide +kernel, by decide +kernel⟩
abbrev s_road_of : Stmt := top 14
abbrev n_road_of : List Str := ["fraction", "above", "below", "runs", "many"]
theorem sc_road_of : FnScope n_road_of ["fraction"] (defScope s_road_of) := ⟨rfl, rfl, rfl, by decide +kernel, rfl, by decide +kernel, by decide +kernel⟩
abbrev s_is_road : Stmt := top 6
abbrev n_is_road : List Str := ["text"]
theorem sc_is_road : FnScope n_is_road ["text"] (defScope s_is_road) := ⟨rfl, rfl, rfl, by decide +kernel, rfl, by decide +kernel, by decide +kernel⟩
abbrev s_check_road : Stmt := top 7
abbrev n_check_road : List Str := ["road"]
theorem sc_check_road : FnScope n_check_road ["road"] (defScope s_check_road) := ⟨rfl, rfl, rfl, by decide +kernel, rfl, by decide +kernel, by decide +kernel⟩
abbrev s_matrix_of : Stmt := top 11
abbrev n_matrix_of : List Str := ["road", "a", "b", "c", "d", "turn"]
theorem sc_matrix_of : FnScope n_matrix_of ["road"] (defScope s_matrix_of) := ⟨rfl, rfl, rfl, by decide +kernel, rfl, by decide +kernel, by decide +kernel⟩
abbrev s_number_of : Stmt := top 13
abbrev n_number_of : List Str := ["road", "a", "b", "c", "d"]
theorem sc_number_of : FnScope n_number_of ["road"] (defScope s_number_of) := ⟨rfl, rfl, rfl, by decide +kernel, rfl, by decide +kernel, by decide +kernel⟩
abbrev s__law_right : Stmt := top 23
abbrev n__law_right : List Str := ["purse", "pair", "due", "wording"]
theorem sc__law_right : FnScope n__law_right ["purse"] (defScope s__law_right) := ⟨rfl, rfl, rfl, by decide +kernel, rfl, by decide +kernel, by decide +kernel⟩
abbrev s__law_purse : Stmt := top 16
abbrev n__law_purse : List Str := ["script", "place", "cell"]
theorem sc__law_purse : FnScope n__law_purse ["script", "place"] (defScope s__law_purse) := ⟨rfl, rfl, rfl, by decide +kernel, rfl, by decide +kernel, by decide +kernel⟩
abbrev s_law : Stmt := top 24
abbrev n_law : List Str := ["script", "spot"]
theorem sc_law : FnScope n_law ["script"] (defScope s_law) := ⟨rfl, rfl, rfl, by decide +kernel, rfl, by decide +kernel, by decide +kernel⟩
/-- what the top leaves: where each def stands, which names are still the built-in ones -/
structure Tx (K : PySem.W.Frag) (mg : Str → Option Value) where
  a__law_rt_ends : Addr
  fd__law_rt_ends : FuncData
  F__law_rt_ends : Fun K "_law_rt_ends" "_law_rt_ends" s__law_rt_ends a__law_rt_ends fd__law_rt_ends
  g__law_rt_ends : mg "_law_rt_ends" = some (.ref a__law_rt_ends)
  a__law_rt_worth : Addr
  fd__law_rt_worth : FuncData
  F__law_rt_worth : Fun K "_law_rt_worth" "_law_rt_worth" s__law_rt_worth a__law_rt_worth fd__law_rt_worth
  g__law_rt_worth : mg "_law_rt_worth" = some (.ref a__law_rt_worth)
  a__law_coin : Addr
  fd__law_coin : FuncData
  F__law_coin : Fun K "_law_coin" "_law_coin" s__law_coin a__law_coin fd__law_coin
  g__law_coin : mg "_law_coin" = some (.ref a__law_coin)
  a__law_rt_fraction : Addr
  fd__law_rt_fraction : FuncData
  F__law_rt_fraction : Fun K "_law_rt_fraction" "_law_rt_fraction" s__law_rt_fraction a__law_rt_fraction fd__law_rt_fraction
  g__law_rt_fraction : mg "_law_rt_fraction" = some (.ref a__law_rt_fraction)
  a__law_rt_text : Addr
  fd__law_rt_text : FuncData
  F__law_rt_text : Fun K "_law_rt_text" "_law_rt_text" s__law_rt_text a__law_rt_text fd__law_rt_text
  g__law_rt_text : mg "_law_rt_text" = some (.ref a__law_rt_text)
  a__law_rt_way : Addr
  fd__law_rt_way : FuncData
  F__law_rt_way : Fun K "_law_rt_way" "_law_rt_way" s__law_rt_way a__law_rt_way fd__law_rt_way
  g__law_rt_way : mg "_law_rt_way" = some (.ref a__law_rt_way)
  a_is_fraction : Addr
  fd_is_fraction : FuncData
  F_is_fraction : Fun K "is_fraction" "is_fraction" s_is_fraction a_is_fraction fd_is_fraction
  g_is_fraction : mg "is_fraction" = some (.ref a_is_fraction)
  a_check_fraction : Addr
  fd_check_fraction : FuncData
  F_check_fraction : Fun K "check_fraction" "check_fraction" s_check_fraction a_check_fraction fd_check_fraction
  g_check_fraction : mg "check_fraction" = some (.ref a_check_fraction)
  a_road_of : Addr
  fd_road_of : FuncData
  F_road_of : Fun K "road_of" "road_of" s_road_of a_road_of fd_road_of
  g_road_of : mg "road_of" = some (.ref a_road_of)
  a_is_road : Addr
  fd_is_road : FuncData
  F_is_road : Fun K "is_road" "is_road" s_is_road a_is_road fd_is_road
  g_is_road : mg "is_road" = some (.ref a_is_road)
  a_check_road : Addr
  fd_check_road : FuncData
  F_check_road : Fun K "check_road" "check_road" s_check_road a_check_road fd_check_road
  g_check_road : mg "check_road" = some (.ref a_check_road)
  a_matrix_of : Addr
  fd_matrix_of : FuncData
  F_matrix_of : Fun K "matrix_of" "matrix_of" s_matrix_of a_matrix_of fd_matrix_of
  g_matrix_of : mg "matrix_of" = some (.ref a_matrix_of)
  a_number_of : Addr
  fd_number_of : FuncData
  F_number_of : Fun K "number_of" "number_of" s_number_of a_number_of fd_number_of
  g_number_of : mg "number_of" = some (.ref a_number_of)
  a__law_right : Addr
  fd__law_right : FuncData
  F__law_right : Fun K "_law_right" "_law_right" s__law_right a__law_right fd__law_right
  g__law_right : mg "_law_right" = some (.ref a__law_right)
  a__law_purse : Addr
  fd__law_purse : FuncData
  F__law_purse : Fun K "_law_purse" "_law_purse" s__law_purse a__law_purse fd__law_purse
  g__law_purse : mg "_law_purse" = some (.ref a__law_purse)
  a_law : Addr
  fd_law : FuncData
  F_law : Fun K "law" "law" s_law a_law fd_law
  g_law : mg "law" = some (.ref a_law)
  z_int : mg "int" = none
  z_range : mg "range" = none
  z_len : mg "len" = none
  z_max : mg "max" = none
  z_repr : mg "repr" = none
  z_abs : mg "abs" = none
  z_min : mg "min" = none
  m_gcd : mg "gcd" = some (.builtin "math.gcd")
section
variable {P : Program} {w : World} {K : PySem.W.Frag} {mg : Str → Option Value} {base : Heap}
theorem b__law_rt_ends {f : Addr} {fd : FuncData} (F : Fun K "_law_rt_ends" "_law_rt_ends" s__law_rt_ends f fd) : Binds K fd ["wording"] [] :=
  F.binds fun _ _ _ _ _ _ us hl => match us, hl with | [_], _ => rfl
theorem b__law_rt_worth {f : Addr} {fd : FuncData} (F : Fun K "_law_rt_worth" "_law_rt_worth" s__law_rt_worth f fd) : Binds K fd ["wording"] [] :=
  F.binds fun _ _ _ _ _ _ us hl => match us, hl with | [_], _ => rfl
theorem b__law_coin {f : Addr} {fd : FuncData} (F : Fun K "_law_coin" "_law_coin" s__law_coin f fd) : Binds K fd ["purse", "many"] [] :=
  F.binds fun _ _ _ _ _ _ us hl => match us, hl with | [_, _], _ => rfl
theorem b__law_rt_fraction {f : Addr} {fd : FuncData} (F : Fun K "_law_rt_fraction" "_law_rt_fraction" s__law_rt_fraction f fd) : Binds K fd ["purse", "top"] [] :=
  F.binds fun _ _ _ _ _ _ us hl => match us, hl with | [_, _], _ => rfl
theorem b__law_rt_text {f : Addr} {fd : FuncData} (F : Fun K "_law_rt_text" "_law_rt_text" s__law_rt_text f fd) : Binds K fd ["pair"] [] :=
  F.binds fun _ _ _ _ _ _ us hl => match us, hl with | [_], _ => rfl
theorem b__law_rt_way {f : Addr} {fd : FuncData} (F : Fun K "_law_rt_way" "_law_rt_way" s__law_rt_way f fd) : Binds K fd ["purse", "top"] [] :=
  F.binds fun _ _ _ _ _ _ us hl => match us, hl with | [_, _], _ => rfl
theorem b_is_fraction {f : Addr} {fd : FuncData} (F : Fun K "is_fraction" "is_fraction" s_is_fraction f fd) : Binds K fd ["fraction"] [] :=
  F.binds fun _ _ _ _ _ _ us hl => match us, hl with | [_], _ => rfl
theorem b_check_fraction {f : Addr} {fd : FuncData} (F : Fun K "check_fraction" "check_fraction" s_check_fraction f fd) : Binds K fd ["fraction"] [] :=
  F.binds fun _ _ _ _ _ _ us hl => match us, hl with | [_], _ => rfl
theorem b_road_of {f : Addr} {fd : FuncData} (F : Fun K "road_of" "road_of" s_road_of f fd) : Binds K fd ["fraction"] [] :=
  F.binds fun _ _ _ _ _ _ us hl => match us, hl with | [_], _ => rfl
theorem b_is_road {f : Addr} {fd : FuncData} (F : Fun K "is_road" "is_road" s_is_road f fd) : Binds K fd ["text"] [] :=
  F.binds fun _ _ _ _ _ _ us hl => match us, hl with | [_], _ => rfl
theorem b_check_road {f : Addr} {fd : FuncData} (F : Fun K "check_road" "check_road" s_check_road f fd) : Binds K fd ["road"] [] :=
  F.binds fun _ _ _ _ _ _ us hl => match us, hl with | [_], _ => rfl
theorem b_matrix_of {f : Addr} {fd : FuncData} (F : Fun K "matrix_of" "matrix_of" s_matrix_of f fd) : Binds K fd ["road"] [] :=
  F.binds fun _ _ _ _ _ _ us hl => match us, hl with | [_], _ => rfl
theorem b_number_of {f : Addr} {fd : FuncData} (F : Fun K "number_of" "number_of" s_number_of f fd) : Binds K fd ["road"] [] :=
  F.binds fun _ _ _ _ _ _ us hl => match us, hl with | [_], _ => rfl
theorem b__law_right {f : Addr} {fd : FuncData} (F : Fun K "_law_right" "_law_right" s__law_right f fd) : Binds K fd ["purse"] [] :=
  F.binds fun _ _ _ _ _ _ us hl => match us, hl with | [_], _ => rfl
theorem b__law_purse {f : Addr} {fd : FuncData} (F : Fun K "_law_purse" "_law_purse" s__law_purse f fd) : Binds K fd ["script", "place"] [] :=
  F.binds fun _ _ _ _ _ _ us hl => match us, hl with | [_, _], _ => rfl
theorem b_law {f : Addr} {fd : FuncData} (F : Fun K "law" "law" s_law f fd) : Binds K fd ["script"] [] :=
  F.binds fun _ _ _ _ _ _ us hl => match us, hl with | [_], _ => rfl
def kg_road_of_0 {α : Type} : List α → List α → List α
  | [], [x0] => [x0]
  | _, _ => []
theorem kb_road_of_0 {f : Addr} {fd : FuncData} (F : Fun K "road_of" "road_of" s_road_of f fd) : KBinds K fd ["fraction"] ["fraction"] kg_road_of_0 kg_road_of_0 := by
  obtain ⟨oc, od, kV, doc, pm, an, cdv, ct, osl, rfl, _, _⟩ := F.ex
  refine ⟨fun s us ws _ hl => ?_, fun r z => ?_⟩
  · unfold kg_road_of_0 at hl ⊢
    split at hl
    · exact .of_eq rfl
    · exact absurd hl (by decide)
  · unfold kg_road_of_0
    cases r with
    | nil => (cases z with | nil => exact .nil | cons r0 z => (cases z with | nil => exact (.cons r0 .nil) | cons _ _ => exact .nil))
    | cons _ _ => (cases z with | nil => exact .nil | cons r0 z => (cases z with | nil => exact .nil | cons _ _ => exact .nil))
end
section
variable {P : Program} {w : World} {K : PySem.W.Frag} {mg : Str → Option Value} {base : Heap}
/-! _law_rt_ends -/
def sp__law_rt_ends (K : PySem.W.Frag) : Sp := fun vs H Q _ => ∃ (w : List Bool), vs = [.str (rd w)] ∧
  ∀ H' p l h, Same H H' → H p = none → H' p = some (.tup [.ref l, .ref h]) → H' l = some (.tup [.int (mat w).b, .int (mat w).d]) → H' h = some (.tup [.int (mat w).a, .int (mat w).c]) → Q (.ref p) H'
theorem ok__law_rt_ends (T : Tx K mg) : FnOk P w K mg base CX0 1 T.a__law_rt_ends T.fd__law_rt_ends ["wording"] (sp__law_rt_ends K) := by
  refine T.F__law_rt_ends.ok sc__law_rt_ends (fun vs H Q E h => ?_) (fun cdv A outer s H vs Q E hr h => ?_)
  · obtain ⟨w, rfl, _⟩ := h
    rfl
  · obtain ⟨w, rfl, q⟩ := h
    refine ⟨_, (pss_cons (ps_asg (pe_tup (pa_cons (pe_tup (pa_cons pe_int (pa_cons pe_int pa_nil))) (pa_cons (pe_tup (pa_cons pe_int (pa_cons pe_int pa_nil))) pa_nil))) (pg_tup (by rfl) (pgs_cons (pg_name (i := 1) sc__law_rt_ends.nd rfl (Or.inl rfl)) (pgs_cons (pg_name (i := 2) sc__law_rt_ends.nd rfl (Or.inl rfl)) pgs_nil))))
  (pss_cons (ps_for PassesOwn.never rfl (pi_str (pv 0)) (pg_name (i := 3) sc__law_rt_ends.nd rfl (Or.inl rfl))
    (pss_cons (ps_set (i := 4) sc__law_rt_ends.nd rfl (Or.inl rfl) (pe_tup (pa_cons (pe_op op_add (pe_ix ix_tup (pv 1) pe_int (fun _ _ => rfl)) (pe_ix ix_tup (pv 2) pe_int (fun _ _ => rfl))) (pa_cons (pe_op op_add (pe_ix ix_tup (pv 1) pe_int (fun _ _ => rfl)) (pe_ix ix_tup (pv 2) pe_int (fun _ _ => rfl))) pa_nil))))
  (pss_one (ps_if (pt_cmpR op_eq (pv 3) pe_str (nomark _)) (pss_one (ps_set (i := 1) sc__law_rt_ends.nd rfl (Or.inl rfl) (pv 4))) (pss_one (ps_set (i := 2) sc__law_rt_ends.nd rfl (Or.inl rfl) (pv 4)))))))
  (pss_one (ps_ret (pe_tup (pa_cons (pv 1) (pa_cons (pv 2) pa_nil))))))), ?_⟩
    have z2 : ([.int 0, .int 1] : List V).length ≤ sizeLine := sz (by show 2 ≤ 1000000; decide)
    refine ⟨z2, fun l nl => ⟨z2, fun g ng => ⟨sz (by show 2 ≤ 1000000; decide), fun e ne => ⟨e, _, rfl, .inl (.inl upd_same), rfl, _, _, rfl, _, _, rfl, rfl, ?_⟩⟩⟩⟩
    have nlg : l ≠ g := ne_of_none upd_same ng
    have nge : g ≠ e := ne_of_none upd_same ne
    have nle : l ≠ e := ne_of_none (by rw [upd_ne nlg]; exact upd_same) ne
    refine ⟨_, rfl, rd w, rfl, for_rd (fun pre σ H2 => ∃ (l g : Addr) (x y : Option V), σ = [some (.str (rd w)), some (.ref l), some (.ref g), x, y] ∧ Same H H2 ∧ H2 l = some (.tup [.int (mat pre).b, .int (mat pre).d]) ∧ H2 g = some (.tup [.int (mat pre).a, .int (mat pre).c]))
      ⟨l, g, none, none, rfl, (((L2.Same.refl H).new nl).new ng).new ne, by rw [upd_ne nle, upd_ne nlg, upd_same]; rfl, by rw [upd_ne nge, upd_same]; rfl⟩ ?_ ?_⟩
    · rintro pre t post σ H2 ew ⟨l, g, x, y, rfl, sm, hl, hg⟩
      refine ⟨_, rfl, l, _, _, _, rfl, rfl, SqT.of hl, rfl, _, rfl, g, _, _, _, rfl, rfl, SqT.of hg, rfl, _, _, rfl, rfl, ?_⟩
      refine ⟨_, rfl, l, _, _, _, rfl, rfl, SqT.of hl, rfl, _, rfl, g, _, _, _, rfl, rfl, SqT.of hg, rfl, _, _, rfl, rfl, sz (by show 2 ≤ 1000000; decide), fun m nm => ?_⟩
      have lm : l ≠ m := ne_of_none hl nm
      have gm : g ≠ m := ne_of_none hg nm
      refine ⟨_, rfl, rfl, _, rfl, ?_⟩
      rw [eq_R]
      cases t
      · refine iteF ⟨_, rfl, l, m, _, _, rfl, sm.new nm, by rw [upd_ne lm, hl, mat_snoc]; rfl, ?_⟩
        rw [upd_same, mat_snoc]
        show some (HO.tup [V.int ((mat pre).b + (mat pre).a), V.int ((mat pre).d + (mat pre).c)]) = some (HO.tup [V.int ((mat pre).a + (mat pre).b), V.int ((mat pre).c + (mat pre).d)])
        rw [Int.add_comm (mat pre).b, Int.add_comm (mat pre).d]
      · refine iteT ⟨_, rfl, m, g, _, _, rfl, sm.new nm, ?_, by rw [upd_ne gm, hg, mat_snoc]; rfl⟩
        rw [upd_same, mat_snoc]
        show some (HO.tup [V.int ((mat pre).b + (mat pre).a), V.int ((mat pre).d + (mat pre).c)]) = some (HO.tup [V.int ((mat pre).a + (mat pre).b), V.int ((mat pre).c + (mat pre).d)])
        rw [Int.add_comm (mat pre).b, Int.add_comm (mat pre).d]
    · rintro σ H2 ⟨l, g, x, y, rfl, sm, hl, hg⟩
      refine ⟨_, rfl, _, rfl, sz (by show 2 ≤ 1000000; decide), fun p np => ?_⟩
      exact q _ p l g (sm.new np) (sm.free np) upd_same (by rw [upd_ne (ne_of_none hl np)]; exact hl) (by rw [upd_ne (ne_of_none hg np)]; exact hg)

/-! _law_rt_worth -/
def sp__law_rt_worth (K : PySem.W.Frag) : Sp := fun vs H Q _ => ∃ (w : List Bool), vs = [.str (rd w)] ∧
  ∀ H' p, Same H H' → H p = none → H' p = some (.tup [.int (wa w), .int (wb w)]) → Q (.ref p) H'
theorem ok__law_rt_worth (T : Tx K mg) : FnOk P w K mg base CX0 2 T.a__law_rt_worth T.fd__law_rt_worth ["wording"] (sp__law_rt_worth K) := by
  have G__law_rt_ends := ok__law_rt_ends (P := P) (w := w) (base := base) T
  refine T.F__law_rt_worth.ok sc__law_rt_worth (fun vs H Q E h => ?_) (fun cdv A outer s H vs Q E hr h => ?_)
  · obtain ⟨w, rfl, _⟩ := h
    rfl
  · obtain ⟨w, rfl, q⟩ := h
    refine ⟨_, (pss_cons (ps_asg (pe_call G__law_rt_ends (hr.mono (by decide)) (by rfl) T.g__law_rt_ends T.F__law_rt_ends.kp (b__law_rt_ends T.F__law_rt_ends) .nil pass0 (pa_cons (pv 0) pa_nil)) (pg_tup (by rfl) (pgs_cons (pg_name (i := 1) sc__law_rt_worth.nd rfl (Or.inl rfl)) (pgs_cons (pg_name (i := 2) sc__law_rt_worth.nd rfl (Or.inl rfl)) pgs_nil))))
  (pss_one (ps_ret (pe_tup (pa_cons (pe_op op_add (pe_ix ix_tup (pv 1) pe_int (fun _ _ => rfl)) (pe_ix ix_tup (pv 2) pe_int (fun _ _ => rfl))) (pa_cons (pe_op op_add (pe_ix ix_tup (pv 1) pe_int (fun _ _ => rfl)) (pe_ix ix_tup (pv 2) pe_int (fun _ _ => rfl))) pa_nil)))))), ?_⟩
    refine ⟨_, rfl, w, rfl, fun H1 e l g sm ne he hl hg => ?_⟩
    refine ⟨e, _, rfl, .inl (.inl he), rfl, _, _, rfl, _, _, rfl, rfl, ?_⟩
    refine ⟨_, rfl, l, _, _, _, rfl, rfl, SqT.of hl, rfl, _, rfl, g, _, _, _, rfl, rfl, SqT.of hg, rfl, _, _, rfl, rfl, ?_⟩
    refine ⟨_, rfl, l, _, _, _, rfl, rfl, SqT.of hl, rfl, _, rfl, g, _, _, _, rfl, rfl, SqT.of hg, rfl, _, _, rfl, rfl, sz (by show 2 ≤ 1000000; decide), fun p np => ?_⟩
    refine q _ p (sm.new np) (sm.free np) ?_
    rw [upd_same]
    show some (HO.tup [V.int ((mat w).b + (mat w).a), V.int ((mat w).d + (mat w).c)]) = some (HO.tup [V.int ((mat w).a + (mat w).b), V.int ((mat w).c + (mat w).d)])
    rw [Int.add_comm (mat w).b, Int.add_comm (mat w).d]

/-! _law_coin -/
def sp__law_coin (K : PySem.W.Frag) : Sp := fun vs H Q _ => ∃ (a : Addr) (many : Int) (n : Nat), vs = [.ref a, .int many] ∧ 1 ≤ many ∧ many < 1073741824 ∧ n < 1000000000 ∧ Pu H a n ∧
  ∀ (r : Int) H', 0 ≤ r → r < many → Pu H' a (n + 1) → Kp a H H' → Q (.int r) H'
theorem ok__law_coin (T : Tx K mg) : FnOk P w K mg base CX0 1 T.a__law_coin T.fd__law_coin ["purse", "many"] (sp__law_coin K) := by
  refine T.F__law_coin.ok sc__law_coin (fun vs H Q E h => ?_) (fun cdv A outer s H vs Q E hr h => ?_)
  · obtain ⟨a, many, n, rfl, _⟩ := h
    rfl
  · obtain ⟨a, many, n, rfl, m1, m2, hn, ⟨p0, p1, p2, hp, g0, g1, g2, g3, g4⟩, q⟩ := h
    refine ⟨_, (pss_cons (ps_if (pt_cmpR op_gt (pe_ix ix_list (pv 0) pe_int (fun _ _ => rfl)) pe_int (nomark _)) (pss_cons (ps_set (i := 2) sc__law_coin.nd rfl (Or.inl rfl) (pe_op op_modN (pe_callTy call_int1 (by rfl) T.z_int (by decide +kernel) (pa_cons (pe_ix ix_list (pv 0) pe_int (fun _ _ => rfl)) pa_nil)) (pv 1)))
  (pss_cons (ps_asg (pe_op op_fdivL (pe_ix ix_list (pv 0) pe_int (fun _ _ => rfl)) (pv 1)) (pg_sub (pv 0) pe_int set_list))
  (pss_one (ps_ret (pv 2))))) pss_nil)
  (pss_cons (ps_asg (pe_op op_add (pe_ix ix_list (pv 0) pe_int (fun _ _ => rfl)) pe_int) (pg_sub (pv 0) pe_int set_list))
  (pss_cons (ps_set (i := 3) sc__law_coin.nd rfl (Or.inl rfl) (pe_op op_modN (pe_op op_powL (pe_callTy call_int1 (by rfl) T.z_int (by decide +kernel) (pa_cons (pe_op op_add (pe_ix ix_list (pv 0) pe_int (fun _ _ => rfl)) (pe_op op_mulL pe_int (pe_ix ix_list (pv 0) pe_int (fun _ _ => rfl)))) pa_nil)) pe_int) (pe_op op_add (pe_op op_powL pe_int pe_int) pe_int)))
  (pss_cons (ps_set (i := 3) sc__law_coin.nd rfl (Or.inl rfl) (pe_op op_modN (pe_op op_powL (pe_callTy call_int1 (by rfl) T.z_int (by decide +kernel) (pa_cons (pe_op op_add (pv 3) (pe_op op_mulL pe_int (pe_ix ix_list (pv 0) pe_int (fun _ _ => rfl)))) pa_nil)) pe_int) (pe_op op_add (pe_op op_powL pe_int pe_int) pe_int)))
  (pss_one (ps_ret (pe_op op_modN (pe_callTy call_int1 (by rfl) T.z_int (by decide +kernel) (pa_cons (pe_op op_fdivL (pv 3) pe_int) pa_nil)) (pv 1)))))))), ?_⟩
    have at0 {x y z : V} : atI [x, y, z] 0 = some x := rfl
    have at1 {x y z : V} : atI [x, y, z] 1 = some y := rfl
    have at2 {x y z : V} : atI [x, y, z] 2 = some z := rfl
    have mod_lo (x : Int) : 0 ≤ x.fmod many := by
      rw [Int.fmod_eq_emod_of_nonneg _ (by omega)]
      exact Int.emod_nonneg _ (by omega)
    have mod_hi (x : Int) : x.fmod many < many := by
      rw [Int.fmod_eq_emod_of_nonneg _ (by omega)]
      exact Int.emod_lt_of_pos _ (by omega)
    refine ⟨_, rfl, a, _, _, _, rfl, rfl, SqL.of hp, at0, _, _, rfl, rfl, _, rfl, ite2 (fun e => ?_) (fun e => ?_)⟩
    · refine ⟨_, rfl, a, _, _, _, rfl, rfl, SqL.of hp, at0, .inl ⟨_, rfl, _, rfl, _, _, rfl, rfl, (by show many ≠ 0; omega), ?_⟩⟩
      refine ⟨_, rfl, a, _, _, _, rfl, rfl, SqL.of hp, at0, _, rfl, _, _, rfl, rfl, .inl ⟨by omega, by omega⟩, _, rfl, a, _, _, 0, rfl, rfl, hp, rfl, ?_⟩
      refine ⟨_, rfl, q _ _ (mod_lo _) (mod_hi _) ⟨_, _, _, upd_same, ?_, g1, g2, g3, by omega⟩ (Kp.upd a H _)⟩
      rw [Int.fdiv_eq_ediv_of_nonneg _ (by omega)]
      exact Int.ediv_nonneg g0 (by omega)
    · -- purse[2] grows by one; what is stirred of it lies below 10 ** 24 + 7
      refine ⟨_, rfl, a, _, _, _, rfl, rfl, SqL.of hp, at2, _, _, rfl, rfl, _, rfl, a, _, _, 2, rfl, rfl, hp, rfl, ?_⟩
      have hp' : (upd H a (.lst [.int p0, .int p1, .int (p2 + 1)])) a = some (.lst [.int p0, .int p1, .int (p2 + 1)]) := upd_same
      have e25 : (10 : Int) ^ (25 : Int).toNat + 13 = 10000000000000000000000013 := by decide
      have e24 : (10 : Int) ^ (24 : Int).toNat + 7 = 1000000000000000000000007 := by decide
      have b1 : (p1 + 2038074743 * (p2 + 1)).natAbs < 2 ^ 100 := by
        have : (2 : Nat) ^ 100 = 1267650600228229401496703205376 := by decide
        have : (2 : Int) ^ 80 = 1208925819614629174706176 := by decide
        omega
      refine ⟨_, rfl, a, _, _, _, rfl, rfl, SqL.of hp', at1, _, rfl, a, _, _, _, rfl, rfl, SqL.of hp', at2, _, _, rfl, rfl, cml_l (by decide), _, _, rfl, rfl, .inl ⟨_, rfl, ?_⟩⟩
      refine ⟨_, _, rfl, rfl, cpw 100 b1 (by decide) (by decide), _, _, rfl, rfl, cpw 4 (by decide) (by decide) (by decide), _, _, rfl, rfl, _, _, rfl, rfl, (by show ((10 : Int) ^ (25 : Int).toNat + 13) ≠ 0; decide), ?_⟩
      have bs (x : Int) : (x.fmod (10 ^ (25 : Int).toNat + 13) + 982451653 * (p2 + 1)).natAbs < 2 ^ 100 := by
        rw [e25, Int.fmod_eq_emod_of_nonneg _ (by decide)]
        have h1 := Int.emod_nonneg x (show (10000000000000000000000013 : Int) ≠ 0 by decide)
        have h2 := Int.emod_lt_of_pos x (show (0 : Int) < 10000000000000000000000013 by decide)
        have : (2 : Nat) ^ 100 = 1267650600228229401496703205376 := by decide
        omega
      refine ⟨_, rfl, _, rfl, a, _, _, _, rfl, rfl, SqL.of hp', at2, _, _, rfl, rfl, cml_l (by decide), _, _, rfl, rfl, .inl ⟨_, rfl, ?_⟩⟩
      refine ⟨_, _, rfl, rfl, cpw 100 (bs _) (by decide) (by decide), _, _, rfl, rfl, cpw 4 (by decide) (by decide) (by decide), _, _, rfl, rfl, _, _, rfl, rfl, (by show ((10 : Int) ^ (24 : Int).toNat + 7) ≠ 0; decide), ?_⟩
      refine ⟨_, rfl, _, _, rfl, rfl, .inl ⟨by decide, by decide⟩, .inl ⟨_, rfl, _, rfl, _, _, rfl, rfl, (by show many ≠ 0; omega), ?_⟩⟩
      exact q _ _ (mod_lo _) (mod_hi _) ⟨_, _, _, hp', g0, g1, g2, by omega, by omega⟩ (Kp.upd a H _)

/-! _law_rt_fraction -/
def sp__law_rt_fraction (K : PySem.W.Frag) : Sp := fun vs H Q _ => ∃ (a : Addr) (top : Int) (n : Nat), vs = [.ref a, .int top] ∧ 1 ≤ top ∧ top ≤ 400 ∧ n < 900000000 ∧ Pu H a n ∧
  ∀ (w : List Bool) H' p, (w.length : Int) ≤ top → wa w ≤ 1000000000 → wb w ≤ 1000000000 → Pu H' a (n + 100) → Kp a H H' → H p = none → H' p = some (.tup [.int (wa w), .int (wb w)]) → Q (.ref p) H'
theorem ok__law_rt_fraction (T : Tx K mg) : FnOk P w K mg base CX0 3 T.a__law_rt_fraction T.fd__law_rt_fraction ["purse", "top"] (sp__law_rt_fraction K) := by
  have G__law_rt_worth := ok__law_rt_worth (P := P) (w := w) (base := base) T
  have G__law_coin := ok__law_coin (P := P) (w := w) (base := base) T
  refine T.F__law_rt_fraction.ok sc__law_rt_fraction (fun vs H Q E h => ?_) (fun cdv A outer s H vs Q E hr h => ?_)
  · obtain ⟨a, top, n, rfl, _⟩ := h
    rfl
  · obtain ⟨a, top, n, rfl, t0, t1, hn, hp, q⟩ := h
    refine ⟨_, (pss_cons (ps_set (i := 2) sc__law_rt_fraction.nd rfl (Or.inl rfl) pe_str)
  (pss_cons (ps_for PassesOwn.never rfl (pi_range1 (by rfl) T.z_range (pa_cons (pe_call G__law_coin (hr.mono (by decide)) (by rfl) T.g__law_coin T.F__law_coin.kp (b__law_coin T.F__law_coin) .nil pass0 (pa_cons (pv 0) (pa_cons pe_int pa_nil))) pa_nil)) (pg_name (i := 3) sc__law_rt_fraction.nd rfl (Or.inl rfl))
    (pss_cons (ps_set (i := 4) sc__law_rt_fraction.nd rfl (Or.inl rfl) (pe_ix ix_list (pe_lst (pa_cons pe_str (pa_cons pe_str pa_nil))) (pe_call G__law_coin (hr.mono (by decide)) (by rfl) T.g__law_coin T.F__law_coin.kp (b__law_coin T.F__law_coin) .nil pass0 (pa_cons (pv 0) (pa_cons pe_int pa_nil))) (fun _ _ => rfl)))
  (pss_cons (ps_set (i := 5) sc__law_rt_fraction.nd rfl (Or.inl rfl) (pe_op op_add_str (pv 2) (pe_op op_mulS (pv 4) (pe_op op_add pe_int (pe_call G__law_coin (hr.mono (by decide)) (by rfl) T.g__law_coin T.F__law_coin.kp (b__law_coin T.F__law_coin) .nil pass0 (pa_cons (pv 0) (pa_cons (pe_ix ix_list (pe_lst (pa_cons pe_int (pa_cons pe_int (pa_cons (pv 1) pa_nil)))) (pe_call G__law_coin (hr.mono (by decide)) (by rfl) T.g__law_coin T.F__law_coin.kp (b__law_coin T.F__law_coin) .nil pass0 (pa_cons (pv 0) (pa_cons pe_int pa_nil))) (fun _ _ => rfl)) pa_nil)))))))
  (pss_one (ps_if (PW.pt (pw_and (pt_cmpR op_le (pe_callB call_len_str (by rfl) T.z_len (by decide +kernel) (pa_cons (pv 5) pa_nil)) (pv 1) (nomark _)) (pw_and1 (pt_cmpR op_le (pe_callB (cr_maxT hr) (by rfl) T.z_max (by decide +kernel) (pa_cons (pe_call G__law_rt_worth (hr.mono (by decide)) (by rfl) T.g__law_rt_worth T.F__law_rt_worth.kp (b__law_rt_worth T.F__law_rt_worth) .nil pass0 (pa_cons (pv 5) pa_nil)) pa_nil)) (pe_op op_powL pe_int pe_int) (nomark _))))) (pss_one (ps_set (i := 2) sc__law_rt_fraction.nd rfl (Or.inl rfl) (pv 5))) pss_nil)))))
  (pss_one (ps_ret (pe_call G__law_rt_worth (hr.mono (by decide)) (by rfl) T.g__law_rt_worth T.F__law_rt_worth.kp (b__law_rt_worth T.F__law_rt_worth) .nil pass0 (pa_cons (pv 2) pa_nil)))))), ?_⟩
    refine ⟨_, rfl, a, _, n, rfl, by decide, by decide, by omega, hp, fun r H1 r0 r1 hp1 k1 => ?_⟩
    refine ⟨r, rfl, by omega, by omega, for_range (lo := 0) (n := r.toNat)
      (fun i σ H2 => ∃ (w : List Bool) (x y z : Option V), σ = [some (.ref a), some (.int top), some (.str (rd w)), x, y, z] ∧ (w.length : Int) ≤ top ∧ wa w ≤ 1000000000 ∧ wb w ≤ 1000000000 ∧ Pu H2 a (n + 1 + 3 * i) ∧ Kp a H H2)
      ⟨[], none, none, none, rfl, by show (0 : Int) ≤ top; omega, by decide, by decide, hp1, k1⟩ ?_ ?_⟩
    · rintro i σ H2 hi ⟨w, x, y, z, rfl, hw, ha, hb, hp2, k2⟩
      -- sign
      refine ⟨sz (by show 2 ≤ 1000000; decide), fun p np => ⟨_, rfl, a, _, n + 1 + 3 * i, rfl, by decide, by decide, by omega, hp2.new np, fun s H3 s0 s1 hp3 k3 => ?_⟩⟩
      have e3 : H3 p = some (.lst [.str "L", .str "R"]) := k3 p _ (hp2.ne np).symm upd_same
      obtain ⟨t, et⟩ : ∃ t : Bool, atI [V.str "L", .str "R"] s = some (.str (rd [t])) := by
        have c : s = 0 ∨ s = 1 := by omega
        rcases c with rfl | rfl
        · exact ⟨false, by decide +kernel⟩
        · exact ⟨true, by decide +kernel⟩
      refine ⟨p, _, s, _, rfl, rfl, SqL.of e3, et, ?_⟩
      -- longer
      refine ⟨_, rfl, _, rfl, _, rfl, _, rfl, sz (by show 3 ≤ 1000000; decide), fun p2 np2 => ⟨_, rfl, a, _, n + 2 + 3 * i, rfl, by decide, by decide, by omega, (hp3.le (by omega)).new np2, fun m H4 m0 m1 hp4 k4 => ?_⟩⟩
      have e4 : H4 p2 = some (.lst ([2, 9, top].map V.int)) := k4 p2 _ (hp3.ne np2).symm upd_same
      obtain ⟨c, hc, ec⟩ := menu_at (l := [2, 9, top]) m0 m1
      have hc : 1 ≤ c ∧ c ≤ 400 := by
        simp at hc
        omega
      refine ⟨p2, _, m, _, rfl, rfl, SqL.of e4, ec, a, c, n + 3 + 3 * i, rfl, by omega, by omega, by omega, hp4.le (by omega), fun d H5 d0 d1 hp5 k5 => ?_⟩
      refine ⟨_, _, rfl, rfl, _, _, rfl, rfl, by rw [rd_len]; show 1 ≤ 10000; decide, by omega, by omega, ?_⟩
      have er : repT (rd [t]) (1 + d) = rd (repR [t] (1 + d).toNat) := rep_rd _ _
      refine ⟨_, _, rfl, rfl, ?_, ?_⟩
      · rw [er]
        exact rd_app_len (by rw [repR_len]; show w.length + (1 + d).toNat * 1 ≤ 1000000; omega)
      · rw [er, rd_app]
        have k5' : Kp a H H5 := ((((k2.new np).trans k3).new np2).trans k4).trans k5
        generalize hv : w ++ repR [t] (1 + d).toNat = v
        have lv : v.length ≤ 1000 := by
          rw [← hv, List.length_append, repR_len]
          show w.length + (1 + d).toNat * 1 ≤ 1000
          omega
        -- the test
        refine ⟨_, rfl, _, rfl, (by rw [rd_len]; exact sz (by omega)), _, rfl, _, _, rfl, rfl, _, rfl, ?_⟩
        refine bl2 (fun e1 => ?_) (fun e1 => ?_)
        · have e1 := of_decide_eq_true e1
          rw [rd_len] at e1
          refine ⟨_, rfl, v, rfl, fun H6 q6 sm6 nq6 hq6 => ⟨q6, _, [wb v], rfl, SqT.of hq6, by show 1 ≤ 100; decide, fun m _ hm => ?_⟩⟩
          have m1 := hm (wa v) List.mem_cons_self
          have m2 := hm (wb v) (List.mem_cons_of_mem _ List.mem_cons_self)
          refine ⟨_, _, rfl, rfl, cpw 4 (by decide) (by decide) (by decide), _, _, rfl, rfl, _, rfl, ite2 (fun e2 => ?_) (fun e2 => ?_)⟩
          · have e2 : m ≤ 10 ^ (9 : Int).toNat := of_decide_eq_true e2
            have e9 : (10 : Int) ^ (9 : Int).toNat = 1000000000 := by decide
            rw [e9] at e2
            exact ⟨_, rfl, v, _, _, _, rfl, e1, by omega, by omega, (hp5.le (by omega)).same sm6, k5'.trans (Kp.of sm6)⟩
          · exact ⟨w, _, _, _, rfl, hw, ha, hb, (hp5.le (by omega)).same sm6, k5'.trans (Kp.of sm6)⟩
        · exact iteF ⟨w, _, _, _, rfl, hw, ha, hb, hp5.le (by omega), k5'⟩
    · rintro σ H2 ⟨w, x, y, z, rfl, hw, ha, hb, hp2, k2⟩
      refine ⟨_, rfl, w, rfl, fun H3 p sm np hq => ?_⟩
      exact q w H3 p hw ha hb ((hp2.le (by omega)).same sm) (k2.trans (Kp.of sm)) (k2.free hp2 np) hq

/-! _law_rt_text -/
def sp__law_rt_text (K : PySem.W.Frag) : Sp := fun vs H Q _ => ∃ (p : Addr) (w : List Bool), vs = [.ref p] ∧ SqT K H p [.int (wa w), .int (wb w)] ∧ w.length ≤ 1000 ∧ ∀ H', Same H H' → Q (.str (rd w)) H'
theorem flat_one (pre : List Bool) : (pre.map fun t => [t]).flatten = pre := by
  induction pre with
  | nil => rfl
  | cons t pre ih => rw [List.map_cons, List.flatten_cons, ih]; rfl
theorem ok__law_rt_text (T : Tx K mg) : FnOk P w K mg base CX0 1 T.a__law_rt_text T.fd__law_rt_text ["pair"] (sp__law_rt_text K) := by
  refine T.F__law_rt_text.ok sc__law_rt_text (fun vs H Q E h => ?_) (fun cdv A outer s H vs Q E hr h => ?_)
  · obtain ⟨p, w, rfl, _⟩ := h
    rfl
  · obtain ⟨p, w, rfl, hp, hw, q⟩ := h
    refine ⟨_, (pss_cons (ps_par3 (i := 1) (j := 2) (l := 3) (by rfl) sc__law_rt_text.nd rfl rfl rfl (by decide) (by decide) (by decide) rfl rfl rfl (pa_cons (pe_lst pa_nil) (pa_cons (pe_tup (pa_cons pe_int (pa_cons pe_int pa_nil))) (pa_cons (pe_tup (pa_cons pe_int (pa_cons pe_int pa_nil))) pa_nil))) (by rfl))
  (pss_cons (ps_for PassesOwn.never rfl (pi_range1 (by rfl) T.z_range (pa_cons (pe_op op_powL pe_int pe_int) pa_nil)) (pg_name (i := 4) sc__law_rt_text.nd rfl (Or.inl rfl))
    (pss_cons (ps_set (i := 5) sc__law_rt_text.nd rfl (Or.inl rfl) (pe_tup (pa_cons (pe_op op_add (pe_ix ix_tup (pv 2) pe_int (fun _ _ => rfl)) (pe_ix ix_tup (pv 3) pe_int (fun _ _ => rfl))) (pa_cons (pe_op op_add (pe_ix ix_tup (pv 2) pe_int (fun _ _ => rfl)) (pe_ix ix_tup (pv 3) pe_int (fun _ _ => rfl))) pa_nil))))
  (pss_cons (ps_if (pt_cmpR (op_eqD hr.units) (pv 5) (pv 0) (nomark _)) (pss_one (ps_ret (pe_join pe_str (pv 1)))) pss_nil)
  (pss_one (ps_if (pt_cmpR op_gt (pe_op op_mulL (pe_ix ix_tup (pv 0) pe_int (fun _ _ => rfl)) (pe_ix ix_tup (pv 5) pe_int (fun _ _ => rfl))) (pe_op op_mulL (pe_ix ix_tup (pv 5) pe_int (fun _ _ => rfl)) (pe_ix ix_tup (pv 0) pe_int (fun _ _ => rfl))) (nomark _)) (pss_cons (ps_expr (pe_bm PySem.F.plainAttrs_list PySem.F.slot_list_append PySem.F.type_list_append mt_append (pv 1) (pa_cons pe_str pa_nil)))
  (pss_one (ps_set (i := 2) sc__law_rt_text.nd rfl (Or.inl rfl) (pv 5)))) (pss_cons (ps_expr (pe_bm PySem.F.plainAttrs_list PySem.F.slot_list_append PySem.F.type_list_append mt_append (pv 1) (pa_cons pe_str pa_nil)))
  (pss_one (ps_set (i := 3) sc__law_rt_text.nd rfl (Or.inl rfl) (pv 5)))))))))
  (pss_one (ps_ret (pe_join pe_str (pv 1)))))), ?_⟩
    have z2 : ([.int 0, .int 1] : List V).length ≤ sizeLine := sz (by show 2 ≤ 1000000; decide)
    refine ⟨sz (by show 0 ≤ 1000000; decide), fun r nr => ⟨z2, fun l nl => ⟨z2, fun g ng => ⟨_, _, _, rfl, ?_⟩⟩⟩⟩
    have nrl : r ≠ l := ne_of_none upd_same nl
    have nrg : r ≠ g := ne_of_none (by rw [upd_ne nrl]; exact upd_same) ng
    have nlg : l ≠ g := ne_of_none upd_same ng
    refine ⟨_, _, rfl, rfl, cpw 4 (by decide) (by decide) (by decide), _, rfl, by decide, by decide, for_range (lo := 0)
      (fun i σ H2 => ∃ (pre v : List Bool) (l g : Addr) (x y : Option V), σ = [some (.ref p), some (.ref r), some (.ref l), some (.ref g), x, y] ∧ w = pre ++ v ∧ pre.length = i ∧ Same H H2 ∧ H2 r = some (.lst (((pre.map fun t => [t]).map rd).map V.str)) ∧
        H2 l = some (.tup [.int (mat pre).b, .int (mat pre).d]) ∧ H2 g = some (.tup [.int (mat pre).a, .int (mat pre).c]))
      ⟨[], w, l, g, none, none, rfl, rfl, rfl, (((L2.Same.refl H).new nr).new nl).new ng, by rw [upd_ne nrg, upd_ne nrl, upd_same]; rfl, by rw [upd_ne nlg, upd_same]; rfl, by rw [upd_same]; rfl⟩ ?_ ?_⟩
    · rintro i σ H2 hi ⟨pre, v, l, g, x, y, rfl, ew, rfl, sm, hr2, hl, hg⟩
      refine ⟨_, rfl, l, _, _, _, rfl, rfl, SqT.of hl, rfl, _, rfl, g, _, _, _, rfl, rfl, SqT.of hg, rfl, _, _, rfl, rfl, ?_⟩
      refine ⟨_, rfl, l, _, _, _, rfl, rfl, SqT.of hl, rfl, _, rfl, g, _, _, _, rfl, rfl, SqT.of hg, rfl, _, _, rfl, rfl, sz (by show 2 ≤ 1000000; decide), fun m nm => ?_⟩
      have sm' := sm.new (o := .tup [.int ((mat pre).b + (mat pre).a), .int ((mat pre).d + (mat pre).c)]) nm
      have hm : (upd H2 m (.tup [.int ((mat pre).b + (mat pre).a), .int ((mat pre).d + (mat pre).c)])) m = some (.tup ([(mat pre).b + (mat pre).a, (mat pre).d + (mat pre).c].map V.int)) := upd_same
      have em1 : (mat pre).b + (mat pre).a = wa pre := Int.add_comm _ _
      have em2 : (mat pre).d + (mat pre).c = wb pre := Int.add_comm _ _
      have hr3 : (upd H2 m (.tup [.int ((mat pre).b + (mat pre).a), .int ((mat pre).d + (mat pre).c)])) r = some (.lst (((pre.map fun t => [t]).map rd).map V.str)) := by rw [upd_ne (ne_of_none hr2 nm)]; exact hr2
      have hl3 : (upd H2 m (.tup [.int ((mat pre).b + (mat pre).a), .int ((mat pre).d + (mat pre).c)])) l = some (.tup [.int (mat pre).b, .int (mat pre).d]) := by rw [upd_ne (ne_of_none hl nm)]; exact hl
      have hg3 : (upd H2 m (.tup [.int ((mat pre).b + (mat pre).a), .int ((mat pre).d + (mat pre).c)])) g = some (.tup [.int (mat pre).a, .int (mat pre).c]) := by rw [upd_ne (ne_of_none hg nm)]; exact hg
      have hp3 := tup_same sm' hp
      have lpre : pre.length ≤ w.length := by rw [ew, List.length_append]; omega
      have d := wa_diff pre v
      rw [← ew] at d
      refine ⟨_, rfl, _, rfl, _, _, dp_tup (SqT.of hm), dp_tup (l := [wa w, wb w]) hp3, shaped_tup _, shaped_tup _, _, rfl, ?_⟩
      rw [eqv_tup, em1, em2]
      by_cases e0 : v = []
      · -- there
        subst e0
        rw [List.append_nil] at ew
        have e1 : decide ([wa pre, wb pre] = [wa w, wb w]) = true := decide_eq_true (by rw [ew])
        rw [e1]
        refine iteT ⟨⟨_, rfl⟩, _, rfl, ("" : Str), r, (pre.map fun t => [t]).map rd, rfl, rfl, .inl (SqL.of hr3), join_room (by rw [flat_one]; omega), ?_⟩
        have z := q _ sm'
        rw [ew] at z
        rw [join_rd, flat_one]
        exact z
      · have ne : ¬ wa v = wb v := fun z => e0 (rest_nil.mp z)
        have e1 : decide ([wa pre, wb pre] = [wa w, wb w]) = false := decide_eq_false fun z => by
          have z1 : wa pre = wa w := by
            injection z
          have z2 : wb pre = wb w := by
            injection z with _ z
            injection z
          rw [z1, z2, Int.sub_self] at d
          omega
        rw [e1]
        refine iteF ?_
        obtain ⟨sp1, sp2⟩ := up_sml (w := pre) (by omega)
        obtain ⟨sw1, sw2⟩ := up_sml (w := w) (by omega)
        have hm3 : (upd H2 m (.tup [.int ((mat pre).b + (mat pre).a), .int ((mat pre).d + (mat pre).c)])) m = some (.tup [.int (wa pre), .int (wb pre)]) := by rw [upd_same, em1, em2]
        refine ⟨_, rfl, p, _, _, _, rfl, rfl, hp3, rfl, _, rfl, m, _, _, _, rfl, rfl, SqT.of hm3, rfl, _, _, rfl, rfl, cml_s sw1 sp2, _, rfl, m, _, _, _, rfl, rfl, SqT.of hm3, rfl, _, rfl, p, _, _, _, rfl, rfl, hp3, rfl, _, _, rfl, rfl, cml_s sp1 sw2, _, _, rfl, rfl, _, rfl, ?_⟩
        have room : (List.map V.str (List.map rd (pre.map fun t => [t]))).length < sizeLine := by
          rw [List.length_map, List.length_map, List.length_map]
          exact Nat.lt_of_le_of_lt (show pre.length ≤ 1000 by omega) (by decide)
        refine ite2 (fun e2 => ?_) (fun e2 => ?_)
        · have e2 : wa pre * wb w < wa w * wb pre := of_decide_eq_true e2
          obtain ⟨v', rfl⟩ := rest_R.mp (show wa v > wb v by omega)
          refine ⟨_, rfl, .inl ⟨rfl, _, SqL.of hr3⟩, r, _, _, rfl, rfl, hr3, room, ?_⟩
          refine ⟨_, rfl, pre ++ [true], v', m, g, _, _, rfl, by rw [ew, List.append_assoc]; rfl, List.length_append, ?_, ?_, ?_, ?_⟩
          · exact fun b o z => by rw [upd_ne (ne_of_none z nr)]; exact sm' b o z
          · rw [upd_same, ← rd_R]
            simp
          · rw [upd_ne (ne_of_none hr2 nm).symm, hm3, mat_snoc]
            rfl
          · rw [upd_ne (show g ≠ r from fun z => by rw [z, hr3] at hg3; cases hg3), hg3, mat_snoc]
            rfl
        · have e2 : ¬ wa pre * wb w < wa w * wb pre := fun z => e2 (decide_eq_true z)
          have hv : ∃ v', v = false :: v' := by
            match v, e0, ne with
            | true :: v', _, _ =>
              have : wa (true :: v') > wb (true :: v') := rest_R.mpr ⟨v', rfl⟩
              omega
            | false :: v', _, _ => exact ⟨v', rfl⟩
          obtain ⟨v', rfl⟩ := hv
          refine ⟨_, rfl, .inl ⟨rfl, _, SqL.of hr3⟩, r, _, _, rfl, rfl, hr3, room, ?_⟩
          refine ⟨_, rfl, pre ++ [false], v', l, m, _, _, rfl, by rw [ew, List.append_assoc]; rfl, List.length_append, ?_, ?_, ?_, ?_⟩
          · exact fun b o z => by rw [upd_ne (ne_of_none z nr)]; exact sm' b o z
          · rw [upd_same, ← rd_L]
            simp
          · rw [upd_ne (show l ≠ r from fun z => by rw [z, hr3] at hl3; cases hl3), hl3, mat_snoc]
            rfl
          · rw [upd_ne (ne_of_none hr2 nm).symm, hm3, mat_snoc]
            rfl
    · rintro σ H2 ⟨pre, v, l, g, x, y, rfl, ew, hi, _⟩
      have lpre : pre.length ≤ w.length := by rw [ew, List.length_append]; omega
      have e4 : ((10 : Int) ^ (4 : Int).toNat).toNat = 10000 := by decide
      rw [e4] at hi
      omega

/-! _law_rt_way -/
def sp__law_rt_way (K : PySem.W.Frag) : Sp := fun vs H Q _ => ∃ (a : Addr) (top : Int) (n : Nat), vs = [.ref a, .int top] ∧ 0 ≤ top ∧ top ≤ 1000 ∧ n < 900000000 ∧ Pu H a n ∧
  ∀ (w : List Bool) H', (w.length : Int) ≤ top → Pu H' a (n + 1002) → Kp a H H' → Q (.str (rd w)) H'
theorem ok__law_rt_way (T : Tx K mg) : FnOk P w K mg base CX0 2 T.a__law_rt_way T.fd__law_rt_way ["purse", "top"] (sp__law_rt_way K) := by
  have G__law_coin := ok__law_coin (P := P) (w := w) (base := base) T
  refine T.F__law_rt_way.ok sc__law_rt_way (fun vs H Q E h => ?_) (fun cdv A outer s H vs Q E hr h => ?_)
  · obtain ⟨a, top, n, rfl, _⟩ := h
    rfl
  · obtain ⟨a, top, n, rfl, t0, t1, hn, hp, q⟩ := h
    obtain ⟨t, rfl⟩ := nat_of t0
    refine ⟨_, (pss_cons (ps_set (i := 2) sc__law_rt_way.nd rfl (Or.inl rfl) pe_str)
  (pss_cons (ps_for PassesOwn.never rfl (pi_range1 (by rfl) T.z_range (pa_cons (pe_call G__law_coin (hr.mono (by decide)) (by rfl) T.g__law_coin T.F__law_coin.kp (b__law_coin T.F__law_coin) .nil pass0 (pa_cons (pv 0) (pa_cons (pe_op op_add (pv 1) pe_int) pa_nil))) pa_nil)) (pg_name (i := 3) sc__law_rt_way.nd rfl (Or.inl rfl))
    (pss_one (ps_set (i := 2) sc__law_rt_way.nd rfl (Or.inl rfl) (pe_op op_add_str (pv 2) (pe_ix ix_list (pe_lst (pa_cons pe_str (pa_cons pe_str (pa_cons pe_str (pa_cons pe_str (pa_cons pe_str (pa_cons pe_str (pa_cons pe_str pa_nil)))))))) (pe_call G__law_coin (hr.mono (by decide)) (by rfl) T.g__law_coin T.F__law_coin.kp (b__law_coin T.F__law_coin) .nil pass0 (pa_cons (pv 0) (pa_cons pe_int pa_nil))) (fun _ _ => rfl))))))
  (pss_one (ps_ret (pe_slice sl_str (pv 2) po_none (po_some (pv 1))))))), ?_⟩
    refine ⟨_, rfl, _, rfl, _, _, rfl, rfl, a, _, n, rfl, by omega, by omega, by omega, hp, fun r H1 r0 r1 hp1 k1 => ?_⟩
    refine ⟨r, rfl, by omega, by omega, for_range (lo := 0) (n := r.toNat)
      (fun i σ H2 => ∃ (w : List Bool) (x : Option V), σ = [some (.ref a), some (.int t), some (.str (rd w)), x] ∧ w.length ≤ 7 * i ∧ Pu H2 a (n + 1 + i) ∧ Kp a H H2) ⟨[], none, rfl, Nat.zero_le _, hp1, k1⟩ ?_ ?_⟩
    · rintro i σ H2 hi ⟨w, x, rfl, hw, hp2, k2⟩
      refine ⟨_, rfl, sz (by show 7 ≤ 1000000; decide), fun p np => ?_⟩
      refine ⟨_, rfl, a, _, n + 1 + i, rfl, by decide, by decide, by omega, hp2.new np, fun r' H3 r0' r1' hp3 k3 => ?_⟩
      obtain ⟨u, hu, eu⟩ := wayMenu_at r0' r1'
      have e3 : H3 p = some (.lst wayMenu) := k3 p _ (hp2.ne np).symm upd_same
      refine ⟨p, wayMenu, r', _, rfl, rfl, SqL.of e3, eu, _, _, rfl, rfl, rd_app_len (by omega), ?_⟩
      rw [rd_app]
      refine ⟨w ++ u, _, rfl, ?_, hp3, (k2.new np).trans k3⟩
      rw [List.length_append]
      omega
    · rintro σ H2 ⟨w, x, rfl, hw, hp2, k2⟩
      refine ⟨_, rfl, _, rfl, _, rfl, rd w, rfl, (by rw [rd_len]; exact sz (by omega)), ?_⟩
      show Q (.str (cutS (rd w) none (some (t : Int)))) H2
      rw [cut_take]
      exact q _ _ (by rw [List.length_take]; omega) (hp2.le (by omega)) k2

/-! is_fraction -/
def sp_is_fraction (K : PySem.W.Frag) : Sp := fun vs H Q _ => ∃ (p : Addr) (x y : Int), vs = [.ref p] ∧ SqT K H p [.int x, .int y] ∧ ∀ b : Bool, (b = true ↔ (1 ≤ x ∧ 1 ≤ y ∧ Nat.gcd x.natAbs y.natAbs = 1)) → Q (.bl b) H
theorem ok_is_fraction (T : Tx K mg) : FnOk P w K mg base CX0 1 T.a_is_fraction T.fd_is_fraction ["fraction"] (sp_is_fraction K) := by
  refine T.F_is_fraction.ok sc_is_fraction (fun vs H Q E h => ?_) (fun cdv A outer s H vs Q E hr h => ?_)
  · obtain ⟨p, x, y, rfl, _⟩ := h
    rfl
  · obtain ⟨p, x, y, rfl, hp, q⟩ := h
    refine ⟨_, (pss_cons (ps_asg (pv 0) (pg_tup (by rfl) (pgs_cons (pg_name (i := 1) sc_is_fraction.nd rfl (Or.inl rfl)) (pgs_cons (pg_name (i := 2) sc_is_fraction.nd rfl (Or.inl rfl)) pgs_nil))))
  (pss_one (ps_ret (pe_and (pe_cmpR op_gt (pv 1) pe_int (nomark _)) (pe_and (pe_cmpR op_gt (pv 2) pe_int (nomark _)) (pe_one (pe_cmpR op_eq (pe_callBfun cr_gcdN (by rfl) T.m_gcd (pa_cons (pv 1) (pa_cons (pv 2) pa_nil))) pe_int (nomark _)))))))), ?_⟩
    refine ⟨_, rfl, p, _, rfl, hp, rfl, _, _, rfl, _, _, rfl, rfl, ?_⟩
    refine ⟨_, rfl, _, _, rfl, rfl, _, rfl, bl2 (fun c1 => ?_) (fun c1 => ?_)⟩
    · have c1 := of_decide_eq_true c1
      refine ⟨_, rfl, _, _, rfl, rfl, _, rfl, bl2 (fun c2 => ?_) (fun c2 => ?_)⟩
      · have c2 := of_decide_eq_true c2
        refine ⟨_, rfl, _, rfl, .inl ⟨x, y, rfl, rfl, q _ ?_⟩⟩
        refine ⟨fun z => ?_, fun z => ?_⟩
        · have z : V.int (Nat.gcd x.natAbs y.natAbs : Nat) = V.int 1 := by simpa using z
          injection z with z
          exact ⟨by omega, by omega, by omega⟩
        · rw [z.2.2]
          rfl
      · have c2 := of_decide_eq_false c2
        exact q _ ⟨(fun z => nomatch z), fun z => by omega⟩
    · have c1 := of_decide_eq_false c1
      exact q _ ⟨(fun z => nomatch z), fun z => by omega⟩

/-! check_fraction -/
def sp_check_fraction (K : PySem.W.Frag) : Sp := fun vs H Q _ => ∃ (p : Addr) (x y : Int), vs = [.ref p] ∧ SqT K H p [.int x, .int y] ∧ 1 ≤ x ∧ 1 ≤ y ∧ Nat.gcd x.natAbs y.natAbs = 1 ∧ Q .non H
theorem ok_check_fraction (T : Tx K mg) : FnOk P w K mg base CX0 2 T.a_check_fraction T.fd_check_fraction ["fraction"] (sp_check_fraction K) := by
  have G_is_fraction := ok_is_fraction (P := P) (w := w) (base := base) T
  refine T.F_check_fraction.ok sc_check_fraction (fun vs H Q E h => ?_) (fun cdv A outer s H vs Q E hr h => ?_)
  · obtain ⟨p, x, y, rfl, _⟩ := h
    rfl
  · obtain ⟨p, x, y, rfl, hp, hx, hy, hg, q⟩ := h
    refine ⟨_, (pss_one (ps_if (pt_not (pt_val (pe_call G_is_fraction (hr.mono (by decide)) (by rfl) T.g_is_fraction T.F_is_fraction.kp (b_is_fraction T.F_is_fraction) .nil pass0 (pa_cons (pv 0) pa_nil)))) (pss_one ps_never) pss_nil)), ?_⟩
    refine ⟨_, rfl, p, x, y, rfl, hp, fun b hb => ⟨_, rfl, ?_⟩⟩
    rw [hb.mpr ⟨hx, hy, hg⟩]
    exact iteF q

/-! road_of -/
def sp_road_of (K : PySem.W.Frag) : Sp := fun vs H Q _ => ∃ (p : Addr) (w : List Bool), vs = [.ref p] ∧ SqT K H p [.int (wa w), .int (wb w)] ∧ w.length ≤ 1000 ∧ ∀ H', Same H H' → Q (.str (rd w)) H'
theorem ok_road_of (T : Tx K mg) : FnOk P w K mg base CX0 3 T.a_road_of T.fd_road_of ["fraction"] (sp_road_of K) := by
  have G_check_fraction := ok_check_fraction (P := P) (w := w) (base := base) T
  refine T.F_road_of.ok sc_road_of (fun vs H Q E h => ?_) (fun cdv A outer s H vs Q E hr h => ?_)
  · obtain ⟨p, w, rfl, _⟩ := h
    rfl
  · obtain ⟨p, w, rfl, hp, hw, q⟩ := h
    refine ⟨_, (pss_cons (ps_expr (pe_call G_check_fraction (hr.mono (by decide)) (by rfl) T.g_check_fraction T.F_check_fraction.kp (b_check_fraction T.F_check_fraction) .nil pass0 (pa_cons (pv 0) pa_nil)))
  (pss_cons (ps_asg (pv 0) (pg_tup (by rfl) (pgs_cons (pg_name (i := 1) sc_road_of.nd rfl (Or.inl rfl)) (pgs_cons (pg_name (i := 2) sc_road_of.nd rfl (Or.inl rfl)) pgs_nil))))
  (pss_cons (ps_set (i := 3) sc_road_of.nd rfl (Or.inl rfl) (pe_lst pa_nil))
  (pss_cons (ps_while PassesOwn.never (pt_cmpR op_ne (pv 1) (pv 2) (nomark _))
    (pss_one (ps_if (pt_cmpR op_gt (pv 1) (pv 2) (nomark _)) (pss_cons (ps_set (i := 4) sc_road_of.nd rfl (Or.inl rfl) (pe_op op_fdivL (pe_op op_sub (pv 1) pe_int) (pv 2)))
  (pss_cons (ps_expr (pe_bm PySem.F.plainAttrs_list PySem.F.slot_list_append PySem.F.type_list_append mt_append (pv 3) (pa_cons (pe_op op_mulS pe_str (pv 4)) pa_nil)))
  (pss_one (ps_set (i := 1) sc_road_of.nd rfl (Or.inl rfl) (pe_op op_sub (pv 1) (pe_op op_mulL (pv 4) (pv 2))))))) (pss_cons (ps_set (i := 4) sc_road_of.nd rfl (Or.inl rfl) (pe_op op_fdivL (pe_op op_sub (pv 2) pe_int) (pv 1)))
  (pss_cons (ps_expr (pe_bm PySem.F.plainAttrs_list PySem.F.slot_list_append PySem.F.type_list_append mt_append (pv 3) (pa_cons (pe_op op_mulS pe_str (pv 4)) pa_nil)))
  (pss_one (ps_set (i := 2) sc_road_of.nd rfl (Or.inl rfl) (pe_op op_sub (pv 2) (pe_op op_mulL (pv 4) (pv 1))))))))))
  (pss_one (ps_ret (pe_join pe_str (pv 3)))))))), ?_⟩
    obtain ⟨p1, p2⟩ := up_pos w
    refine ⟨_, rfl, p, wa w, wb w, rfl, hp, p1, p2, road_gcd w, ?_⟩
    refine ⟨_, rfl, p, _, rfl, hp, rfl, _, _, rfl, _, _, rfl, rfl, sz (by show 0 ≤ 1000000; decide), fun r nr => ?_⟩
    refine ⟨fun m σ H2 => ∃ (ls : List (List Bool)) (v : List Bool) (x : Option V), σ = [some (.ref p), some (.int (wa v)), some (.int (wb v)), some (.ref r), x] ∧ m = v.length ∧ ls.flatten ++ v = w ∧ ls.length + v.length ≤ w.length ∧ Same H H2 ∧ H2 r = some (.lst ((ls.map rd).map V.str)),
      ⟨w.length, [], w, none, rfl, rfl, rfl, Nat.le_of_eq (Nat.zero_add _), (L2.Same.refl H).new nr, upd_same⟩, ?_⟩
    rintro m σ H2 ⟨ls, v, x, rfl, rfl, ev, hl, sm, hr2⟩
    have lw : v.length ≤ 1000 := by omega
    obtain ⟨v1, v2⟩ := up_pos v
    obtain ⟨sa, sb⟩ := up_sml (w := v) (by omega)
    have room : (List.map V.str (List.map rd ls)).length < sizeLine := by
      rw [List.length_map, List.length_map]
      exact Nat.lt_of_le_of_lt (show ls.length ≤ 1000 by omega) (by decide)
    refine ⟨_, rfl, _, rfl, rfl, _, rfl, ?_⟩
    by_cases e : wa v = wb v
    · -- the end
      have ev0 := rest_nil.mp e
      subst ev0
      rw [List.append_nil] at ev
      refine iteNS (by rw [e]) ?_
      refine ⟨⟨_, rfl⟩, _, rfl, ("" : Str), r, ls.map rd, rfl, rfl, .inl (SqL.of hr2), join_room (by rw [ev]; omega), ?_⟩
      rw [join_rd, ev]
      exact q _ sm
    · have en : (!decide (V.int (wa v) = V.int (wb v))) = true := by
        rw [decide_eq_false (fun z => e (V.int.inj z))]
        rfl
      rw [en]
      refine iteT ⟨fun σ' H' => ∃ (ls' : List (List Bool)) (v' : List Bool) (x : Option V), σ' = [some (.ref p), some (.int (wa v')), some (.int (wb v')), some (.ref r), x] ∧ v'.length < v.length ∧ ls'.flatten ++ v' = w ∧ ls'.length + v'.length ≤ w.length ∧ Same H H' ∧ H' r = some (.lst ((ls'.map rd).map V.str)), ?_, ?_⟩
      · rintro σ' H' ⟨ls', v', x, rfl, lt, e1, e2, e3, e4⟩
        exact ⟨v'.length, lt, ls', v', x, rfl, rfl, e1, e2, e3, e4⟩
      · refine ⟨_, rfl, _, rfl, _, _, rfl, rfl, _, rfl, ite2 (fun e2 => ?_) (fun e2 => ?_)⟩
        · have gt : wa v > wb v := of_decide_eq_true e2
          obtain ⟨v', e3, e4, e5⟩ := runs_R v
          have many : 1 ≤ (wa v - 1) / wb v := (Int.le_ediv_iff_mul_le (by omega)).mpr (by omega)
          have ef : (wa v - 1).fdiv (wb v) = (wa v - 1) / wb v := Int.fdiv_eq_ediv_of_nonneg _ (by omega)
          have el : ((wa v - 1) / wb v).toNat + v'.length = v.length := by
            have := congrArg List.length e3
            rw [List.length_append, List.length_replicate] at this
            omega
          refine ⟨_, rfl, _, _, rfl, rfl, _, rfl, _, _, rfl, rfl, .inr ⟨by omega, Nat.lt_trans sb.lg (by decide)⟩, ?_⟩
          refine ⟨_, rfl, .inl ⟨rfl, _, SqL.of hr2⟩, _, rfl, ("R" : Str), _, rfl, rfl, by decide +kernel, ?_, ?_, r, _, _, rfl, rfl, hr2, room, ?_⟩
          · show (-1000 : Int) ≤ (wa v - 1).fdiv (wb v)
            rw [ef]
            omega
          · show (wa v - 1).fdiv (wb v) ≤ 1000
            rw [ef]
            omega
          · have e6 : repT ("R" : Str) ((wa v - 1).fdiv (wb v)) = rd (List.replicate ((wa v - 1) / wb v).toNat true) := by
              rw [← rd_R, ef, rep_rd]
              congr 1
              unfold repR
              rw [List.flatten_replicate_singleton]
            rw [e6]
            refine ⟨_, rfl, _, rfl, _, rfl, _, _, rfl, rfl, cml_s ?_ sb, _, _, rfl, rfl, ls ++ [List.replicate ((wa v - 1) / wb v).toNat true], v', some (.int ((wa v - 1).fdiv (wb v))), ?_, by omega, ?_, ?_, ?_, ?_⟩
            · rw [ef]
              have : (((wa v - 1) / wb v).natAbs) ≤ 1000 := by omega
              exact Nat.lt_of_le_of_lt this (by decide)
            · show [some (V.ref p), some (V.int (wa v - (wa v - 1).fdiv (wb v) * wb v)), some (V.int (wb v)), some (V.ref r), some (V.int ((wa v - 1).fdiv (wb v)))] = _
              rw [e4, e5, ef]
            · rw [List.flatten_append, List.append_assoc, ← ev]
              show ls.flatten ++ ((List.replicate ((wa v - 1) / wb v).toNat true ++ []) ++ v') = _
              rw [List.append_nil, ← e3]
            · rw [List.length_append]
              show ls.length + 1 + v'.length ≤ w.length
              omega
            · exact fun b o z => by rw [upd_ne (ne_of_none z nr)]; exact sm b o z
            · rw [upd_same]
              simp
        · have lt : wa v < wb v := by
            have : ¬ wa v > wb v := fun z => e2 (decide_eq_true z)
            omega
          obtain ⟨v', e3, e4, e5⟩ := runs_L v
          have many : 1 ≤ (wb v - 1) / wa v := (Int.le_ediv_iff_mul_le (by omega)).mpr (by omega)
          have ef : (wb v - 1).fdiv (wa v) = (wb v - 1) / wa v := Int.fdiv_eq_ediv_of_nonneg _ (by omega)
          have el : ((wb v - 1) / wa v).toNat + v'.length = v.length := by
            have := congrArg List.length e3
            rw [List.length_append, List.length_replicate] at this
            omega
          refine ⟨_, rfl, _, _, rfl, rfl, _, rfl, _, _, rfl, rfl, .inr ⟨by omega, Nat.lt_trans sa.lg (by decide)⟩, ?_⟩
          refine ⟨_, rfl, .inl ⟨rfl, _, SqL.of hr2⟩, _, rfl, ("L" : Str), _, rfl, rfl, by decide +kernel, ?_, ?_, r, _, _, rfl, rfl, hr2, room, ?_⟩
          · show (-1000 : Int) ≤ (wb v - 1).fdiv (wa v)
            rw [ef]
            omega
          · show (wb v - 1).fdiv (wa v) ≤ 1000
            rw [ef]
            omega
          · have e6 : repT ("L" : Str) ((wb v - 1).fdiv (wa v)) = rd (List.replicate ((wb v - 1) / wa v).toNat false) := by
              rw [← rd_L, ef, rep_rd]
              congr 1
              unfold repR
              rw [List.flatten_replicate_singleton]
            rw [e6]
            refine ⟨_, rfl, _, rfl, _, rfl, _, _, rfl, rfl, cml_s ?_ sa, _, _, rfl, rfl, ls ++ [List.replicate ((wb v - 1) / wa v).toNat false], v', some (.int ((wb v - 1).fdiv (wa v))), ?_, by omega, ?_, ?_, ?_, ?_⟩
            · rw [ef]
              have : (((wb v - 1) / wa v).natAbs) ≤ 1000 := by omega
              exact Nat.lt_of_le_of_lt this (by decide)
            · show [some (V.ref p), some (V.int (wa v)), some (V.int (wb v - (wb v - 1).fdiv (wa v) * wa v)), some (V.ref r), some (V.int ((wb v - 1).fdiv (wa v)))] = _
              rw [e4, e5, ef]
            · rw [List.flatten_append, List.append_assoc, ← ev]
              show ls.flatten ++ ((List.replicate ((wb v - 1) / wa v).toNat false ++ []) ++ v') = _
              rw [List.append_nil, ← e3]
            · rw [List.length_append]
              show ls.length + 1 + v'.length ≤ w.length
              omega
            · exact fun b o z => by rw [upd_ne (ne_of_none z nr)]; exact sm b o z
            · rw [upd_same]
              simp

/-! is_road -/
def sp_is_road (K : PySem.W.Frag) : Sp := fun vs H Q _ => ∃ t : Str, vs = [.str t] ∧ t.length ≤ 1000000 ∧ ∀ b : Bool, (b = true ↔ ∃ w, t = rd w) → Q (.bl b) H
theorem lr_cnt : ∀ l : List Nat, cnt 76 l + cnt 82 l ≤ (l.length : Int) ∧ (cnt 76 l + cnt 82 l = (l.length : Int) ↔ ∀ x ∈ l, x = 76 ∨ x = 82)
  | [] => ⟨Int.le_refl _, (fun _ x h => nomatch h), fun _ => rfl⟩
  | c :: l => by
    obtain ⟨h1, h2⟩ := lr_cnt l
    rw [cnt_cons, cnt_cons, List.length_cons]
    by_cases e : c = 76
    · subst e
      have e1 : ((if (76 : Nat) = 76 then 1 else 0 : Int)) = 1 := rfl
      have e2 : ((if (76 : Nat) = 82 then 1 else 0 : Int)) = 0 := rfl
      rw [e1, e2]
      refine ⟨by omega, fun z x hx => ?_, fun z => ?_⟩
      · rcases List.mem_cons.mp hx with rfl | hx
        · exact .inl rfl
        · exact h2.mp (by omega) x hx
      · have := h2.mpr fun x hx => z x (List.mem_cons_of_mem _ hx)
        omega
    · by_cases e2 : c = 82
      · subst e2
        have e1 : ((if (82 : Nat) = 76 then 1 else 0 : Int)) = 0 := rfl
        have e2 : ((if (82 : Nat) = 82 then 1 else 0 : Int)) = 1 := rfl
        rw [e1, e2]
        refine ⟨by omega, fun z x hx => ?_, fun z => ?_⟩
        · rcases List.mem_cons.mp hx with rfl | hx
          · exact .inr rfl
          · exact h2.mp (by omega) x hx
        · have := h2.mpr fun x hx => z x (List.mem_cons_of_mem _ hx)
          omega
      · rw [if_neg e, if_neg e2]
        refine ⟨by omega, fun z => by omega, fun z => ?_⟩
        rcases z c List.mem_cons_self with y | y
        · exact absurd y e
        · exact absurd y e2
theorem rd_of {t : Str} (h : ∀ x ∈ t.cps.toList, x = 76 ∨ x = 82) : ∃ w, t = rd w := by
  refine ⟨t.cps.toList.map fun x => decide (x = 82), str_ext ?_⟩
  rw [rd_cps, List.map_map]
  refine (List.map_id _).symm.trans (List.map_congr_left fun x hx => ?_)
  rcases h x hx with rfl | rfl <;> rfl
theorem ok_is_road (T : Tx K mg) : FnOk P w K mg base CX0 1 T.a_is_road T.fd_is_road ["text"] (sp_is_road K) := by
  refine T.F_is_road.ok sc_is_road (fun vs H Q E h => ?_) (fun cdv A outer s H vs Q E hr h => ?_)
  · obtain ⟨t, rfl, _⟩ := h
    rfl
  · obtain ⟨t, rfl, hw, q⟩ := h
    refine ⟨_, (pss_one (ps_ret (pe_cmpR op_eq (pe_op op_add (pe_m1 PySem.F.slot_str_count PySem.F.type_str_count mt_count (pv 0) pe_str) (pe_m1 PySem.F.slot_str_count PySem.F.type_str_count mt_count (pv 0) pe_str)) (pe_callB call_len_str (by rfl) T.z_len (by decide +kernel) (pa_cons (pv 0) pa_nil)) (nomark _)))), ?_⟩
    refine ⟨_, rfl, ⟨_, rfl⟩, _, _, rfl, rfl, _, rfl, ⟨_, rfl⟩, _, _, rfl, rfl, _, _, rfl, rfl, _, rfl, _, rfl, sz hw, rfl, ?_⟩
    refine q _ ?_
    have eL : ("L" : Str) = ⟨#[76]⟩ := by decide +kernel
    have eR : ("R" : Str) = ⟨#[82]⟩ := by decide +kernel
    rw [eL, eR, count_cnt, count_cnt]
    have el : (t.length : Int) = (t.cps.toList.length : Int) := by
      show (t.cps.size : Int) = _
      simp
    rw [el]
    obtain ⟨_, h2⟩ := lr_cnt t.cps.toList
    refine ⟨fun z => rd_of (h2.mp ?_), fun z => ?_⟩
    · have z : V.int _ = V.int _ := of_decide_eq_true z
      injection z
    · obtain ⟨w, rfl⟩ := z
      refine decide_eq_true (congrArg V.int (h2.mpr ?_))
      intro x hx
      rw [rd_cps] at hx
      obtain ⟨b, _, rfl⟩ := List.mem_map.mp hx
      cases b
      · exact .inl rfl
      · exact .inr rfl

/-! check_road -/
def sp_check_road (K : PySem.W.Frag) : Sp := fun vs H Q _ => ∃ (w : List Bool), vs = [.str (rd w)] ∧ w.length ≤ 1000000 ∧ Q .non H
theorem ok_check_road (T : Tx K mg) : FnOk P w K mg base CX0 2 T.a_check_road T.fd_check_road ["road"] (sp_check_road K) := by
  have G_is_road := ok_is_road (P := P) (w := w) (base := base) T
  refine T.F_check_road.ok sc_check_road (fun vs H Q E h => ?_) (fun cdv A outer s H vs Q E hr h => ?_)
  · obtain ⟨w, rfl, _⟩ := h
    rfl
  · obtain ⟨w, rfl, hw, q⟩ := h
    refine ⟨_, (pss_one (ps_if (pt_not (pt_val (pe_call G_is_road (hr.mono (by decide)) (by rfl) T.g_is_road T.F_is_road.kp (b_is_road T.F_is_road) .nil pass0 (pa_cons (pv 0) pa_nil)))) (pss_one ps_never) pss_nil)), ?_⟩
    refine ⟨_, rfl, rd w, rfl, (by rw [rd_len]; exact hw), fun b hb => ?_⟩
    have e : b = true := hb.2 ⟨w, rfl⟩
    subst e
    exact ⟨true, rfl, iteF q⟩

/-! matrix_of -/
def sp_matrix_of (K : PySem.W.Frag) : Sp := fun vs H Q _ => ∃ (w : List Bool), vs = [.str (rd w)] ∧
  ∀ H' p, Same H H' → H p = none → H' p = some (.tup [.int (mat w).a, .int (mat w).b, .int (mat w).c, .int (mat w).d]) → Q (.ref p) H'
theorem ok_matrix_of (T : Tx K mg) : FnOk P w K mg base CX0 1 T.a_matrix_of T.fd_matrix_of ["road"] (sp_matrix_of K) := by
  refine T.F_matrix_of.ok sc_matrix_of (fun vs H Q E h => ?_) (fun cdv A outer s H vs Q E hr h => ?_)
  · obtain ⟨w, rfl, _⟩ := h
    rfl
  · obtain ⟨w, rfl, q⟩ := h
    refine ⟨_, (pss_cons (ps_asg (pe_tup (pa_cons pe_int (pa_cons pe_int (pa_cons pe_int (pa_cons pe_int pa_nil))))) (pg_tup (by rfl) (pgs_cons (pg_name (i := 1) sc_matrix_of.nd rfl (Or.inl rfl)) (pgs_cons (pg_name (i := 2) sc_matrix_of.nd rfl (Or.inl rfl)) (pgs_cons (pg_name (i := 3) sc_matrix_of.nd rfl (Or.inl rfl)) (pgs_cons (pg_name (i := 4) sc_matrix_of.nd rfl (Or.inl rfl)) pgs_nil))))))
  (pss_cons (ps_for PassesOwn.never rfl (pi_str (pv 0)) (pg_name (i := 5) sc_matrix_of.nd rfl (Or.inl rfl))
    (pss_one (ps_if (pt_cmpR op_eq (pv 5) pe_str (nomark _)) (pss_one (ps_par (i := 1) (j := 3) (by rfl) sc_matrix_of.nd rfl rfl (by decide) rfl rfl (pa_cons (pe_op op_add (pv 1) (pv 2)) (pa_cons (pe_op op_add (pv 3) (pv 4)) pa_nil)) (by rfl))) (pss_one (ps_par (i := 2) (j := 4) (by rfl) sc_matrix_of.nd rfl rfl (by decide) rfl rfl (pa_cons (pe_op op_add (pv 1) (pv 2)) (pa_cons (pe_op op_add (pv 3) (pv 4)) pa_nil)) (by rfl))))))
  (pss_one (ps_ret (pe_tup (pa_cons (pv 1) (pa_cons (pv 2) (pa_cons (pv 3) (pa_cons (pv 4) pa_nil))))))))), ?_⟩
    have z4 : ([.int 1, .int 0, .int 0, .int 1] : List V).length ≤ sizeLine := sz (by show 4 ≤ 1000000; decide)
    refine ⟨z4, fun p np => ⟨p, _, rfl, .inl (.inl upd_same), rfl, ?_⟩⟩
    refine ⟨_, _, rfl, _, _, rfl, _, _, rfl, _, _, rfl, rfl, ?_⟩
    refine ⟨_, rfl, rd w, rfl, for_rd (fun pre σ H2 => ∃ x, σ = [some (.str (rd w)), some (.int (mat pre).a), some (.int (mat pre).b), some (.int (mat pre).c), some (.int (mat pre).d), x] ∧ Same H H2) ⟨none, rfl, (L2.Same.refl H).new np⟩ ?_ ?_⟩
    · rintro pre t post σ H2 ew ⟨x, rfl, sm⟩
      refine ⟨_, rfl, rfl, _, rfl, ?_⟩
      rw [eq_L]
      cases t
      · refine iteT ⟨_, rfl, _, rfl, _, _, rfl, rfl, _, rfl, _, rfl, _, _, rfl, rfl, _, _, rfl, some (.str (rd [false])), ?_, sm⟩
        rw [mat_snoc]
        rfl
      · refine iteF ⟨_, rfl, _, rfl, _, _, rfl, rfl, _, rfl, _, rfl, _, _, rfl, rfl, _, _, rfl, some (.str (rd [true])), ?_, sm⟩
        rw [mat_snoc]
        rfl
    · rintro σ H2 ⟨x, rfl, sm⟩
      refine ⟨_, rfl, _, rfl, _, rfl, _, rfl, sz (by show 4 ≤ 1000000; decide), fun p np => ?_⟩
      exact q _ p (sm.new np) (sm.free np) upd_same

/-! number_of -/
def sp_number_of (K : PySem.W.Frag) : Sp := fun vs H Q _ => ∃ (w : List Bool), vs = [.str (rd w)] ∧ w.length ≤ 1000000 ∧
  ∀ H' p, Same H H' → H p = none → H' p = some (.tup [.int (wa w), .int (wb w)]) → Q (.ref p) H'
theorem ok_number_of (T : Tx K mg) : FnOk P w K mg base CX0 3 T.a_number_of T.fd_number_of ["road"] (sp_number_of K) := by
  have G_check_road := ok_check_road (P := P) (w := w) (base := base) T
  have G_matrix_of := ok_matrix_of (P := P) (w := w) (base := base) T
  refine T.F_number_of.ok sc_number_of (fun vs H Q E h => ?_) (fun cdv A outer s H vs Q E hr h => ?_)
  · obtain ⟨w, rfl, _⟩ := h
    rfl
  · obtain ⟨w, rfl, hw, q⟩ := h
    refine ⟨_, (pss_cons (ps_expr (pe_call G_check_road (hr.mono (by decide)) (by rfl) T.g_check_road T.F_check_road.kp (b_check_road T.F_check_road) .nil pass0 (pa_cons (pv 0) pa_nil)))
  (pss_cons (ps_asg (pe_call G_matrix_of (hr.mono (by decide)) (by rfl) T.g_matrix_of T.F_matrix_of.kp (b_matrix_of T.F_matrix_of) .nil pass0 (pa_cons (pv 0) pa_nil)) (pg_tup (by rfl) (pgs_cons (pg_name (i := 1) sc_number_of.nd rfl (Or.inl rfl)) (pgs_cons (pg_name (i := 2) sc_number_of.nd rfl (Or.inl rfl)) (pgs_cons (pg_name (i := 3) sc_number_of.nd rfl (Or.inl rfl)) (pgs_cons (pg_name (i := 4) sc_number_of.nd rfl (Or.inl rfl)) pgs_nil))))))
  (pss_one (ps_ret (pe_tup (pa_cons (pe_op op_add (pv 1) (pv 2)) (pa_cons (pe_op op_add (pv 3) (pv 4)) pa_nil))))))), ?_⟩
    refine ⟨_, rfl, w, rfl, hw, ?_⟩
    refine ⟨_, rfl, w, rfl, fun H1 m sm nm hm => ?_⟩
    refine ⟨m, _, rfl, .inl (.inl hm), rfl, _, _, rfl, _, _, rfl, _, _, rfl, _, _, rfl, rfl, ?_⟩
    refine ⟨_, rfl, _, rfl, _, _, rfl, rfl, _, rfl, _, rfl, _, _, rfl, rfl, sz (by show 2 ≤ 1000000; decide), fun p np => ?_⟩
    exact q _ p (sm.new np) (sm.free np) upd_same

/-! _law_right -/
def sp__law_right (K : PySem.W.Frag) : Sp := fun vs H Q _ => ∃ (a : Addr) (n : Nat), vs = [.ref a] ∧ n < 100000 ∧ Pu H a n ∧ ∀ H', Pu H' a (n + 2000) → Kp a H H' → Q (.bl true) H'
theorem shw_str {w : List Bool} (h : w.length ≤ 8000) : Shw (.str (rd w)) := by
  refine ⟨rfl, rfl, by show (0 : Nat) ≤ 60; omega, ?_, ?_⟩
  · show ((rd w).cps.toList.all fun c => decide (c < 16 ^ 8)) = true
    rw [rd_cps, List.all_map, List.all_eq_true]
    intro t _
    cases t <;> decide
  · show (rd w).cps.size ≤ 8000
    exact Nat.le_trans (Nat.le_of_eq (rd_len w)) h
theorem ok__law_right (T : Tx K mg) : FnG P w K mg base CX0 4 T.a__law_right T.fd__law_right ["purse"] (sp__law_right K) := by
  have G__law_rt_fraction := ok__law_rt_fraction (P := P) (w := w) (base := base) T
  have G__law_rt_text := ok__law_rt_text (P := P) (w := w) (base := base) T
  have G__law_rt_way := ok__law_rt_way (P := P) (w := w) (base := base) T
  have G__law_coin := ok__law_coin (P := P) (w := w) (base := base) T
  have G_road_of := ok_road_of (P := P) (w := w) (base := base) T
  have G_number_of := ok_number_of (P := P) (w := w) (base := base) T
  refine okG T.F__law_right sc__law_right (fun vs H Q E h => ?_) (fun cdv A outer s H vs Q E hG hr h => ?_)
  · obtain ⟨a, n, rfl, _⟩ := h
    rfl
  · obtain ⟨a, n, rfl, hn, hp, q⟩ := h
    refine ⟨_, (pss_cons (ps_set (i := 1) sc__law_right.nd rfl (Or.inl rfl) (pe_call G__law_rt_fraction (hr.mono (by decide)) (by rfl) T.g__law_rt_fraction T.F__law_rt_fraction.kp (b__law_rt_fraction T.F__law_rt_fraction) .nil pass0 (pa_cons (pv 0) (pa_cons (pe_ix ix_list (pe_lst (pa_cons pe_int (pa_cons pe_int (pa_cons pe_int pa_nil)))) (pe_call G__law_coin (hr.mono (by decide)) (by rfl) T.g__law_coin T.F__law_coin.kp (b__law_coin T.F__law_coin) .nil pass0 (pa_cons (pv 0) (pa_cons pe_int pa_nil))) (fun _ _ => rfl)) pa_nil))))
  (pss_cons (ps_set (i := 2) sc__law_right.nd rfl (Or.inl rfl) (pe_call G__law_rt_text (hr.mono (by decide)) (by rfl) T.g__law_rt_text T.F__law_rt_text.kp (b__law_rt_text T.F__law_rt_text) .nil pass0 (pa_cons (pv 1) pa_nil)))
  (pss_cons (ps_if (PW.pt (pw_or (pt_cmpR op_ne (pe_callB (call_repr hG hr) (by rfl) T.z_repr (by decide +kernel) (pa_cons (pe_call G_road_of (hr.mono (by decide)) (by rfl) T.g_road_of T.F_road_of.kp (b_road_of T.F_road_of) .nil pass0 (pa_cons (pv 1) pa_nil)) pa_nil)) (pe_callB (call_repr hG hr) (by rfl) T.z_repr (by decide +kernel) (pa_cons (pv 2) pa_nil)) (nomark _)) (pw_or1 (pt_cmpR op_ne (pe_callB (call_repr hG hr) (by rfl) T.z_repr (by decide +kernel) (pa_cons (pe_callK0 G_road_of (hr.mono (by decide)) (by rfl) T.g_road_of T.F_road_of.kp (kb_road_of_0 T.F_road_of) pass0 (pk_cons (pv 1) pk_nil)) pa_nil)) (pe_callB (call_repr hG hr) (by rfl) T.z_repr (by decide +kernel) (pa_cons (pv 2) pa_nil)) (nomark _))))) (pss_one (ps_ret pe_bl)) pss_nil)
  (pss_cons (ps_set (i := 3) sc__law_right.nd rfl (Or.inl rfl) (pe_call G__law_rt_way (hr.mono (by decide)) (by rfl) T.g__law_rt_way T.F__law_rt_way.kp (b__law_rt_way T.F__law_rt_way) .nil pass0 (pa_cons (pv 0) (pa_cons (pe_ix ix_list (pe_lst (pa_cons pe_int (pa_cons pe_int (pa_cons pe_int pa_nil)))) (pe_call G__law_coin (hr.mono (by decide)) (by rfl) T.g__law_coin T.F__law_coin.kp (b__law_coin T.F__law_coin) .nil pass0 (pa_cons (pv 0) (pa_cons pe_int pa_nil))) (fun _ _ => rfl)) pa_nil))))
  (pss_one (ps_ret (pe_cmpR op_eq (pe_callB (call_repr hG hr) (by rfl) T.z_repr (by decide +kernel) (pa_cons (pe_call G_road_of (hr.mono (by decide)) (by rfl) T.g_road_of T.F_road_of.kp (b_road_of T.F_road_of) .nil pass0 (pa_cons (pe_call G_number_of (hr.mono (by decide)) (by rfl) T.g_number_of T.F_number_of.kp (b_number_of T.F_number_of) .nil pass0 (pa_cons (pv 3) pa_nil)) pa_nil)) pa_nil)) (pe_callB (call_repr hG hr) (by rfl) T.z_repr (by decide +kernel) (pa_cons (pv 3) pa_nil)) (nomark _)))))))), ?_⟩
    refine ⟨_, rfl, sz (by show 3 ≤ 1000000; decide), fun m nm => ⟨_, rfl, a, _, n, rfl, by decide, by decide, by omega, hp.new nm, fun r H1 r0 r1 hp1 k1 => ?_⟩⟩
    obtain ⟨t, ht, et⟩ := menu_at (l := [6, 60, 400]) r0 r1
    have ht : 6 ≤ t ∧ t ≤ 400 := by
      simp at ht
      omega
    have e1 : H1 m = some (.lst ([6, 60, 400].map V.int)) := k1 m _ (hp.ne nm).symm upd_same
    refine ⟨m, _, r, _, rfl, rfl, SqL.of e1, et, a, t, n + 1, rfl, by omega, by omega, by omega, hp1, fun w H2 p hw _ _ hp2 k2 np hq => ?_⟩
    have hw : w.length ≤ 400 := by omega
    have k02 : Kp a H H2 := ((Kp.refl a H).new nm).trans (k1.trans k2)
    refine ⟨_, rfl, p, w, rfl, SqT.of hq, by omega, fun H3 sm3 => ?_⟩
    have sw := shw_str (w := w) (by omega)
    refine ⟨_, rfl, p, w, rfl, SqT.of (sm3 _ _ hq), by omega, fun H4 sm4 => ⟨_, _, rfl, .str _, sw, ?_⟩⟩
    refine ⟨_, rfl, _, _, rfl, .str _, sw, rfl, _, rfl, iteNS rfl ?_⟩
    refine ⟨_, rfl, p, w, rfl, SqT.of (sm4 _ _ (sm3 _ _ hq)), by omega, fun H5 sm5 => ⟨_, _, rfl, .str _, sw, ?_⟩⟩
    refine ⟨_, rfl, _, _, rfl, .str _, sw, rfl, _, rfl, iteNS rfl ?_⟩
    have sm25 := (sm3.trans sm4).trans sm5
    have hp5 : Pu H5 a (n + 101) := (hp2.same sm25).le (by omega)
    refine ⟨_, rfl, sz (by show 3 ≤ 1000000; decide), fun m2 nm2 => ⟨_, rfl, a, _, n + 101, rfl, by decide, by decide, by omega, hp5.new nm2, fun r2 H6 r02 r12 hp6 k6 => ?_⟩⟩
    obtain ⟨t2, ht2, et2⟩ := menu_at (l := [6, 60, 400]) r02 r12
    have ht2 : 6 ≤ t2 ∧ t2 ≤ 400 := by
      simp at ht2
      omega
    have e2 : H6 m2 = some (.lst ([6, 60, 400].map V.int)) := k6 m2 _ (hp5.ne nm2).symm upd_same
    refine ⟨m2, _, r2, _, rfl, rfl, SqL.of e2, et2, a, t2, n + 102, rfl, by omega, by omega, by omega, hp6, fun v H7 hv hp7 k7 => ?_⟩
    have hv : v.length ≤ 400 := by omega
    have sv := shw_str (w := v) (by omega)
    have k07 : Kp a H H7 := ((k02.trans (Kp.of sm25)).new nm2).trans (k6.trans k7)
    refine ⟨_, rfl, v, rfl, by omega, fun H8 p8 sm8 np8 hp8 => ⟨p8, v, rfl, SqT.of hp8, by omega, fun H9 sm9 => ⟨_, _, rfl, .str _, sv, ?_⟩⟩⟩
    refine ⟨_, rfl, _, _, rfl, .str _, sv, rfl, ?_⟩
    rw [decide_eq_true rfl]
    exact q _ ((hp7.same (sm8.trans sm9)).le (by omega)) (k07.trans (Kp.of (sm8.trans sm9)))

/-! _law_purse -/
def sp__law_purse (K : PySem.W.Frag) : Sp := fun vs H Q _ => ∃ (a : Addr) (ns : List Int) (place : Int), vs = [.ref a, .int place] ∧ SqL K H a (ns.map V.int) ∧ ns.length ≤ 63 ∧ 0 ≤ place ∧ place ≤ 63 ∧
  ∀ H' p, Same H H' → H p = none → Pu H' p 0 → Q (.ref p) H'
theorem ok__law_purse (T : Tx K mg) : FnOk P w K mg base CX0 1 T.a__law_purse T.fd__law_purse ["script", "place"] (sp__law_purse K) := by
  refine T.F__law_purse.ok sc__law_purse (fun vs H Q E h => ?_) (fun cdv A outer s H vs Q E hr h => ?_)
  · obtain ⟨a, ns, place, rfl, _⟩ := h
    rfl
  · obtain ⟨a, ns, place, rfl, hS, hl, h0, h1, q⟩ := h
    refine ⟨_, (pss_cons (ps_set (i := 2) sc__law_purse.nd rfl (Or.inl rfl) (pe_ifExp (pt_cmpR op_lt (pv 1) (pe_callB call_len_seq (by rfl) T.z_len (by decide +kernel) (pa_cons (pv 0) pa_nil)) (nomark _)) (pe_ix ix_list (pv 0) (pv 1) (fun _ _ => rfl)) pe_int))
  (pss_one (ps_ret (pe_lst (pa_cons (pe_callB (call_max2 rfl) (by rfl) T.z_max (by decide +kernel) (pa_cons pe_int (pa_cons (pe_op op_sub (pe_callB call_abs (by rfl) T.z_abs (by decide +kernel) (pa_cons (pv 2) pa_nil)) (pe_op op_powL pe_int pe_int)) pa_nil))) (pa_cons (pe_op op_modN (pe_callTy call_int1 (by rfl) T.z_int (by decide +kernel) (pa_cons (pe_op op_add (pe_op op_add (pe_op op_mulL (pv 2) pe_int) (pe_op op_mulL (pv 1) pe_int)) pe_int) pa_nil)) (pe_op op_add (pe_op op_powL pe_int pe_int) pe_int)) (pa_cons pe_int pa_nil))))))), ?_⟩
    obtain ⟨j, ej⟩ := nat_of h0
    -- the cell
    have hc : ∃ c : Int, decide (place < ((ns.map V.int).length : Int)) = true → (ns.map V.int)[j]? = some (.int c) := by
      by_cases hj : j < ns.length
      · exact ⟨ns[j], fun _ => by rw [List.getElem?_map, List.getElem?_eq_getElem hj]; rfl⟩
      · refine ⟨0, fun e => ?_⟩
        have e := of_decide_eq_true e
        rw [List.length_map] at e
        omega
    obtain ⟨c, hc⟩ : ∃ c : Int, (decide (place < ((ns.map V.int).length : Int)) = true → (ns.map V.int)[j]? = some (.int c)) ∧ (decide (place < ((ns.map V.int).length : Int)) = false → c = 0) := by
      cases e : decide (place < ((ns.map V.int).length : Int)) with
      | true =>
        obtain ⟨c, hc⟩ := hc
        exact ⟨c, fun _ => hc e, fun z => nomatch z⟩
      | false => exact ⟨0, (fun z => nomatch z), fun _ => rfl⟩
    refine if_val (decide (place < ((ns.map V.int).length : Int))) (.int c) (fun R r => ⟨_, rfl, _, rfl, a, _, rfl, .inl hS, _, _, rfl, rfl, _, rfl, r⟩) (fun e R r => ⟨_, rfl, _, rfl, a, _, _, _, rfl, rfl, hS, at_of ej (hc.1 e), r⟩) (fun e R r => ?_) ?_
    · rw [hc.2 e] at r
      exact r
    · refine ⟨_, rfl, _, rfl, _, _, rfl, rfl, cpw 4 (by decide) (by decide) (by decide), _, _, rfl, rfl, _, _, rfl, _, rfl, _, _, rfl, rfl, cml_r (by decide), _, rfl, _, _, rfl, rfl, cml_r (by decide), _, _, rfl, rfl, _, _, rfl, rfl, .inl ⟨_, rfl, ?_⟩⟩
      refine ⟨_, _, rfl, rfl, cpw 4 (by decide) (by decide) (by decide), _, _, rfl, rfl, _, _, rfl, rfl, (by show ((10 : Int) ^ (24 : Int).toNat + 7) ≠ 0; decide), ?_⟩
      refine ⟨sz (by show 3 ≤ 1000000; decide), fun p hp => ?_⟩
      have e24 : (10 : Int) ^ (24 : Int).toNat + 7 = 1000000000000000000000007 := by decide
      refine q _ p ((L2.Same.refl H).new hp) hp ⟨_, _, _, upd_same, ?_, ?_, ?_, by decide, by decide⟩
      · split <;> omega
      · rw [e24, Int.fmod_eq_emod_of_nonneg _ (by decide)]
        exact Int.emod_nonneg _ (by decide)
      · rw [e24, Int.fmod_eq_emod_of_nonneg _ (by decide)]
        exact Int.lt_trans (Int.emod_lt_of_pos _ (by decide)) (by decide)

/-! law -/
def sp_law (K : PySem.W.Frag) : Sp := fun vs H Q _ => ∃ (a : Addr) (ns : List Int), vs = [.ref a] ∧ SqL K H a (ns.map V.int) ∧ ns.length ≤ 63 ∧ ∀ H', Q (.bl true) H'
theorem ok_law (T : Tx K mg) : FnG P w K mg base CX0 5 T.a_law T.fd_law ["script"] (sp_law K) := by
  have G__law_right := ok__law_right (P := P) (w := w) (base := base) T
  have G__law_purse := ok__law_purse (P := P) (w := w) (base := base) T
  refine okG T.F_law sc_law (fun vs H Q E h => ?_) (fun cdv A outer s H vs Q E hG hr h => ?_)
  · obtain ⟨a, ns, rfl, _⟩ := h
    rfl
  · obtain ⟨a, ns, rfl, hS, hl, q⟩ := h
    refine ⟨_, (pss_cons (ps_for PassesOwn.never rfl (pi_range1 (by rfl) T.z_range (pa_cons (pe_callB (call_max2 rfl) (by rfl) T.z_max (by decide +kernel) (pa_cons pe_int (pa_cons (pe_callB (call_min2 rfl) (by rfl) T.z_min (by decide +kernel) (pa_cons pe_int (pa_cons (pe_callB call_len_seq (by rfl) T.z_len (by decide +kernel) (pa_cons (pv 0) pa_nil)) pa_nil))) pa_nil))) pa_nil)) (pg_name (i := 1) sc_law.nd rfl (Or.inl rfl))
    (pss_one (ps_if (pt_not (pt_val (pe_callG G__law_right hG (hr.mono (by decide)) (by rfl) T.g__law_right T.F__law_right.kp (b__law_right T.F__law_right) pass0 (pa_cons (pe_call G__law_purse (hr.mono (by decide)) (by rfl) T.g__law_purse T.F__law_purse.kp (b__law_purse T.F__law_purse) .nil pass0 (pa_cons (pv 0) (pa_cons (pv 1) pa_nil))) pa_nil)))) (pss_one (ps_ret pe_bl)) pss_nil)))
  (pss_one (ps_ret pe_bl))), ?_⟩
    refine ⟨_, rfl, a, _, rfl, .inl hS, _, _, rfl, _, _, rfl, ?_⟩
    have hn : (((ns.map V.int).length : Nat) : Int) ≤ 63 := by rw [List.length_map]; omega
    generalize (((ns.map V.int).length : Nat) : Int) = m at hn
    refine ⟨_, rfl, ?_, ?_, for_range (lo := 0) (fun i σ H2 => ∃ x, σ = [some (.ref a), x] ∧ SqL K H2 a (ns.map V.int)) ⟨none, rfl, hS⟩ ?_ ?_⟩
    · split <;> split <;> omega
    · split <;> split <;> omega
    · rintro i σ H2 hi ⟨x, rfl, hS2⟩
      have hi : i < 63 := law_i hi (by decide) (by decide)
      refine ⟨_, rfl, _, rfl, a, ns, _, rfl, hS2, hl, by omega, by omega, fun H3 p sm np hp => ⟨p, 0, rfl, by decide, hp, fun H4 hp4 k4 => ⟨true, rfl, iteF ⟨_, rfl, (same_kp sm np k4).seq hS2⟩⟩⟩⟩
    · rintro σ H2 ⟨x, rfl, hS2⟩
      exact q _
theorem law_in {K : PySem.W.Frag} {n : Nat} {H : Hp} {a : Addr} {ns : List Int} (hl : ns.length ≤ 63) (hb : ∀ z ∈ ns, Builtin.Int.intBits z ≤ 1048576) (hS : SqL K H a (ns.map V.int)) (ho : ∀ b, b ≠ a → H b = none) : sp_law K [.ref a] H (fun v _ => v = .bl true) fun _ _ _ => False :=
  ⟨a, ns, rfl, hS, hl, fun _ => rfl⟩

end
/-! what the top has left -/
theorem mk_tx {K : PySem.W.Frag} {h : Heap} {mg : Str → Option Value} {f0 f1 f2 f3 f4 f5 f6 f7 f8 f9 f10 f11 f12 f13 f14 f15 : Addr} (X : K.In h) (G : h.Ns mainGlobals mg)
    {od0 an0 od1 an1 od2 an2 od3 an3 od4 an4 od5 an5 od6 an6 od7 an7 od8 an8 od9 an9 od10 an10 od11 an11 od12 an12 od13 an13 od14 an14 od15 an15 : Option Addr} {sl0 sl1 sl2 sl3 sl4 sl5 sl6 sl7 sl8 sl9 sl10 sl11 sl12 sl13 sl14 sl15 : Array (Option Value)} {oc0 kV0 dc0 pm0 cd0 ct0 oc1 kV1 dc1 pm1 cd1 ct1 oc2 kV2 dc2 pm2 cd2 ct2 oc3 kV3 dc3 pm3 cd3 ct3 oc4 kV4 dc4 pm4 cd4 ct4 oc5 kV5 dc5 pm5 cd5 ct5 oc6 kV6 dc6 pm6 cd6 ct6 oc7 kV7 dc7 pm7 cd7 ct7 oc8 kV8 dc8 pm8 cd8 ct8 oc9 kV9 dc9 pm9 cd9 ct9 oc10 kV10 dc10 pm10 cd10 ct10 oc11 kV11 dc11 pm11 cd11 ct11 oc12 kV12 dc12 pm12 cd12 ct12 oc13 kV13 dc13 pm13 cd13 ct13 oc14 kV14 dc14 pm14 cd14 ct14 oc15 kV15 dc15 pm15 cd15 ct15 : Value}
    (a0 : PySem.W.nsIn K mainGlobals "_law_rt_ends" = some (some (.ref f0))) (l0 : K.lookup f0 = some ⟨oc0, od0, .func (PySem.W.fnOf "_law_rt_ends" "_law_rt_ends" (defArgs s__law_rt_ends) (defBody s__law_rt_ends) (defScope s__law_rt_ends) .none kV0 dc0 pm0 an0 cd0 ct0), sl0⟩) (c0 : PySem.W.codeIn K cd0 "_law_rt_ends" = true) (k0 : PySem.W.keepIn K (.ref f0) = true)
    (a1 : PySem.W.nsIn K mainGlobals "_law_rt_worth" = some (some (.ref f1))) (l1 : K.lookup f1 = some ⟨oc1, od1, .func (PySem.W.fnOf "_law_rt_worth" "_law_rt_worth" (defArgs s__law_rt_worth) (defBody s__law_rt_worth) (defScope s__law_rt_worth) .none kV1 dc1 pm1 an1 cd1 ct1), sl1⟩) (c1 : PySem.W.codeIn K cd1 "_law_rt_worth" = true) (k1 : PySem.W.keepIn K (.ref f1) = true)
    (a2 : PySem.W.nsIn K mainGlobals "_law_coin" = some (some (.ref f2))) (l2 : K.lookup f2 = some ⟨oc2, od2, .func (PySem.W.fnOf "_law_coin" "_law_coin" (defArgs s__law_coin) (defBody s__law_coin) (defScope s__law_coin) .none kV2 dc2 pm2 an2 cd2 ct2), sl2⟩) (c2 : PySem.W.codeIn K cd2 "_law_coin" = true) (k2 : PySem.W.keepIn K (.ref f2) = true)
    (a3 : PySem.W.nsIn K mainGlobals "_law_rt_fraction" = some (some (.ref f3))) (l3 : K.lookup f3 = some ⟨oc3, od3, .func (PySem.W.fnOf "_law_rt_fraction" "_law_rt_fraction" (defArgs s__law_rt_fraction) (defBody s__law_rt_fraction) (defScope s__law_rt_fraction) .none kV3 dc3 pm3 an3 cd3 ct3), sl3⟩) (c3 : PySem.W.codeIn K cd3 "_law_rt_fraction" = true) (k3 : PySem.W.keepIn K (.ref f3) = true)
    (a4 : PySem.W.nsIn K mainGlobals "_law_rt_text" = some (some (.ref f4))) (l4 : K.lookup f4 = some ⟨oc4, od4, .func (PySem.W.fnOf "_law_rt_text" "_law_rt_text" (defArgs s__law_rt_text) (defBody s__law_rt_text) (defScope s__law_rt_text) .none kV4 dc4 pm4 an4 cd4 ct4), sl4⟩) (c4 : PySem.W.codeIn K cd4 "_law_rt_text" = true) (k4 : PySem.W.keepIn K (.ref f4) = true)
    (a5 : PySem.W.nsIn K mainGlobals "_law_rt_way" = some (some (.ref f5))) (l5 : K.lookup f5 = some ⟨oc5, od5, .func (PySem.W.fnOf "_law_rt_way" "_law_rt_way" (defArgs s__law_rt_way) (defBody s__law_rt_way) (defScope s__law_rt_way) .none kV5 dc5 pm5 an5 cd5 ct5), sl5⟩) (c5 : PySem.W.codeIn K cd5 "_law_rt_way" = true) (k5 : PySem.W.keepIn K (.ref f5) = true)
    (a6 : PySem.W.nsIn K mainGlobals "is_fraction" = some (some (.ref f6))) (l6 : K.lookup f6 = some ⟨oc6, od6, .func (PySem.W.fnOf "is_fraction" "is_fraction" (defArgs s_is_fraction) (defBody s_is_fraction) (defScope s_is_fraction) .none kV6 dc6 pm6 an6 cd6 ct6), sl6⟩) (c6 : PySem.W.codeIn K cd6 "is_fraction" = true) (k6 : PySem.W.keepIn K (.ref f6) = true)
    (a7 : PySem.W.nsIn K mainGlobals "check_fraction" = some (some (.ref f7))) (l7 : K.lookup f7 = some ⟨oc7, od7, .func (PySem.W.fnOf "check_fraction" "check_fraction" (defArgs s_check_fraction) (defBody s_check_fraction) (defScope s_check_fraction) .none kV7 dc7 pm7 an7 cd7 ct7), sl7⟩) (c7 : PySem.W.codeIn K cd7 "check_fraction" = true) (k7 : PySem.W.keepIn K (.ref f7) = true)
    (a8 : PySem.W.nsIn K mainGlobals "road_of" = some (some (.ref f8))) (l8 : K.lookup f8 = some ⟨oc8, od8, .func (PySem.W.fnOf "road_of" "road_of" (defArgs s_road_of) (defBody s_road_of) (defScope s_road_of) .none kV8 dc8 pm8 an8 cd8 ct8), sl8⟩) (c8 : PySem.W.codeIn K cd8 "road_of" = true) (k8 : PySem.W.keepIn K (.ref f8) = true)
    (a9 : PySem.W.nsIn K mainGlobals "is_road" = some (some (.ref f9))) (l9 : K.lookup f9 = some ⟨oc9, od9, .func (PySem.W.fnOf "is_road" "is_road" (defArgs s_is_road) (defBody s_is_road) (defScope s_is_road) .none kV9 dc9 pm9 an9 cd9 ct9), sl9⟩) (c9 : PySem.W.codeIn K cd9 "is_road" = true) (k9 : PySem.W.keepIn K (.ref f9) = true)
    (a10 : PySem.W.nsIn K mainGlobals "check_road" = some (some (.ref f10))) (l10 : K.lookup f10 = some ⟨oc10, od10, .func (PySem.W.fnOf "check_road" "check_road" (defArgs s_check_road) (defBody s_check_road) (defScope s_check_road) .none kV10 dc10 pm10 an10 cd10 ct10), sl10⟩) (c10 : PySem.W.codeIn K cd10 "check_road" = true) (k10 : PySem.W.keepIn K (.ref f10) = true)
    (a11 : PySem.W.nsIn K mainGlobals "matrix_of" = some (some (.ref f11))) (l11 : K.lookup f11 = some ⟨oc11, od11, .func (PySem.W.fnOf "matrix_of" "matrix_of" (defArgs s_matrix_of) (defBody s_matrix_of) (defScope s_matrix_of) .none kV11 dc11 pm11 an11 cd11 ct11), sl11⟩) (c11 : PySem.W.codeIn K cd11 "matrix_of" = true) (k11 : PySem.W.keepIn K (.ref f11) = true)
    (a12 : PySem.W.nsIn K mainGlobals "number_of" = some (some (.ref f12))) (l12 : K.lookup f12 = some ⟨oc12, od12, .func (PySem.W.fnOf "number_of" "number_of" (defArgs s_number_of) (defBody s_number_of) (defScope s_number_of) .none kV12 dc12 pm12 an12 cd12 ct12), sl12⟩) (c12 : PySem.W.codeIn K cd12 "number_of" = true) (k12 : PySem.W.keepIn K (.ref f12) = true)
    (a13 : PySem.W.nsIn K mainGlobals "_law_right" = some (some (.ref f13))) (l13 : K.lookup f13 = some ⟨oc13, od13, .func (PySem.W.fnOf "_law_right" "_law_right" (defArgs s__law_right) (defBody s__law_right) (defScope s__law_right) .none kV13 dc13 pm13 an13 cd13 ct13), sl13⟩) (c13 : PySem.W.codeIn K cd13 "_law_right" = true) (k13 : PySem.W.keepIn K (.ref f13) = true)
    (a14 : PySem.W.nsIn K mainGlobals "_law_purse" = some (some (.ref f14))) (l14 : K.lookup f14 = some ⟨oc14, od14, .func (PySem.W.fnOf "_law_purse" "_law_purse" (defArgs s__law_purse) (defBody s__law_purse) (defScope s__law_purse) .none kV14 dc14 pm14 an14 cd14 ct14), sl14⟩) (c14 : PySem.W.codeIn K cd14 "_law_purse" = true) (k14 : PySem.W.keepIn K (.ref f14) = true)
    (a15 : PySem.W.nsIn K mainGlobals "law" = some (some (.ref f15))) (l15 : K.lookup f15 = some ⟨oc15, od15, .func (PySem.W.fnOf "law" "law" (defArgs s_law) (defBody s_law) (defScope s_law) .none kV15 dc15 pm15 an15 cd15 ct15), sl15⟩) (c15 : PySem.W.codeIn K cd15 "law" = true) (k15 : PySem.W.keepIn K (.ref f15) = true)
    (z0 : PySem.W.nsIn K mainGlobals "int" = some none)
    (z1 : PySem.W.nsIn K mainGlobals "range" = some none)
    (z2 : PySem.W.nsIn K mainGlobals "len" = some none)
    (z3 : PySem.W.nsIn K mainGlobals "max" = some none)
    (z4 : PySem.W.nsIn K mainGlobals "repr" = some none)
    (z5 : PySem.W.nsIn K mainGlobals "abs" = some none)
    (z6 : PySem.W.nsIn K mainGlobals "min" = some none)
    (m0 : PySem.W.nsIn K mainGlobals "gcd" = some (some (.builtin "math.gcd")))
    : ∃ (T : Tx K mg) (kV dc pm cd ct : Value) (an : Option Addr), T.fd_law = PySem.W.fnOf "law" "law" (defArgs s_law) (defBody s_law) (defScope s_law) .none kV dc pm an cd ct := by
  refine ⟨{
    a__law_rt_ends := f0, fd__law_rt_ends := _, F__law_rt_ends := fun_mk (st := s__law_rt_ends) l0 c0 k0, g__law_rt_ends := PySem.W.mg_of X G a0,
    a__law_rt_worth := f1, fd__law_rt_worth := _, F__law_rt_worth := fun_mk (st := s__law_rt_worth) l1 c1 k1, g__law_rt_worth := PySem.W.mg_of X G a1,
    a__law_coin := f2, fd__law_coin := _, F__law_coin := fun_mk (st := s__law_coin) l2 c2 k2, g__law_coin := PySem.W.mg_of X G a2,
    a__law_rt_fraction := f3, fd__law_rt_fraction := _, F__law_rt_fraction := fun_mk (st := s__law_rt_fraction) l3 c3 k3, g__law_rt_fraction := PySem.W.mg_of X G a3,
    a__law_rt_text := f4, fd__law_rt_text := _, F__law_rt_text := fun_mk (st := s__law_rt_text) l4 c4 k4, g__law_rt_text := PySem.W.mg_of X G a4,
    a__law_rt_way := f5, fd__law_rt_way := _, F__law_rt_way := fun_mk (st := s__law_rt_way) l5 c5 k5, g__law_rt_way := PySem.W.mg_of X G a5,
    a_is_fraction := f6, fd_is_fraction := _, F_is_fraction := fun_mk (st := s_is_fraction) l6 c6 k6, g_is_fraction := PySem.W.mg_of X G a6,
    a_check_fraction := f7, fd_check_fraction := _, F_check_fraction := fun_mk (st := s_check_fraction) l7 c7 k7, g_check_fraction := PySem.W.mg_of X G a7,
    a_road_of := f8, fd_road_of := _, F_road_of := fun_mk (st := s_road_of) l8 c8 k8, g_road_of := PySem.W.mg_of X G a8,
    a_is_road := f9, fd_is_road := _, F_is_road := fun_mk (st := s_is_road) l9 c9 k9, g_is_road := PySem.W.mg_of X G a9,
    a_check_road := f10, fd_check_road := _, F_check_road := fun_mk (st := s_check_road) l10 c10 k10, g_check_road := PySem.W.mg_of X G a10,
    a_matrix_of := f11, fd_matrix_of := _, F_matrix_of := fun_mk (st := s_matrix_of) l11 c11 k11, g_matrix_of := PySem.W.mg_of X G a11,
    a_number_of := f12, fd_number_of := _, F_number_of := fun_mk (st := s_number_of) l12 c12 k12, g_number_of := PySem.W.mg_of X G a12,
    a__law_right := f13, fd__law_right := _, F__law_right := fun_mk (st := s__law_right) l13 c13 k13, g__law_right := PySem.W.mg_of X G a13,
    a__law_purse := f14, fd__law_purse := _, F__law_purse := fun_mk (st := s__law_purse) l14 c14 k14, g__law_purse := PySem.W.mg_of X G a14,
    a_law := f15, fd_law := _, F_law := fun_mk (st := s_law) l15 c15 k15, g_law := PySem.W.mg_of X G a15,
    z_int := PySem.W.mg_none_of X G z0, z_range := PySem.W.mg_none_of X G z1, z_len := PySem.W.mg_none_of X G z2, z_max := PySem.W.mg_none_of X G z3, z_repr := PySem.W.mg_none_of X G z4, z_abs := PySem.W.mg_none_of X G z5, z_min := PySem.W.mg_none_of X G z6, m_gcd := PySem.W.mg_of X G m0
    }, _, _, _, _, _, _, rfl⟩
theorem law_F {l : PySem.W.OpenLaw} (el : l.prog = PySem.Challenge.pw_leftroads_k02_roads_of_fractions) {w : World} {K : PySem.W.Frag} {mg : Str → Option Value} {fa : Addr} (hfa : mg "law" = some (.ref fa))
    (h : ∃ (T : Tx K mg) (kV dc pm cd ct : Value) (an : Option Addr), T.fd_law = PySem.W.fnOf "law" "law" (defArgs s_law) (defBody s_law) (defScope s_law) .none kV dc pm an cd ct) :
    ∃ fd : FuncData, (∀ (s : Shared) (v : Value), BindsTo s fd ⟨[v], []⟩ [("script", v)]) ∧ ∀ base : Heap, K.In base → base.Ns mainGlobals mg → FnG l.prog w K mg base CX0 5 fa fd ["script"] (sp_law K) := by
  obtain ⟨T, kV, dc, pm, cd, ct, an, e⟩ := h
  have z := hfa.symm.trans T.g_law
  cases z
  refine ⟨T.fd_law, fun s v => ?_, fun base _ _ => ok_law T⟩
  rw [e]
  exact .of_eq rfl
end Lr
open PySem PySem.W PyProof.Rows
set_option maxHeartbeats 0 in
theorem PySem.Challenge.cw_leftroads_k02_roads_of_fractions_holds : PySem.Challenge.rw_leftroads_k02_roads_of_fractions.Holds := by
  w_on; o_law; k_head; (case hw => w_witness2)
  k_fill
  refine Lr.walk_ofG (l := PySem.Challenge.rw_leftroads_k02_roads_of_fractions) (n := 63) (k := 5) (x := "script") (sp := fun w => Lr.sp_law _) rfl (by decide) rfl ⟨rfl, by decide, by decide⟩ (fun w h Y => PySem.W.kIn_of Y) ?F (fun _ _ a ns hl hb hS ho => Lr.law_in (n := 0) hl hb hS ho)
  case F =>
    intro w mg fa h KX G hmg
    refine' Lr.law_F rfl hmg (Lr.mk_tx KX G ?a0 ?l0 ?c0 ?k0 ?a1 ?l1 ?c1 ?k1 ?a2 ?l2 ?c2 ?k2 ?a3 ?l3 ?c3 ?k3 ?a4 ?l4 ?c4 ?k4 ?a5 ?l5 ?c5 ?k5 ?a6 ?l6 ?c6 ?k6 ?a7 ?l7 ?c7 ?k7 ?a8 ?l8 ?c8 ?k8 ?a9 ?l9 ?c9 ?k9 ?a10 ?l10 ?c10 ?k10 ?a11 ?l11 ?c11 ?k11 ?a12 ?l12 ?c12 ?k12 ?a13 ?l13 ?c13 ?k13 ?a14 ?l14 ?c14 ?k14 ?a15 ?l15 ?c15 ?k15 ?z0 ?z1 ?z2 ?z3 ?z4 ?z5 ?z6 ?m0)
    (case a0 => k_is)
    (case l0 => k_is)
    (case c0 => k_is)
    (case k0 => k_is)
    (case a1 => k_is)
    (case l1 => k_is)
    (case c1 => k_is)
    (case k1 => k_is)
    (case a2 => k_is)
    (case l2 => k_is)
    (case c2 => k_is)
    (case k2 => k_is)
    (case a3 => k_is)
    (case l3 => k_is)
    (case c3 => k_is)
    (case k3 => k_is)
    (case a4 => k_is)
    (case l4 => k_is)
    (case c4 => k_is)
    (case k4 => k_is)
    (case a5 => k_is)
    (case l5 => k_is)
    (case c5 => k_is)
    (case k5 => k_is)
    (case a6 => k_is)
    (case l6 => k_is)
    (case c6 => k_is)
    (case k6 => k_is)
    (case a7 => k_is)
    (case l7 => k_is)
    (case c7 => k_is)
    (case k7 => k_is)
    (case a8 => k_is)
    (case l8 => k_is)
    (case c8 => k_is)
    (case k8 => k_is)
    (case a9 => k_is)
    (case l9 => k_is)
    (case c9 => k_is)
    (case k9 => k_is)
    (case a10 => k_is)
    (case l10 => k_is)
    (case c10 => k_is)
    (case k10 => k_is)
    (case a11 => k_is)
    (case l11 => k_is)
    (case c11 => k_is)
    (case k11 => k_is)
    (case a12 => k_is)
    (case l12 => k_is)
    (case c12 => k_is)
    (case k12 => k_is)
    (case a13 => k_is)
    (case l13 => k_is)
    (case c13 => k_is)
    (case k13 => k_is)
    (case a14 => k_is)
    (case l14 => k_is)
    (case c14 => k_is)
    (case k14 => k_is)
    (case a15 => k_is)
    (case l15 => k_is)
    (case c15 => k_is)
    (case k15 => k_is)
    (case z0 => k_is)
    (case z1 => k_is)
    (case z2 => k_is)
    (case z3 => k_is)
    (case z4 => k_is)
    (case z5 => k_is)
    (case z6 => k_is)
    (case m0 => k_is)
