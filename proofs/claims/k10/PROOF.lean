import PyProof.Rows.All
import Wide.All
import OpenK.AllK
import Wide.FinOn
import HandS.ForMost
import HandS.EndBits
import HandS.Wide
import HandS.RaiseMore
import HandS.Walk
import HandS.Style
import KE.DataMinMax
import HandS.Gcd
import PyProof.MaxThree
import PyProof.StrOps2
import HandS.IsInst
import PySem.Challenge.RW_leftroads_k10_maps_behind_one_another
set_option Elab.async false
set_option linter.all false
set_option maxRecDepth 100000
set_option maxHeartbeats 8000000
/-! Calls where no repr is under way. -/
namespace Lr
open PySem PySem.Spec PyProof.Rows L2
section
variable {P : Program} {w : World} {K : PySem.W.Frag} {mg : Str → Option Value} {base : Heap}
/-- a def that keeps its promise where no repr is under way -/
structure FnG (P : Program) (w : World) (K : PySem.W.Frag) (mg : Str → Option Value) (base : Heap) (CX : CXT) (k : Nat) (f : Addr) (fd : FuncData) (ps : List Str) (sp : Sp) : Prop where
  many : ∀ vs H Q E, sp vs H Q E → vs.length = ps.length
  goes : ∀ (A : Around) (up : List Env) (s : Shared) (H : Hp) (as : Args) (us : List Value) (vs : List V) (Q : VK) (E : XK), A.guards = some [] → Room k A → Env0 P w K mg base A up s H →
    BindsTo s fd as (ps.zip us) → Vals vs us → sp vs H Q E → codeAny (model P w) A (.call (.ref f) as) (CR CX up P w H s Q E) s
theorem FnG.of {CX : CXT} {k : Nat} {f : Addr} {fd : FuncData} {ps : List Str} {sp : Sp} (F : FnOk P w K mg base CX k f fd ps sp) : FnG P w K mg base CX k f fd ps sp :=
  ⟨F.len, fun A up s H as us vs Q E _ => F.run A up s H as us vs Q E⟩
theorem FnG.up {CX : CXT} {j k : Nat} {f : Addr} {fd : FuncData} {ps : List Str} {sp : Sp} (F : FnG P w K mg base CX j f fd ps sp) (l : j ≤ k) : FnG P w K mg base CX k f fd ps sp :=
  ⟨F.many, fun A up s H as us vs Q E g r => F.goes A up s H as us vs Q E g (r.mono l)⟩
theorem FnG.wk {CX : CXT} {k : Nat} {f : Addr} {fd : FuncData} {ps : List Str} {sp sp' : Sp} (F : FnG P w K mg base CX k f fd ps sp) (i : ∀ vs H Q E, sp' vs H Q E → sp vs H Q E) : FnG P w K mg base CX k f fd ps sp' :=
  ⟨fun vs H Q E z => F.many vs H Q E (i _ _ _ _ z), fun A up s H as us vs Q E g r e b v z => F.goes A up s H as us vs Q E g r e b v (i _ _ _ _ z)⟩
/-- a def by its body, as F.ok says, with the guards told -/
theorem okGX {CX : CXT} {x qual : Str} {st : Stmt} {f : Addr} {fd : FuncData} {N ps : List Str} {k : Nat} {sp : Sp} (F : Fun K x qual st f fd) (S : FnScope N ps (defScope st)) (many : ∀ vs H Q E, sp vs H Q E → vs.length = ps.length)
    (body : ∀ (cdv : Value) (A : Around) (up : List Env) (s : Shared) (H : Hp) (vs : List V) (Q : VK) (E : XK), A.guards = some [] → Room k (A.deeper (envOfC qual (defScope st) s.heap.objs.size f cdv)) → sp vs H Q E →
      ∃ t, PSs (cxOf CX P w K mg base N qual (defScope st) f cdv A up s H E) (defBody st) t ∧ t { nx := fun _ H' => Q .non H', rt := Q } (start N vs) H) : FnG P w K mg base CX (k + 1) f fd ps sp := by
  obtain ⟨oc, od, kV, doc, pm, an, cdv, ct, osl, rfl, lk, hcd⟩ := F.ex
  refine ⟨many, fun A up s H as us vs Q E hG hr e0 hb rv hsp => ?_⟩
  have mn := many _ _ _ _ hsp
  have inK : K.In s.heap := e0.mod.kin.keeps fun b o z => (e0.bs b o z).1
  have nl : s.heap.NoLimit := e0.mod.nolimit.keeps fun b o z => (e0.bs b o z).1
  refine codeAny_call_function hr.depth (inK _ _ lk) rfl S.co
    S.gen rfl (PySem.W.codeRec_of inK hcd) (hb _ _ _ _ ?_)
  refine wpAny_newFunctionEnv_cells S.kind (fun ⟨n, v⟩ hy => ?_) fun ev he s1 x => ?_
  · rcases S.par n (List.of_mem_zip hy).1 with z | z
    · exact .inl z
    · exact .inr ⟨z, PySem.W.cellsFrom_some _ _ _ (.inl z)⟩
  · subst he
    refine ⟨nl.keeps x.toInCall.keep, codeAny_func ?_⟩
    obtain ⟨t, ht, hq⟩ := body cdv A up s H vs Q E hG (hr.deeper _) hsp
    have I := inv_start (CX := CX) (qual := qual) (f := f) (cd := cdv) (E := E) S hr.hd e0 mn rv x
    refine wpAny_mono (ht.run [] s1 (start N vs) H _ I hq) (fun fl s' hs => ?_) fun _ _ z => z
    cases fl with
    | ret u =>
      obtain ⟨v, σ', H', J, r1, q⟩ := hs
      exact ⟨v, H', J.os, J.bare, J.base, J.hok, r1, q⟩
    | next =>
      obtain ⟨σ', H', J, q⟩ := hs
      exact ⟨.non, H', J.os, J.bare, J.base, J.hok, rfl, q⟩
    | brk =>
      obtain ⟨_, _, _, q⟩ := hs
      exact q.elim
    | cont =>
      obtain ⟨_, _, _, q⟩ := hs
      exact q.elim
/-- .. of a def that no error leaves -/
theorem okG {x qual : Str} {st : Stmt} {f : Addr} {fd : FuncData} {N ps : List Str} {k : Nat} {sp : Sp} (F : Fun K x qual st f fd) (S : FnScope N ps (defScope st)) (many : ∀ vs H Q E, sp vs H Q E → vs.length = ps.length)
    (body : ∀ (cdv : Value) (A : Around) (up : List Env) (s : Shared) (H : Hp) (vs : List V) (Q : VK) (E : XK), A.guards = some [] → Room k (A.deeper (envOfC qual (defScope st) s.heap.objs.size f cdv)) → sp vs H Q E →
      ∃ t, PSs (cxOf CX0 P w K mg base N qual (defScope st) f cdv A up s H E).nox (defBody st) t ∧ t { nx := fun _ H' => Q .non H', rt := Q } (start N vs) H) : FnG P w K mg base CX0 (k + 1) f fd ps sp :=
  okGX F S many fun cdv A up s H vs Q E g hr z => by
    obtain ⟨t, ht, hq⟩ := body cdv A up s H vs Q E g hr z
    exact ⟨t, ht.nox, hq⟩
end
section
variable {X : Cx} {CX : CXT} {k : Nat} {f : Addr} {fd : FuncData} {ps : List Str} {sp : Sp} {E : XK} {x : Str} {p pos : Pos} {e : Expr} {es : List Expr} {t : TA}
theorem goes_fn {pins : List (Addr × Obj)} {σ : L2.St} {H : Hp} {s : Shared} {Q : VK} {us : List Value} {vs : List V} (F : FnG X.prog X.w X.K X.mg X.base CX k f fd ps sp) (hG : X.A.guards = some []) (hr : Room k X.A) (hb : Binds X.K fd ps []) (hx : Passes CX X E)
    (I : Inv X pins σ H s) (r : Vals vs us) (h : sp vs H Q E) : wpAny (model X.prog X.w) X.A (call (.ref f) us) (EP X pins σ Q) X.xe s := by
  have ln : us.length = ps.length := by
    rw [← r.length]
    exact F.many _ _ _ _ h
  have bt : BindsTo s fd ⟨us, []⟩ (ps.zip us) := by
    have z := hb s us I.kIn (by rw [List.append_nil]; exact ln)
    rw [List.append_nil] at z
    exact z
  refine wpAny_call (codeAny_mono (F.goes X.A X.stack s H ⟨us, []⟩ us vs Q E hG hr I.env0 bt r h) fun rs s' z => ?_)
  match rs, z with
  | .error er, z => exact hx pins σ H s er s' I z
  | .ok (.ret u), z => exact I.after z
/-- f(e, ..) of such a def -/
theorem pe_callG (F : FnG X.prog X.w X.K X.mg X.base CX k f fd ps sp) (hG : X.A.guards = some []) (hr : Room k X.A) (hg : Gl X x) (hm : X.mg x = some (.ref f)) (hk : PySem.W.keepIn X.K (.ref f) = true) (hb : Binds X.K fd ps []) (hx : Passes CX X E)
    (ha : PA X (e :: es) t) (hdb : (x == ("__debug__" : Str)) = false := by decide) (he : starEach (e :: es) X.env = (false, eval e X.env) :: starEach es X.env := by rfl) (hpl : (backTo pos (starEach es X.env)).any (·.1) = false := by rfl) :
    PE X (.Call (.Name x p) (e :: es) [] pos) (tCall sp [] E t) := by
  refine ⟨fun pins s σ H Q I h => ?_⟩
  refine wpAny_Call_Name_kw (ld_glob I hg hm ?_ hdb)
  refine PySem.W.callWith_K (h₀ := X.base) I.ok.mod.kin hk (thn (ha.run pos pins s σ H _ I h) fun us s1 z => ?_) he hpl
  obtain ⟨vs, H1, I1, r1, q⟩ := z
  rw [List.append_nil] at q
  exact ⟨I1.kIn, goes_fn F hG hr hb hx I1 r1 q⟩
end
section
/-- the law's call, from its promise: what stood ahead of it is tracked nowhere but for the script -/
theorem enterG {P : Program} {w : World} {K : PySem.W.Frag} {mg mb : Str → Option Value} {k : Nat} {fa a : Addr} {fd : FuncData} {x : Str} {sp : Sp} {s : Shared} {vs : List Value} {ns : List Int}
    (inK : K.In s.heap) (hm : s.heap.Ns mainGlobals mg) (hb : s.heap.Ns builtinsNs mb) (hbb : ∀ x : Str, x ≠ "__name__" → mb x = bootBuiltins x) (nl : s.heap.NoLimit) (hgen : s.gens = #[])
    (hobj : s.heap.get? a = some { cls := .type "list", data := .seq vs.toArray }) (hi : IntsAre vs ns) (hl : ns.length ≤ sizeLine) (hr : Room k callerA)
    (F : ∀ base : Heap, K.In base → base.Ns mainGlobals mg → FnG P w K mg base CX0 k fa fd [x] sp) (bd : ∀ (s : Shared) (u : Value), BindsTo s fd ⟨[u], []⟩ [(x, u)])
    (hsp : ∀ H : Hp, SqL K H a (ns.map V.int) → (∀ b, b ≠ a → H b = none) → sp [.ref a] H (fun v _ => v = .bl true) fun _ _ _ => False) :
    codeAny (model P w) callerA (.call (.ref fa) ⟨[.ref a], []⟩) (fun r s' => r = .ok (.ret (.bool true)) ∧ OldK s.heap s'.heap ∧ s'.os = s.os ∧ AllBare s'.gens) s := by
  have rv := vals_ints hi
  have ln := hi.length
  -- H tracks at most the script
  have go : ∀ H : Hp, (H = (fun _ => none) ∨ H a = some (.frz { cls := .type "list", data := .seq vs.toArray } (.lst (ns.map V.int))) ∧ K.lookup a = none ∧ ∀ b, b ≠ a → H b = none) → SqL K H a (ns.map V.int) →
      codeAny (model P w) callerA (.call (.ref fa) ⟨[.ref a], []⟩) (fun r s' => r = .ok (.ret (.bool true)) ∧ OldK s.heap s'.heap ∧ s'.os = s.os ∧ AllBare s'.gens) s := by
    intro H hH hS
    have only : ∀ b, b ≠ a → H b = none := fun b nb => by
      rcases hH with z | z
      · rw [z]
      · exact z.2.2 b nb
    have held : ∀ b u, H b = some u → b = a ∧ u = .frz { cls := .type "list", data := .seq vs.toArray } (.lst (ns.map V.int)) ∧ K.lookup a = none := fun b u z => by
      by_cases nb : b = a
      · refine ⟨nb, ?_⟩
        rw [nb] at z
        rcases hH with y | y
        · rw [y] at z
          cases z
        · rw [y.1] at z
          exact ⟨(Option.some.inj z).symm, y.2.1⟩
      · rw [only b nb] at z
        cases z
    have hok : HOk P w H s.heap := fun b u z => by
      obtain ⟨eb, eu, _⟩ := held b u z
      rw [eb, eu]
      exact ⟨hobj, by rw [List.length_map]; exact hl, vs, _, rv, hobj⟩
    -- a dict is not the script
    have dn : ∀ {b : Addr} {m : Str → Option Value}, s.heap.Ns b m → (hidT s.heap H).Ns b m := fun {b m} ⟨o, es, ep, ho, hd, more⟩ => by
      refine ⟨o, es, ep, hidT_get ho ?_, hd, more⟩
      refine only b fun eb => ?_
      rw [eb, hobj] at ho
      rw [← Option.some.inj ho] at hd
      exact nomatch hd
    have inB : K.In (hidT s.heap H) := fun b o z => hidT_get (inK b o z) (by
      cases q : H b with
      | none => rfl
      | some u =>
        obtain ⟨eb, _, nk⟩ := held b u q
        rw [eb, nk] at z
        cases z)
    obtain ⟨mc, n1, n2⟩ := nl
    have e0 : Env0 P w K mg (hidT s.heap H) callerA [] s H := {
      frames := rfl
      mod := ⟨inB, dn hm, ⟨mb, dn hb, hbb⟩, ⟨mc, dn n1, n2⟩⟩
      bs := fun b o z => of_hidT z
      bsz := Nat.le_of_eq (hidT_size _ _)
      funs := trivial
      frf := fun b z => absurd z List.not_mem_nil
      hok := hok
      bare := .of_eq hgen }
    refine codeAny_mono ((F _ inB (dn hm)).goes callerA [] s H _ [.ref a] [.ref a] _ (fun _ _ _ => False) rfl hr e0 (bd s (.ref a)) (.cons rfl .nil) (hsp H hS only)) fun r s' z => ?_
    match r, z with
    | .error _, z => exact z.elim
    | .ok (.ret u), z =>
      obtain ⟨v, H', os, bare, un, hok', r1, q⟩ := z
      cases (show v = V.bl true from q)
      cases (show u = Value.bool true from r1)
      refine ⟨rfl, OldK.of_keep fun b o ho => ?_, os, bare⟩
      cases q : H b with
      | none => exact un.keep b o ho q List.not_mem_nil List.not_mem_nil
      | some u =>
        obtain ⟨eb, eu, _⟩ := held b u q
        rw [eu] at q
        have z1 : s.heap.get? b = some _ := (hok b _ q).1
        have z2 : s'.heap.get? b = some _ := (hok' b _ (un.frzs b _ _ q)).1
        rw [z2, ← z1]
        exact ho
  cases hk : K.lookup a with
  | some o =>
    have z := inK a o hk
    rw [hobj] at z
    cases z
    exact go (fun _ => none) (.inl rfl) (.inr ⟨_, vs.toArray, _, hk, rfl, rfl, rfl, by rw [List.size_toArray, ln]; exact hl, by simpa using rv⟩)
  | none =>
    refine go (fun b => if b = a then some (.frz { cls := .type "list", data := .seq vs.toArray } (.lst (ns.map V.int))) else none) (.inr ⟨if_pos rfl, hk, fun b nb => if_neg nb⟩) (.inl (.inr ⟨_, if_pos rfl⟩))
/-- the goal that k_head leaves -/
theorem walk_ofG {l : PySem.W.OpenLaw} {n k : Nat} {q : Program} {loose : List Str} {XP : (Str → Option Value) → Heap → Prop} {YP : World → Heap → Prop} {d : DefRec} {K : Params → PySem.W.Frag} {sp : World → Sp} {x : Str}
    (hn : l.most = some n) (hn2 : n ≤ sizeLine) (hdf : d.params.defaults = []) (hr : Room k callerA) (hY : ∀ (w : World) (h : Heap), YP w h → (K w.params).In h)
    (F : ∀ (w : World) (mg : Str → Option Value) (fa : Addr) (h : Heap), (K w.params).In h → h.Ns mainGlobals mg → mg d.name = some (.ref fa) →
      ∃ fd : FuncData, (∀ (s : Shared) (u : Value), BindsTo s fd ⟨[u], []⟩ [(x, u)]) ∧ ∀ base : Heap, (K w.params).In base → base.Ns mainGlobals mg → FnG l.prog w (K w.params) mg base CX0 k fa fd [x] (sp w))
    (hsp : ∀ (w : World) (H : Hp) (a : Addr) (ns : List Int), ns.length ≤ n → (∀ z ∈ ns, Builtin.Int.intBits z ≤ 1048576) → SqL (K w.params) H a (ns.map V.int) → (∀ b, b ≠ a → H b = none) → sp w [.ref a] H (fun v _ => v = .bl true) fun _ _ _ => False) :
    PySem.W.WalkO q loose XP YP l.row.toRowW d [] (fun f vs => PySem.call f vs) := by
  refine Att.attach_callB hn hdf fun w s₀ s mg mb fa o pm cd doc a vs ns G Y ho hd hcd hmg hobj hi hlen hbits hg => ?_
  have inK := hY w _ Y
  obtain ⟨fd, bd, hF⟩ := F w mg fa _ inK G.T.g hmg
  exact enterG inK G.T.g G.T.b G.T.builtins G.T.nolimit hg hobj hi (Nat.le_trans hlen hn2) hr hF bd fun H hS only => hsp w H a ns hlen hbits hS only
end
end Lr

namespace Lr
open PySem PySem.Spec PyProof.Rows L2
/-! repr of data -/
/-- what repr writes out within the lines -/
structure Shw (d : PyData) : Prop where
  sh : d.showable = true
  nd : d.hasDict = false
  dp : d.depth ≤ 60
  lv : d.leavesShort 2000 = true
  bk : d.bulk ≤ 8000
theorem Shw.fits {d : PyData} (h : Shw d) : d.shown.length ≤ sizeLine := by
  have z := PyData.shown_le_bulk 2000 (by decide) d h.lv
  have y := h.bk
  have e : sizeLine = 16777216 := by decide
  omega
/-- repr(x), nothing being written out at the time -/
def rRepr (K : PySem.W.Frag) : List V → Hp → VK → Prop := fun xs H Q => ∃ v d, xs = [v] ∧ Dp K H v d ∧ Shw d ∧ Q (.str d.shown) H
section
variable {X : Cx}
theorem call_repr {k : Nat} (hG : X.A.guards = some []) (hr : Room k X.A) : CallR X (.builtin "repr") (rRepr X.K) := by
  intro pins s σ H xs us Q I r h
  obtain ⟨v, d, rfl, hd, hs, q⟩ := h
  obtain ⟨u, rfl, hu⟩ := vals1 r
  have un := hr.units
  obtain ⟨as, rd⟩ := Dp.reads I d v u hd hu
  have far : ∀ (a : Addr), u = .ref a → wpAny (model X.prog X.w) X.A (call (.builtin "repr") [u]) (EP X pins σ Q) X.xe s := fun a ea => by
    rw [ea] at rd ⊢
    exact repr_of_reads' rd hs.sh (PyData.noDict_hsm hs.nd) hG (by have := hs.dp; omega) (fun _ _ z => z) (fun h' u tk hk => ⟨.str d.shown, H, I.kept (t' := tk) hk, ⟨u, rfl⟩, q⟩) hs.fits
  cases hd with
  | non =>
    cases (show u = Value.none from hu)
    exact PySem.P.repr_of_none ⟨.str _, H, I.tok _, ⟨_, rfl⟩, q⟩
  | bl b =>
    cases (show u = Value.bool b from hu)
    exact PySem.P.repr_of_bool ⟨.str _, H, I.tok _, ⟨_, rfl⟩, q⟩
  | int i =>
    obtain ⟨t, e⟩ := (show ∃ t, u = Value.int i t from hu)
    cases e
    exact PySem.P.repr_of_int (of_decide_eq_true hs.sh) ⟨.str _, H, I.tok _, ⟨_, rfl⟩, q⟩
  | str x =>
    obtain ⟨t, e⟩ := (show ∃ t, u = Value.str x t from hu)
    cases e
    exact PySem.P.repr_of_str ⟨.str _, H, I.tok _, ⟨_, rfl⟩, q⟩ hs.fits
  | lst hl ha => exact far _ hu
  | tup hl ha => exact far _ hu
end
/-! forms -/
/-- an int below 2 ^ 1900 -/
def Sml (i : Int) : Prop := i.natAbs < 2 ^ 1900
theorem Sml.lg {i : Int} (h : Sml i) : i.natAbs.log2 < 1920 := Nat.lt_trans (PySem.Flt.log2_lt_of (k := 1900) (by decide) h) (by decide)
theorem Sml.tx {i : Int} (h : Sml i) : (PyData.int i).shown.length ≤ 2000 := by
  have z := int_text_length_le (k := 1920) (by decide) h.lg
  show (Str.ofString (toString i)).length ≤ 2000
  rw [PySem.ofString_length]
  omega
def intsD (l : List Int) : List PyData := l.map PyData.int
theorem ints_ok : ∀ {l : List Int}, (∀ i ∈ l, Sml i) → PyData.showableAll (intsD l) = true ∧ PyData.hasDictAll (intsD l) = false ∧ PyData.leavesShortAll 2000 (intsD l) = true ∧ PyData.bulkAll (intsD l) = l.length ∧ PyData.depthAll (intsD l) ≤ 1
  | [], _ => ⟨rfl, rfl, rfl, rfl, Nat.zero_le _⟩
  | i :: l, h => by
    obtain ⟨h1, h2, h3, h4, h5⟩ := ints_ok (l := l) fun j hj => h j (List.mem_cons_of_mem _ hj)
    have hi := h i List.mem_cons_self
    refine ⟨?_, ?_, ?_, ?_, ?_⟩
    · show (decide (i.natAbs.log2 < 1920) && PyData.showableAll (intsD l)) = true
      rw [decide_eq_true hi.lg, h1]
      rfl
    · show (false || PyData.hasDictAll (intsD l)) = false
      rw [h2]
      rfl
    · show (decide ((PyData.int i).shown.length ≤ 2000) && PyData.leavesShortAll 2000 (intsD l)) = true
      rw [decide_eq_true hi.tx, h3]
      rfl
    · show 0 + 1 + PyData.bulkAll (intsD l) = l.length + 1
      rw [h4]
      omega
    · have e : PyData.depthAll (intsD (i :: l)) = max (PyData.depth (.int i)) (PyData.depthAll (intsD l)) := rfl
      have e0 : PyData.depth (.int i) ≤ 1 := by show (0 : Nat) ≤ 1; omega
      rw [e]
      omega
/-- a tuple of intsD -/
def tupD (l : List Int) : PyData := .tuple (intsD l)
theorem shw_int {i : Int} (h : Sml i) : Shw (.int i) := ⟨decide_eq_true h.lg, rfl, (by show (0 : Nat) ≤ 60; omega), decide_eq_true h.tx, Nat.zero_le _⟩
theorem shw_tup {l : List Int} (h : ∀ i ∈ l, Sml i) (hl : l.length ≤ 8000) : Shw (tupD l) := by
  obtain ⟨h1, h2, h3, h4, h5⟩ := ints_ok h
  refine ⟨h1, h2, ?_, h3, ?_⟩
  · have e : PyData.depth (tupD l) ≤ PyData.depthAll (intsD l) + 1 := by
      first | exact Nat.le_refl _ | exact Nat.le_of_eq (Nat.add_comm _ _)
    omega
  · have e : PyData.bulk (tupD l) = PyData.bulkAll (intsD l) := rfl
    rw [e, h4]
    exact hl
theorem dp_ints {K : PySem.W.Frag} {H : Hp} : ∀ l : List Int, DpAll K H (l.map V.int) (intsD l)
  | [] => .nil
  | i :: l => .cons (.int i) (dp_ints l)
theorem dp_tup {K : PySem.W.Frag} {H : Hp} {a : Addr} {l : List Int} (h : SqT K H a (l.map V.int)) : Dp K H (.ref a) (tupD l) := .tup h (dp_ints l)
end Lr

namespace Lr
open PySem PySem.Spec PyProof.Rows L2
/-! operators on ints of any size that is met here -/
def Cml (i j : Int) : Prop := CMul i j ∨ CMulW i j
def Cpw (i j : Int) : Prop := 0 ≤ j ∧ (Builtin.Int.intBits i : Int) * j ≤ 2 ^ 27
def Cfd (i j : Int) : Prop := CDivN i j ∨ CDivW i j
theorem cml_l {i j : Int} (h : i.natAbs < 2 ^ 64) : Cml i j := .inl (.inl ⟨by omega, by omega⟩)
theorem cml_r {i j : Int} (h : j.natAbs < 2 ^ 64) : Cml i j := .inl (.inr ⟨by omega, by omega⟩)
theorem cml_w {i j : Int} (a b : Nat) (ha : i.natAbs < 2 ^ a) (hb : j.natAbs < 2 ^ b) (h : a + b ≤ 900000 := by decide) : Cml i j := by
  refine .inr (wide_mul (a := a + 1) (b := b + 1) (Nat.lt_of_lt_of_le ha (Nat.pow_le_pow_right (by decide) (by omega))) (Nat.lt_of_lt_of_le hb (Nat.pow_le_pow_right (by decide) (by omega))) (by omega) (by omega) (by omega))
theorem cml_s {i j : Int} (ha : Sml i) (hb : Sml j) : Cml i j := cml_w 1900 1900 ha hb
theorem bits_le {i : Int} {k : Nat} (h : i.natAbs < 2 ^ k) : Builtin.Int.intBits i ≤ k := by
  unfold Builtin.Int.intBits
  split
  · omega
  · rename_i hn
    have h0 : i.natAbs ≠ 0 := by
      intro z
      have : i = 0 := by omega
      simp [this] at hn
    have := (Nat.log2_lt h0).mpr h
    omega
theorem cpw {i j : Int} (k : Nat) (h : i.natAbs < 2 ^ k) (h0 : 0 ≤ j) (hj : (k : Int) * j ≤ 2 ^ 27) : Cpw i j := by
  refine ⟨h0, Int.le_trans (Int.mul_le_mul_of_nonneg_right ?_ h0) hj⟩
  have := bits_le h
  omega
section
variable {X : Cx}
theorem op_mulL : OpR X (binaryOp .Mult) (rI Cml fun i j => .int (i * j)) := opI fun _ _ _ _ _ _ _ hc q => mul_int q (by
  rcases hc with h | h
  · exact h.ok
  · exact h.ok)
theorem op_powL : OpR X (binaryOp .Pow) (rI Cpw fun i j => .int (i ^ j.toNat)) := opI fun _ _ _ _ _ _ _ hc q => pow_int hc.1 hc.2 q
theorem op_fdivL : OpR X (binaryOp .FloorDiv) (rI Cfd fun i j => .int (i.fdiv j)) := by
  intro pins s σ H x y v u Q I rx ry h
  obtain ⟨i, j, ex, ey, hc, q⟩ := h
  rcases hc with hc | hc
  · exact op_fdivN pins s σ H x y v u Q I rx ry ⟨i, j, ex, ey, hc, q⟩
  · have h0 : (0 : Int) < j := hc.1
    exact op_fdivW pins s σ H x y v u Q I rx ry ⟨i, j, ex, ey, hc, by
      show Q (.int (i / j)) H
      rw [← Int.fdiv_eq_ediv_of_nonneg i (by omega)]
      exact q⟩
end
/-! a call by names alone -/
section
variable {X : Cx} {CX : CXT} {k : Nat} {f : Addr} {fd : FuncData} {ps ks : List Str} {sp : Sp} {E : XK} {x : Str} {p pos : Pos} {kws : List Keyword} {tk : TA} {g : List Value → List Value → List Value} {gV : List V → List V → List V}
theorem pe_callK0 (F : FnOk X.prog X.w X.K X.mg X.base CX k f fd ps sp) (hr : Room k X.A) (hg : Gl X x) (hm : X.mg x = some (.ref f)) (hk : PySem.W.keepIn X.K (.ref f) = true) (hb : KBinds X.K fd ps ks g gV) (hx : Passes CX X E) (hkw : PK X kws tk)
    (hall : (backToKw pos (keywordEach kws X.env)).all (·.1.isSome) = true := by rfl) (hks : (backToKw pos (keywordEach kws X.env)).filterMap (·.1) = ks := by rfl) (hdb : (x == ("__debug__" : Str)) = false := by decide)
    (hpl : ((backTo pos (starEach [] X.env)).any (·.1) || (backToKw pos (keywordEach kws X.env)).any (·.1.isNone)) = false := by rfl) :
    PE X (.Call (.Name x p) [] kws pos) (tCallK sp gV E tNil tk) := by
  refine ⟨fun pins s σ H Q I h => ?_⟩
  refine wpAny_Call_Name_kw (ld_glob I hg hm ?_ hdb)
  refine PySem.W.callWith_KW0 (h₀ := X.base) I.ok.mod.kin hk hall (thn (hkw.run pos pins s σ H _ I h) fun ws s2 z => ?_) hpl
  obtain ⟨zs, H2, I2, rz, q2⟩ := z
  refine ⟨I2.kIn, ?_⟩
  rw [hks]
  exact run_fnk (us := []) (vs := []) F hr hb hx I2 .nil rz q2
end
/-! roads as texts -/
/-- the sign of a turn: L (false), R (true) -/
def sg (b : Bool) : Nat := if b then 82 else 76
def rd (w : List Bool) : Str := ⟨(w.map sg).toArray⟩
theorem rd_cps (w : List Bool) : (rd w).cps.toList = w.map sg := by simp [rd]
theorem rd_len (w : List Bool) : (rd w).length = w.length := by
  show (w.map sg).toArray.size = w.length
  simp
theorem str_ext {x y : Str} (h : x.cps.toList = y.cps.toList) : x = y := by
  obtain ⟨a⟩ := x
  obtain ⟨b⟩ := y
  have e : a = b := Array.toList_inj.mp h
  rw [e]
theorem app_list (x y : Str) : (x ++ y).cps.toList = x.cps.toList ++ y.cps.toList := by
  show (x.cps ++ y.cps).toList = _
  simp
theorem rd_app (u v : List Bool) : rd u ++ rd v = rd (u ++ v) := str_ext (by rw [app_list, rd_cps, rd_cps, rd_cps, List.map_append])
theorem rd_nil : rd [] = ("" : Str) := by decide +kernel
theorem rd_L : rd [false] = ("L" : Str) := by decide +kernel
theorem rd_R : rd [true] = ("R" : Str) := by decide +kernel
theorem sg_inj {a b : Bool} (h : sg a = sg b) : a = b := by
  cases a <;> cases b <;> first | rfl | exact absurd h (by decide)
theorem rd_inj {u v : List Bool} (h : rd u = rd v) : u = v := by
  have e : u.map sg = v.map sg := by rw [← rd_cps, ← rd_cps, h]
  exact List.map_inj_right (fun a b => sg_inj) |>.mp e
/-! the purse of the draws -/
/-- the purse at a, n draws at most so far -/
def Pu (H : Hp) (a : Addr) (n : Nat) : Prop := ∃ p0 p1 p2 : Int, H a = some (.lst [.int p0, .int p1, .int p2]) ∧ 0 ≤ p0 ∧ 0 ≤ p1 ∧ p1 < 2 ^ 80 ∧ 0 ≤ p2 ∧ p2 ≤ n
theorem Pu.le {H : Hp} {a : Addr} {n m : Nat} (h : Pu H a n) (l : n ≤ m) : Pu H a m := by
  obtain ⟨p0, p1, p2, h1, h2, h3, h4, h5, h6⟩ := h
  exact ⟨p0, p1, p2, h1, h2, h3, h4, h5, by omega⟩
/-- all that was tracked but for a is as it was -/
def Kp (a : Addr) (H H' : Hp) : Prop := ∀ b o, b ≠ a → H b = some o → H' b = some o
theorem Kp.refl (a : Addr) (H : Hp) : Kp a H H := fun _ _ _ h => h
theorem Kp.trans {a : Addr} {H H1 H2 : Hp} (x : Kp a H H1) (y : Kp a H1 H2) : Kp a H H2 := fun b o n h => y b o n (x b o n h)
theorem Kp.of {a : Addr} {H H' : Hp} (h : Same H H') : Kp a H H' := fun b o _ z => h b o z
theorem Kp.upd (a : Addr) (H : Hp) (o : HO) : Kp a H (upd H a o) := fun b u n h => by rw [upd_ne n]; exact h
theorem Kp.new {a : Addr} {H H' : Hp} {p : Addr} {o : HO} (x : Kp a H H') (h : H' p = none) : Kp a H (L2.upd H' p o) := fun b u n z => by
  rw [upd_ne (ne_of_none (x b u n z) h)]
  exact x b u n z
theorem Pu.same {H H' : Hp} {a : Addr} {n : Nat} (h : Pu H a n) (s : Same H H') : Pu H' a n := by
  obtain ⟨p0, p1, p2, h1, h2⟩ := h
  exact ⟨p0, p1, p2, s _ _ h1, h2⟩
theorem _root_.L2.Same.new {H H' : Hp} {p : Addr} {o : HO} (s : Same H H') (h : H' p = none) : Same H (L2.upd H' p o) := fun b u z => by
  rw [upd_ne (ne_of_none (s b u z) h)]
  exact s b u z
theorem Pu.new {H : Hp} {a p : Addr} {o : HO} {n : Nat} (h : Pu H a n) (hp : H p = none) : Pu (L2.upd H p o) a n := h.same ((L2.Same.refl H).new hp)
theorem Pu.ne {H : Hp} {a p : Addr} {n : Nat} (h : Pu H a n) (hp : H p = none) : a ≠ p := by
  obtain ⟨_, _, _, h1, _⟩ := h
  exact ne_of_none h1 hp
theorem sz {n : Nat} (h : n ≤ 1000000) : n ≤ sizeLine := Nat.le_trans h (by decide)
theorem tup_same {H H' : Hp} {K : PySem.W.Frag} {a : Addr} {xs : List V} (s : Same H H') (h : SqT K H a xs) : SqT K H' a xs := by
  rcases h with (h | ⟨o, h⟩) | h
  · exact .inl (.inl (s _ _ h))
  · exact .inl (.inr ⟨o, s _ _ h⟩)
  · exact .inr h
theorem Kp.tup {H H' : Hp} {a b : Addr} {xs : List V} (x : Kp a H H') (n : b ≠ a) (h : H b = some (.tup xs)) : H' b = some (.tup xs) := x b _ n h
theorem Kp.free {H H' : Hp} {a p : Addr} {n : Nat} (k : Kp a H H') (hp : Pu H' a n) (np : H' p = none) : H p = none := by
  cases e : H p with
  | none => rfl
  | some o =>
    have ne : p ≠ a := (hp.ne np).symm
    rw [k p o ne e] at np
    cases np
end Lr

set_option exponentiation.threshold 5000
namespace Lr
open PySem PySem.Spec PyProof.Rows L2
/-! readings whose ways meet -/
theorem if_val {t : TT} {ta tb : TE} {σ : L2.St} {H : Hp} {Q : VK} (c : Bool) (v : V) (ht : ∀ R : Bool → Hp → Prop, R c H → t σ H R) (h1 : c = true → ∀ R : VK, R v H → ta σ H R) (h2 : c = false → ∀ R : VK, R v H → tb σ H R) (q : Q v H) : tIf t ta tb σ H Q := by
  refine ht _ ?_
  cases c with
  | true => exact iteT (h1 rfl Q q)
  | false => exact iteF (h2 rfl Q q)
/-- .. where either way ends with what P says -/
theorem if_ends {t : TT} {ta tb : TE} {σ : L2.St} {H : Hp} {Q : VK} (P : V → Hp → Prop) (c : Bool) (ht : ∀ R : Bool → Hp → Prop, R c H → t σ H R) (h1 : c = true → ∀ R : VK, (∀ v H', P v H' → R v H') → ta σ H R) (h2 : c = false → ∀ R : VK, (∀ v H', P v H' → R v H') → tb σ H R)
    (q : ∀ v H', P v H' → Q v H') : tIf t ta tb σ H Q := by
  refine ht _ ?_
  cases c with
  | true => exact iteT (h1 rfl Q q)
  | false => exact iteF (h2 rfl Q q)
/-- an if whose ways meet -/
theorem if_meets {t : TT} {ta tb : TS} {D : Ends} {σ : L2.St} {H : Hp} (P : L2.St → Hp → Prop) (c : Bool) (ht : ∀ R : Bool → Hp → Prop, R c H → t σ H R) (h1 : c = true → ∀ N : L2.St → Hp → Prop, (∀ σ' H', P σ' H' → N σ' H') → ta { D with nx := N } σ H)
    (h2 : c = false → ∀ N : L2.St → Hp → Prop, (∀ σ' H', P σ' H' → N σ' H') → tb { D with nx := N } σ H) (q : ∀ σ' H', P σ' H' → D.nx σ' H') : tIfS t ta tb D σ H := by
  refine ht _ ?_
  cases c with
  | true => exact iteT (h1 rfl D.nx q)
  | false => exact iteF (h2 rfl D.nx q)
/-- two ways that meet, behind the test -/
theorem meet {c : Bool} {ta tb : TS} {D : Ends} {σ : L2.St} {H : Hp} (P : L2.St → Hp → Prop) (h1 : c = true → ∀ N : L2.St → Hp → Prop, (∀ σ' H', P σ' H' → N σ' H') → ta { D with nx := N } σ H)
    (h2 : c = false → ∀ N : L2.St → Hp → Prop, (∀ σ' H', P σ' H' → N σ' H') → tb { D with nx := N } σ H) (q : ∀ σ' H', P σ' H' → D.nx σ' H') : if c = true then ta D σ H else tb D σ H := by
  cases c with
  | true => exact iteT (h1 rfl D.nx q)
  | false => exact iteF (h2 rfl D.nx q)
/-! text lemmas -/
theorem nat_of {i : Int} (h : 0 ≤ i) : ∃ n : Nat, i = (n : Int) := ⟨i.toNat, by omega⟩
/-! the turns that a draw puts behind a road -/
def wayMenu : List V := [.str "L", .str "R", .str "LL", .str "RR", .str "LR", .str "RRRRR", .str "LLLLLLL"]
theorem wayMenu_at {r : Int} (h0 : 0 ≤ r) (h1 : r < 7) : ∃ u : List Bool, u.length ≤ 7 ∧ atI wayMenu r = some (.str (rd u)) := by
  have c : r = 0 ∨ r = 1 ∨ r = 2 ∨ r = 3 ∨ r = 4 ∨ r = 5 ∨ r = 6 := by omega
  rcases c with rfl | rfl | rfl | rfl | rfl | rfl | rfl
  · exact ⟨[false], by decide, by decide +kernel⟩
  · exact ⟨[true], by decide, by decide +kernel⟩
  · exact ⟨[false, false], by decide, by decide +kernel⟩
  · exact ⟨[true, true], by decide, by decide +kernel⟩
  · exact ⟨[false, true], by decide, by decide +kernel⟩
  · exact ⟨[true, true, true, true, true], by decide, by decide +kernel⟩
  · exact ⟨[false, false, false, false, false, false, false], by decide, by decide +kernel⟩
theorem rd_app_len {u v : List Bool} (h : u.length + v.length ≤ 1000000) : (rd u).length + (rd v).length ≤ sizeLine := by
  rw [rd_len, rd_len]
  exact sz h
/-! slices -/
theorem cut_rd (w : List Bool) (lo hi : Option Int) : cutS (rd w) lo hi = rd ((w.drop (HT.sIx w.length 0 lo)).take (HT.sIx w.length w.length hi - HT.sIx w.length 0 lo)) := by
  refine str_ext ?_
  rw [rd_cps]
  unfold cutS
  rw [rd_len, rd_cps]
  simp [List.map_take, List.map_drop]
theorem cut_take (w : List Bool) (t : Nat) : cutS (rd w) none (some (t : Int)) = rd (w.take t) := by
  rw [cut_rd, HT.sIx_none, HT.sIx_nat, List.drop_zero, Nat.sub_zero]
  by_cases h : t ≤ w.length
  · rw [Nat.min_eq_left h]
  · rw [Nat.min_eq_right (by omega), List.take_of_length_le (Nat.le_refl _), List.take_of_length_le (by omega)]
theorem cut_drop (w : List Bool) (t : Nat) : cutS (rd w) (some (t : Int)) none = rd (w.drop t) := by
  rw [cut_rd, HT.sIx_none, HT.sIx_nat]
  by_cases h : t ≤ w.length
  · rw [Nat.min_eq_left h, List.take_of_length_le (by rw [List.length_drop]; omega)]
  · rw [Nat.min_eq_right (by omega), List.drop_of_length_le (Nat.le_refl _), List.drop_of_length_le (by omega), List.take_nil]
theorem cut_mid (w : List Bool) (s t : Nat) : cutS (rd w) (some (s : Int)) (some (t : Int)) = rd ((w.take t).drop s) := by
  rw [cut_rd, HT.sIx_nat, HT.sIx_nat, List.drop_take]
  by_cases h : s ≤ w.length
  · rw [Nat.min_eq_left h]
    by_cases h2 : t ≤ w.length
    · rw [Nat.min_eq_left h2]
    · rw [Nat.min_eq_right (by omega), List.take_of_length_le (by rw [List.length_drop]; omega), List.take_of_length_le (by rw [List.length_drop]; omega)]
  · rw [Nat.min_eq_right (show w.length ≤ s by omega), List.drop_of_length_le (Nat.le_refl _), List.drop_of_length_le (show w.length ≤ s by omega), List.take_nil, List.take_nil]
theorem cut_most (w : List Bool) : cutS (rd w) none (some (-1)) = rd w.dropLast := by
  have e : HT.sIx w.length w.length (some (-1)) = w.length - 1 := by
    show (if (-1 : Int) < 0 then ((-1 : Int) + (w.length : Int)).toNat else min (-1 : Int).toNat w.length) = w.length - 1
    rw [if_pos (by decide)]
    omega
  rw [cut_rd, HT.sIx_none, e, List.drop_zero, Nat.sub_zero, List.dropLast_eq_take]
/-! a road walked turn by turn -/
theorem for_rd {w : List Bool} {g : TG} {tb : TS} {D : Ends} {σ : L2.St} {H : Hp} (Pv : List Bool → L2.St → Hp → Prop) (h0 : Pv [] σ H)
    (hs : ∀ pre t post σ H, w = pre ++ t :: post → Pv pre σ H → g (.str (rd [t])) σ H fun σ2 H2 => tb { D with nx := Pv (pre ++ [t]), ct := Pv (pre ++ [t]), bk := D.nx } σ2 H2) (hd : ∀ σ H, Pv w σ H → D.nx σ H) :
    ∃ W : Nat → Nat → L2.St → Hp → Prop, (∃ m, W 0 m σ H) ∧ ∀ i m σ H, W i m σ H →
      ((Its (rd w)).stop i H ∧ D.nx σ H) ∨ ((Its (rd w)).go i H ∧ ∃ N : L2.St → Hp → Prop, (∀ σ' H', N σ' H' → ∃ m', m' < m ∧ W (i + 1) m' σ' H') ∧ ∀ x H', (Its (rd w)).yld i H x H' → g x σ H' fun σ2 H2 => tb { D with nx := N, ct := N, bk := D.nx } σ2 H2) := by
  have es : (rd w).cps.size = w.length := rd_len w
  refine for_it walk_str (fun i σ H => Pv (w.take i) σ H) h0 (fun _ _ _ _ _ => trivial) ?_ ?_
  · rintro i x σ H H' hi p ⟨rfl, c, hc, rfl⟩
    have hi' : i < w.length := by omega
    have ec : c = sg w[i] := by
      have e1 : (rd w).cps.toList[i]? = some c := by rw [Array.getElem?_toList]; exact hc
      rw [rd_cps, List.getElem?_map, List.getElem?_eq_getElem hi'] at e1
      exact (Option.some.inj e1).symm
    have e2 : (⟨#[c]⟩ : Str) = rd [w[i]] := by rw [ec]; rfl
    have z := hs (w.take i) w[i] (w.drop (i + 1)) σ H' (by rw [List.getElem_cons_drop, List.take_append_drop]) p
    rw [e2]
    rw [List.take_append_getElem] at z
    exact z
  · intro σ H p
    rw [es, List.take_length] at p
    exact hd σ H p
theorem eq_L (t : Bool) : decide (V.str (rd [t]) = V.str ("L" : Str)) = !t := by cases t <;> decide +kernel
theorem eq_R (t : Bool) : decide (V.str (rd [t]) = V.str ("R" : Str)) = t := by cases t <;> decide +kernel
/-! counting signs -/
theorem count_L (w : List Bool) : Txt.count (rd w) ("L" : Str) + Txt.count (rd w) ("R" : Str) = (w.length : Int) := by
  have eL : ("L" : Str) = ⟨#[76]⟩ := by decide +kernel
  have eR : ("R" : Str) = ⟨#[82]⟩ := by decide +kernel
  rw [eL, eR, count_cnt, count_cnt, rd_cps]
  induction w with
  | nil => rfl
  | cons t w ih =>
    rw [List.map_cons, cnt_cons, cnt_cons, List.length_cons]
    have e : ((if sg t = 76 then 1 else 0 : Int)) + (if sg t = 82 then 1 else 0) = 1 := by cases t <;> decide
    omega
/-! menus of ints -/
theorem menu_at {l : List Int} {r : Int} (h0 : 0 ≤ r) (h1 : r < l.length) : ∃ t, t ∈ l ∧ atI (l.map V.int) r = some (.int t) := by
  obtain ⟨j, rfl⟩ := nat_of h0
  have hj : j < l.length := by omega
  exact ⟨l[j], List.getElem_mem hj, atI_nat (by rw [List.getElem?_map, List.getElem?_eq_getElem hj]; rfl)⟩
theorem same_kp {p : Addr} {H0 H1 H2 : Hp} (s : Same H0 H1) (n : H0 p = none) (k : Kp p H1 H2) : Same H0 H2 := fun b o h => k b o (ne_of_none h n) (s b o h)
theorem bl2 {b : Bool} {A B : Prop} (h1 : b = true → A) (h2 : b = false → B) : if b = true then A else B := by
  cases b with
  | true => exact iteT (h1 rfl)
  | false => exact iteF (h2 rfl)
/-! a turn exchanged, by a dict -/
def flipKs : List (Key × V) := [(.inr "L", .str "R"), (.inr "R", .str "L"), (.inr "", .str "")]
theorem flip_at {u : List Bool} (h : u.length ≤ 1) : valV (mergeK [] flipKs) (.inr (rd u)) = some (.str (rd (u.map not))) := by
  match u, h with
  | [], _ => decide +kernel
  | [false], _ => decide +kernel
  | [true], _ => decide +kernel
theorem shw_i {i : Int} (h : i.natAbs < 2 ^ 1900) : Shw (.int i) := shw_int h
theorem law_i {m C : Int} {i : Nat} (hi : i < (if (if m < C then m else C) > 1 then (if m < C then m else C) else 1 : Int).toNat) (h1 : 1 ≤ C) (h2 : C ≤ 63) : i < 63 := by
  revert hi
  split <;> split <;> omega
end Lr

set_option exponentiation.threshold 5000
namespace Lr
theorem snoc_ind {α : Type} {P : List α → Prop} (h0 : P []) (h1 : ∀ l x, P l → P (l ++ [x])) (l : List α) : P l := by
  have key : ∀ (n : Nat) (l : List α), l.length = n → P l := by
    intro n
    induction n with
    | zero =>
      intro l hl
      rw [List.length_eq_zero_iff.mp hl]
      exact h0
    | succ n ih =>
      intro l hl
      have hne : l ≠ [] := by
        intro z
        rw [z] at hl
        cases hl
      rw [← List.dropLast_concat_getLast hne]
      exact h1 _ _ (ih _ (by rw [List.length_dropLast]; omega))
  exact key _ l rfl
/-! tuples of four ints that are put one behind the other -/
@[ext] structure M4 where
  (a b c d : Int)
def M4.mul (m n : M4) : M4 := ⟨m.a * n.a + m.b * n.c, m.a * n.b + m.b * n.d, m.c * n.a + m.d * n.c, m.c * n.b + m.d * n.d⟩
def M4.one : M4 := ⟨1, 0, 0, 1⟩
def turnM (m : M4) (t : Bool) : M4 := if t then ⟨m.a, m.a + m.b, m.c, m.c + m.d⟩ else ⟨m.a + m.b, m.b, m.c + m.d, m.d⟩
def mat (w : List Bool) : M4 := w.foldl turnM M4.one
theorem mat_snoc (w : List Bool) (t : Bool) : mat (w ++ [t]) = turnM (mat w) t := by
  unfold mat
  rw [List.foldl_append]
  rfl
theorem turnM_mul (m : M4) (t : Bool) : turnM m t = m.mul (mat [t]) := by
  cases t
  · show (⟨m.a + m.b, m.b, m.c + m.d, m.d⟩ : M4) = ⟨m.a * (1 + 0) + m.b * (0 + 1), m.a * 0 + m.b * 1, m.c * (1 + 0) + m.d * (0 + 1), m.c * 0 + m.d * 1⟩
    ext <;> simp
  · show (⟨m.a, m.a + m.b, m.c, m.c + m.d⟩ : M4) = ⟨m.a * 1 + m.b * 0, m.a * (1 + 0) + m.b * (0 + 1), m.c * 1 + m.d * 0, m.c * (1 + 0) + m.d * (0 + 1)⟩
    ext <;> simp
theorem M4.mul_assoc (x y z : M4) : (x.mul y).mul z = x.mul (y.mul z) := by
  unfold M4.mul
  ext <;> simp [Int.add_mul, Int.mul_add, Int.mul_assoc] <;> omega
theorem M4.mul_one (x : M4) : x.mul M4.one = x := by
  unfold M4.mul M4.one
  ext <;> simp
theorem M4.one_mul (x : M4) : M4.one.mul x = x := by
  unfold M4.mul M4.one
  ext <;> simp
theorem mat_app (u v : List Bool) : mat (u ++ v) = (mat u).mul (mat v) := by
  induction v using snoc_ind with
  | h0 =>
    rw [List.append_nil]
    exact (M4.mul_one _).symm
  | h1 l x ih => rw [← List.append_assoc, mat_snoc, mat_snoc, ih, turnM_mul, turnM_mul (mat l), M4.mul_assoc]
def M4.det (m : M4) : Int := m.a * m.d - m.b * m.c
theorem M4.det_mul (x y : M4) : (x.mul y).det = x.det * y.det := by
  unfold M4.mul M4.det
  simp only [Int.add_mul, Int.mul_add, Int.sub_mul, Int.mul_sub]
  have e1 : x.a * y.a * (x.c * y.b) = x.a * y.b * (x.c * y.a) := by simp [Int.mul_comm, Int.mul_assoc, Int.mul_left_comm]
  have e2 : x.b * y.c * (x.d * y.d) = x.b * y.d * (x.d * y.c) := by simp [Int.mul_comm, Int.mul_assoc, Int.mul_left_comm]
  have e3 : x.a * y.a * (x.d * y.d) = x.a * x.d * (y.a * y.d) := by simp [Int.mul_comm, Int.mul_assoc, Int.mul_left_comm]
  have e4 : x.b * y.c * (x.c * y.b) = x.b * x.c * (y.b * y.c) := by simp [Int.mul_comm, Int.mul_assoc, Int.mul_left_comm]
  have e5 : x.a * y.b * (x.d * y.c) = x.a * x.d * (y.b * y.c) := by simp [Int.mul_comm, Int.mul_assoc, Int.mul_left_comm]
  have e6 : x.b * y.d * (x.c * y.a) = x.b * x.c * (y.a * y.d) := by simp [Int.mul_comm, Int.mul_assoc, Int.mul_left_comm]
  omega
theorem mat_det (w : List Bool) : (mat w).det = 1 := by
  induction w using snoc_ind with
  | h0 => rfl
  | h1 l x ih =>
    rw [mat_app, M4.det_mul, ih]
    cases x <;> rfl
/-- what a road's integers keep -/
structure Nn (m : M4) : Prop where
  a : 0 ≤ m.a
  b : 0 ≤ m.b
  c : 0 ≤ m.c
  d : 0 ≤ m.d
theorem turnM_nn {m : M4} (h : Nn m) (t : Bool) : Nn (turnM m t) := by
  obtain ⟨a, b, c, d⟩ := h
  cases t
  · exact ⟨by show 0 ≤ m.a + m.b; omega, b, by show 0 ≤ m.c + m.d; omega, d⟩
  · exact ⟨a, by show 0 ≤ m.a + m.b; omega, c, by show 0 ≤ m.c + m.d; omega⟩
theorem mat_nn (w : List Bool) : Nn (mat w) := by
  induction w using snoc_ind with
  | h0 => exact ⟨by decide, by decide, by decide, by decide⟩
  | h1 l x ih =>
    rw [mat_snoc]
    exact turnM_nn ih x
/-- how great they may be -/
theorem mat_le (w : List Bool) : (mat w).a + (mat w).b ≤ 2 ^ w.length ∧ (mat w).c + (mat w).d ≤ 2 ^ w.length := by
  induction w using snoc_ind with
  | h0 => exact ⟨by decide, by decide⟩
  | h1 l x ih =>
    have n := mat_nn l
    obtain ⟨a, b, c, d⟩ := n
    rw [mat_snoc, List.length_append]
    have e : (2 : Int) ^ (l.length + [x].length) = 2 ^ l.length * 2 := Int.pow_succ ..
    rw [e]
    cases x
    · show (mat l).a + (mat l).b + (mat l).b ≤ _ ∧ (mat l).c + (mat l).d + (mat l).d ≤ _
      omega
    · show (mat l).a + ((mat l).a + (mat l).b) ≤ _ ∧ (mat l).c + ((mat l).c + (mat l).d) ≤ _
      omega
/-- the fraction of a road -/
def wa (w : List Bool) : Int := (mat w).a + (mat w).b
def wb (w : List Bool) : Int := (mat w).c + (mat w).d
theorem up_R (w : List Bool) : wa (true :: w) = wa w + wb w ∧ wb (true :: w) = wb w := by
  have e : mat (true :: w) = (mat [true]).mul (mat w) := mat_app [true] w
  unfold wa wb
  rw [e]
  show (1 : Int) * (mat w).a + (1 + 0) * (mat w).c + (1 * (mat w).b + (1 + 0) * (mat w).d) = _ ∧ (0 : Int) * (mat w).a + (0 + 1) * (mat w).c + (0 * (mat w).b + (0 + 1) * (mat w).d) = _
  omega
theorem up_L (w : List Bool) : wa (false :: w) = wa w ∧ wb (false :: w) = wa w + wb w := by
  have e : mat (false :: w) = (mat [false]).mul (mat w) := mat_app [false] w
  unfold wa wb
  rw [e]
  show (1 + 0 : Int) * (mat w).a + 0 * (mat w).c + ((1 + 0) * (mat w).b + 0 * (mat w).d) = _ ∧ (0 + 1 : Int) * (mat w).a + 1 * (mat w).c + ((0 + 1) * (mat w).b + 1 * (mat w).d) = _
  omega
theorem pow_lt {n k : Nat} (h : n ≤ k) : (2 : Int) ^ n ≤ 2 ^ k := by
  have := Nat.pow_le_pow_right (show 0 < 2 by decide) h
  have e : ∀ m : Nat, (2 : Int) ^ m = ((2 ^ m : Nat) : Int) := fun m => by simp
  rw [e, e]
  exact Int.ofNat_le.mpr this
theorem up_pos (w : List Bool) : 1 ≤ wa w ∧ 1 ≤ wb w := by
  have n := mat_nn w
  have d := mat_det w
  obtain ⟨a, b, c, e⟩ := n
  unfold M4.det at d
  show 1 ≤ (mat w).a + (mat w).b ∧ 1 ≤ (mat w).c + (mat w).d
  constructor
  · by_cases h : (mat w).a = 0
    · by_cases h2 : (mat w).b = 0
      · rw [h, h2] at d
        simp at d
      · omega
    · omega
  · by_cases h : (mat w).c = 0
    · by_cases h2 : (mat w).d = 0
      · rw [h, h2] at d
        simp at d
      · omega
    · omega
theorem nat_pow_cast (k : Nat) : (2 : Int) ^ k = ((2 ^ k : Nat) : Int) := by simp
/-- the fraction of a road of at most k turns -/
theorem up_lt {w : List Bool} {k : Nat} (h : w.length ≤ k) : (wa w).natAbs ≤ 2 ^ k ∧ (wb w).natAbs ≤ 2 ^ k := by
  obtain ⟨h1, h2⟩ := mat_le w
  obtain ⟨p1, p2⟩ := up_pos w
  have h3 := pow_lt h
  rw [nat_pow_cast k] at h3
  have p1 : 1 ≤ (mat w).a + (mat w).b := p1
  have p2 : 1 ≤ (mat w).c + (mat w).d := p2
  show ((mat w).a + (mat w).b).natAbs ≤ 2 ^ k ∧ ((mat w).c + (mat w).d).natAbs ≤ 2 ^ k
  omega
open L2 in
theorem up_sml {w : List Bool} (h : w.length ≤ 1800) : Sml (wa w) ∧ Sml (wb w) := by
  obtain ⟨h1, h2⟩ := up_lt h
  have e : (2 : Nat) ^ 1800 < 2 ^ 1900 := Nat.pow_lt_pow_right (by decide) (by decide)
  exact ⟨Nat.lt_of_le_of_lt h1 e, Nat.lt_of_le_of_lt h2 e⟩
/-- a pair of small ints is written out -/
theorem shw2 {i j : Int} (h1 : Sml i) (h2 : Sml j) : Shw (tupD [i, j]) := shw_tup (fun x hx => by
  rcases List.mem_cons.mp hx with rfl | hx
  · exact h1
  · rcases List.mem_cons.mp hx with rfl | hx
    · exact h2
    · exact absurd hx List.not_mem_nil) (by show 2 ≤ 8000; decide)
end Lr

set_option exponentiation.threshold 5000
namespace Lr
open PySem PySem.Spec PyProof.Rows L2
/-! min of four ints -/
section
variable {prog : Program} {w : World} {A : Around} {E : Value → Shared → Prop} {s : Shared}
theorem args_min4 (a b c d : Value) : argsOk "min" ⟨[a, b, c, d], []⟩ := by
  unfold argsOk
  kernel_rfl
theorem min_four {a b c d : Int} {t1 t2 t3 t4 : Tok} {Q : Value → Shared → Prop} (hh : A.handled = none)
    (h : ∀ h' tk m t, (∀ x o, s.heap.get? x = some o → h'.get? x = some o) → m ∈ [a, b, c, d] → (∀ y ∈ [a, b, c, d], m ≤ y) → Q (.int m t) { s with heap := h', toks := tk }) :
    wpAny (model prog w) A (call (.builtin "min") [.int a t1, .int b t2, .int c t3, .int d t4]) Q E s := by
  have nm : (toString "min" ++ toString ".loop" : String) = "min.loop" := by decide
  refine call_function_tree F.kind_min F.plain_min
    F.entry_min (args_min4 _ _ _ _) ?_
  show wpAny _ A.in1 (Builtin.Builtins.bindParams "min" ["key", "default"] 0 ⟨[], []⟩
    >>= _) _ _ s
  refine wpAny_bind (wpAny_of_eq
    (show Builtin.Builtins.bindParams "min" ["key", "default"] 0 ⟨[], []⟩ = pure [Option.none, Option.none] from rfl) ?_)
  show wpAny _ A.in1 (newTuple [.int a t1, .int b t2, .int c t3, .int d t4] >>= _) _ _ s
  refine wpAny_bind (wpAny_newObj_type ?_)
  generalize hxs : (#[(a, t1), (b, t2), (c, t3), (d, t4)] : Array (Int × Tok)) = xs
  have exs : (#[.int a t1, .int b t2, .int c t3, .int d t4] : Array Value) = intItems xs := by
    rw [← hxs]
    simp [intItems]
  have enum : numsOf (intItems xs).toList = [a, b, c, d] := by
    rw [nums_intItems, ← hxs]
    rfl
  have size4 : xs.size = 4 := by
    rw [← hxs]
    rfl
  show wpAny _ _ (pyIter (.ref s.heap.objs.size) >>= _) _ _ { s with heap := s.heap.push { cls := .type "tuple", data := .seq #[.int a t1, .int b t2, .int c t3, .int d t4] } }
  rw [exs]
  generalize e1 : s.heap.push { cls := .type "tuple", data := .seq (intItems xs) } = g1
  have hT : g1.IsTuple s.heap.objs.size (intItems xs) := by
    rw [← e1]
    exact ⟨_, Heap.get?_push_size _ rfl, rfl, 0, rfl⟩
  have old1 : ∀ x o, s.heap.get? x = some o → g1.get? x = some o := fun x o z => by
    rw [← e1]
    exact Heap.get?_push_of_some _ z
  have n1 : g1.objs.size = s.heap.objs.size + 1 := by
    rw [← e1]
    exact Heap.size_push ..
  refine wpAny_bind (wpAny_pyIter_tuple hT ?_)
  show wpAny _ _ (_ >>= _) _ _ { s with heap := g1.push { cls := .type "tuple_iterator", data := .fields #[.ref s.heap.objs.size, .int 0 0] } }
  generalize e2 : g1.push { cls := .type "tuple_iterator", data := .fields #[.ref s.heap.objs.size, .int 0 0] } = g2
  have old2 : ∀ x o, g1.get? x = some o → g2.get? x = some o := fun x o z => by
    rw [← e2]
    exact Heap.get?_push_of_some _ z
  have n2 : g2.objs.size = s.heap.objs.size + 2 := by
    rw [← e2, Heap.size_push, n1]
  have hI : g2.IsTupleIter g1.objs.size s.heap.objs.size 0 := by
    rw [← e2]
    exact ⟨_, Heap.get?_push_size _ rfl, rfl, rfl⟩
  have hT2 : g2.IsTuple s.heap.objs.size (intItems xs) := by
    rw [← e2]
    exact hT.push _
  refine wpAny_bind (wpAny_newObj_type ?_)
  have W := Walks.tuple (prog := prog) (w := w) (A := A.in1) hh g1.objs.size s.heap.objs.size (by rw [n1]; exact Nat.ne_of_lt (Nat.lt_succ_self _)) (intItems xs)
  have fresh : g2.objs.size ∉ [g1.objs.size, s.heap.objs.size] := fun z => by
    rcases List.mem_cons.mp z with z | z
    · have z : (g2.objs.size : Nat) = (g1.objs.size : Nat) := z
      omega
    · rcases List.mem_cons.mp z with z | z
      · have z : (g2.objs.size : Nat) = (s.heap.objs.size : Nat) := z
        omega
      · exact absurd z List.not_mem_nil
  have is4 : (intItems xs).size = 4 := by simp [intItems, size4]
  rw [nm]
  refine wpAny_pure ⟨plainId_quiet F.plain_min_loop _, codeAny_min_loop_first W _ (CmpOf.ints_lt (numAt xs) (fun _ _ => intItems_at)) g2.objs.size fresh (by omega)
    (W.frame _ _ _ ⟨hI, hT2⟩ fun x _ o z => Heap.get?_push_of_some _ z) (Heap.get?_push_size _ rfl) fun v h' tk hP hk => ?_⟩
  obtain ⟨t, rfl⟩ := intItems_at hP
  obtain ⟨z1, z2⟩ := argBest_lt (numAt xs) (xs.size - 1)
  have e3 : (intItems xs).size - 1 = xs.size - 1 := by rw [is4, size4]
  rw [e3]
  have mem : ∀ j, j < 4 → numAt xs j ∈ [a, b, c, d] := fun j hj => by
    rw [← enum, nums_intItems, numAt_eq]
    exact PySem.getD_mem (by rw [List.length_map, Array.length_toList]; omega)
  refine h h' tk _ t (fun x o z => ?_) (mem _ (by omega)) fun y hy => ?_
  · have lt : (x : Nat) < (s.heap.objs.size : Nat) := Heap.lt_size z
    refine hk x o (fun z2 => ?_) (Nat.ne_of_lt (Nat.lt_of_lt_of_le lt (by rw [n2]; exact Nat.le_add_right _ _))) (Heap.get?_push_of_some _ (old2 _ _ (old1 _ _ z)))
    rcases List.mem_cons.mp z2 with z2 | z2
    · exact absurd z2 (Nat.ne_of_lt (Nat.lt_of_lt_of_le lt (by rw [n1]; exact Nat.le_add_right _ _)))
    · exact absurd z2 List.not_mem_nil
  · rw [← enum, nums_intItems] at hy
    obtain ⟨j, hj, rfl⟩ := mem_getD hy
    rw [List.length_map, Array.length_toList] at hj
    rw [← numAt_eq]
    exact z2 j (by omega)
end
section
variable {X : Cx}
/-- min(a, b, c, d) -/
def rMin4 : List V → Hp → VK → Prop := fun vs H Q => ∃ a b c d : Int, vs = [.int a, .int b, .int c, .int d] ∧ ∀ m : Int, m ∈ [a, b, c, d] → (∀ y ∈ [a, b, c, d], m ≤ y) → Q (.int m) H
theorem cr_minN (hc : X.calm = true) : CallR X (.builtin "min") rMin4 := by
  intro pins s σ H vs us Q I r h
  obtain ⟨a, b, c, d, rfl, q⟩ := h
  cases r with
  | cons r1 r => cases r with
    | cons r2 r => cases r with
      | cons r3 r => cases r with
        | cons r4 r =>
          cases r
          obtain ⟨t1, rfl⟩ := r1
          obtain ⟨t2, rfl⟩ := r2
          obtain ⟨t3, rfl⟩ := r3
          obtain ⟨t4, rfl⟩ := r4
          exact min_four (I.ok.hd hc) fun h' tk m t hk h1 h2 => ⟨.int m, H, I.kept (t' := tk) hk, ⟨t, rfl⟩, q m h1 h2⟩
/-- max(t), min(t) of a tuple of ints -/
def rMaxT (K : PySem.W.Frag) : List V → Hp → VK → Prop := fun vs H Q => ∃ (a : Addr) (n : Int) (ns : List Int), vs = [.ref a] ∧ SqT K H a ((n :: ns).map V.int) ∧ ns.length ≤ 100 ∧ ∀ m : Int, m ∈ n :: ns → (∀ y ∈ n :: ns, y ≤ m) → Q (.int m) H
def rMinT (K : PySem.W.Frag) : List V → Hp → VK → Prop := fun vs H Q => ∃ (a : Addr) (n : Int) (ns : List Int), vs = [.ref a] ∧ SqT K H a ((n :: ns).map V.int) ∧ ns.length ≤ 100 ∧ ∀ m : Int, m ∈ n :: ns → (∀ y ∈ n :: ns, m ≤ y) → Q (.int m) H
theorem fold_max : ∀ (ns : List Int) (n : Int), ns.foldl max n ∈ n :: ns ∧ ∀ y ∈ n :: ns, y ≤ ns.foldl max n
  | [], n => ⟨List.mem_cons_self, fun y hy => by
      rcases List.mem_cons.mp hy with rfl | hy
      · exact Int.le_refl _
      · exact absurd hy List.not_mem_nil⟩
  | x :: ns, n => by
    obtain ⟨h1, h2⟩ := fold_max ns (max n x)
    have hm := h2 (max n x) List.mem_cons_self
    refine ⟨?_, fun y hy => ?_⟩
    · rcases List.mem_cons.mp h1 with h1 | h1
      · show ns.foldl max (max n x) ∈ n :: x :: ns
        rw [h1]
        by_cases h : n ≤ x
        · rw [Int.max_eq_right h]
          exact List.mem_cons_of_mem _ List.mem_cons_self
        · rw [Int.max_eq_left (by omega)]
          exact List.mem_cons_self
      · exact List.mem_cons_of_mem _ (List.mem_cons_of_mem _ h1)
    · show y ≤ ns.foldl max (max n x)
      rcases List.mem_cons.mp hy with rfl | hy
      · omega
      · rcases List.mem_cons.mp hy with rfl | hy
        · omega
        · exact h2 y (List.mem_cons_of_mem _ hy)
theorem fold_min : ∀ (ns : List Int) (n : Int), ns.foldl min n ∈ n :: ns ∧ ∀ y ∈ n :: ns, ns.foldl min n ≤ y
  | [], n => ⟨List.mem_cons_self, fun y hy => by
      rcases List.mem_cons.mp hy with rfl | hy
      · exact Int.le_refl _
      · exact absurd hy List.not_mem_nil⟩
  | x :: ns, n => by
    obtain ⟨h1, h2⟩ := fold_min ns (min n x)
    have hm := h2 (min n x) List.mem_cons_self
    refine ⟨?_, fun y hy => ?_⟩
    · rcases List.mem_cons.mp h1 with h1 | h1
      · show ns.foldl min (min n x) ∈ n :: x :: ns
        rw [h1]
        by_cases h : n ≤ x
        · rw [Int.min_eq_left h]
          exact List.mem_cons_self
        · rw [Int.min_eq_right (by omega)]
          exact List.mem_cons_of_mem _ List.mem_cons_self
      · exact List.mem_cons_of_mem _ (List.mem_cons_of_mem _ h1)
    · show ns.foldl min (min n x) ≤ y
      rcases List.mem_cons.mp hy with rfl | hy
      · omega
      · rcases List.mem_cons.mp hy with rfl | hy
        · omega
        · exact h2 y (List.mem_cons_of_mem _ hy)
theorem reads_ints {h : Heap} : ∀ {ns : List Int} {us : List Value}, Vals (ns.map V.int) us → ReadsAll h us (ns.map PyData.int) []
  | [], _, r => by
    cases r
    exact .nil
  | n :: ns, _, r => by
    cases r with
    | cons r1 r2 =>
      obtain ⟨t, rfl⟩ := r1
      exact .cons (as := []) (.int n t) (reads_ints r2)
theorem alike_ints (ns : List Int) : PySem.W.AlikeAll (ns.map PyData.int) := by
  refine ⟨fun x hx y hy => ?_, fun x hx => ?_⟩
  · obtain ⟨a, _, rfl⟩ := List.mem_map.mp hx
    obtain ⟨b, _, rfl⟩ := List.mem_map.mp hy
    simp [PySem.W.alike]
  · obtain ⟨a, _, rfl⟩ := List.mem_map.mp hx
    exact fun z => nomatch z
theorem cr_maxT {k : Nat} (hr : Room k X.A) : CallR X (.builtin "max") (rMaxT X.K) := by
  intro pins s σ H vs us Q I r h
  obtain ⟨a, n, ns, rfl, hs, hl, q⟩ := h
  rw [Vals.ref1 r]
  obtain ⟨its, rv, ht, _⟩ := I.tuple hs
  have un := hr.units
  have dp : PyData.depthAll ((n :: ns).map PyData.int) ≤ 0 := by
    generalize n :: ns = l
    induction l with
    | nil => exact Nat.le_refl _
    | cons x l ih =>
      show max 0 (PyData.depthAll (l.map PyData.int)) ≤ 0
      omega
  refine PySem.W.max_tuple_data (x := .int n) (xs := ns.map PyData.int) (as := []) hr.hd (let ⟨o, h1, h2, j, h3⟩ := ht; ⟨o, h1, h2, j, h3⟩) (reads_ints (ns := n :: ns) rv) (alike_ints (n :: ns)) (by
    have : PyData.depthAll (PyData.int n :: ns.map PyData.int) ≤ 0 := dp
    omega) fun i v h' tk bs hv rd hk => ?_
  rw [PySem.W.maxD_ints] at rd
  cases rd
  exact ⟨.int _, H, I.kept (t' := tk) hk, ⟨_, rfl⟩, q _ (fold_max ns n).1 (fold_max ns n).2⟩
theorem cr_minT {k : Nat} (hr : Room k X.A) : CallR X (.builtin "min") (rMinT X.K) := by
  intro pins s σ H vs us Q I r h
  obtain ⟨a, n, ns, rfl, hs, hl, q⟩ := h
  rw [Vals.ref1 r]
  obtain ⟨its, rv, ht, _⟩ := I.tuple hs
  have un := hr.units
  have dp : PyData.depthAll ((n :: ns).map PyData.int) ≤ 0 := by
    generalize n :: ns = l
    induction l with
    | nil => exact Nat.le_refl _
    | cons x l ih =>
      show max 0 (PyData.depthAll (l.map PyData.int)) ≤ 0
      omega
  refine PySem.W.min_tuple_data (x := .int n) (xs := ns.map PyData.int) (as := []) hr.hd (let ⟨o, h1, h2, j, h3⟩ := ht; ⟨o, h1, h2, j, h3⟩) (reads_ints (ns := n :: ns) rv) (alike_ints (n :: ns)) (by
    have : PyData.depthAll (PyData.int n :: ns.map PyData.int) ≤ 0 := dp
    omega) fun i v h' tk bs hv rd hk => ?_
  rw [PySem.W.minD_ints] at rd
  cases rd
  exact ⟨.int _, H, I.kept (t' := tk) hk, ⟨_, rfl⟩, q _ (fold_min ns n).1 (fold_min ns n).2⟩
/-- math.gcd of any ints that are met here -/
def rGcdN : List V → Hp → VK → Prop := fun vs H Q => (∃ a b : Int, vs = [.int a, .int b] ∧ Q (.int ((Nat.gcd a.natAbs b.natAbs : Nat) : Int)) H) ∨
  (∃ a b c : Int, vs = [.int a, .int b, .int c] ∧ Q (.int ((Nat.gcd (Nat.gcd a.natAbs b.natAbs) c.natAbs : Nat) : Int)) H) ∨
  ∃ a b c d : Int, vs = [.int a, .int b, .int c, .int d] ∧ Q (.int ((Nat.gcd (Nat.gcd (Nat.gcd a.natAbs b.natAbs) c.natAbs) d.natAbs : Nat) : Int)) H
theorem args_gcd3 (a b c : Value) : argsOk "math.gcd" ⟨[a, b, c], []⟩ := by
  unfold argsOk
  kernel_rfl
theorem args_gcd4 (a b c d : Value) : argsOk "math.gcd" ⟨[a, b, c, d], []⟩ := by
  unfold argsOk
  kernel_rfl
theorem run_gcd3 (a b c : Int) (t u x : Tok) : Gives (Builtin.«math.gcd» ⟨[.int a t, .int b u, .int c x], []⟩) (.int ((((Nat.gcd 0 a.natAbs).gcd b.natAbs).gcd c.natAbs : Nat) : Int)) :=
  .of_wp fun M A E s Q h => by
    obtain ⟨hp, g, d, tk, os⟩ := s
    wp_walk
    exact ⟨_, rfl, h⟩
theorem run_gcd4 (a b c d : Int) (t u x y : Tok) : Gives (Builtin.«math.gcd» ⟨[.int a t, .int b u, .int c x, .int d y], []⟩) (.int (((((Nat.gcd 0 a.natAbs).gcd b.natAbs).gcd c.natAbs).gcd d.natAbs : Nat) : Int)) :=
  .of_wp fun M A E s Q h => by
    obtain ⟨hp, g, d, tk, os⟩ := s
    wp_walk
    exact ⟨_, rfl, h⟩
theorem cr_gcdN : CallR X (.builtin "math.gcd") rGcdN := by
  intro pins s σ H vs us Q I r h
  rcases h with ⟨a, b, rfl, q⟩ | ⟨a, b, c, rfl, q⟩ | ⟨a, b, c, d, rfl, q⟩
  · obtain ⟨t, u, rfl⟩ := Vals.int2 r
    exact PySem.W.mg_gcd fun _ => ⟨.int _, H, I.tok _, ⟨_, rfl⟩, q⟩
  · cases r with
    | cons r1 r => cases r with
      | cons r2 r => cases r with
        | cons r3 r =>
          cases r
          obtain ⟨t1, rfl⟩ := r1
          obtain ⟨t2, rfl⟩ := r2
          obtain ⟨t3, rfl⟩ := r3
          have g := run_gcd3 a b c t1 t2 t3
          rw [Nat.gcd_zero_left] at g
          exact call_function_meets PySem.W.MGF.kind_gcd PySem.W.MGF.plain_gcd PySem.W.MGF.entry_gcd (args_gcd3 _ _ _) g.meets ⟨.int _, H, I.tok _, ⟨_, rfl⟩, q⟩
  · cases r with
    | cons r1 r => cases r with
      | cons r2 r => cases r with
        | cons r3 r => cases r with
          | cons r4 r =>
            cases r
            obtain ⟨t1, rfl⟩ := r1
            obtain ⟨t2, rfl⟩ := r2
            obtain ⟨t3, rfl⟩ := r3
            obtain ⟨t4, rfl⟩ := r4
            have g := run_gcd4 a b c d t1 t2 t3 t4
            rw [Nat.gcd_zero_left] at g
            exact call_function_meets PySem.W.MGF.kind_gcd PySem.W.MGF.plain_gcd PySem.W.MGF.entry_gcd (args_gcd4 _ _ _ _) g.meets ⟨.int _, H, I.tok _, ⟨_, rfl⟩, q⟩
/-- text * int -/
theorem rep_list (z : Array Nat) (n : Nat) : ((List.replicate n z).foldl (· ++ ·) #[]).toList = (List.replicate n z.toList).flatten := by
  have key : ∀ (n : Nat) (acc : Array Nat), ((List.replicate n z).foldl (· ++ ·) acc).toList = acc.toList ++ (List.replicate n z.toList).flatten := by
    intro n
    induction n with
    | zero => intro acc; simp
    | succ n ih =>
      intro acc
      rw [List.replicate_succ, List.foldl_cons, ih, List.replicate_succ, List.flatten_cons]
      simp
  rw [key]
  simp
def repT (z : Str) (n : Int) : Str := ⟨((List.replicate n.toNat z.cps.toList).flatten).toArray⟩
theorem repT_len (z : Str) (n : Int) : (repT z n).length = z.length * n.toNat := by
  show ((List.replicate n.toNat z.cps.toList).flatten).toArray.size = z.cps.size * n.toNat
  simp [List.length_flatten, Nat.mul_comm]
theorem op_mulS : OpR X (binaryOp .Mult) (fun x y H Q => ∃ (z : Str) (n : Int), x = .str z ∧ y = .int n ∧ z.length ≤ 10000 ∧ -1000 ≤ n ∧ n ≤ 1000 ∧ Q (.str (repT z n)) H) := by
  intro pins s σ H x y v u Q I rx ry h
  obtain ⟨z, n, rfl, rfl, hz, n0, n1, q⟩ := h
  obtain ⟨t, rfl⟩ := rx
  obtain ⟨t2, rfl⟩ := ry
  refine PySem.P.mul_str (by rw [decide_eq_false (by omega), decide_eq_false (by omega)]; rfl) (fun h1 _ => ?_) (fun h1 _ => ?_) ?_
  · have : (2 ^ 63 - 1 : Int) / n ≥ 10000 := by
      have e1 : (10000 : Int) * n ≤ 2 ^ 63 - 1 := by omega
      exact (Int.le_ediv_iff_mul_le (by omega)).mpr e1
    have hz' : ((z.length : Nat) : Int) ≤ 10000 := by omega
    omega
  · have : z.length * n.toNat ≤ 10000 * 1000 := Nat.mul_le_mul hz (by omega)
    unfold PySem.Builtin.Str.tooLong
    exact decide_eq_false (by have e : sizeLine = 16777216 := by decide
                              omega)
  · by_cases h1 : n < 1
    · rw [if_pos h1]
      have e : repT z n = Str.empty := by
        have : n.toNat = 0 := by omega
        unfold repT
        rw [this]
        rfl
      rw [e] at q
      exact ⟨by decide, ⟨.str _, H, I.tok _, ⟨_, rfl⟩, q⟩⟩
    · rw [if_neg h1]
      by_cases h2 : (n == 1 || z.length == 0) = true
      · rw [if_pos h2]
        have e : repT z n = z := by
          refine str_ext ?_
          show ((List.replicate n.toNat z.cps.toList).flatten).toArray.toList = z.cps.toList
          rw [List.toList_toArray]
          rcases Bool.or_eq_true_iff.mp h2 with h3 | h3
          · have : n = 1 := by simpa using h3
            rw [this]
            simp
          · have h4 : z.length = 0 := by simpa using h3
            have h5 : z.cps.toList = [] := by
              rw [← List.length_eq_zero_iff]
              exact h4
            rw [h5]
            simp
        rw [e] at q
        exact ⟨.str _, H, I, ⟨_, rfl⟩, q⟩
      · rw [if_neg h2]
        have e : (⟨(List.replicate n.toNat z.cps).foldl (· ++ ·) #[]⟩ : Str) = repT z n := by
          refine str_ext ?_
          show ((List.replicate n.toNat z.cps).foldl (· ++ ·) #[]).toList = ((List.replicate n.toNat z.cps.toList).flatten).toArray.toList
          rw [rep_list, List.toList_toArray]
        rw [e]
        refine ⟨?_, ⟨.str _, H, I.tok _, ⟨_, rfl⟩, q⟩⟩
        rw [repT_len]
        have : z.length * n.toNat ≤ 10000 * 1000 := Nat.mul_le_mul hz (by omega)
        have e : sizeLine = 16777216 := by decide
        omega
end
/-- a road again and again -/
def repR (w : List Bool) (n : Nat) : List Bool := (List.replicate n w).flatten
theorem rep_rd (w : List Bool) (n : Int) : repT (rd w) n = rd (repR w n.toNat) := by
  refine str_ext ?_
  show ((List.replicate n.toNat (rd w).cps.toList).flatten).toArray.toList = _
  rw [List.toList_toArray, rd_cps, rd_cps]
  unfold repR
  generalize n.toNat = k
  induction k with
  | zero => rfl
  | succ k ih => rw [List.replicate_succ, List.replicate_succ, List.flatten_cons, List.flatten_cons, List.map_append, ih]
theorem repR_len (w : List Bool) (n : Nat) : (repR w n).length = n * w.length := by
  unfold repR
  simp
/-- texts of roads, one behind the other -/
theorem join_rd (ls : List (List Bool)) : Txt.join ("" : Str) (ls.map rd) = rd ls.flatten := by
  refine str_ext ?_
  show (PySem.Builtin.Str.glued ("" : Str) (ls.map rd)).cps.toList = _
  unfold PySem.Builtin.Str.glued
  have key : ∀ (l : List (List Bool)) (acc : Array Nat), ((l.map rd).foldl (fun acc p => acc ++ ("" : Str).cps ++ p.cps) acc).toList = acc.toList ++ l.flatten.map sg := by
    intro l
    induction l with
    | nil => intro acc; simp
    | cons x l ih =>
      intro acc
      rw [List.map_cons, List.foldl_cons, ih]
      have e : (("" : Str)).cps = #[] := by decide +kernel
      rw [e]
      have e2 : (rd x).cps.toList = x.map sg := rd_cps x
      simp [e2]
  cases ls with
  | nil =>
    rw [rd_cps]
    decide +kernel
  | cons x l =>
    show (((x :: l).map rd).drop 1 |>.foldl (fun acc p => acc ++ ("" : Str).cps ++ p.cps) (rd x).cps).toList = _
    rw [List.map_cons, List.drop_succ_cons, List.drop_zero, key, rd_cps, rd_cps, List.flatten_cons, List.map_append]
theorem join_room {ls : List (List Bool)} (h : ls.flatten.length ≤ 1000000) : ((ls.map rd).map (·.length)).sum + (ls.map rd).length * ("" : Str).length ≤ 16777216 := by
  have e : (("" : Str)).length = 0 := by decide +kernel
  have e2 : ((ls.map rd).map (·.length)).sum = ls.flatten.length := by
    rw [List.length_flatten, List.map_map]
    congr 1
    exact List.map_congr_left fun w _ => rd_len w
  rw [e, e2]
  omega
end Lr

set_option exponentiation.threshold 5000
namespace Lr
open PySem PySem.Spec PyProof.Rows L2
theorem eqv_ints : ∀ l m : List Int, PyData.eqvAll (intsD l) (intsD m) = decide (l = m)
  | [], [] => rfl
  | [], y :: m => rfl
  | x :: l, [] => rfl
  | x :: l, y :: m => by
    show ((x == y) && PyData.eqvAll (intsD l) (intsD m)) = _
    rw [eqv_ints l m]
    by_cases h : x = y
    · subst h
      simp
    · simp [h]
theorem eqv_tup (l m : List Int) : PyData.eqv (tupD l) (tupD m) = decide (l = m) := eqv_ints l m
theorem lay_ints : ∀ l : List Int, PyData.canLayAll0 (intsD l) = true
  | [] => rfl
  | x :: l => lay_ints l
theorem depth0_ints : ∀ l : List Int, PyData.depthAll (intsD l) = 0
  | [] => rfl
  | x :: l => by
    show max 0 (PyData.depthAll (intsD l)) = 0
    rw [depth0_ints l]
    rfl
theorem shaped_tup (l : List Int) : SeqAt.shaped (tupD l) = true := by
  have e : PyData.depth (tupD l) ≤ 64 := by
    show PyData.depthAll (intsD l) + 1 ≤ 64
    rw [depth0_ints]
    decide
  show (PyData.canLayAll0 (intsD l) && decide (PyData.depth (tupD l) ≤ 64)) = true
  rw [lay_ints, decide_eq_true e]
  rfl
/-- the fraction of a road is the fraction of its rest, sent by what is ahead -/
theorem wa_app (u v : List Bool) : wa (u ++ v) = (mat u).a * wa v + (mat u).b * wb v ∧ wb (u ++ v) = (mat u).c * wa v + (mat u).d * wb v := by
  unfold wa wb
  rw [mat_app]
  unfold M4.mul
  simp only [Int.mul_add]
  omega
theorem wa_diff (u v : List Bool) : wa (u ++ v) * wb u - wa u * wb (u ++ v) = wa v - wb v := by
  obtain ⟨e1, e2⟩ := wa_app u v
  have d := mat_det u
  rw [e1, e2]
  have e3 : wb u = (mat u).c + (mat u).d := rfl
  have e4 : wa u = (mat u).a + (mat u).b := rfl
  rw [e3, e4]
  unfold M4.det at d
  generalize (mat u).a = a at *
  generalize (mat u).b = b at *
  generalize (mat u).c = c at *
  generalize (mat u).d = e at *
  generalize wa v = x at *
  generalize wb v = y at *
  have f1 : (a * x + b * y) * (c + e) - (a + b) * (c * x + e * y) = (a * e - b * c) * x - (a * e - b * c) * y := by
    simp only [Int.add_mul, Int.mul_add, Int.sub_mul, Int.mul_sub]
    have g1 : a * x * c = a * (c * x) := by rw [Int.mul_assoc, Int.mul_comm x c]
    have g2 : a * x * e = a * e * x := by rw [Int.mul_assoc, Int.mul_comm x e, Int.mul_assoc]
    have g3 : b * y * c = b * c * y := by rw [Int.mul_assoc, Int.mul_comm y c, Int.mul_assoc]
    have g4 : b * y * e = b * (e * y) := by rw [Int.mul_assoc, Int.mul_comm y e]
    have g5 : b * (c * x) = b * c * x := by rw [Int.mul_assoc]
    have g6 : a * (e * y) = a * e * y := by rw [Int.mul_assoc]
    rw [g1, g2, g3, g4, g5, g6]
    omega
  rw [f1, d]
  omega
theorem wa_cons (t : Bool) (v : List Bool) : wa (t :: v) = (if t then wa v + wb v else wa v) ∧ wb (t :: v) = (if t then wb v else wa v + wb v) := by
  cases t
  · exact up_L v
  · exact up_R v
/-- the sign of what is left -/
theorem rest_R {v : List Bool} : wa v > wb v ↔ ∃ r, v = true :: r := by
  match v with
  | [] => exact ⟨fun h => absurd h (by decide), fun ⟨r, z⟩ => nomatch z⟩
  | false :: r =>
    obtain ⟨h1, h2⟩ := up_L r
    obtain ⟨p1, p2⟩ := up_pos r
    exact ⟨fun h => by omega, fun ⟨r, z⟩ => by cases z⟩
  | true :: r =>
    obtain ⟨h1, h2⟩ := up_R r
    obtain ⟨p1, p2⟩ := up_pos r
    exact ⟨fun _ => ⟨r, rfl⟩, fun _ => by omega⟩
theorem rest_nil {v : List Bool} : wa v = wb v ↔ v = [] := by
  match v with
  | [] => exact ⟨fun _ => rfl, fun _ => rfl⟩
  | false :: r =>
    obtain ⟨h1, h2⟩ := up_L r
    obtain ⟨p1, p2⟩ := up_pos r
    exact ⟨fun h => by omega, fun z => nomatch z⟩
  | true :: r =>
    obtain ⟨h1, h2⟩ := up_R r
    obtain ⟨p1, p2⟩ := up_pos r
    exact ⟨fun h => by omega, fun z => nomatch z⟩
/-- unlike roads tell unlike fractions -/
theorem wa_inj : ∀ {u v : List Bool}, wa u = wa v → wb u = wb v → u = v
  | [], v, h1, h2 => by
    have : wa v = wb v := by rw [← h1, ← h2]; rfl
    exact (rest_nil.mp this).symm
  | a :: u, [], h1, h2 => by
    have : wa (a :: u) = wb (a :: u) := by rw [h1, h2]; rfl
    exact rest_nil.mp this
  | a :: u, b :: v, h1, h2 => by
    obtain ⟨p1, p2⟩ := up_pos u
    obtain ⟨q1, q2⟩ := up_pos v
    obtain ⟨e1, e2⟩ := wa_cons a u
    obtain ⟨f1, f2⟩ := wa_cons b v
    rw [e1, f1] at h1
    rw [e2, f2] at h2
    cases a <;> cases b <;> simp at h1 h2
    · rw [wa_inj h1 (by omega)]
    · omega
    · omega
    · rw [wa_inj (by omega) h2]
/-- how many turns R are ahead of what is left -/
theorem runs_R (v : List Bool) : ∃ r, v = List.replicate ((wa v - 1) / wb v).toNat true ++ r ∧ wa r = wa v - ((wa v - 1) / wb v) * wb v ∧ wb r = wb v := by
  induction v with
  | nil => exact ⟨[], rfl, rfl, rfl⟩
  | cons t v ih =>
    obtain ⟨p1, p2⟩ := up_pos v
    cases t with
    | false =>
      obtain ⟨h1, h2⟩ := up_L v
      have e : (wa (false :: v) - 1) / wb (false :: v) = 0 := by
        rw [h1, h2]
        exact Int.ediv_eq_zero_of_lt (by omega) (by omega)
      rw [e]
      exact ⟨false :: v, rfl, by omega, rfl⟩
    | true =>
      obtain ⟨h1, h2⟩ := up_R v
      obtain ⟨r, er, e1, e2⟩ := ih
      have e : (wa (true :: v) - 1) / wb (true :: v) = (wa v - 1) / wb v + 1 := by
        rw [h1, h2, show wa v + wb v - 1 = (wa v - 1) + 1 * wb v by omega, Int.add_mul_ediv_right _ _ (by omega)]
      have n : 0 ≤ (wa v - 1) / wb v := Int.ediv_nonneg (by omega) (by omega)
      have en : ((wa v - 1) / wb v + 1).toNat = ((wa v - 1) / wb v).toNat + 1 := by omega
      rw [e, en]
      refine ⟨r, ?_, ?_, by rw [e2, h2]⟩
      · rw [List.replicate_succ, List.cons_append, ← er]
      · rw [e1, h1, h2, Int.add_mul]
        omega
theorem runs_L (v : List Bool) : ∃ r, v = List.replicate ((wb v - 1) / wa v).toNat false ++ r ∧ wb r = wb v - ((wb v - 1) / wa v) * wa v ∧ wa r = wa v := by
  induction v with
  | nil => exact ⟨[], rfl, rfl, rfl⟩
  | cons t v ih =>
    obtain ⟨p1, p2⟩ := up_pos v
    cases t with
    | true =>
      obtain ⟨h1, h2⟩ := up_R v
      have e : (wb (true :: v) - 1) / wa (true :: v) = 0 := by
        rw [h1, h2]
        exact Int.ediv_eq_zero_of_lt (by omega) (by omega)
      rw [e]
      exact ⟨true :: v, rfl, by omega, rfl⟩
    | false =>
      obtain ⟨h1, h2⟩ := up_L v
      obtain ⟨r, er, e1, e2⟩ := ih
      have e : (wb (false :: v) - 1) / wa (false :: v) = (wb v - 1) / wa v + 1 := by
        rw [h1, h2, show wa v + wb v - 1 = (wb v - 1) + 1 * wa v by omega, Int.add_mul_ediv_right _ _ (by omega)]
      have n : 0 ≤ (wb v - 1) / wa v := Int.ediv_nonneg (by omega) (by omega)
      have en : ((wb v - 1) / wa v + 1).toNat = ((wb v - 1) / wa v).toNat + 1 := by omega
      rw [e, en]
      refine ⟨r, ?_, ?_, by rw [e2, h1]⟩
      · rw [List.replicate_succ, List.cons_append, ← er]
      · rw [e1, h1, h2, Int.add_mul]
        omega
/-- what has no common divisor -/
theorem road_gcd (w : List Bool) : Nat.gcd (wa w).natAbs (wb w).natAbs = 1 := by
  have key : ∀ d : Nat, d ∣ (wa w).natAbs → d ∣ (wb w).natAbs → d = 1 := by
    induction w with
    | nil => intro d h _; exact Nat.dvd_one.mp h
    | cons t v ih =>
      intro d h1 h2
      obtain ⟨p1, p2⟩ := up_pos v
      obtain ⟨e1, e2⟩ := wa_cons t v
      have g1 : (d : Int) ∣ wa (t :: v) := Int.ofNat_dvd_left.mpr h1
      have g2 : (d : Int) ∣ wb (t :: v) := Int.ofNat_dvd_left.mpr h2
      rw [e1] at g1
      rw [e2] at g2
      cases t
      · simp at g1 g2
        have g3 : (d : Int) ∣ wb v := (Int.dvd_add_right g1).mp g2
        exact ih d (Int.ofNat_dvd_left.mp g1) (Int.ofNat_dvd_left.mp g3)
      · simp at g1 g2
        have g3 : (d : Int) ∣ wa v := (Int.dvd_add_left g2).mp g1
        exact ih d (Int.ofNat_dvd_left.mp g3) (Int.ofNat_dvd_left.mp g2)
  exact key _ (Nat.gcd_dvd_left _ _) (Nat.gcd_dvd_right _ _)
end Lr

set_option exponentiation.threshold 5000
namespace Lr
open PySem PySem.Spec PyProof.Rows L2
/-! what may be a list or a tuple -/
def Sq (K : PySem.W.Frag) (H : Hp) (a : Addr) (xs : List V) : Prop := SqL K H a xs ∨ SqT K H a xs
theorem Sq.same {K : PySem.W.Frag} {H H' : Hp} {a : Addr} {xs : List V} (h : Sq K H a xs) (s : Same H H') : Sq K H' a xs := h.elim (fun z => .inl (s.seq z)) fun z => .inr (tup_same s z)
theorem seq_ix {K : PySem.W.Frag} {H : Hp} {a : Addr} {xs : List V} {i : Int} {v : V} {Q : VK} (h : Sq K H a xs) (e : atI xs i = some v) (q : Q v H) : rIx K (.ref a) (.int i) H Q :=
  h.elim (fun z => .inl ⟨a, xs, i, v, rfl, rfl, z, e, q⟩) fun z => .inr (.inl ⟨a, xs, i, v, rfl, rfl, z, e, q⟩)
/-- the walk over it -/
def IsWalk (K : PySem.W.Frag) (H : Hp) (a : Addr) (xs : List V) (J : It) : Prop := (SqL K H a xs ∧ J = Itl K a) ∨ (SqT K H a xs ∧ J = Itt K a)
def iSeq (K : PySem.W.Frag) (tl : TE) : TI := fun σ H R => tl σ H fun x H1 => ∃ a xs, x = .ref a ∧ Sq K H1 a xs ∧ ∀ J, IsWalk K H1 a xs J → R J H1
theorem pi_seq {X : Cx} {tg l : Expr} {tl : TE} (hl : PE X l tl) : PI X tg l (iSeq X.K tl) := by
  refine ⟨fun pins s σ H R I h => ?_⟩
  refine thn (hl.run pins s σ H _ I h) fun v s1 z => ?_
  obtain ⟨x, H1, I1, r1, a, xs, rfl, hs, q⟩ := z
  cases r1
  rcases hs with hs | hs
  · obtain ⟨its, rv, p, _⟩ := I1.list hs
    refine wpAny_pyIter_list p.isList ⟨s1.heap.objs.size, [s1.heap.objs.size], _, _, H1, rfl, I1.kept (t' := s1.toks) fun b o e => Heap.get?_push_of_some _ e, turn_list a _, ⟨_, Heap.get?_push_size _ rfl, rfl, rfl⟩, fun b hb => ?_, q _ (.inl ⟨hs, rfl⟩)⟩
    rw [List.mem_singleton.mp hb]
    exact I1.fpOk (Nat.le_refl _) (I1.hok.fresh (Nat.le_refl _))
  · obtain ⟨its, rv, p, _⟩ := I1.tuple hs
    refine wpAny_pyIter_tuple (show s1.heap.IsTuple a its.toArray from p) ⟨s1.heap.objs.size, [s1.heap.objs.size], _, _, H1, rfl, I1.kept (t' := s1.toks) fun b o e => Heap.get?_push_of_some _ e, turn_tuple a _, ⟨_, Heap.get?_push_size _ rfl, rfl, rfl⟩, fun b hb => ?_, q _ (.inr ⟨hs, rfl⟩)⟩
    rw [List.mem_singleton.mp hb]
    exact I1.fpOk (Nat.le_refl _) (I1.hok.fresh (Nat.le_refl _))
theorem IsWalk.walk {K : PySem.W.Frag} {H : Hp} {a : Addr} {xs : List V} {J : It} (h : IsWalk K H a xs J) : Walk J xs.length (fun H' => Same H H') (YAt xs) := by
  rcases h with ⟨h, rfl⟩ | ⟨h, rfl⟩
  · exact walk_list.mono (fun H' s => s.seq h) fun _ _ _ _ _ _ z => z
  · exact walk_tup.mono (fun H' s => tup_same s h) fun _ _ _ _ _ _ z => z
/-- the greatest common divisor of a list -/
def gl (l : List Int) : Nat := l.foldl (fun g x => Nat.gcd g x.natAbs) 0
theorem gl_snoc (l : List Int) (x : Int) : gl (l ++ [x]) = Nat.gcd (gl l) x.natAbs := by
  unfold gl
  rw [List.foldl_append]
  rfl
theorem gl_dvd (l : List Int) : ∀ x ∈ l, ((gl l : Nat) : Int) ∣ x := by
  induction l using snoc_ind with
  | h0 => exact fun x hx => absurd hx List.not_mem_nil
  | h1 l y ih =>
    intro x hx
    rw [gl_snoc]
    rcases List.mem_append.mp hx with hx | hx
    · exact Int.dvd_trans (Int.natCast_dvd_natCast.mpr (Nat.gcd_dvd_left _ _)) (ih x hx)
    · rw [List.mem_singleton.mp hx]
      exact Int.ofNat_dvd_left.mpr (Nat.gcd_dvd_right _ _)
theorem gl_of_dvd (l : List Int) (d : Nat) (h : ∀ x ∈ l, (d : Int) ∣ x) : d ∣ gl l := by
  induction l using snoc_ind with
  | h0 => exact Nat.dvd_zero d
  | h1 l y ih =>
    rw [gl_snoc]
    exact Nat.dvd_gcd (ih fun x hx => h x (List.mem_append_left _ hx)) (Int.ofNat_dvd_left.mp (h y (List.mem_append_right _ List.mem_cons_self)))
theorem gl_pos {l : List Int} {x : Int} (hx : x ∈ l) (h0 : x ≠ 0) : 0 < gl l := by
  refine Nat.pos_of_ne_zero fun z => ?_
  have := gl_dvd l x hx
  rw [z] at this
  exact h0 (Int.zero_dvd.mp this)
theorem gl_le {l : List Int} {x : Int} (hx : x ∈ l) (h0 : x ≠ 0) : gl l ≤ x.natAbs := Nat.le_of_dvd (Int.natAbs_pos.mpr h0) (Int.ofNat_dvd_left.mp (gl_dvd l x hx))
/-- divided by it -/
def lowl (l : List Int) : List Int := l.map fun x => x / (gl l : Int)
end Lr

set_option exponentiation.threshold 5000
namespace Lr
open PySem PySem.Spec PyProof.Rows L2
/-! bounds -/
def Bd (k : Nat) (x : Int) : Prop := x.natAbs < 2 ^ k
theorem Bd.up {j k : Nat} {x : Int} (h : Bd j x) (l : j ≤ k) : Bd k x := Nat.lt_of_lt_of_le h (Nat.pow_le_pow_right (by decide) l)
theorem Bd.mul {j k : Nat} {x y : Int} (h1 : Bd j x) (h2 : Bd k y) : Bd (j + k) (x * y) := wide_lt h1 h2
theorem Bd.add {k : Nat} {x y : Int} (h1 : Bd k x) (h2 : Bd k y) : Bd (k + 1) (x + y) := by
  unfold Bd at *
  rw [Nat.pow_succ]
  omega
theorem Bd.sub {k : Nat} {x y : Int} (h1 : Bd k x) (h2 : Bd k y) : Bd (k + 1) (x - y) := by
  unfold Bd at *
  rw [Nat.pow_succ]
  omega
theorem Bd.sml {k : Nat} {x : Int} (h : Bd k x) (l : k ≤ 1900 := by decide) : Sml x := Bd.up h l
theorem Bd.ml {j k : Nat} {x y : Int} (h1 : Bd j x) (h2 : Bd k y) (l1 : j ≤ 1900 := by decide) (l2 : k ≤ 1900 := by decide) : Cml x y := cml_s (h1.sml l1) (h2.sml l2)
theorem bd_le {k : Nat} {x : Int} (h0 : 0 ≤ x) (h : x < 2 ^ k) : Bd k x := by
  unfold Bd
  rw [nat_pow_cast] at h
  omega
theorem Bd.dv {k : Nat} {x y : Int} (h : Bd k x) (hy : 0 < y) : Bd k (x / y) := by
  unfold Bd at *
  have : (x / y).natAbs ≤ x.natAbs := by
    have h1 := Int.natAbs_ediv_le_natAbs x y
    exact h1
  omega
/-! maps -/
def M4.l (m : M4) : List Int := [m.a, m.b, m.c, m.d]
structure Mp (m : M4) : Prop where
  nn : Nn m
  dt : m.det ≠ 0
  gd : gl m.l = 1
def M4.low (m : M4) : M4 := ⟨m.a / (gl m.l : Int), m.b / (gl m.l : Int), m.c / (gl m.l : Int), m.d / (gl m.l : Int)⟩
theorem low_l (m : M4) : m.low.l = lowl m.l := rfl
theorem lowl_gl {l : List Int} (h : 0 < gl l) : gl (lowl l) = 1 := by
  have key : ∀ x ∈ lowl l, ((gl (lowl l) : Nat) : Int) ∣ x := gl_dvd _
  have d2 : gl (lowl l) * gl l ∣ gl l := by
    refine gl_of_dvd l _ fun x hx => ?_
    have h1 := key (x / (gl l : Int)) (List.mem_map.mpr ⟨x, hx, rfl⟩)
    have h2 := gl_dvd l x hx
    have e : x = x / (gl l : Int) * (gl l : Int) := (Int.ediv_mul_cancel h2).symm
    rw [e, Int.natCast_mul]
    exact Int.mul_dvd_mul h1 (Int.dvd_refl _)
  have le := Nat.le_of_dvd h d2
  have p : 0 < gl (lowl l) := by
    refine Nat.pos_of_ne_zero fun z => ?_
    rw [z, Nat.zero_mul] at d2
    have := Nat.eq_zero_of_zero_dvd d2
    omega
  have : gl (lowl l) * gl l ≤ 1 * gl l := by omega
  have := Nat.le_of_mul_le_mul_right this h
  omega
theorem det_pos_gl {m : M4} (h : m.det ≠ 0) : 0 < gl m.l := by
  refine Nat.pos_of_ne_zero fun z => h ?_
  have key : ∀ x ∈ m.l, x = 0 := fun x hx => by
    have := gl_dvd m.l x hx
    rw [z] at this
    exact Int.zero_dvd.mp this
  have ha : m.a = 0 := key _ (by simp [M4.l])
  have hb : m.b = 0 := key _ (by simp [M4.l])
  unfold M4.det
  rw [ha, hb]
  simp
theorem low_det {m : M4} (h : m.det ≠ 0) : m.det = (gl m.l : Int) * (gl m.l : Int) * m.low.det := by
  have g := fun x hx => gl_dvd m.l x hx
  have ea := Int.mul_ediv_cancel' (g m.a (by simp [M4.l]))
  have eb := Int.mul_ediv_cancel' (g m.b (by simp [M4.l]))
  have ec := Int.mul_ediv_cancel' (g m.c (by simp [M4.l]))
  have ed := Int.mul_ediv_cancel' (g m.d (by simp [M4.l]))
  unfold M4.det M4.low
  show m.a * m.d - m.b * m.c = _ * (m.a / (gl m.l : Int) * (m.d / (gl m.l : Int)) - m.b / (gl m.l : Int) * (m.c / (gl m.l : Int)))
  generalize (gl m.l : Int) = k at *
  generalize m.a / k = a at *
  generalize m.b / k = b at *
  generalize m.c / k = c at *
  generalize m.d / k = d at *
  rw [← ea, ← eb, ← ec, ← ed, Int.mul_sub]
  have e1 : k * a * (k * d) = k * k * (a * d) := by simp [Int.mul_comm, Int.mul_assoc, Int.mul_left_comm]
  have e2 : k * b * (k * c) = k * k * (b * c) := by simp [Int.mul_comm, Int.mul_assoc, Int.mul_left_comm]
  rw [e1, e2]
theorem low_nn {m : M4} (h : Nn m) : Nn m.low := ⟨Int.ediv_nonneg h.a (Int.natCast_nonneg _), Int.ediv_nonneg h.b (Int.natCast_nonneg _), Int.ediv_nonneg h.c (Int.natCast_nonneg _), Int.ediv_nonneg h.d (Int.natCast_nonneg _)⟩
theorem low_mp {m : M4} (h : Nn m) (hd : m.det ≠ 0) : Mp m.low := by
  refine ⟨low_nn h, fun z => hd ?_, ?_⟩
  · rw [low_det hd, z, Int.mul_zero]
  · rw [low_l]
    exact lowl_gl (det_pos_gl hd)
theorem low_det_le {m : M4} (hd : m.det ≠ 0) : m.low.det.natAbs ≤ m.det.natAbs := by
  have g := det_pos_gl hd
  have e := congrArg Int.natAbs (low_det hd)
  rw [Int.natAbs_mul, Int.natAbs_mul, Int.natAbs_natCast] at e
  rw [e]
  have : 1 ≤ gl m.l * gl m.l := Nat.mul_pos g g
  exact Nat.le_mul_of_pos_left _ this
theorem div_le {x : Int} {k : Nat} (h : 0 ≤ x) : x / (k : Int) ≤ x := by
  by_cases h0 : k = 0
  · rw [h0]
    simpa using h
  · exact Int.ediv_le_self _ h
/-- great integers bounded by n -/
structure Le (n : Int) (m : M4) : Prop where
  a : m.a ≤ n
  b : m.b ≤ n
  c : m.c ≤ n
  d : m.d ≤ n
theorem low_le {m : M4} {n : Int} (h : Nn m) (l : Le n m) : Le n m.low :=
  ⟨Int.le_trans (div_le h.a) l.a, Int.le_trans (div_le h.b) l.b, Int.le_trans (div_le h.c) l.c, Int.le_trans (div_le h.d) l.d⟩
theorem mul_nn {m n : M4} (h : Nn m) (k : Nn n) : Nn (m.mul n) :=
  ⟨Int.add_nonneg (Int.mul_nonneg h.a k.a) (Int.mul_nonneg h.b k.c), Int.add_nonneg (Int.mul_nonneg h.a k.b) (Int.mul_nonneg h.b k.d),
    Int.add_nonneg (Int.mul_nonneg h.c k.a) (Int.mul_nonneg h.d k.c), Int.add_nonneg (Int.mul_nonneg h.c k.b) (Int.mul_nonneg h.d k.d)⟩
/-- a map that is in lowest terms stays -/
theorem Mp.low {m : M4} (h : Mp m) : m.low = m := by
  unfold M4.low
  rw [h.gd]
  simp
end Lr

set_option exponentiation.threshold 5000
namespace Lr
open PySem PySem.Spec PyProof.Rows L2
/-! draws in a row, by a comprehension -/
def Cs (H2 : Hp) (a D : Addr) (m : Nat) (t : Int) (i : Nat) (H3 : Hp) : Prop :=
  ∃ xs : List Int, xs.length = i ∧ (∀ x ∈ xs, 0 ≤ x ∧ x < t) ∧ H3 D = some (.lst (xs.map V.int)) ∧ Pu H3 a (m + i) ∧ Kp a H2 H3
theorem cs_start {H2 : Hp} {a D : Addr} {m : Nat} {t : Int} (hD : H2 D = none) (hp : Pu H2 a m) : Cs H2 a D m t 0 (upd H2 D (.lst [])) :=
  ⟨[], rfl, fun x hx => absurd hx List.not_mem_nil, upd_same, hp.new hD, (Kp.refl a H2).new hD⟩
theorem Pu.upd {H : Hp} {a p : Addr} {o : HO} {n : Nat} (h : Pu H a n) (ne : a ≠ p) : Pu (L2.upd H p o) a n := by
  obtain ⟨p0, p1, p2, h1, h2⟩ := h
  exact ⟨p0, p1, p2, by rw [upd_ne ne]; exact h1, h2⟩
theorem Kp.upd' {a : Addr} {H H' : Hp} {p : Addr} {o : HO} (x : Kp a H H') (h : H p = none) : Kp a H (L2.upd H' p o) := fun b u n z => by
  rw [upd_ne (ne_of_none z h)]
  exact x b u n z
theorem cs_step {H2 H3 H4 : Hp} {a D : Addr} {m i : Nat} {t r : Int} (h : Cs H2 a D m t i H3) (hi : i ≤ 1000) (hD : H2 D = none) (hp : Pu H2 a m) (hp4 : Pu H4 a (m + i + 1)) (k : Kp a H3 H4) (r0 : 0 ≤ r) (r1 : r < t) :
    ∃ acc, H4 D = some (.lst acc) ∧ acc.length < sizeLine ∧ Cs H2 a D m t (i + 1) (upd H4 D (.lst (acc ++ [.int r]))) := by
  obtain ⟨xs, hl, hx, e, p3, k3⟩ := h
  have ne : D ≠ a := fun z => hp.ne hD z.symm
  refine ⟨xs.map V.int, k D _ ne e, ?_, xs ++ [r], by rw [List.length_append, hl]; rfl, ?_, ?_, hp4.upd ne.symm, (k3.trans k).upd' hD⟩
  · rw [List.length_map, hl]
    exact Nat.lt_of_le_of_lt hi (by decide)
  · intro x hx'
    rcases List.mem_append.mp hx' with z | z
    · exact hx x z
    · rw [List.mem_singleton.mp z]
      exact ⟨r0, r1⟩
  · rw [upd_same, List.map_append]
    rfl
theorem Cs.pu {H2 H3 : Hp} {a D : Addr} {m i : Nat} {t : Int} (h : Cs H2 a D m t i H3) : Pu H3 a (m + i) := by
  obtain ⟨xs, _, _, _, p, _⟩ := h
  exact p
theorem cs_four {H2 H3 : Hp} {a D : Addr} {m : Nat} {t : Int} (h : Cs H2 a D m t 4 H3) : ∃ q : M4, Nn q ∧ Le (t - 1) q ∧ H3 D = some (.lst (q.l.map V.int)) ∧ Pu H3 a (m + 4) ∧ Kp a H2 H3 := by
  obtain ⟨xs, hl, hx, e, p3, k3⟩ := h
  match xs, hl with
  | [x, y, z, w], _ =>
    have hx1 := hx x (by simp)
    have hx2 := hx y (by simp)
    have hx3 := hx z (by simp)
    have hx4 := hx w (by simp)
    exact ⟨⟨x, y, z, w⟩, ⟨hx1.1, hx2.1, hx3.1, hx4.1⟩, ⟨by show x ≤ _; omega, by show y ≤ _; omega, by show z ≤ _; omega, by show w ≤ _; omega⟩, e, p3, k3⟩
/-- a map of bounded integers, bounded by bits -/
theorem bd4 {m : M4} {n : Int} {k : Nat} (h : Nn m) (l : Le n m) (hn : n < 2 ^ k) : ∀ i ∈ m.l, Bd k i := by
  intro i hi
  have g : ∀ x, 0 ≤ x → x ≤ n → Bd k x := fun x x0 x1 => bd_le x0 (by omega)
  simp only [M4.l, List.mem_cons, List.not_mem_nil, or_false] at hi
  rcases hi with rfl | rfl | rfl | rfl
  · exact g _ h.a l.a
  · exact g _ h.b l.b
  · exact g _ h.c l.c
  · exact g _ h.d l.d
theorem bd_gl {l : List Int} {k : Nat} {x : Int} (hx : x ∈ l) (h0 : x ≠ 0) (h : Bd k x) : Bd k (gl l : Nat) := by
  unfold Bd at *
  have := gl_le hx h0
  rw [Int.natAbs_natCast]
  omega
theorem det_gl {m : M4} {k : Nat} (h : m.det ≠ 0) (hb : ∀ i ∈ m.l, Bd k i) : Bd k (gl m.l : Nat) := by
  have key : m.a ≠ 0 ∨ m.b ≠ 0 := by
    by_cases ha : m.a = 0
    · by_cases hb : m.b = 0
      · exfalso
        apply h
        unfold M4.det
        rw [ha, hb]
        simp
      · exact .inr hb
    · exact .inl ha
  rcases key with g | g
  · exact bd_gl (x := m.a) (by simp [M4.l]) g (hb _ (by simp [M4.l]))
  · exact bd_gl (x := m.b) (by simp [M4.l]) g (hb _ (by simp [M4.l]))
end Lr
namespace Lr
open PySem PySem.Spec PyProof.Rows L2
theorem bd_mat {w : List Bool} {k : Nat} (h : w.length ≤ k) : ∀ i ∈ (mat w).l, Bd (k + 1) i := by
  obtain ⟨h1, h2⟩ := mat_le w
  have h3 := pow_lt h
  have n := mat_nn w
  obtain ⟨a, b, c, d⟩ := n
  have e : (2 : Int) ^ (k + 1) = 2 ^ k * 2 := Int.pow_succ ..
  have p : (0 : Int) < 2 ^ k := Int.pow_pos (by decide)
  intro i hi
  have g : ∀ x, 0 ≤ x → x ≤ 2 ^ k → Bd (k + 1) x := fun x x0 x1 => bd_le x0 (by omega)
  simp only [M4.l, List.mem_cons, List.not_mem_nil, or_false] at hi
  rcases hi with rfl | rfl | rfl | rfl
  · exact g _ a (by omega)
  · exact g _ b (by omega)
  · exact g _ c (by omega)
  · exact g _ d (by omega)
end Lr
namespace Lr
open PySem PySem.Spec PyProof.Rows L2
/-- two ways of an expression that meet, behind the test -/
theorem meetE {c : Bool} {ta tb : TE} {σ : L2.St} {H : Hp} {Q : VK} (P : V → Hp → Prop) (h1 : c = true → ∀ R : VK, (∀ v H', P v H' → R v H') → ta σ H R)
    (h2 : c = false → ∀ R : VK, (∀ v H', P v H' → R v H') → tb σ H R) (q : ∀ v H', P v H' → Q v H') : if c = true then ta σ H Q else tb σ H Q := by
  cases c with
  | true => exact iteT (h1 rfl Q q)
  | false => exact iteF (h2 rfl Q q)
end Lr

set_option exponentiation.threshold 5000
namespace Lr
open PySem PySem.Spec PyProof.Rows L2
theorem gl2 (x y : Int) : gl [x, y] = Nat.gcd x.natAbs y.natAbs := by
  show Nat.gcd (Nat.gcd 0 x.natAbs) y.natAbs = _
  rw [Nat.gcd_zero_left]
/-- what is a multiple of a pair without a common divisor -/
theorem scale_low {g e P R X Y : Int} (hg : 0 < g) (he : 0 < e) (eP : g * P = e * X) (eR : g * R = e * Y) (xy : Nat.gcd X.natAbs Y.natAbs = 1) : lowl [P, R] = [X, Y] := by
  have k1 : g.natAbs * gl [P, R] = e.natAbs := by
    rw [gl2, ← Nat.gcd_mul_left, ← Int.natAbs_mul, ← Int.natAbs_mul, eP, eR, Int.natAbs_mul, Int.natAbs_mul, Nat.gcd_mul_left, xy, Nat.mul_one]
  have k2 : g * (gl [P, R] : Int) = e := by
    have := congrArg (Nat.cast (R := Int)) k1
    rw [Int.natCast_mul, Int.natAbs_of_nonneg (by omega), Int.natAbs_of_nonneg (by omega)] at this
    exact this
  have kp : (gl [P, R] : Int) ≠ 0 := by
    intro z
    rw [z] at k2
    omega
  have e1 : P = (gl [P, R] : Int) * X := Int.eq_of_mul_eq_mul_left (show g ≠ 0 by omega) (by rw [eP, ← Int.mul_assoc, k2])
  have e2 : R = (gl [P, R] : Int) * Y := Int.eq_of_mul_eq_mul_left (show g ≠ 0 by omega) (by rw [eR, ← Int.mul_assoc, k2])
  have f1 : P / (gl [P, R] : Int) = X := by
    conv => lhs; lhs; rw [e1]
    exact Int.mul_ediv_cancel_left _ kp
  have f2 : R / (gl [P, R] : Int) = Y := by
    conv => lhs; lhs; rw [e2]
    exact Int.mul_ediv_cancel_left _ kp
  show [P / (gl [P, R] : Int), R / (gl [P, R] : Int)] = [X, Y]
  rw [f1, f2]
/-- the two integers of what is sent back -/
def bU (m : M4) (x y : Int) : Int := m.d * x - m.b * y
def bV (m : M4) (x y : Int) : Int := m.a * y - m.c * x
theorem back_a (m : M4) (x y : Int) : m.a * bU m x y + m.b * bV m x y = m.det * x := by
  unfold bU bV M4.det
  rw [Int.mul_sub, Int.mul_sub, Int.sub_mul]
  have e1 : m.a * (m.d * x) = m.a * m.d * x := by rw [Int.mul_assoc]
  have e2 : m.a * (m.b * y) = m.b * (m.a * y) := by rw [Int.mul_left_comm]
  have e3 : m.b * (m.c * x) = m.b * m.c * x := by rw [Int.mul_assoc]
  omega
theorem back_c (m : M4) (x y : Int) : m.c * bU m x y + m.d * bV m x y = m.det * y := by
  unfold bU bV M4.det
  rw [Int.mul_sub, Int.mul_sub, Int.sub_mul]
  have e1 : m.c * (m.d * x) = m.d * (m.c * x) := by rw [Int.mul_left_comm]
  have e2 : m.c * (m.b * y) = m.b * m.c * y := by rw [Int.mul_left_comm, Int.mul_assoc]
  have e3 : m.d * (m.a * y) = m.a * m.d * y := by rw [Int.mul_left_comm, Int.mul_assoc]
  omega
theorem mul_sign {u v : Int} (h : 0 < u * v) : (0 < u ∧ 0 < v) ∨ (u < 0 ∧ v < 0) := by
  rcases Int.lt_trichotomy u 0 with hu | hu | hu
  · rcases Int.lt_trichotomy v 0 with hv | hv | hv
    · exact .inr ⟨hu, hv⟩
    · rw [hv] at h
      simp at h
    · have := Int.mul_neg_of_neg_of_pos hu hv
      omega
  · rw [hu] at h
    simp at h
  · rcases Int.lt_trichotomy v 0 with hv | hv | hv
    · have := Int.mul_neg_of_pos_of_neg hu hv
      omega
    · rw [hv] at h
      simp at h
    · exact .inl ⟨hu, hv⟩
/-- the signs of both, by the size -/
theorem back_sign {m : M4} (n : Nn m) {x y : Int} (hx : 1 ≤ x) (h : 0 < bU m x y * bV m x y) : (0 < m.det → 0 < bU m x y ∧ 0 < bV m x y) ∧ (m.det < 0 → bU m x y < 0 ∧ bV m x y < 0) := by
  have e := back_a m x y
  constructor
  · intro d
    rcases mul_sign h with g | g
    · exact g
    · exfalso
      have h1 := Int.mul_nonneg n.a (show 0 ≤ -bU m x y by omega)
      have h2 := Int.mul_nonneg n.b (show 0 ≤ -bV m x y by omega)
      rw [Int.mul_neg] at h1 h2
      have h3 := Int.mul_pos d (show 0 < x by omega)
      omega
  · intro d
    rcases mul_sign h with g | g
    · exfalso
      have h1 := Int.mul_nonneg n.a (show 0 ≤ bU m x y by omega)
      have h2 := Int.mul_nonneg n.b (show 0 ≤ bV m x y by omega)
      have h3 := Int.mul_neg_of_neg_of_pos d (show 0 < x by omega)
      omega
    · exact g
theorem nat_bU {m : M4} (n : Nn m) (hd : m.det ≠ 0) {x y : Int} (hx : 1 ≤ x) (h : 0 < bU m x y * bV m x y) :
    m.a * ((bU m x y).natAbs : Int) + m.b * ((bV m x y).natAbs : Int) = (m.det.natAbs : Int) * x ∧ m.c * ((bU m x y).natAbs : Int) + m.d * ((bV m x y).natAbs : Int) = (m.det.natAbs : Int) * y := by
  obtain ⟨s1, s2⟩ := back_sign n hx h
  have ea := back_a m x y
  have ec := back_c m x y
  rcases Int.lt_trichotomy m.det 0 with d | d | d
  · obtain ⟨u, v⟩ := s2 d
    rw [show ((bU m x y).natAbs : Int) = -bU m x y by omega, show ((bV m x y).natAbs : Int) = -bV m x y by omega, show (m.det.natAbs : Int) = -m.det by omega]
    simp only [Int.mul_neg, Int.neg_mul]
    omega
  · exact absurd d hd
  · obtain ⟨u, v⟩ := s1 d
    rw [show ((bU m x y).natAbs : Int) = bU m x y by omega, show ((bV m x y).natAbs : Int) = bV m x y by omega, show (m.det.natAbs : Int) = m.det by omega]
    exact ⟨ea, ec⟩
/-- what is sent back is sent there -/
theorem back_low {m : M4} (n : Nn m) (hd : m.det ≠ 0) {x y : Int} (hx : 1 ≤ x) (hy : 1 ≤ y) (xy : Nat.gcd x.natAbs y.natAbs = 1) (h : 0 < bU m x y * bV m x y) :
    ∃ u v : Int, lowl [((bU m x y).natAbs : Int), ((bV m x y).natAbs : Int)] = [u, v] ∧ 1 ≤ u ∧ 1 ≤ v ∧ gl [u, v] = 1 ∧ u ≤ ((bU m x y).natAbs : Int) ∧ v ≤ ((bV m x y).natAbs : Int) ∧ lowl [m.a * u + m.b * v, m.c * u + m.d * v] = [x, y] := by
  obtain ⟨e1, e2⟩ := nat_bU n hd hx h
  have h0 : bU m x y ≠ 0 ∧ bV m x y ≠ 0 := by
    constructor <;> intro z <;> rw [z] at h <;> simp at h
  generalize hU : ((bU m x y).natAbs : Int) = U at *
  generalize hV : ((bV m x y).natAbs : Int) = W at *
  have U0 : 0 < U := by omega
  have W0 : 0 < W := by omega
  have gp : 0 < gl [U, W] := gl_pos (x := U) List.mem_cons_self (by omega)
  have d1 : ((gl [U, W] : Nat) : Int) ∣ U := gl_dvd _ _ List.mem_cons_self
  have d2 : ((gl [U, W] : Nat) : Int) ∣ W := gl_dvd _ _ (List.mem_cons_of_mem _ List.mem_cons_self)
  have q1 := Int.mul_ediv_cancel' d1
  have q2 := Int.mul_ediv_cancel' d2
  have el : lowl [U, W] = [U / (gl [U, W] : Int), W / (gl [U, W] : Int)] := rfl
  have eg := lowl_gl gp
  rw [el] at eg
  have l1 := div_le (k := gl [U, W]) (show 0 ≤ U by omega)
  have l2 := div_le (k := gl [U, W]) (show 0 ≤ W by omega)
  refine ⟨_, _, el, ?_, ?_, eg, l1, l2, ?_⟩
  · by_cases z : U / (gl [U, W] : Int) ≤ 0
    · have := Int.ediv_nonneg (show 0 ≤ U by omega) (Int.natCast_nonneg (gl [U, W]))
      have : U / (gl [U, W] : Int) = 0 := by omega
      rw [this] at q1
      omega
    · omega
  · by_cases z : W / (gl [U, W] : Int) ≤ 0
    · have := Int.ediv_nonneg (show 0 ≤ W by omega) (Int.natCast_nonneg (gl [U, W]))
      have : W / (gl [U, W] : Int) = 0 := by omega
      rw [this] at q2
      omega
    · omega
  · refine scale_low (g := (gl [U, W] : Int)) (e := (m.det.natAbs : Int)) (by omega) (by omega) ?_ ?_ xy
    · rw [← e1, Int.mul_add, ← Int.mul_assoc, ← Int.mul_assoc, Int.mul_comm _ m.a, Int.mul_comm _ m.b, Int.mul_assoc, Int.mul_assoc, q1, q2]
    · rw [← e2, Int.mul_add, ← Int.mul_assoc, ← Int.mul_assoc, Int.mul_comm _ m.c, Int.mul_comm _ m.d, Int.mul_assoc, Int.mul_assoc, q1, q2]
end Lr
namespace Lr
open PySem PySem.Spec PyProof.Rows L2
theorem fact_pos {m : M4} (n : Nn m) (d : 0 < m.det) {x y : Int} (hx : 1 ≤ x) : (m.b * y < x * m.d ∧ x * m.c < m.a * y) ↔ 0 < bU m x y * bV m x y := by
  rw [Int.mul_comm x m.d, Int.mul_comm x m.c]
  constructor
  · rintro ⟨h1, h2⟩
    exact Int.mul_pos (show 0 < m.d * x - m.b * y by omega) (show 0 < m.a * y - m.c * x by omega)
  · intro h
    obtain ⟨h1, h2⟩ := (back_sign n hx h).1 d
    have h1 : 0 < m.d * x - m.b * y := h1
    have h2 : 0 < m.a * y - m.c * x := h2
    omega
theorem fact_neg {m : M4} (n : Nn m) (d : m.det < 0) {x y : Int} (hx : 1 ≤ x) : (m.a * y < x * m.c ∧ x * m.d < m.b * y) ↔ 0 < bU m x y * bV m x y := by
  rw [Int.mul_comm x m.d, Int.mul_comm x m.c]
  constructor
  · rintro ⟨h1, h2⟩
    have := Int.mul_pos (show 0 < -(m.d * x - m.b * y) by omega) (show 0 < -(m.a * y - m.c * x) by omega)
    rw [Int.neg_mul_neg] at this
    exact this
  · intro h
    obtain ⟨h1, h2⟩ := (back_sign n hx h).2 d
    have h1 : m.d * x - m.b * y < 0 := h1
    have h2 : m.a * y - m.c * x < 0 := h2
    omega
theorem shw_non : Shw PyData.none := ⟨rfl, rfl, by show (0 : Nat) ≤ 60; omega, rfl, Nat.zero_le _⟩
theorem Bd.le' {k : Nat} {x y : Int} (h : Bd k y) (l : x.natAbs ≤ y.natAbs) : Bd k x := Nat.lt_of_le_of_lt l h
end Lr
namespace Lr
open PySem PySem.Spec PyProof.Rows L2
theorem map_pos {m : M4} (n : Nn m) (d : m.det ≠ 0) {x y : Int} (hx : 1 ≤ x) (hy : 1 ≤ y) : 0 < m.a * x + m.b * y ∧ 0 < m.c * x + m.d * y := by
  unfold M4.det at d
  have ax := Int.mul_nonneg n.a (show 0 ≤ x by omega)
  have bx := Int.mul_nonneg n.b (show 0 ≤ y by omega)
  have cx := Int.mul_nonneg n.c (show 0 ≤ x by omega)
  have dx := Int.mul_nonneg n.d (show 0 ≤ y by omega)
  have pz : ∀ {u v : Int}, u * v = 0 → 1 ≤ v → u = 0 := fun h k => by
    rcases Int.mul_eq_zero.mp h with z | z
    · exact z
    · omega
  constructor
  · by_cases z : m.a * x + m.b * y = 0
    · exfalso
      apply d
      rw [pz (show m.a * x = 0 by omega) hx, pz (show m.b * y = 0 by omega) hy]
      simp
    · omega
  · by_cases z : m.c * x + m.d * y = 0
    · exfalso
      apply d
      rw [pz (show m.c * x = 0 by omega) hx, pz (show m.d * y = 0 by omega) hy]
      simp
    · omega
theorem iteNN {c A B : Prop} [Decidable c] (hc : ¬ c) (h : A) : if (!decide c) = true then A else B := by
  rw [decide_eq_false hc]
  exact iteT h
end Lr
namespace Lr
open PySem PySem.Spec PyProof.Rows L2
/-- a pair above 0, divided by what divides both -/
theorem low_two {P R : Int} (hP : 0 < P) (hR : 0 < R) : ∃ u v : Int, lowl [P, R] = [u, v] ∧ 1 ≤ u ∧ 1 ≤ v ∧ Nat.gcd u.natAbs v.natAbs = 1 ∧ u ≤ P ∧ v ≤ R ∧ (gl [P, R] : Int) * u = P ∧ (gl [P, R] : Int) * v = R ∧ 0 < gl [P, R] := by
  have gp : 0 < gl [P, R] := gl_pos (x := P) List.mem_cons_self (by omega)
  have d1 : ((gl [P, R] : Nat) : Int) ∣ P := gl_dvd _ _ List.mem_cons_self
  have d2 : ((gl [P, R] : Nat) : Int) ∣ R := gl_dvd _ _ (List.mem_cons_of_mem _ List.mem_cons_self)
  have q1 := Int.mul_ediv_cancel' d1
  have q2 := Int.mul_ediv_cancel' d2
  have el : lowl [P, R] = [P / (gl [P, R] : Int), R / (gl [P, R] : Int)] := rfl
  have eg := lowl_gl gp
  rw [el, gl2] at eg
  have l1 := div_le (k := gl [P, R]) (show 0 ≤ P by omega)
  have l2 := div_le (k := gl [P, R]) (show 0 ≤ R by omega)
  refine ⟨_, _, el, ?_, ?_, eg, l1, l2, q1, q2, gp⟩
  · by_cases z : P / (gl [P, R] : Int) ≤ 0
    · have := Int.ediv_nonneg (show 0 ≤ P by omega) (Int.natCast_nonneg (gl [P, R]))
      have : P / (gl [P, R] : Int) = 0 := by omega
      rw [this] at q1
      omega
    · omega
  · by_cases z : R / (gl [P, R] : Int) ≤ 0
    · have := Int.ediv_nonneg (show 0 ≤ R by omega) (Int.natCast_nonneg (gl [P, R]))
      have : R / (gl [P, R] : Int) = 0 := by omega
      rw [this] at q2
      omega
    · omega
/-- what is sent is sent back -/
theorem sent_back {m : M4} (hd : m.det ≠ 0) {x y u v g : Int} (hx : 1 ≤ x) (hy : 1 ≤ y) (xy : Nat.gcd x.natAbs y.natAbs = 1) (hg : 0 < g) (eu : g * u = m.a * x + m.b * y) (ev : g * v = m.c * x + m.d * y) :
    0 < bU m u v * bV m u v ∧ lowl [((bU m u v).natAbs : Int), ((bV m u v).natAbs : Int)] = [x, y] := by
  have e1 : g * bU m u v = m.det * x := by
    unfold bU M4.det
    rw [Int.mul_sub, Int.mul_left_comm, eu, Int.mul_left_comm g m.b, ev, Int.mul_add, Int.mul_add, Int.sub_mul]
    have h1 : m.d * (m.a * x) = m.a * m.d * x := by rw [Int.mul_left_comm, Int.mul_assoc]
    have h2 : m.d * (m.b * y) = m.b * (m.d * y) := by rw [Int.mul_left_comm]
    have h3 : m.b * (m.c * x) = m.b * m.c * x := by rw [Int.mul_assoc]
    omega
  have e2 : g * bV m u v = m.det * y := by
    unfold bV M4.det
    rw [Int.mul_sub, Int.mul_left_comm, ev, Int.mul_left_comm g m.c, eu, Int.mul_add, Int.mul_add, Int.sub_mul]
    have h1 : m.a * (m.c * x) = m.c * (m.a * x) := by rw [Int.mul_left_comm]
    have h2 : m.a * (m.d * y) = m.a * m.d * y := by rw [Int.mul_assoc]
    have h3 : m.c * (m.b * y) = m.b * m.c * y := by rw [Int.mul_left_comm, Int.mul_assoc]
    omega
  have f1 : g * ((bU m u v).natAbs : Int) = (m.det.natAbs : Int) * x := by
    have := congrArg (fun z : Int => (z.natAbs : Int)) e1
    simp only [Int.natAbs_mul, Int.natCast_mul] at this
    rw [show ((g.natAbs : Nat) : Int) = g by omega, show ((x.natAbs : Nat) : Int) = x by omega] at this
    exact this
  have f2 : g * ((bV m u v).natAbs : Int) = (m.det.natAbs : Int) * y := by
    have := congrArg (fun z : Int => (z.natAbs : Int)) e2
    simp only [Int.natAbs_mul, Int.natCast_mul] at this
    rw [show ((g.natAbs : Nat) : Int) = g by omega, show ((y.natAbs : Nat) : Int) = y by omega] at this
    exact this
  refine ⟨?_, scale_low hg (by omega) f1 f2 xy⟩
  have p : g * bU m u v * (g * bV m u v) = m.det * m.det * (x * y) := by
    rw [e1, e2]
    simp [Int.mul_comm, Int.mul_assoc, Int.mul_left_comm]
  have q : g * bU m u v * (g * bV m u v) = g * g * (bU m u v * bV m u v) := by simp [Int.mul_comm, Int.mul_assoc, Int.mul_left_comm]
  have dd : 0 < m.det * m.det := by
    rcases Int.lt_trichotomy m.det 0 with d | d | d
    · exact Int.mul_pos_of_neg_of_neg d d
    · exact absurd d hd
    · exact Int.mul_pos d d
  have pos : 0 < m.det * m.det * (x * y) := Int.mul_pos dd (Int.mul_pos (by omega) (by omega))
  rw [← p, q] at pos
  have gg : 0 < g * g := Int.mul_pos hg hg
  refine Int.not_le.mp fun z => ?_
  have := Int.mul_nonneg (Int.le_of_lt gg) (show 0 ≤ -(bU m u v * bV m u v) by omega)
  rw [Int.mul_neg] at this
  omega
end Lr
namespace Lr
open PySem PySem.Spec PyProof.Rows L2
/-- a pair of ints from 0 on -/
def Pr (H : Hp) (v : V) : Prop := ∃ (q : Addr) (s t : Int), v = .ref q ∧ H q = some (.tup [.int s, .int t]) ∧ 0 ≤ s ∧ 0 ≤ t ∧ Bd 30 s ∧ Bd 30 t
theorem tup_nea {H : Hp} {a p : Addr} {n : Nat} {xs : List V} (h : Pu H a n) (hp : H p = some (.tup xs)) : p ≠ a := by
  rintro rfl
  obtain ⟨_, _, _, h1, _⟩ := h
  rw [hp] at h1
  cases h1
theorem Pr.kp {H H' : Hp} {a : Addr} {n : Nat} {v : V} (h : Pr H v) (hp : Pu H a n) (k : Kp a H H') : Pr H' v := by
  obtain ⟨q, s, t, e, hq, r⟩ := h
  exact ⟨q, s, t, e, k _ _ (tup_nea hp hq) hq, r⟩
theorem Pr.same {H H' : Hp} {v : V} (h : Pr H v) (k : Same H H') : Pr H' v := by
  obtain ⟨q, s, t, e, hq, r⟩ := h
  exact ⟨q, s, t, e, k _ _ hq, r⟩
theorem far_bd {up far : Int} (u0 : 0 ≤ up) (u1 : up ≤ 1000000) (f0 : 1 ≤ far) (f1 : far ≤ 9) : 0 ≤ up * far ∧ Bd 30 (up * far) ∧ Bd 30 (up * far + 1) := by
  have h0 := Int.mul_nonneg u0 (show 0 ≤ far by omega)
  have h1 : up * far ≤ up * 9 := Int.mul_le_mul_of_nonneg_left f1 u0
  exact ⟨h0, bd_le h0 (by omega), bd_le (by omega) (by omega)⟩
end Lr
namespace Lr
open PySem PySem.Spec PyProof.Rows L2
theorem four_new {H : Hp} {q1 q2 q3 q4 L : Addr} {o1 o2 o3 o4 o5 : HO} (n1 : H q1 = none) (n2 : L2.upd H q1 o1 q2 = none) (n3 : L2.upd (L2.upd H q1 o1) q2 o2 q3 = none) (n4 : L2.upd (L2.upd (L2.upd H q1 o1) q2 o2) q3 o3 q4 = none)
    (n5 : L2.upd (L2.upd (L2.upd (L2.upd H q1 o1) q2 o2) q3 o3) q4 o4 L = none) :
    Same H (L2.upd (L2.upd (L2.upd (L2.upd (L2.upd H q1 o1) q2 o2) q3 o3) q4 o4) L o5) ∧ L2.upd (L2.upd (L2.upd (L2.upd (L2.upd H q1 o1) q2 o2) q3 o3) q4 o4) L o5 L = some o5 ∧
    L2.upd (L2.upd (L2.upd (L2.upd (L2.upd H q1 o1) q2 o2) q3 o3) q4 o4) L o5 q1 = some o1 ∧ L2.upd (L2.upd (L2.upd (L2.upd (L2.upd H q1 o1) q2 o2) q3 o3) q4 o4) L o5 q2 = some o2 ∧
    L2.upd (L2.upd (L2.upd (L2.upd (L2.upd H q1 o1) q2 o2) q3 o3) q4 o4) L o5 q3 = some o3 ∧ L2.upd (L2.upd (L2.upd (L2.upd (L2.upd H q1 o1) q2 o2) q3 o3) q4 o4) L o5 q4 = some o4 := by
  have s1 := (L2.Same.refl H).new (o := o1) n1
  have s2 := (L2.Same.refl _).new (o := o2) n2
  have s3 := (L2.Same.refl _).new (o := o3) n3
  have s4 := (L2.Same.refl _).new (o := o4) n4
  have s5 := (L2.Same.refl _).new (o := o5) n5
  exact ⟨(((s1.trans s2).trans s3).trans s4).trans s5, upd_same, s5 _ _ (s4 _ _ (s3 _ _ (s2 _ _ upd_same))), s5 _ _ (s4 _ _ (s3 _ _ upd_same)), s5 _ _ (s4 _ _ upd_same), s5 _ _ upd_same⟩
end Lr
namespace Lr
open PySem PySem.Spec PyProof.Rows L2
theorem ifI {x k : Int} {A B : Prop} (h1 : x = k → A) (h2 : x ≠ k → B) : if decide (V.int x = V.int k) = true then A else B := by
  by_cases h : x = k
  · rw [decide_eq_true (by rw [h])]
    exact iteT (h1 h)
  · rw [decide_eq_false (fun z => h (V.int.inj z))]
    exact iteF (h2 h)
end Lr
namespace Lr
open PySem PySem.Spec PyProof.Rows L2
/-- a map of integers to 10 ** 6 -/
def Tm (H : Hp) (v : V) (m : M4) : Prop := ∃ p : Addr, v = .ref p ∧ H p = some (.tup (m.l.map V.int)) ∧ Mp m ∧ Le 1000000 m
theorem Tm.kp {H H' : Hp} {a : Addr} {n : Nat} {v : V} {m : M4} (h : Tm H v m) (hp : Pu H a n) (k : Kp a H H') : Tm H' v m := by
  obtain ⟨q, e, hq, r⟩ := h
  exact ⟨q, e, k _ _ (tup_nea hp hq) hq, r⟩
theorem Tm.same {H H' : Hp} {v : V} {m : M4} (h : Tm H v m) (k : Same H H') : Tm H' v m := by
  obtain ⟨q, e, hq, r⟩ := h
  exact ⟨q, e, k _ _ hq, r⟩
theorem Tm.of {H : Hp} {p : Addr} {m : M4} (h : H p = some (.tup (m.l.map V.int))) (mp : Mp m) (ml : Le 1000000 m) : Tm H (.ref p) m := ⟨p, rfl, h, mp, ml⟩
theorem at_any {l : List V} {r : Int} (h0 : 0 ≤ r) (h1 : r < l.length) : ∃ v ∈ l, atI l r = some v := by
  obtain ⟨j, rfl⟩ := nat_of h0
  have hj : j < l.length := by omega
  exact ⟨l[j], List.getElem_mem hj, atI_nat (by rw [List.getElem?_eq_getElem hj])⟩
theorem low_bd {m : M4} {k : Nat} (hd : m.det ≠ 0) (h : ∀ i ∈ m.l, Bd k i) : ∀ i ∈ m.low.l, Bd k i := by
  have g := det_pos_gl hd
  intro i hi
  simp only [M4.l, M4.low, List.mem_cons, List.not_mem_nil, or_false] at hi
  have g' : (0 : Int) < (gl m.l : Int) := by omega
  rcases hi with rfl | rfl | rfl | rfl
  · exact (h m.a (by simp [M4.l])).dv g'
  · exact (h m.b (by simp [M4.l])).dv g'
  · exact (h m.c (by simp [M4.l])).dv g'
  · exact (h m.d (by simp [M4.l])).dv g'
/-- two pairs that tell one fraction -/
theorem low_same {g h P R P' R' : Int} (hg : 0 < g) (hh : 0 < h) (h0 : 0 < P') (h1 : 0 < R') (e1 : g * P = h * P') (e2 : g * R = h * R') : lowl [P, R] = lowl [P', R'] := by
  obtain ⟨u, v, el, _, _, uv, _, _, gu, gv, gp⟩ := low_two h0 h1
  rw [el]
  refine scale_low (g := g) (e := h * (gl [P', R'] : Int)) hg (Int.mul_pos hh (by omega)) ?_ ?_ uv
  · rw [e1, Int.mul_assoc, gu]
  · rw [e2, Int.mul_assoc, gv]
/-- low of a multiple of nothing -/
theorem low_unit {k : Int} (hk : 0 < k) : (M4.mk k 0 0 k).low = M4.one := by
  have e : gl (M4.mk k 0 0 k).l = k.natAbs := by
    show Nat.gcd (Nat.gcd (Nat.gcd (Nat.gcd 0 k.natAbs) (0 : Int).natAbs) (0 : Int).natAbs) k.natAbs = _
    simp
  have e2 : ((k.natAbs : Nat) : Int) = k := by omega
  unfold M4.low M4.one
  rw [e, e2]
  show M4.mk (k / k) (0 / k) (0 / k) (k / k) = _
  rw [Int.ediv_self (by omega), Int.zero_ediv]
theorem low_goal {m : M4} (hd : m.det ≠ 0) (x y : Int) : (gl m.l : Int) * (m.low.a * x + m.low.b * y) = m.a * x + m.b * y ∧ (gl m.l : Int) * (m.low.c * x + m.low.d * y) = m.c * x + m.d * y := by
  have g := fun x hx => gl_dvd m.l x hx
  have ea := Int.mul_ediv_cancel' (g m.a (by simp [M4.l]))
  have eb := Int.mul_ediv_cancel' (g m.b (by simp [M4.l]))
  have ec := Int.mul_ediv_cancel' (g m.c (by simp [M4.l]))
  have ed := Int.mul_ediv_cancel' (g m.d (by simp [M4.l]))
  constructor
  · show (gl m.l : Int) * (m.a / (gl m.l : Int) * x + m.b / (gl m.l : Int) * y) = _
    rw [Int.mul_add, ← Int.mul_assoc, ← Int.mul_assoc, ea, eb]
  · show (gl m.l : Int) * (m.c / (gl m.l : Int) * x + m.d / (gl m.l : Int) * y) = _
    rw [Int.mul_add, ← Int.mul_assoc, ← Int.mul_assoc, ec, ed]
theorem mul_goal (m n : M4) (x y : Int) : (m.mul n).a * x + (m.mul n).b * y = m.a * (n.a * x + n.b * y) + m.b * (n.c * x + n.d * y) ∧ (m.mul n).c * x + (m.mul n).d * y = m.c * (n.a * x + n.b * y) + m.d * (n.c * x + n.d * y) := by
  unfold M4.mul
  simp only [Int.add_mul, Int.mul_add, Int.mul_assoc]
  omega
end Lr
namespace Lr
open PySem PySem.Spec PyProof.Rows L2
theorem goal_goal {R m : M4} (dM : (R.mul m).det ≠ 0) {x y u v g' : Int} (hg : 0 < g') (gu : g' * u = m.a * x + m.b * y) (gv : g' * v = m.c * x + m.d * y) (z0 : 0 < R.a * u + R.b * v) (z1 : 0 < R.c * u + R.d * v) :
    lowl [(R.mul m).low.a * x + (R.mul m).low.b * y, (R.mul m).low.c * x + (R.mul m).low.d * y] = lowl [R.a * u + R.b * v, R.c * u + R.d * v] := by
  obtain ⟨g1, g2⟩ := low_goal dM x y
  obtain ⟨f1, f2⟩ := mul_goal R m x y
  refine low_same (g := (gl (R.mul m).l : Int)) (h := g') (by have := det_pos_gl dM; omega) hg z0 z1 ?_ ?_
  · rw [g1, f1, ← gu, ← gv, Int.mul_add, Int.mul_left_comm g' R.a u, Int.mul_left_comm g' R.b v]
  · rw [g2, f2, ← gu, ← gv, Int.mul_add, Int.mul_left_comm g' R.c u, Int.mul_left_comm g' R.d v]
end Lr
namespace Lr
open PySem PySem.Spec PyProof.Rows L2
theorem turn_A {m : M4} (h : Mp m) (hb : m.b = 0) (hc : m.c = 0) : ((M4.mk m.d 0 0 m.a).mul m).low = M4.one ∧ (m.mul (M4.mk m.d 0 0 m.a)).low = M4.one ∧ Mp (M4.mk m.d 0 0 m.a) ∧ m.a ≠ 0 := by
  obtain ⟨a, b, c, d⟩ := m
  obtain ⟨nn, dt, gd⟩ := h
  have hb : b = 0 := hb
  have hc : c = 0 := hc
  subst hb hc
  have a0 : 0 ≤ a := nn.a
  have d0 : 0 ≤ d := nn.d
  have dt : a * d - 0 * 0 ≠ 0 := dt
  have p : 0 < a * d := by
    have := Int.mul_nonneg a0 d0
    omega
  have q : 0 < d * a := by rw [Int.mul_comm]; exact p
  have e1 : (M4.mk d 0 0 a).mul (M4.mk a 0 0 d) = M4.mk (d * a) 0 0 (d * a) := by
    unfold M4.mul
    simp [Int.mul_comm]
  have e2 : (M4.mk a 0 0 d).mul (M4.mk d 0 0 a) = M4.mk (d * a) 0 0 (d * a) := by
    unfold M4.mul
    simp [Int.mul_comm]
  refine ⟨by show ((M4.mk d 0 0 a).mul (M4.mk a 0 0 d)).low = _; rw [e1, low_unit q], by show ((M4.mk a 0 0 d).mul (M4.mk d 0 0 a)).low = _; rw [e2, low_unit q], ⟨⟨d0, Int.le_refl 0, Int.le_refl 0, a0⟩, ?_, ?_⟩, ?_⟩
  · show d * a - 0 * 0 ≠ 0
    omega
  · have : Nat.gcd (Nat.gcd (Nat.gcd (Nat.gcd 0 a.natAbs) 0) 0) d.natAbs = 1 := gd
    show Nat.gcd (Nat.gcd (Nat.gcd (Nat.gcd 0 d.natAbs) 0) 0) a.natAbs = 1
    simp at this ⊢
    rw [Nat.gcd_comm]
    exact this
  · show a ≠ 0
    rintro rfl
    simp at p
theorem turn_B {m : M4} (h : Mp m) (ha : m.a = 0) (hd : m.d = 0) : ((M4.mk 0 m.b m.c 0).mul m).low = M4.one ∧ (m.mul (M4.mk 0 m.b m.c 0)).low = M4.one ∧ Mp (M4.mk 0 m.b m.c 0) ∧ m.b ≠ 0 := by
  obtain ⟨a, b, c, d⟩ := m
  have ha : a = 0 := ha
  have hd : d = 0 := hd
  subst ha hd
  have b0 : 0 ≤ b := h.nn.b
  have c0 : 0 ≤ c := h.nn.c
  have dt : 0 * 0 - b * c ≠ 0 := h.dt
  have p : 0 < b * c := by
    have := Int.mul_nonneg b0 c0
    omega
  have e1 : (M4.mk 0 b c 0).mul (M4.mk 0 b c 0) = M4.mk (b * c) 0 0 (b * c) := by
    unfold M4.mul
    simp [Int.mul_comm]
  refine ⟨by show ((M4.mk 0 b c 0).mul (M4.mk 0 b c 0)).low = _; rw [e1, low_unit p], by show ((M4.mk 0 b c 0).mul (M4.mk 0 b c 0)).low = _; rw [e1, low_unit p], h, ?_⟩
  show b ≠ 0
  rintro rfl
  simp at p
theorem mk_diag {u v : Int} (hu : 1 ≤ u) (hv : 1 ≤ v) : Nn (M4.mk u 0 0 v) ∧ (M4.mk u 0 0 v).det ≠ 0 ∧ Nn (M4.mk 0 u v 0) ∧ (M4.mk 0 u v 0).det ≠ 0 := by
  have p := Int.mul_pos (show 0 < u by omega) (show 0 < v by omega)
  refine ⟨⟨by show 0 ≤ u; omega, Int.le_refl 0, Int.le_refl 0, by show 0 ≤ v; omega⟩, ?_, ⟨Int.le_refl 0, by show 0 ≤ u; omega, by show 0 ≤ v; omega, Int.le_refl 0⟩, ?_⟩
  · show u * v - 0 * 0 ≠ 0
    omega
  · show 0 * 0 - u * v ≠ 0
    omega
end Lr

namespace Lr
open PySem PySem.Spec PyProof.Rows L2
def top (i : Nat) : Stmt := PySem.Challenge.pw_leftroads_k10_maps_behind_one_another.main.body.getD i (.Pass ⟨0, 0, 0, 0⟩)
abbrev s__law_rt_shared : Stmt := top 18
abbrev n__law_rt_shared : List Str := ["numbers", "found", "count", "left"]
theorem sc__law_rt_shared : FnScope n__law_rt_shared ["numbers"] (defScope s__law_rt_shared) := ⟨rfl, rfl, rfl, by decide +kernel, rfl, by decide +kernel, by decide +kernel⟩
abbrev s__law_rt_low : Stmt := top 19
abbrev n__law_rt_low : List Str := ["numbers", "many", "count"]
theorem sc__law_rt_low : FnScope n__law_rt_low ["numbers"] (defScope s__law_rt_low) := ⟨rfl, rfl, rfl, by decide +kernel, rfl, by decide +kernel, by decide +kernel⟩
abbrev s__law_rt_ends : Stmt := top 21
abbrev n__law_rt_ends : List Str := ["wording", "low", "high", "sign", "middle"]
theorem sc__law_rt_ends : FnScope n__law_rt_ends ["wording"] (defScope s__law_rt_ends) := ⟨rfl, rfl, rfl, by decide +kernel, rfl, by decide +kernel, by decide +kernel⟩
abbrev s__law_rt_worth : Stmt := top 22
abbrev n__law_rt_worth : List Str := ["wording", "low", "high"]
theorem sc__law_rt_worth : FnScope n__law_rt_worth ["wording"] (defScope s__law_rt_worth) := ⟨rfl, rfl, rfl, by decide +kernel, rfl, by decide +kernel, by decide +kernel⟩
abbrev s__law_coin : Stmt := top 17
abbrev n__law_coin : List Str := ["purse", "many", "drawn", "stirred"]
theorem sc__law_coin : FnScope n__law_coin ["purse", "many"] (defScope s__law_coin) := ⟨rfl, rfl, rfl, by decide +kernel, rfl, by decide +kernel, by decide +kernel⟩
abbrev s__law_rt_fraction : Stmt := top 28
abbrev n__law_rt_fraction : List Str := ["purse", "top", "found", "step", "sign", "longer"]
theorem sc__law_rt_fraction : FnScope n__law_rt_fraction ["purse", "top"] (defScope s__law_rt_fraction) := ⟨rfl, rfl, rfl, by decide +kernel, rfl, by decide +kernel, by decide +kernel⟩
abbrev s__law_rt_size : Stmt := top 25
abbrev n__law_rt_size : List Str := ["plan"]
theorem sc__law_rt_size : FnScope n__law_rt_size ["plan"] (defScope s__law_rt_size) := ⟨rfl, rfl, rfl, by decide +kernel, rfl, by decide +kernel, by decide +kernel⟩
abbrev s__law_rt_any_map : Stmt := top 27
abbrev n__law_rt_any_map : List Str := ["purse", "top", "step", "spot", "numbers"]
theorem sc__law_rt_any_map : FnScope n__law_rt_any_map ["purse"] (defScope s__law_rt_any_map) := ⟨rfl, rfl, rfl, by decide +kernel, rfl, by decide +kernel, by decide +kernel⟩
abbrev s__law_rt_turns : Stmt := top 24
abbrev n__law_rt_turns : List Str := ["wording", "low", "high"]
theorem sc__law_rt_turns : FnScope n__law_rt_turns ["wording"] (defScope s__law_rt_turns) := ⟨rfl, rfl, rfl, by decide +kernel, rfl, by decide +kernel, by decide +kernel⟩
abbrev s__law_rt_way : Stmt := top 20
abbrev n__law_rt_way : List Str := ["purse", "top", "found", "step"]
theorem sc__law_rt_way : FnScope n__law_rt_way ["purse", "top"] (defScope s__law_rt_way) := ⟨rfl, rfl, rfl, by decide +kernel, rfl, by decide +kernel, by decide +kernel⟩
abbrev s__law_rt_times : Stmt := top 23
abbrev n__law_rt_times : List Str := ["left", "right", "p", "q", "r", "s", "t", "u", "v", "w"]
theorem sc__law_rt_times : FnScope n__law_rt_times ["left", "right"] (defScope s__law_rt_times) := ⟨rfl, rfl, rfl, by decide +kernel, rfl, by decide +kernel, by decide +kernel⟩
abbrev s__law_rt_map : Stmt := top 26
abbrev n__law_rt_map : List Str := ["purse", "top", "style", "step", "spot", "numbers", "up", "down", "plain", "plan", "wording", "longer"]
theorem sc__law_rt_map : FnScope n__law_rt_map ["purse", "top"] (defScope s__law_rt_map) := ⟨rfl, rfl, rfl, by decide +kernel, rfl, by decide +kernel, by decide +kernel⟩
abbrev s__law_rt_goal : Stmt := top 29
abbrev n__law_rt_goal : List Str := ["plan", "pair"]
theorem sc__law_rt_goal : FnScope n__law_rt_goal ["plan", "pair"] (defScope s__law_rt_goal) := ⟨rfl, rfl, rfl, by decide +kernel, rfl, by decide +kernel, by decide +kernel⟩
abbrev s_is_undivided_map : Stmt := top 5
abbrev n_is_undivided_map : List Str := ["one", "a", "b", "c", "d"]
theorem sc_is_undivided_map : FnScope n_is_undivided_map ["one"] (defScope s_is_undivided_map) := ⟨rfl, rfl, rfl, by decide +kernel, rfl, by decide +kernel, by decide +kernel⟩
abbrev s_is_map : Stmt := top 7
abbrev n_is_map : List Str := ["one", "a", "b", "c", "d"]
theorem sc_is_map : FnScope n_is_map ["one"] (defScope s_is_map) := ⟨rfl, rfl, rfl, by decide +kernel, rfl, by decide +kernel, by decide +kernel⟩
abbrev s_check_map : Stmt := top 8
abbrev n_check_map : List Str := ["one"]
theorem sc_check_map : FnScope n_check_map ["one"] (defScope s_check_map) := ⟨rfl, rfl, rfl, by decide +kernel, rfl, by decide +kernel, by decide +kernel⟩
abbrev s_times : Stmt := top 10
abbrev n_times : List Str := ["one", "other", "a", "b", "c", "d", "e", "f", "g", "h"]
theorem sc_times : FnScope n_times ["one", "other"] (defScope s_times) := ⟨rfl, rfl, rfl, by decide +kernel, rfl, by decide +kernel, by decide +kernel⟩
abbrev s_check_undivided_map : Stmt := top 6
abbrev n_check_undivided_map : List Str := ["one"]
theorem sc_check_undivided_map : FnScope n_check_undivided_map ["one"] (defScope s_check_undivided_map) := ⟨rfl, rfl, rfl, by decide +kernel, rfl, by decide +kernel, by decide +kernel⟩
abbrev s_least_map : Stmt := top 12
abbrev n_least_map : List Str := ["a", "b", "c", "d", "divisor"]
theorem sc_least_map : FnScope n_least_map ["a", "b", "c", "d"] (defScope s_least_map) := ⟨rfl, rfl, rfl, by decide +kernel, rfl, by decide +kernel, by decide +kernel⟩
abbrev s_behind : Stmt := top 13
abbrev n_behind : List Str := ["one", "other", "a", "b", "c", "d"]
theorem sc_behind : FnScope n_behind ["one", "other"] (defScope s_behind) := ⟨rfl, rfl, rfl, by decide +kernel, rfl, by decide +kernel, by decide +kernel⟩
abbrev s_turned : Stmt := top 14
abbrev n_turned : List Str := ["one", "a", "b", "c", "d"]
theorem sc_turned : FnScope n_turned ["one"] (defScope s_turned) := ⟨rfl, rfl, rfl, by decide +kernel, rfl, by decide +kernel, by decide +kernel⟩
abbrev s__law_right : Stmt := top 30
abbrev n__law_right : List Str := ["purse", "plan", "rival", "due", "pair", "up", "down"]
theorem sc__law_right : FnScope n__law_right ["purse"] (defScope s__law_right) := ⟨rfl, rfl, rfl, by decide +kernel, rfl, by decide +kernel, by decide +kernel⟩
abbrev s__law_purse : Stmt := top 16
abbrev n__law_purse : List Str := ["script", "place", "cell"]
theorem sc__law_purse : FnScope n__law_purse ["script", "place"] (defScope s__law_purse) := ⟨rfl, rfl, rfl, by decide +kernel, rfl, by decide +kernel, by decide +kernel⟩
abbrev s_law : Stmt := top 31
abbrev n_law : List Str := ["script", "spot"]
theorem sc_law : FnScope n_law ["script"] (defScope s_law) := ⟨rfl, rfl, rfl, by decide +kernel, rfl, by decide +kernel, by decide +kernel⟩
/-- what the top leaves: where each def stands, which names are still the built-in ones -/
structure Tx (K : PySem.W.Frag) (mg : Str → Option Value) where
  a__law_rt_shared : Addr
  fd__law_rt_shared : FuncData
  F__law_rt_shared : Fun K "_law_rt_shared" "_law_rt_shared" s__law_rt_shared a__law_rt_shared fd__law_rt_shared
  g__law_rt_shared : mg "_law_rt_shared" = some (.ref a__law_rt_shared)
  a__law_rt_low : Addr
  fd__law_rt_low : FuncData
  F__law_rt_low : Fun K "_law_rt_low" "_law_rt_low" s__law_rt_low a__law_rt_low fd__law_rt_low
  g__law_rt_low : mg "_law_rt_low" = some (.ref a__law_rt_low)
  a__law_rt_ends : Addr
  fd__law_rt_ends : FuncData
  F__law_rt_ends : Fun K "_law_rt_ends" "_law_rt_ends" s__law_rt_ends a__law_rt_ends fd__law_rt_ends
  g__law_rt_ends : mg "_law_rt_ends" = some (.ref a__law_rt_ends)
  a__law_rt_worth : Addr
  fd__law_rt_worth : FuncData
  F__law_rt_worth : Fun K "_law_rt_worth" "_law_rt_worth" s__law_rt_worth a__law_rt_worth fd__law_rt_worth
  g__law_rt_worth : mg "_law_rt_worth" = some (.ref a__law_rt_worth)
  a__law_coin : Addr
  fd__law_coin : FuncData
  F__law_coin : Fun K "_law_coin" "_law_coin" s__law_coin a__law_coin fd__law_coin
  g__law_coin : mg "_law_coin" = some (.ref a__law_coin)
  a__law_rt_fraction : Addr
  fd__law_rt_fraction : FuncData
  F__law_rt_fraction : Fun K "_law_rt_fraction" "_law_rt_fraction" s__law_rt_fraction a__law_rt_fraction fd__law_rt_fraction
  g__law_rt_fraction : mg "_law_rt_fraction" = some (.ref a__law_rt_fraction)
  a__law_rt_size : Addr
  fd__law_rt_size : FuncData
  F__law_rt_size : Fun K "_law_rt_size" "_law_rt_size" s__law_rt_size a__law_rt_size fd__law_rt_size
  g__law_rt_size : mg "_law_rt_size" = some (.ref a__law_rt_size)
  a__law_rt_any_map : Addr
  fd__law_rt_any_map : FuncData
  F__law_rt_any_map : Fun K "_law_rt_any_map" "_law_rt_any_map" s__law_rt_any_map a__law_rt_any_map fd__law_rt_any_map
  g__law_rt_any_map : mg "_law_rt_any_map" = some (.ref a__law_rt_any_map)
  a__law_rt_turns : Addr
  fd__law_rt_turns : FuncData
  F__law_rt_turns : Fun K "_law_rt_turns" "_law_rt_turns" s__law_rt_turns a__law_rt_turns fd__law_rt_turns
  g__law_rt_turns : mg "_law_rt_turns" = some (.ref a__law_rt_turns)
  a__law_rt_way : Addr
  fd__law_rt_way : FuncData
  F__law_rt_way : Fun K "_law_rt_way" "_law_rt_way" s__law_rt_way a__law_rt_way fd__law_rt_way
  g__law_rt_way : mg "_law_rt_way" = some (.ref a__law_rt_way)
  a__law_rt_times : Addr
  fd__law_rt_times : FuncData
  F__law_rt_times : Fun K "_law_rt_times" "_law_rt_times" s__law_rt_times a__law_rt_times fd__law_rt_times
  g__law_rt_times : mg "_law_rt_times" = some (.ref a__law_rt_times)
  a__law_rt_map : Addr
  fd__law_rt_map : FuncData
  F__law_rt_map : Fun K "_law_rt_map" "_law_rt_map" s__law_rt_map a__law_rt_map fd__law_rt_map
  g__law_rt_map : mg "_law_rt_map" = some (.ref a__law_rt_map)
  a__law_rt_goal : Addr
  fd__law_rt_goal : FuncData
  F__law_rt_goal : Fun K "_law_rt_goal" "_law_rt_goal" s__law_rt_goal a__law_rt_goal fd__law_rt_goal
  g__law_rt_goal : mg "_law_rt_goal" = some (.ref a__law_rt_goal)
  a_is_undivided_map : Addr
  fd_is_undivided_map : FuncData
  F_is_undivided_map : Fun K "is_undivided_map" "is_undivided_map" s_is_undivided_map a_is_undivided_map fd_is_undivided_map
  g_is_undivided_map : mg "is_undivided_map" = some (.ref a_is_undivided_map)
  a_is_map : Addr
  fd_is_map : FuncData
  F_is_map : Fun K "is_map" "is_map" s_is_map a_is_map fd_is_map
  g_is_map : mg "is_map" = some (.ref a_is_map)
  a_check_map : Addr
  fd_check_map : FuncData
  F_check_map : Fun K "check_map" "check_map" s_check_map a_check_map fd_check_map
  g_check_map : mg "check_map" = some (.ref a_check_map)
  a_times : Addr
  fd_times : FuncData
  F_times : Fun K "times" "times" s_times a_times fd_times
  g_times : mg "times" = some (.ref a_times)
  a_check_undivided_map : Addr
  fd_check_undivided_map : FuncData
  F_check_undivided_map : Fun K "check_undivided_map" "check_undivided_map" s_check_undivided_map a_check_undivided_map fd_check_undivided_map
  g_check_undivided_map : mg "check_undivided_map" = some (.ref a_check_undivided_map)
  a_least_map : Addr
  fd_least_map : FuncData
  F_least_map : Fun K "least_map" "least_map" s_least_map a_least_map fd_least_map
  g_least_map : mg "least_map" = some (.ref a_least_map)
  a_behind : Addr
  fd_behind : FuncData
  F_behind : Fun K "behind" "behind" s_behind a_behind fd_behind
  g_behind : mg "behind" = some (.ref a_behind)
  a_turned : Addr
  fd_turned : FuncData
  F_turned : Fun K "turned" "turned" s_turned a_turned fd_turned
  g_turned : mg "turned" = some (.ref a_turned)
  a__law_right : Addr
  fd__law_right : FuncData
  F__law_right : Fun K "_law_right" "_law_right" s__law_right a__law_right fd__law_right
  g__law_right : mg "_law_right" = some (.ref a__law_right)
  a__law_purse : Addr
  fd__law_purse : FuncData
  F__law_purse : Fun K "_law_purse" "_law_purse" s__law_purse a__law_purse fd__law_purse
  g__law_purse : mg "_law_purse" = some (.ref a__law_purse)
  a_law : Addr
  fd_law : FuncData
  F_law : Fun K "law" "law" s_law a_law fd_law
  g_law : mg "law" = some (.ref a_law)
  z_abs : mg "abs" = none
  z_int : mg "int" = none
  z_tuple : mg "tuple" = none
  z_range : mg "range" = none
  z_len : mg "len" = none
  z_max : mg "max" = none
  z_min : mg "min" = none
  z_repr : mg "repr" = none
  m_gcd : mg "gcd" = some (.builtin "math.gcd")
section
variable {P : Program} {w : World} {K : PySem.W.Frag} {mg : Str → Option Value} {base : Heap}
theorem b__law_rt_shared {f : Addr} {fd : FuncData} (F : Fun K "_law_rt_shared" "_law_rt_shared" s__law_rt_shared f fd) : Binds K fd ["numbers"] [] :=
  F.binds fun _ _ _ _ _ _ us hl => match us, hl with | [_], _ => rfl
theorem b__law_rt_low {f : Addr} {fd : FuncData} (F : Fun K "_law_rt_low" "_law_rt_low" s__law_rt_low f fd) : Binds K fd ["numbers"] [] :=
  F.binds fun _ _ _ _ _ _ us hl => match us, hl with | [_], _ => rfl
theorem b__law_rt_ends {f : Addr} {fd : FuncData} (F : Fun K "_law_rt_ends" "_law_rt_ends" s__law_rt_ends f fd) : Binds K fd ["wording"] [] :=
  F.binds fun _ _ _ _ _ _ us hl => match us, hl with | [_], _ => rfl
theorem b__law_rt_worth {f : Addr} {fd : FuncData} (F : Fun K "_law_rt_worth" "_law_rt_worth" s__law_rt_worth f fd) : Binds K fd ["wording"] [] :=
  F.binds fun _ _ _ _ _ _ us hl => match us, hl with | [_], _ => rfl
theorem b__law_coin {f : Addr} {fd : FuncData} (F : Fun K "_law_coin" "_law_coin" s__law_coin f fd) : Binds K fd ["purse", "many"] [] :=
  F.binds fun _ _ _ _ _ _ us hl => match us, hl with | [_, _], _ => rfl
theorem b__law_rt_fraction {f : Addr} {fd : FuncData} (F : Fun K "_law_rt_fraction" "_law_rt_fraction" s__law_rt_fraction f fd) : Binds K fd ["purse", "top"] [] :=
  F.binds fun _ _ _ _ _ _ us hl => match us, hl with | [_, _], _ => rfl
theorem b__law_rt_size {f : Addr} {fd : FuncData} (F : Fun K "_law_rt_size" "_law_rt_size" s__law_rt_size f fd) : Binds K fd ["plan"] [] :=
  F.binds fun _ _ _ _ _ _ us hl => match us, hl with | [_], _ => rfl
theorem b__law_rt_any_map {f : Addr} {fd : FuncData} (F : Fun K "_law_rt_any_map" "_law_rt_any_map" s__law_rt_any_map f fd) : Binds K fd ["purse"] [] :=
  F.binds fun _ _ _ _ _ _ us hl => match us, hl with | [_], _ => rfl
theorem b__law_rt_turns {f : Addr} {fd : FuncData} (F : Fun K "_law_rt_turns" "_law_rt_turns" s__law_rt_turns f fd) : Binds K fd ["wording"] [] :=
  F.binds fun _ _ _ _ _ _ us hl => match us, hl with | [_], _ => rfl
theorem b__law_rt_way {f : Addr} {fd : FuncData} (F : Fun K "_law_rt_way" "_law_rt_way" s__law_rt_way f fd) : Binds K fd ["purse", "top"] [] :=
  F.binds fun _ _ _ _ _ _ us hl => match us, hl with | [_, _], _ => rfl
theorem b__law_rt_times {f : Addr} {fd : FuncData} (F : Fun K "_law_rt_times" "_law_rt_times" s__law_rt_times f fd) : Binds K fd ["left", "right"] [] :=
  F.binds fun _ _ _ _ _ _ us hl => match us, hl with | [_, _], _ => rfl
theorem b__law_rt_map {f : Addr} {fd : FuncData} (F : Fun K "_law_rt_map" "_law_rt_map" s__law_rt_map f fd) : Binds K fd ["purse", "top"] [] :=
  F.binds fun _ _ _ _ _ _ us hl => match us, hl with | [_, _], _ => rfl
theorem b__law_rt_goal {f : Addr} {fd : FuncData} (F : Fun K "_law_rt_goal" "_law_rt_goal" s__law_rt_goal f fd) : Binds K fd ["plan", "pair"] [] :=
  F.binds fun _ _ _ _ _ _ us hl => match us, hl with | [_, _], _ => rfl
theorem b_is_undivided_map {f : Addr} {fd : FuncData} (F : Fun K "is_undivided_map" "is_undivided_map" s_is_undivided_map f fd) : Binds K fd ["one"] [] :=
  F.binds fun _ _ _ _ _ _ us hl => match us, hl with | [_], _ => rfl
theorem b_is_map {f : Addr} {fd : FuncData} (F : Fun K "is_map" "is_map" s_is_map f fd) : Binds K fd ["one"] [] :=
  F.binds fun _ _ _ _ _ _ us hl => match us, hl with | [_], _ => rfl
theorem b_check_map {f : Addr} {fd : FuncData} (F : Fun K "check_map" "check_map" s_check_map f fd) : Binds K fd ["one"] [] :=
  F.binds fun _ _ _ _ _ _ us hl => match us, hl with | [_], _ => rfl
theorem b_times {f : Addr} {fd : FuncData} (F : Fun K "times" "times" s_times f fd) : Binds K fd ["one", "other"] [] :=
  F.binds fun _ _ _ _ _ _ us hl => match us, hl with | [_, _], _ => rfl
theorem b_check_undivided_map {f : Addr} {fd : FuncData} (F : Fun K "check_undivided_map" "check_undivided_map" s_check_undivided_map f fd) : Binds K fd ["one"] [] :=
  F.binds fun _ _ _ _ _ _ us hl => match us, hl with | [_], _ => rfl
theorem b_least_map {f : Addr} {fd : FuncData} (F : Fun K "least_map" "least_map" s_least_map f fd) : Binds K fd ["a", "b", "c", "d"] [] :=
  F.binds fun _ _ _ _ _ _ us hl => match us, hl with | [_, _, _, _], _ => rfl
theorem b_behind {f : Addr} {fd : FuncData} (F : Fun K "behind" "behind" s_behind f fd) : Binds K fd ["one", "other"] [] :=
  F.binds fun _ _ _ _ _ _ us hl => match us, hl with | [_, _], _ => rfl
theorem b_turned {f : Addr} {fd : FuncData} (F : Fun K "turned" "turned" s_turned f fd) : Binds K fd ["one"] [] :=
  F.binds fun _ _ _ _ _ _ us hl => match us, hl with | [_], _ => rfl
theorem b__law_right {f : Addr} {fd : FuncData} (F : Fun K "_law_right" "_law_right" s__law_right f fd) : Binds K fd ["purse"] [] :=
  F.binds fun _ _ _ _ _ _ us hl => match us, hl with | [_], _ => rfl
theorem b__law_purse {f : Addr} {fd : FuncData} (F : Fun K "_law_purse" "_law_purse" s__law_purse f fd) : Binds K fd ["script", "place"] [] :=
  F.binds fun _ _ _ _ _ _ us hl => match us, hl with | [_, _], _ => rfl
theorem b_law {f : Addr} {fd : FuncData} (F : Fun K "law" "law" s_law f fd) : Binds K fd ["script"] [] :=
  F.binds fun _ _ _ _ _ _ us hl => match us, hl with | [_], _ => rfl
def kg_behind_10 {α : Type} : List α → List α → List α
  | [], [x0, x1] => [x1, x0]
  | _, _ => []
theorem kb_behind_10 {f : Addr} {fd : FuncData} (F : Fun K "behind" "behind" s_behind f fd) : KBinds K fd ["one", "other"] ["other", "one"] kg_behind_10 kg_behind_10 := by
  obtain ⟨oc, od, kV, doc, pm, an, cdv, ct, osl, rfl, _, _⟩ := F.ex
  refine ⟨fun s us ws _ hl => ?_, fun r z => ?_⟩
  · unfold kg_behind_10 at hl ⊢
    split at hl
    · exact .of_eq rfl
    · exact absurd hl (by decide)
  · unfold kg_behind_10
    cases r with
    | nil => (cases z with | nil => exact .nil | cons r0 z => (cases z with | nil => exact .nil | cons r1 z => (cases z with | nil => exact (.cons r1 (.cons r0 .nil)) | cons _ _ => exact .nil)))
    | cons _ _ => (cases z with | nil => exact .nil | cons r0 z => (cases z with | nil => exact .nil | cons r1 z => (cases z with | nil => exact .nil | cons _ _ => exact .nil)))
def kg_turned_0 {α : Type} : List α → List α → List α
  | [], [x0] => [x0]
  | _, _ => []
theorem kb_turned_0 {f : Addr} {fd : FuncData} (F : Fun K "turned" "turned" s_turned f fd) : KBinds K fd ["one"] ["one"] kg_turned_0 kg_turned_0 := by
  obtain ⟨oc, od, kV, doc, pm, an, cdv, ct, osl, rfl, _, _⟩ := F.ex
  refine ⟨fun s us ws _ hl => ?_, fun r z => ?_⟩
  · unfold kg_turned_0 at hl ⊢
    split at hl
    · exact .of_eq rfl
    · exact absurd hl (by decide)
  · unfold kg_turned_0
    cases r with
    | nil => (cases z with | nil => exact .nil | cons r0 z => (cases z with | nil => exact (.cons r0 .nil) | cons _ _ => exact .nil))
    | cons _ _ => (cases z with | nil => exact .nil | cons r0 z => (cases z with | nil => exact .nil | cons _ _ => exact .nil))
end
section
variable {P : Program} {w : World} {K : PySem.W.Frag} {mg : Str → Option Value} {base : Heap}
/-! _law_rt_shared -/
def sp__law_rt_shared (K : PySem.W.Frag) : Sp := fun vs H Q _ => ∃ (a : Addr) (l : List Int), vs = [.ref a] ∧ Sq K H a (l.map V.int) ∧ Q (.int (gl l : Nat)) H
theorem ok__law_rt_shared (T : Tx K mg) : FnOk P w K mg base CX0 1 T.a__law_rt_shared T.fd__law_rt_shared ["numbers"] (sp__law_rt_shared K) := by
  refine T.F__law_rt_shared.ok sc__law_rt_shared (fun vs H Q E h => ?_) (fun cdv A outer s H vs Q E hr h => ?_)
  · obtain ⟨a, l, rfl, _⟩ := h
    rfl
  · obtain ⟨a, l, rfl, hs, q⟩ := h
    refine ⟨_, (pss_cons (ps_set (i := 1) sc__law_rt_shared.nd rfl (Or.inl rfl) pe_int)
  (pss_cons (ps_for PassesOwn.never rfl (pi_seq (pv 0)) (pg_name (i := 2) sc__law_rt_shared.nd rfl (Or.inl rfl))
    (pss_cons (ps_set (i := 3) sc__law_rt_shared.nd rfl (Or.inl rfl) (pe_callB call_abs (by rfl) T.z_abs (by decide +kernel) (pa_cons (pv 2) pa_nil)))
  (pss_one (ps_while PassesOwn.never (pt_cmpR op_ne (pv 3) pe_int (nomark _))
    (pss_one (ps_par (i := 1) (j := 3) (by rfl) sc__law_rt_shared.nd rfl rfl (by decide) rfl rfl (pa_cons (pv 3) (pa_cons (pe_op op_modN (pe_callTy call_int1 (by rfl) T.z_int (by decide +kernel) (pa_cons (pv 1) pa_nil)) (pe_callTy call_int1 (by rfl) T.z_int (by decide +kernel) (pa_cons (pv 3) pa_nil))) pa_nil)) (by rfl)))))))
  (pss_one (ps_ret (pv 1))))), ?_⟩
    refine ⟨_, rfl, a, _, rfl, hs, fun J hJ => for_it hJ.walk (fun i σ H' => ∃ x y : Option V, σ = [some (.ref a), some (.int (gl (l.take i) : Nat)), x, y] ∧ H' = H) ⟨none, none, rfl, rfl⟩ (fun i σ H' _ hp => ?_) ?_ ?_⟩
    · obtain ⟨_, _, _, rfl⟩ := hp
      exact L2.Same.refl _
    · rintro i x σ H' H2 hi ⟨x', y', rfl, rfl⟩ ⟨rfl, hx⟩
      rw [List.length_map] at hi
      rw [List.getElem?_map, List.getElem?_eq_getElem hi] at hx
      have ex := (Option.some.inj hx).symm
      subst ex
      generalize hc : l[i] = c
      have step : gl (l.take (i + 1)) = Nat.gcd (gl (l.take i)) c.natAbs := by
        rw [← hc, ← gl_snoc, List.take_append_getElem]
      have ea : (if c < 0 then -c else c) = (c.natAbs : Int) := by split <;> omega
      refine ⟨_, rfl, _, rfl, ?_⟩
      show tWhile _ _ _ [some (V.ref a), some (V.int (gl (l.take i) : Nat)), some (V.int c), some (V.int (if c < 0 then -c else c))] _
      rw [ea]
      refine ⟨fun m σ H' => ∃ f k : Nat, σ = [some (.ref a), some (.int (f : Nat)), some (.int c), some (.int (k : Nat))] ∧ m = k ∧ Nat.gcd f k = gl (l.take (i + 1)) ∧ H' = H2, ⟨c.natAbs, gl (l.take i), c.natAbs, rfl, rfl, step.symm, rfl⟩, ?_⟩
      rintro m σ H' ⟨f, k, rfl, rfl, hg, rfl⟩
      refine ⟨_, rfl, rfl, _, rfl, ?_⟩
      by_cases h0 : m = 0
      · subst h0
        refine iteNS rfl ?_
        rw [Nat.gcd_zero_right] at hg
        rw [← hg]
        exact ⟨_, _, rfl, rfl⟩
      · have e0 : (!decide (V.int ((m : Nat) : Int) = V.int 0)) = true := by
          rw [decide_eq_false (fun z => h0 (by have := V.int.inj z; omega))]
          rfl
        rw [e0]
        refine iteT ⟨_, fun σ' H' hn => hn, _, rfl, _, rfl, .inl ⟨_, rfl, _, rfl, .inl ⟨_, rfl, _, _, rfl, rfl, (by show ((m : Nat) : Int) ≠ 0; omega), _, _, rfl, ?_⟩⟩⟩
        have em : ((f : Nat) : Int).fmod ((m : Nat) : Int) = ((f % m : Nat) : Int) := by
          rw [Int.fmod_eq_emod_of_nonneg _ (by omega)]
          rfl
        refine ⟨f % m, Nat.mod_lt _ (by omega), m, f % m, ?_, rfl, ?_, rfl⟩
        · show [some (V.ref a), some (V.int (m : Nat)), some (V.int c), some (V.int (((f : Nat) : Int).fmod ((m : Nat) : Int)))] = _
          rw [em]
        · rw [← hg, Nat.gcd_comm f m, Nat.gcd_rec m f, Nat.gcd_comm]
    · rintro σ H' ⟨x, y, rfl, rfl⟩
      refine ⟨_, rfl, ?_⟩
      rw [List.length_map, List.take_length]
      exact q

/-! _law_rt_low -/
def sp__law_rt_low (K : PySem.W.Frag) : Sp := fun vs H Q _ => ∃ (a : Addr) (l : List Int), vs = [.ref a] ∧ Sq K H a (l.map V.int) ∧ 0 < gl l ∧ Sml (gl l : Nat) ∧ l.length ≤ 100 ∧
  ∀ H' p, Same H H' → H p = none → H' p = some (.tup ((lowl l).map V.int)) → Q (.ref p) H'
theorem ok__law_rt_low (T : Tx K mg) : FnOk P w K mg base CX0 2 T.a__law_rt_low T.fd__law_rt_low ["numbers"] (sp__law_rt_low K) := by
  have G__law_rt_shared := ok__law_rt_shared (P := P) (w := w) (base := base) T
  refine T.F__law_rt_low.ok sc__law_rt_low (fun vs H Q E h => ?_) (fun cdv A outer s H vs Q E hr h => ?_)
  · obtain ⟨a, l, rfl, _⟩ := h
    rfl
  · obtain ⟨a, l, rfl, hs, g0, gs, hl, q⟩ := h
    refine ⟨_, (pss_cons (ps_set (i := 1) sc__law_rt_low.nd rfl (Or.inr rfl) (pe_call G__law_rt_shared (hr.mono (by decide)) (by rfl) T.g__law_rt_shared T.F__law_rt_shared.kp (b__law_rt_shared T.F__law_rt_shared) .nil pass0 (pa_cons (pv 0) pa_nil)))
  (pss_one (ps_ret (pe_callTy call_tuple_of (by rfl) T.z_tuple (by decide +kernel) (pa_cons (pe_lc (own := [("count", 2)]) (g := (gName 2)) (by rfl) sc__law_rt_low.nd (pi_seq (pv 0)) (blkOk_by (own := [("count", 2)]) (N := n__law_rt_low) (sc := defScope s__law_rt_low) (by decide +kernel)) (fun _ _ _ _ _ => (pg_name (i := 2) sc__law_rt_low.nd rfl (Or.inl rfl))) (fun _ _ _ _ _ => pts_nil) (fun _ _ _ _ _ => (pe_op op_fdivL (pv 2) (pv 1)))) pa_nil))))), ?_⟩
    refine ⟨_, rfl, a, l, rfl, hs, ?_⟩
    have key : ∀ i, i < l.length → (lowl l)[i]? = some (l[i]! / (gl l : Int)) := fun i hi => by
      unfold lowl
      rw [List.getElem?_map, List.getElem?_eq_getElem hi, getElem!_pos l i hi]
      rfl
    refine ⟨_, rfl, a, _, rfl, hs, fun J hJ D hD => lc_it hJ.walk (fun i H' => Same H H' ∧ H' D = some (.lst (((lowl l).take i).map V.int))) ⟨(L2.Same.refl H).new hD, upd_same⟩ (fun i H' _ hp => hp.1) ?_ ?_⟩
    · rintro i x H1 H2 hi ⟨sm, eD⟩ ⟨rfl, hx⟩
      rw [List.length_map] at hi
      rw [List.getElem?_map, List.getElem?_eq_getElem hi] at hx
      have ex := (Option.some.inj hx).symm
      subst ex
      refine ⟨rfl, ?_⟩
      refine iteT (B := Same H H2 ∧ H2 D = some (HO.lst (List.map V.int (List.take (i + 1) (lowl l))))) ?_
      refine ⟨_, rfl, _, rfl, _, _, rfl, rfl, .inr ⟨by omega, Nat.lt_trans gs.lg (by decide)⟩, _, eD, ?_, ?_, ?_⟩
      · rw [List.length_map, List.length_take]
        exact Nat.lt_of_le_of_lt (show min i (lowl l).length ≤ 100 by omega) (by decide)
      · exact fun b o z => by rw [upd_ne (ne_of_none z hD)]; exact sm b o z
      · rw [upd_same, List.take_add_one, key i hi, List.map_append, getElem!_pos l i hi]
        show some (HO.lst (_ ++ [V.int (l[i].fdiv (gl l : Int))])) = _
        rw [Int.fdiv_eq_ediv_of_nonneg _ (by omega)]
        rfl
    · rintro H2 ⟨sm, eD⟩
      have e : (lowl l).take (List.length (List.map V.int l)) = lowl l := List.take_of_length_le (by unfold lowl; simp)
      rw [e] at eD
      refine ⟨D, _, rfl, .inl ⟨SqL.of eD, fun t nt => ?_⟩⟩
      exact q _ t (sm.new nt) (sm.free nt) upd_same

/-! _law_rt_ends -/
def sp__law_rt_ends (K : PySem.W.Frag) : Sp := fun vs H Q _ => ∃ (w : List Bool), vs = [.str (rd w)] ∧
  ∀ H' p l h, Same H H' → H p = none → H' p = some (.tup [.ref l, .ref h]) → H' l = some (.tup [.int (mat w).b, .int (mat w).d]) → H' h = some (.tup [.int (mat w).a, .int (mat w).c]) → Q (.ref p) H'
theorem ok__law_rt_ends (T : Tx K mg) : FnOk P w K mg base CX0 1 T.a__law_rt_ends T.fd__law_rt_ends ["wording"] (sp__law_rt_ends K) := by
  refine T.F__law_rt_ends.ok sc__law_rt_ends (fun vs H Q E h => ?_) (fun cdv A outer s H vs Q E hr h => ?_)
  · obtain ⟨w, rfl, _⟩ := h
    rfl
  · obtain ⟨w, rfl, q⟩ := h
    refine ⟨_, (pss_cons (ps_asg (pe_tup (pa_cons (pe_tup (pa_cons pe_int (pa_cons pe_int pa_nil))) (pa_cons (pe_tup (pa_cons pe_int (pa_cons pe_int pa_nil))) pa_nil))) (pg_tup (by rfl) (pgs_cons (pg_name (i := 1) sc__law_rt_ends.nd rfl (Or.inl rfl)) (pgs_cons (pg_name (i := 2) sc__law_rt_ends.nd rfl (Or.inl rfl)) pgs_nil))))
  (pss_cons (ps_for PassesOwn.never rfl (pi_str (pv 0)) (pg_name (i := 3) sc__law_rt_ends.nd rfl (Or.inl rfl))
    (pss_cons (ps_set (i := 4) sc__law_rt_ends.nd rfl (Or.inl rfl) (pe_tup (pa_cons (pe_op op_add (pe_ix ix_tup (pv 1) pe_int (fun _ _ => rfl)) (pe_ix ix_tup (pv 2) pe_int (fun _ _ => rfl))) (pa_cons (pe_op op_add (pe_ix ix_tup (pv 1) pe_int (fun _ _ => rfl)) (pe_ix ix_tup (pv 2) pe_int (fun _ _ => rfl))) pa_nil))))
  (pss_one (ps_if (pt_cmpR op_eq (pv 3) pe_str (nomark _)) (pss_one (ps_set (i := 1) sc__law_rt_ends.nd rfl (Or.inl rfl) (pv 4))) (pss_one (ps_set (i := 2) sc__law_rt_ends.nd rfl (Or.inl rfl) (pv 4)))))))
  (pss_one (ps_ret (pe_tup (pa_cons (pv 1) (pa_cons (pv 2) pa_nil))))))), ?_⟩
    have z2 : ([.int 0, .int 1] : List V).length ≤ sizeLine := sz (by show 2 ≤ 1000000; decide)
    refine ⟨z2, fun l nl => ⟨z2, fun g ng => ⟨sz (by show 2 ≤ 1000000; decide), fun e ne => ⟨e, _, rfl, .inl (.inl upd_same), rfl, _, _, rfl, _, _, rfl, rfl, ?_⟩⟩⟩⟩
    have nlg : l ≠ g := ne_of_none upd_same ng
    have nge : g ≠ e := ne_of_none upd_same ne
    have nle : l ≠ e := ne_of_none (by rw [upd_ne nlg]; exact upd_same) ne
    refine ⟨_, rfl, rd w, rfl, for_rd (fun pre σ H2 => ∃ (l g : Addr) (x y : Option V), σ = [some (.str (rd w)), some (.ref l), some (.ref g), x, y] ∧ Same H H2 ∧ H2 l = some (.tup [.int (mat pre).b, .int (mat pre).d]) ∧ H2 g = some (.tup [.int (mat pre).a, .int (mat pre).c]))
      ⟨l, g, none, none, rfl, (((L2.Same.refl H).new nl).new ng).new ne, by rw [upd_ne nle, upd_ne nlg, upd_same]; rfl, by rw [upd_ne nge, upd_same]; rfl⟩ ?_ ?_⟩
    · rintro pre t post σ H2 ew ⟨l, g, x, y, rfl, sm, hl, hg⟩
      refine ⟨_, rfl, l, _, _, _, rfl, rfl, SqT.of hl, rfl, _, rfl, g, _, _, _, rfl, rfl, SqT.of hg, rfl, _, _, rfl, rfl, ?_⟩
      refine ⟨_, rfl, l, _, _, _, rfl, rfl, SqT.of hl, rfl, _, rfl, g, _, _, _, rfl, rfl, SqT.of hg, rfl, _, _, rfl, rfl, sz (by show 2 ≤ 1000000; decide), fun m nm => ?_⟩
      have lm : l ≠ m := ne_of_none hl nm
      have gm : g ≠ m := ne_of_none hg nm
      refine ⟨_, rfl, rfl, _, rfl, ?_⟩
      rw [eq_R]
      cases t
      · refine iteF ⟨_, rfl, l, m, _, _, rfl, sm.new nm, by rw [upd_ne lm, hl, mat_snoc]; rfl, ?_⟩
        rw [upd_same, mat_snoc]
        show some (HO.tup [V.int ((mat pre).b + (mat pre).a), V.int ((mat pre).d + (mat pre).c)]) = some (HO.tup [V.int ((mat pre).a + (mat pre).b), V.int ((mat pre).c + (mat pre).d)])
        rw [Int.add_comm (mat pre).b, Int.add_comm (mat pre).d]
      · refine iteT ⟨_, rfl, m, g, _, _, rfl, sm.new nm, ?_, by rw [upd_ne gm, hg, mat_snoc]; rfl⟩
        rw [upd_same, mat_snoc]
        show some (HO.tup [V.int ((mat pre).b + (mat pre).a), V.int ((mat pre).d + (mat pre).c)]) = some (HO.tup [V.int ((mat pre).a + (mat pre).b), V.int ((mat pre).c + (mat pre).d)])
        rw [Int.add_comm (mat pre).b, Int.add_comm (mat pre).d]
    · rintro σ H2 ⟨l, g, x, y, rfl, sm, hl, hg⟩
      refine ⟨_, rfl, _, rfl, sz (by show 2 ≤ 1000000; decide), fun p np => ?_⟩
      exact q _ p l g (sm.new np) (sm.free np) upd_same (by rw [upd_ne (ne_of_none hl np)]; exact hl) (by rw [upd_ne (ne_of_none hg np)]; exact hg)

/-! _law_rt_worth -/
def sp__law_rt_worth (K : PySem.W.Frag) : Sp := fun vs H Q _ => ∃ (w : List Bool), vs = [.str (rd w)] ∧
  ∀ H' p, Same H H' → H p = none → H' p = some (.tup [.int (wa w), .int (wb w)]) → Q (.ref p) H'
theorem ok__law_rt_worth (T : Tx K mg) : FnOk P w K mg base CX0 2 T.a__law_rt_worth T.fd__law_rt_worth ["wording"] (sp__law_rt_worth K) := by
  have G__law_rt_ends := ok__law_rt_ends (P := P) (w := w) (base := base) T
  refine T.F__law_rt_worth.ok sc__law_rt_worth (fun vs H Q E h => ?_) (fun cdv A outer s H vs Q E hr h => ?_)
  · obtain ⟨w, rfl, _⟩ := h
    rfl
  · obtain ⟨w, rfl, q⟩ := h
    refine ⟨_, (pss_cons (ps_asg (pe_call G__law_rt_ends (hr.mono (by decide)) (by rfl) T.g__law_rt_ends T.F__law_rt_ends.kp (b__law_rt_ends T.F__law_rt_ends) .nil pass0 (pa_cons (pv 0) pa_nil)) (pg_tup (by rfl) (pgs_cons (pg_name (i := 1) sc__law_rt_worth.nd rfl (Or.inl rfl)) (pgs_cons (pg_name (i := 2) sc__law_rt_worth.nd rfl (Or.inl rfl)) pgs_nil))))
  (pss_one (ps_ret (pe_tup (pa_cons (pe_op op_add (pe_ix ix_tup (pv 1) pe_int (fun _ _ => rfl)) (pe_ix ix_tup (pv 2) pe_int (fun _ _ => rfl))) (pa_cons (pe_op op_add (pe_ix ix_tup (pv 1) pe_int (fun _ _ => rfl)) (pe_ix ix_tup (pv 2) pe_int (fun _ _ => rfl))) pa_nil)))))), ?_⟩
    refine ⟨_, rfl, w, rfl, fun H1 e l g sm ne he hl hg => ?_⟩
    refine ⟨e, _, rfl, .inl (.inl he), rfl, _, _, rfl, _, _, rfl, rfl, ?_⟩
    refine ⟨_, rfl, l, _, _, _, rfl, rfl, SqT.of hl, rfl, _, rfl, g, _, _, _, rfl, rfl, SqT.of hg, rfl, _, _, rfl, rfl, ?_⟩
    refine ⟨_, rfl, l, _, _, _, rfl, rfl, SqT.of hl, rfl, _, rfl, g, _, _, _, rfl, rfl, SqT.of hg, rfl, _, _, rfl, rfl, sz (by show 2 ≤ 1000000; decide), fun p np => ?_⟩
    refine q _ p (sm.new np) (sm.free np) ?_
    rw [upd_same]
    show some (HO.tup [V.int ((mat w).b + (mat w).a), V.int ((mat w).d + (mat w).c)]) = some (HO.tup [V.int ((mat w).a + (mat w).b), V.int ((mat w).c + (mat w).d)])
    rw [Int.add_comm (mat w).b, Int.add_comm (mat w).d]

/-! _law_coin -/
def sp__law_coin (K : PySem.W.Frag) : Sp := fun vs H Q _ => ∃ (a : Addr) (many : Int) (n : Nat), vs = [.ref a, .int many] ∧ 1 ≤ many ∧ many < 1073741824 ∧ n < 1000000000 ∧ Pu H a n ∧
  ∀ (r : Int) H', 0 ≤ r → r < many → Pu H' a (n + 1) → Kp a H H' → Q (.int r) H'
theorem ok__law_coin (T : Tx K mg) : FnOk P w K mg base CX0 1 T.a__law_coin T.fd__law_coin ["purse", "many"] (sp__law_coin K) := by
  refine T.F__law_coin.ok sc__law_coin (fun vs H Q E h => ?_) (fun cdv A outer s H vs Q E hr h => ?_)
  · obtain ⟨a, many, n, rfl, _⟩ := h
    rfl
  · obtain ⟨a, many, n, rfl, m1, m2, hn, ⟨p0, p1, p2, hp, g0, g1, g2, g3, g4⟩, q⟩ := h
    refine ⟨_, (pss_cons (ps_if (pt_cmpR op_gt (pe_ix ix_list (pv 0) pe_int (fun _ _ => rfl)) pe_int (nomark _)) (pss_cons (ps_set (i := 2) sc__law_coin.nd rfl (Or.inl rfl) (pe_op op_modN (pe_callTy call_int1 (by rfl) T.z_int (by decide +kernel) (pa_cons (pe_ix ix_list (pv 0) pe_int (fun _ _ => rfl)) pa_nil)) (pv 1)))
  (pss_cons (ps_asg (pe_op op_fdivL (pe_ix ix_list (pv 0) pe_int (fun _ _ => rfl)) (pv 1)) (pg_sub (pv 0) pe_int set_list))
  (pss_one (ps_ret (pv 2))))) pss_nil)
  (pss_cons (ps_asg (pe_op op_add (pe_ix ix_list (pv 0) pe_int (fun _ _ => rfl)) pe_int) (pg_sub (pv 0) pe_int set_list))
  (pss_cons (ps_set (i := 3) sc__law_coin.nd rfl (Or.inl rfl) (pe_op op_modN (pe_op op_powL (pe_callTy call_int1 (by rfl) T.z_int (by decide +kernel) (pa_cons (pe_op op_add (pe_ix ix_list (pv 0) pe_int (fun _ _ => rfl)) (pe_op op_mulL pe_int (pe_ix ix_list (pv 0) pe_int (fun _ _ => rfl)))) pa_nil)) pe_int) (pe_op op_add (pe_op op_powL pe_int pe_int) pe_int)))
  (pss_cons (ps_set (i := 3) sc__law_coin.nd rfl (Or.inl rfl) (pe_op op_modN (pe_op op_powL (pe_callTy call_int1 (by rfl) T.z_int (by decide +kernel) (pa_cons (pe_op op_add (pv 3) (pe_op op_mulL pe_int (pe_ix ix_list (pv 0) pe_int (fun _ _ => rfl)))) pa_nil)) pe_int) (pe_op op_add (pe_op op_powL pe_int pe_int) pe_int)))
  (pss_one (ps_ret (pe_op op_modN (pe_callTy call_int1 (by rfl) T.z_int (by decide +kernel) (pa_cons (pe_op op_fdivL (pv 3) pe_int) pa_nil)) (pv 1)))))))), ?_⟩
    have at0 {x y z : V} : atI [x, y, z] 0 = some x := rfl
    have at1 {x y z : V} : atI [x, y, z] 1 = some y := rfl
    have at2 {x y z : V} : atI [x, y, z] 2 = some z := rfl
    have mod_lo (x : Int) : 0 ≤ x.fmod many := by
      rw [Int.fmod_eq_emod_of_nonneg _ (by omega)]
      exact Int.emod_nonneg _ (by omega)
    have mod_hi (x : Int) : x.fmod many < many := by
      rw [Int.fmod_eq_emod_of_nonneg _ (by omega)]
      exact Int.emod_lt_of_pos _ (by omega)
    refine ⟨_, rfl, a, _, _, _, rfl, rfl, SqL.of hp, at0, _, _, rfl, rfl, _, rfl, ite2 (fun e => ?_) (fun e => ?_)⟩
    · refine ⟨_, rfl, a, _, _, _, rfl, rfl, SqL.of hp, at0, .inl ⟨_, rfl, _, rfl, _, _, rfl, rfl, (by show many ≠ 0; omega), ?_⟩⟩
      refine ⟨_, rfl, a, _, _, _, rfl, rfl, SqL.of hp, at0, _, rfl, _, _, rfl, rfl, .inl ⟨by omega, by omega⟩, _, rfl, a, _, _, 0, rfl, rfl, hp, rfl, ?_⟩
      refine ⟨_, rfl, q _ _ (mod_lo _) (mod_hi _) ⟨_, _, _, upd_same, ?_, g1, g2, g3, by omega⟩ (Kp.upd a H _)⟩
      rw [Int.fdiv_eq_ediv_of_nonneg _ (by omega)]
      exact Int.ediv_nonneg g0 (by omega)
    · -- purse[2] grows by one; what is stirred of it lies below 10 ** 24 + 7
      refine ⟨_, rfl, a, _, _, _, rfl, rfl, SqL.of hp, at2, _, _, rfl, rfl, _, rfl, a, _, _, 2, rfl, rfl, hp, rfl, ?_⟩
      have hp' : (upd H a (.lst [.int p0, .int p1, .int (p2 + 1)])) a = some (.lst [.int p0, .int p1, .int (p2 + 1)]) := upd_same
      have e25 : (10 : Int) ^ (25 : Int).toNat + 13 = 10000000000000000000000013 := by decide
      have e24 : (10 : Int) ^ (24 : Int).toNat + 7 = 1000000000000000000000007 := by decide
      have b1 : (p1 + 2038074743 * (p2 + 1)).natAbs < 2 ^ 100 := by
        have : (2 : Nat) ^ 100 = 1267650600228229401496703205376 := by decide
        have : (2 : Int) ^ 80 = 1208925819614629174706176 := by decide
        omega
      refine ⟨_, rfl, a, _, _, _, rfl, rfl, SqL.of hp', at1, _, rfl, a, _, _, _, rfl, rfl, SqL.of hp', at2, _, _, rfl, rfl, cml_l (by decide), _, _, rfl, rfl, .inl ⟨_, rfl, ?_⟩⟩
      refine ⟨_, _, rfl, rfl, cpw 100 b1 (by decide) (by decide), _, _, rfl, rfl, cpw 4 (by decide) (by decide) (by decide), _, _, rfl, rfl, _, _, rfl, rfl, (by show ((10 : Int) ^ (25 : Int).toNat + 13) ≠ 0; decide), ?_⟩
      have bs (x : Int) : (x.fmod (10 ^ (25 : Int).toNat + 13) + 982451653 * (p2 + 1)).natAbs < 2 ^ 100 := by
        rw [e25, Int.fmod_eq_emod_of_nonneg _ (by decide)]
        have h1 := Int.emod_nonneg x (show (10000000000000000000000013 : Int) ≠ 0 by decide)
        have h2 := Int.emod_lt_of_pos x (show (0 : Int) < 10000000000000000000000013 by decide)
        have : (2 : Nat) ^ 100 = 1267650600228229401496703205376 := by decide
        omega
      refine ⟨_, rfl, _, rfl, a, _, _, _, rfl, rfl, SqL.of hp', at2, _, _, rfl, rfl, cml_l (by decide), _, _, rfl, rfl, .inl ⟨_, rfl, ?_⟩⟩
      refine ⟨_, _, rfl, rfl, cpw 100 (bs _) (by decide) (by decide), _, _, rfl, rfl, cpw 4 (by decide) (by decide) (by decide), _, _, rfl, rfl, _, _, rfl, rfl, (by show ((10 : Int) ^ (24 : Int).toNat + 7) ≠ 0; decide), ?_⟩
      refine ⟨_, rfl, _, _, rfl, rfl, .inl ⟨by decide, by decide⟩, .inl ⟨_, rfl, _, rfl, _, _, rfl, rfl, (by show many ≠ 0; omega), ?_⟩⟩
      exact q _ _ (mod_lo _) (mod_hi _) ⟨_, _, _, hp', g0, g1, g2, by omega, by omega⟩ (Kp.upd a H _)

/-! _law_rt_fraction -/
def sp__law_rt_fraction (K : PySem.W.Frag) : Sp := fun vs H Q _ => ∃ (a : Addr) (top : Int) (n : Nat), vs = [.ref a, .int top] ∧ 1 ≤ top ∧ top ≤ 400 ∧ n < 900000000 ∧ Pu H a n ∧
  ∀ (w : List Bool) H' p, (w.length : Int) ≤ top → wa w ≤ 1000000000 → wb w ≤ 1000000000 → Pu H' a (n + 100) → Kp a H H' → H p = none → H' p = some (.tup [.int (wa w), .int (wb w)]) → Q (.ref p) H'
theorem ok__law_rt_fraction (T : Tx K mg) : FnOk P w K mg base CX0 3 T.a__law_rt_fraction T.fd__law_rt_fraction ["purse", "top"] (sp__law_rt_fraction K) := by
  have G__law_rt_worth := ok__law_rt_worth (P := P) (w := w) (base := base) T
  have G__law_coin := ok__law_coin (P := P) (w := w) (base := base) T
  refine T.F__law_rt_fraction.ok sc__law_rt_fraction (fun vs H Q E h => ?_) (fun cdv A outer s H vs Q E hr h => ?_)
  · obtain ⟨a, top, n, rfl, _⟩ := h
    rfl
  · obtain ⟨a, top, n, rfl, t0, t1, hn, hp, q⟩ := h
    refine ⟨_, (pss_cons (ps_set (i := 2) sc__law_rt_fraction.nd rfl (Or.inl rfl) pe_str)
  (pss_cons (ps_for PassesOwn.never rfl (pi_range1 (by rfl) T.z_range (pa_cons (pe_call G__law_coin (hr.mono (by decide)) (by rfl) T.g__law_coin T.F__law_coin.kp (b__law_coin T.F__law_coin) .nil pass0 (pa_cons (pv 0) (pa_cons pe_int pa_nil))) pa_nil)) (pg_name (i := 3) sc__law_rt_fraction.nd rfl (Or.inl rfl))
    (pss_cons (ps_set (i := 4) sc__law_rt_fraction.nd rfl (Or.inl rfl) (pe_ix ix_list (pe_lst (pa_cons pe_str (pa_cons pe_str pa_nil))) (pe_call G__law_coin (hr.mono (by decide)) (by rfl) T.g__law_coin T.F__law_coin.kp (b__law_coin T.F__law_coin) .nil pass0 (pa_cons (pv 0) (pa_cons pe_int pa_nil))) (fun _ _ => rfl)))
  (pss_cons (ps_set (i := 5) sc__law_rt_fraction.nd rfl (Or.inl rfl) (pe_op op_add_str (pv 2) (pe_op op_mulS (pv 4) (pe_op op_add pe_int (pe_call G__law_coin (hr.mono (by decide)) (by rfl) T.g__law_coin T.F__law_coin.kp (b__law_coin T.F__law_coin) .nil pass0 (pa_cons (pv 0) (pa_cons (pe_ix ix_list (pe_lst (pa_cons pe_int (pa_cons pe_int (pa_cons (pv 1) pa_nil)))) (pe_call G__law_coin (hr.mono (by decide)) (by rfl) T.g__law_coin T.F__law_coin.kp (b__law_coin T.F__law_coin) .nil pass0 (pa_cons (pv 0) (pa_cons pe_int pa_nil))) (fun _ _ => rfl)) pa_nil)))))))
  (pss_one (ps_if (PW.pt (pw_and (pt_cmpR op_le (pe_callB call_len_str (by rfl) T.z_len (by decide +kernel) (pa_cons (pv 5) pa_nil)) (pv 1) (nomark _)) (pw_and1 (pt_cmpR op_le (pe_callB (cr_maxT hr) (by rfl) T.z_max (by decide +kernel) (pa_cons (pe_call G__law_rt_worth (hr.mono (by decide)) (by rfl) T.g__law_rt_worth T.F__law_rt_worth.kp (b__law_rt_worth T.F__law_rt_worth) .nil pass0 (pa_cons (pv 5) pa_nil)) pa_nil)) (pe_op op_powL pe_int pe_int) (nomark _))))) (pss_one (ps_set (i := 2) sc__law_rt_fraction.nd rfl (Or.inl rfl) (pv 5))) pss_nil)))))
  (pss_one (ps_ret (pe_call G__law_rt_worth (hr.mono (by decide)) (by rfl) T.g__law_rt_worth T.F__law_rt_worth.kp (b__law_rt_worth T.F__law_rt_worth) .nil pass0 (pa_cons (pv 2) pa_nil)))))), ?_⟩
    refine ⟨_, rfl, a, _, n, rfl, by decide, by decide, by omega, hp, fun r H1 r0 r1 hp1 k1 => ?_⟩
    refine ⟨r, rfl, by omega, by omega, for_range (lo := 0) (n := r.toNat)
      (fun i σ H2 => ∃ (w : List Bool) (x y z : Option V), σ = [some (.ref a), some (.int top), some (.str (rd w)), x, y, z] ∧ (w.length : Int) ≤ top ∧ wa w ≤ 1000000000 ∧ wb w ≤ 1000000000 ∧ Pu H2 a (n + 1 + 3 * i) ∧ Kp a H H2)
      ⟨[], none, none, none, rfl, by show (0 : Int) ≤ top; omega, by decide, by decide, hp1, k1⟩ ?_ ?_⟩
    · rintro i σ H2 hi ⟨w, x, y, z, rfl, hw, ha, hb, hp2, k2⟩
      -- sign
      refine ⟨sz (by show 2 ≤ 1000000; decide), fun p np => ⟨_, rfl, a, _, n + 1 + 3 * i, rfl, by decide, by decide, by omega, hp2.new np, fun s H3 s0 s1 hp3 k3 => ?_⟩⟩
      have e3 : H3 p = some (.lst [.str "L", .str "R"]) := k3 p _ (hp2.ne np).symm upd_same
      obtain ⟨t, et⟩ : ∃ t : Bool, atI [V.str "L", .str "R"] s = some (.str (rd [t])) := by
        have c : s = 0 ∨ s = 1 := by omega
        rcases c with rfl | rfl
        · exact ⟨false, by decide +kernel⟩
        · exact ⟨true, by decide +kernel⟩
      refine ⟨p, _, s, _, rfl, rfl, SqL.of e3, et, ?_⟩
      -- longer
      refine ⟨_, rfl, _, rfl, _, rfl, _, rfl, sz (by show 3 ≤ 1000000; decide), fun p2 np2 => ⟨_, rfl, a, _, n + 2 + 3 * i, rfl, by decide, by decide, by omega, (hp3.le (by omega)).new np2, fun m H4 m0 m1 hp4 k4 => ?_⟩⟩
      have e4 : H4 p2 = some (.lst ([2, 9, top].map V.int)) := k4 p2 _ (hp3.ne np2).symm upd_same
      obtain ⟨c, hc, ec⟩ := menu_at (l := [2, 9, top]) m0 m1
      have hc : 1 ≤ c ∧ c ≤ 400 := by
        simp at hc
        omega
      refine ⟨p2, _, m, _, rfl, rfl, SqL.of e4, ec, a, c, n + 3 + 3 * i, rfl, by omega, by omega, by omega, hp4.le (by omega), fun d H5 d0 d1 hp5 k5 => ?_⟩
      refine ⟨_, _, rfl, rfl, _, _, rfl, rfl, by rw [rd_len]; show 1 ≤ 10000; decide, by omega, by omega, ?_⟩
      have er : repT (rd [t]) (1 + d) = rd (repR [t] (1 + d).toNat) := rep_rd _ _
      refine ⟨_, _, rfl, rfl, ?_, ?_⟩
      · rw [er]
        exact rd_app_len (by rw [repR_len]; show w.length + (1 + d).toNat * 1 ≤ 1000000; omega)
      · rw [er, rd_app]
        have k5' : Kp a H H5 := ((((k2.new np).trans k3).new np2).trans k4).trans k5
        generalize hv : w ++ repR [t] (1 + d).toNat = v
        have lv : v.length ≤ 1000 := by
          rw [← hv, List.length_append, repR_len]
          show w.length + (1 + d).toNat * 1 ≤ 1000
          omega
        -- the test
        refine ⟨_, rfl, _, rfl, (by rw [rd_len]; exact sz (by omega)), _, rfl, _, _, rfl, rfl, _, rfl, ?_⟩
        refine bl2 (fun e1 => ?_) (fun e1 => ?_)
        · have e1 := of_decide_eq_true e1
          rw [rd_len] at e1
          refine ⟨_, rfl, v, rfl, fun H6 q6 sm6 nq6 hq6 => ⟨q6, _, [wb v], rfl, SqT.of hq6, by show 1 ≤ 100; decide, fun m _ hm => ?_⟩⟩
          have m1 := hm (wa v) List.mem_cons_self
          have m2 := hm (wb v) (List.mem_cons_of_mem _ List.mem_cons_self)
          refine ⟨_, _, rfl, rfl, cpw 4 (by decide) (by decide) (by decide), _, _, rfl, rfl, _, rfl, ite2 (fun e2 => ?_) (fun e2 => ?_)⟩
          · have e2 : m ≤ 10 ^ (9 : Int).toNat := of_decide_eq_true e2
            have e9 : (10 : Int) ^ (9 : Int).toNat = 1000000000 := by decide
            rw [e9] at e2
            exact ⟨_, rfl, v, _, _, _, rfl, e1, by omega, by omega, (hp5.le (by omega)).same sm6, k5'.trans (Kp.of sm6)⟩
          · exact ⟨w, _, _, _, rfl, hw, ha, hb, (hp5.le (by omega)).same sm6, k5'.trans (Kp.of sm6)⟩
        · exact iteF ⟨w, _, _, _, rfl, hw, ha, hb, hp5.le (by omega), k5'⟩
    · rintro σ H2 ⟨w, x, y, z, rfl, hw, ha, hb, hp2, k2⟩
      refine ⟨_, rfl, w, rfl, fun H3 p sm np hq => ?_⟩
      exact q w H3 p hw ha hb ((hp2.le (by omega)).same sm) (k2.trans (Kp.of sm)) (k2.free hp2 np) hq

/-! _law_rt_size -/
def sp__law_rt_size (K : PySem.W.Frag) : Sp := fun vs H Q _ => ∃ (a : Addr) (m : M4), vs = [.ref a] ∧ Sq K H a (m.l.map V.int) ∧ (Sml m.a ∧ Sml m.b) ∧ (Sml m.c ∧ Sml m.d) ∧ Q (.int m.det) H
theorem ok__law_rt_size (T : Tx K mg) : FnOk P w K mg base CX0 1 T.a__law_rt_size T.fd__law_rt_size ["plan"] (sp__law_rt_size K) := by
  refine T.F__law_rt_size.ok sc__law_rt_size (fun vs H Q E h => ?_) (fun cdv A outer s H vs Q E hr h => ?_)
  · obtain ⟨a, m, rfl, _⟩ := h
    rfl
  · obtain ⟨a, m, rfl, hs, ⟨sa, sb⟩, ⟨sc, sd⟩, q⟩ := h
    refine ⟨_, (pss_one (ps_ret (pe_op op_sub (pe_op op_mulL (pe_ix ix_seq (pv 0) pe_int (fun _ _ => rfl)) (pe_ix ix_seq (pv 0) pe_int (fun _ _ => rfl))) (pe_op op_mulL (pe_ix ix_seq (pv 0) pe_int (fun _ _ => rfl)) (pe_ix ix_seq (pv 0) pe_int (fun _ _ => rfl)))))), ?_⟩
    refine ⟨_, rfl, seq_ix hs rfl ⟨_, rfl, seq_ix hs rfl ⟨_, _, rfl, rfl, cml_s sa sd, _, rfl, seq_ix hs rfl ⟨_, rfl, seq_ix hs rfl ⟨_, _, rfl, rfl, cml_s sb sc, _, _, rfl, rfl, q⟩⟩⟩⟩⟩

/-! _law_rt_any_map -/
def sp__law_rt_any_map (K : PySem.W.Frag) : Sp := fun vs H Q _ => ∃ (a : Addr) (n : Nat), vs = [.ref a] ∧ n < 800000000 ∧ Pu H a n ∧
  ∀ (m : M4) H' p, Mp m → Le 1000000 m → Pu H' a (n + 30) → Kp a H H' → H p = none → H' p = some (.tup (m.l.map V.int)) → Q (.ref p) H'
theorem ok__law_rt_any_map (T : Tx K mg) : FnOk P w K mg base CX0 3 T.a__law_rt_any_map T.fd__law_rt_any_map ["purse"] (sp__law_rt_any_map K) := by
  have G__law_coin := ok__law_coin (P := P) (w := w) (base := base) T
  have G__law_rt_size := ok__law_rt_size (P := P) (w := w) (base := base) T
  have G__law_rt_low := ok__law_rt_low (P := P) (w := w) (base := base) T
  refine T.F__law_rt_any_map.ok sc__law_rt_any_map (fun vs H Q E h => ?_) (fun cdv A outer s H vs Q E hr h => ?_)
  · obtain ⟨a, n, rfl, _⟩ := h
    rfl
  · obtain ⟨a, n, rfl, hn, hp, q⟩ := h
    refine ⟨_, (pss_cons (ps_set (i := 1) sc__law_rt_any_map.nd rfl (Or.inr rfl) (pe_ix ix_list (pe_lst (pa_cons pe_int (pa_cons pe_int (pa_cons pe_int (pa_cons (pe_op op_powL pe_int pe_int) pa_nil))))) (pe_call G__law_coin (hr.mono (by decide)) (by rfl) T.g__law_coin T.F__law_coin.kp (b__law_coin T.F__law_coin) .nil pass0 (pa_cons (pv 0) (pa_cons pe_int pa_nil))) (fun _ _ => rfl)))
  (pss_cons (ps_for PassesOwn.never rfl (pi_range1 (by rfl) T.z_range (pa_cons pe_int pa_nil)) (pg_name (i := 2) sc__law_rt_any_map.nd rfl (Or.inl rfl))
    (pss_cons (ps_setLc (i := 4) (own := [("spot", 3)]) (g := (gName 3)) (by rfl) sc__law_rt_any_map.nd rfl rfl (sw_true rfl rfl rfl (by decide +kernel)) (pi_range1 (by rfl) T.z_range (pa_cons pe_int pa_nil)) (blkOk_by (own := [("spot", 3)]) (N := n__law_rt_any_map) (sc := defScope s__law_rt_any_map) (by decide +kernel)) (fun _ _ _ _ _ => (pg_name (i := 3) sc__law_rt_any_map.nd rfl (Or.inl rfl))) (fun _ _ _ _ _ => pts_nil) (fun _ _ _ _ _ => (pe_call G__law_coin (hr.mono (by decide)) (by rfl) T.g__law_coin T.F__law_coin.kp (b__law_coin T.F__law_coin) .nil pass0 (pa_cons (pv 0) (pa_cons (pe_op op_add (pv 1) pe_int) pa_nil)))))
  (pss_one (ps_if (pt_cmpR op_ne (pe_call G__law_rt_size (hr.mono (by decide)) (by rfl) T.g__law_rt_size T.F__law_rt_size.kp (b__law_rt_size T.F__law_rt_size) .nil pass0 (pa_cons (pv 4) pa_nil)) pe_int (nomark _)) (pss_one (ps_ret (pe_call G__law_rt_low (hr.mono (by decide)) (by rfl) T.g__law_rt_low T.F__law_rt_low.kp (b__law_rt_low T.F__law_rt_low) .nil pass0 (pa_cons (pv 4) pa_nil)))) pss_nil))))
  (pss_one (ps_ret (pe_tup (pa_cons pe_int (pa_cons pe_int (pa_cons pe_int (pa_cons pe_int pa_nil))))))))), ?_⟩
    refine ⟨_, _, rfl, rfl, cpw 4 (by decide) (by decide) (by decide), sz (by show 4 ≤ 1000000; decide), fun p0 np0 => ?_⟩
    refine ⟨_, rfl, a, 4, n, rfl, by decide, by decide, by omega, hp.new np0, fun r H1 r0 r1 hp1 k1 => ?_⟩
    have e1 : H1 p0 = some (.lst [.int 3, .int 12, .int 1000, .int (10 ^ (6 : Int).toNat)]) := k1 p0 _ (hp.ne np0).symm upd_same
    obtain ⟨t, ht, et⟩ := menu_at (l := [3, 12, 1000, 10 ^ (6 : Int).toNat]) r0 r1
    have t1 : 3 ≤ t ∧ t ≤ 1000000 := by
      simp only [List.mem_cons, List.not_mem_nil, or_false] at ht
      rcases ht with rfl | rfl | rfl | rfl <;> decide
    have k1' : Kp a H H1 := ((Kp.refl a H).new np0).trans k1
    refine ⟨p0, _, r, _, rfl, rfl, SqL.of e1, et, ?_⟩
    refine ⟨6, rfl, by decide, by decide, for_range (lo := 0) (n := 6)
      (fun i σ H2 => ∃ (x y z : Option V), σ = [some (.ref a), some (.int t), x, y, z] ∧ Pu H2 a (n + 1 + 4 * i) ∧ Kp a H H2) ⟨none, none, none, rfl, hp1, k1'⟩ ?_ ?_⟩
    · rintro i σ H2 hi ⟨x, y, z, rfl, hp2, k2⟩
      refine ⟨4, rfl, by decide, by decide, fun D hD => lc_range (lo := 0) (n := 4) (Cs H2 a D (n + 1 + 4 * i) (t + 1)) (cs_start hD hp2) ?_ ?_⟩
      · intro j H3 hj c
        refine ⟨rfl, ?_⟩
        refine iteT (B := Cs H2 a D (n + 1 + 4 * i) (t + 1) (j + 1) H3) ?_
        refine ⟨_, rfl, _, rfl, _, _, rfl, rfl, a, _, n + 1 + 4 * i + j, rfl, by omega, by omega, by omega, c.pu, fun r' H4 r0' r1' hp4 k4 => ?_⟩
        exact cs_step c (by omega) hD hp2 hp4 k4 r0' r1'
      · intro H3 c
        obtain ⟨m, mn, ml, e3, hp3, k3⟩ := cs_four c
        have bm := bd4 (k := 30) mn ml (by omega)
        have ba := bm m.a (by simp [M4.l])
        have bb := bm m.b (by simp [M4.l])
        have bc := bm m.c (by simp [M4.l])
        have bd := bm m.d (by simp [M4.l])
        refine ⟨_, rfl, D, m, rfl, .inl (SqL.of e3), ⟨ba.sml, bb.sml⟩, ⟨bc.sml, bd.sml⟩, rfl, _, rfl, bl2 (fun h => ?_) (fun h => ?_)⟩
        · have hd : m.det ≠ 0 := by simpa using h
          refine ⟨_, rfl, D, m.l, rfl, .inl (SqL.of e3), det_pos_gl hd, (det_gl hd bm).sml, by show 4 ≤ 100; decide, fun H4 p sm np e4 => ?_⟩
          rw [← low_l] at e4
          refine q m.low H4 p (low_mp mn hd) ?_ ((hp3.le (by omega)).same sm) ((k2.trans k3).trans (Kp.of sm)) ?_ e4
          · have := low_le mn ml
            exact ⟨by have := this.a; omega, by have := this.b; omega, by have := this.c; omega, by have := this.d; omega⟩
          · exact (k2.trans k3).free hp3 np
        · exact ⟨_, _, _, rfl, hp3.le (by omega), k2.trans k3⟩
    · rintro σ H2 ⟨x, y, z, rfl, hp2, k2⟩
      refine ⟨sz (by show 4 ≤ 1000000; decide), fun p np => ?_⟩
      refine q ⟨2, 0, 0, 1⟩ _ p ⟨⟨by decide, by decide, by decide, by decide⟩, by decide, by decide⟩ ⟨by decide, by decide, by decide, by decide⟩ ((hp2.le (by omega)).new np) (k2.new np) ?_ upd_same
      exact k2.free hp2 np

/-! _law_rt_turns -/
def sp__law_rt_turns (K : PySem.W.Frag) : Sp := fun vs H Q _ => ∃ (w : List Bool), vs = [.str (rd w)] ∧
  ∀ H' p, Same H H' → H p = none → H' p = some (.tup ((mat w).l.map V.int)) → Q (.ref p) H'
theorem ok__law_rt_turns (T : Tx K mg) : FnOk P w K mg base CX0 2 T.a__law_rt_turns T.fd__law_rt_turns ["wording"] (sp__law_rt_turns K) := by
  have G__law_rt_ends := ok__law_rt_ends (P := P) (w := w) (base := base) T
  refine T.F__law_rt_turns.ok sc__law_rt_turns (fun vs H Q E h => ?_) (fun cdv A outer s H vs Q E hr h => ?_)
  · obtain ⟨w, rfl, _⟩ := h
    rfl
  · obtain ⟨w, rfl, q⟩ := h
    refine ⟨_, (pss_cons (ps_asg (pe_call G__law_rt_ends (hr.mono (by decide)) (by rfl) T.g__law_rt_ends T.F__law_rt_ends.kp (b__law_rt_ends T.F__law_rt_ends) .nil pass0 (pa_cons (pv 0) pa_nil)) (pg_tup (by rfl) (pgs_cons (pg_name (i := 1) sc__law_rt_turns.nd rfl (Or.inl rfl)) (pgs_cons (pg_name (i := 2) sc__law_rt_turns.nd rfl (Or.inl rfl)) pgs_nil))))
  (pss_one (ps_ret (pe_tup (pa_cons (pe_ix ix_tup (pv 2) pe_int (fun _ _ => rfl)) (pa_cons (pe_ix ix_tup (pv 1) pe_int (fun _ _ => rfl)) (pa_cons (pe_ix ix_tup (pv 2) pe_int (fun _ _ => rfl)) (pa_cons (pe_ix ix_tup (pv 1) pe_int (fun _ _ => rfl)) pa_nil)))))))), ?_⟩
    refine ⟨_, rfl, w, rfl, fun H1 e l g sm ne he hl hg => ?_⟩
    refine ⟨e, _, rfl, .inl (.inl he), rfl, _, _, rfl, _, _, rfl, rfl, ?_⟩
    refine ⟨_, rfl, g, _, _, _, rfl, rfl, SqT.of hg, rfl, _, rfl, l, _, _, _, rfl, rfl, SqT.of hl, rfl, _, rfl, g, _, _, _, rfl, rfl, SqT.of hg, rfl, _, rfl, l, _, _, _, rfl, rfl, SqT.of hl, rfl, sz (by show 4 ≤ 1000000; decide), fun p np => ?_⟩
    exact q _ p (sm.new np) (sm.free np) upd_same

/-! _law_rt_way -/
def sp__law_rt_way (K : PySem.W.Frag) : Sp := fun vs H Q _ => ∃ (a : Addr) (top : Int) (n : Nat), vs = [.ref a, .int top] ∧ 0 ≤ top ∧ top ≤ 1000 ∧ n < 900000000 ∧ Pu H a n ∧
  ∀ (w : List Bool) H', (w.length : Int) ≤ top → Pu H' a (n + 1002) → Kp a H H' → Q (.str (rd w)) H'
theorem ok__law_rt_way (T : Tx K mg) : FnOk P w K mg base CX0 2 T.a__law_rt_way T.fd__law_rt_way ["purse", "top"] (sp__law_rt_way K) := by
  have G__law_coin := ok__law_coin (P := P) (w := w) (base := base) T
  refine T.F__law_rt_way.ok sc__law_rt_way (fun vs H Q E h => ?_) (fun cdv A outer s H vs Q E hr h => ?_)
  · obtain ⟨a, top, n, rfl, _⟩ := h
    rfl
  · obtain ⟨a, top, n, rfl, t0, t1, hn, hp, q⟩ := h
    obtain ⟨t, rfl⟩ := nat_of t0
    refine ⟨_, (pss_cons (ps_set (i := 2) sc__law_rt_way.nd rfl (Or.inl rfl) pe_str)
  (pss_cons (ps_for PassesOwn.never rfl (pi_range1 (by rfl) T.z_range (pa_cons (pe_call G__law_coin (hr.mono (by decide)) (by rfl) T.g__law_coin T.F__law_coin.kp (b__law_coin T.F__law_coin) .nil pass0 (pa_cons (pv 0) (pa_cons (pe_op op_add (pv 1) pe_int) pa_nil))) pa_nil)) (pg_name (i := 3) sc__law_rt_way.nd rfl (Or.inl rfl))
    (pss_one (ps_set (i := 2) sc__law_rt_way.nd rfl (Or.inl rfl) (pe_op op_add_str (pv 2) (pe_ix ix_list (pe_lst (pa_cons pe_str (pa_cons pe_str (pa_cons pe_str (pa_cons pe_str (pa_cons pe_str (pa_cons pe_str (pa_cons pe_str pa_nil)))))))) (pe_call G__law_coin (hr.mono (by decide)) (by rfl) T.g__law_coin T.F__law_coin.kp (b__law_coin T.F__law_coin) .nil pass0 (pa_cons (pv 0) (pa_cons pe_int pa_nil))) (fun _ _ => rfl))))))
  (pss_one (ps_ret (pe_slice sl_str (pv 2) po_none (po_some (pv 1))))))), ?_⟩
    refine ⟨_, rfl, _, rfl, _, _, rfl, rfl, a, _, n, rfl, by omega, by omega, by omega, hp, fun r H1 r0 r1 hp1 k1 => ?_⟩
    refine ⟨r, rfl, by omega, by omega, for_range (lo := 0) (n := r.toNat)
      (fun i σ H2 => ∃ (w : List Bool) (x : Option V), σ = [some (.ref a), some (.int t), some (.str (rd w)), x] ∧ w.length ≤ 7 * i ∧ Pu H2 a (n + 1 + i) ∧ Kp a H H2) ⟨[], none, rfl, Nat.zero_le _, hp1, k1⟩ ?_ ?_⟩
    · rintro i σ H2 hi ⟨w, x, rfl, hw, hp2, k2⟩
      refine ⟨_, rfl, sz (by show 7 ≤ 1000000; decide), fun p np => ?_⟩
      refine ⟨_, rfl, a, _, n + 1 + i, rfl, by decide, by decide, by omega, hp2.new np, fun r' H3 r0' r1' hp3 k3 => ?_⟩
      obtain ⟨u, hu, eu⟩ := wayMenu_at r0' r1'
      have e3 : H3 p = some (.lst wayMenu) := k3 p _ (hp2.ne np).symm upd_same
      refine ⟨p, wayMenu, r', _, rfl, rfl, SqL.of e3, eu, _, _, rfl, rfl, rd_app_len (by omega), ?_⟩
      rw [rd_app]
      refine ⟨w ++ u, _, rfl, ?_, hp3, (k2.new np).trans k3⟩
      rw [List.length_append]
      omega
    · rintro σ H2 ⟨w, x, rfl, hw, hp2, k2⟩
      refine ⟨_, rfl, _, rfl, _, rfl, rd w, rfl, (by rw [rd_len]; exact sz (by omega)), ?_⟩
      show Q (.str (cutS (rd w) none (some (t : Int)))) H2
      rw [cut_take]
      exact q _ _ (by rw [List.length_take]; omega) (hp2.le (by omega)) k2

/-! _law_rt_times -/
def sp__law_rt_times (K : PySem.W.Frag) : Sp := fun vs H Q _ => ∃ (x y : Addr) (m n : M4) (k : Nat), vs = [.ref x, .ref y] ∧ SqT K H x (m.l.map V.int) ∧ SqT K H y (n.l.map V.int) ∧ k ≤ 1900 ∧ (∀ i ∈ m.l, Bd k i) ∧ (∀ i ∈ n.l, Bd k i) ∧
  ∀ H' p, Same H H' → H p = none → H' p = some (.tup ((m.mul n).l.map V.int)) → Q (.ref p) H'
theorem ok__law_rt_times (T : Tx K mg) : FnOk P w K mg base CX0 1 T.a__law_rt_times T.fd__law_rt_times ["left", "right"] (sp__law_rt_times K) := by
  refine T.F__law_rt_times.ok sc__law_rt_times (fun vs H Q E h => ?_) (fun cdv A outer s H vs Q E hr h => ?_)
  · obtain ⟨x, y, m, n, k, rfl, _⟩ := h
    rfl
  · obtain ⟨x, y, m, n, k, rfl, hx, hy, hk, bm, bn, q⟩ := h
    refine ⟨_, (pss_cons (ps_asg (pv 0) (pg_tup (by rfl) (pgs_cons (pg_name (i := 2) sc__law_rt_times.nd rfl (Or.inl rfl)) (pgs_cons (pg_name (i := 3) sc__law_rt_times.nd rfl (Or.inl rfl)) (pgs_cons (pg_name (i := 4) sc__law_rt_times.nd rfl (Or.inl rfl)) (pgs_cons (pg_name (i := 5) sc__law_rt_times.nd rfl (Or.inl rfl)) pgs_nil))))))
  (pss_cons (ps_asg (pv 1) (pg_tup (by rfl) (pgs_cons (pg_name (i := 6) sc__law_rt_times.nd rfl (Or.inl rfl)) (pgs_cons (pg_name (i := 7) sc__law_rt_times.nd rfl (Or.inl rfl)) (pgs_cons (pg_name (i := 8) sc__law_rt_times.nd rfl (Or.inl rfl)) (pgs_cons (pg_name (i := 9) sc__law_rt_times.nd rfl (Or.inl rfl)) pgs_nil))))))
  (pss_one (ps_ret (pe_tup (pa_cons (pe_op op_add (pe_op op_mulL (pv 2) (pv 6)) (pe_op op_mulL (pv 3) (pv 8))) (pa_cons (pe_op op_add (pe_op op_mulL (pv 2) (pv 7)) (pe_op op_mulL (pv 3) (pv 9))) (pa_cons (pe_op op_add (pe_op op_mulL (pv 4) (pv 6)) (pe_op op_mulL (pv 5) (pv 8))) (pa_cons (pe_op op_add (pe_op op_mulL (pv 4) (pv 7)) (pe_op op_mulL (pv 5) (pv 9))) pa_nil))))))))), ?_⟩
    have ba := bm m.a (by simp [M4.l])
    have bb := bm m.b (by simp [M4.l])
    have bc := bm m.c (by simp [M4.l])
    have bd := bm m.d (by simp [M4.l])
    have ca := bn n.a (by simp [M4.l])
    have cb := bn n.b (by simp [M4.l])
    have cc := bn n.c (by simp [M4.l])
    have cd := bn n.d (by simp [M4.l])
    refine ⟨_, rfl, x, _, rfl, hx, rfl, _, _, rfl, _, _, rfl, _, _, rfl, _, _, rfl, rfl, ?_⟩
    refine ⟨_, rfl, y, _, rfl, hy, rfl, _, _, rfl, _, _, rfl, _, _, rfl, _, _, rfl, rfl, ?_⟩
    refine ⟨_, rfl, _, rfl, _, _, rfl, rfl, ba.ml ca hk hk, _, rfl, _, rfl, _, _, rfl, rfl, bb.ml cc hk hk, _, _, rfl, rfl, ?_⟩
    refine ⟨_, rfl, _, rfl, _, _, rfl, rfl, ba.ml cb hk hk, _, rfl, _, rfl, _, _, rfl, rfl, bb.ml cd hk hk, _, _, rfl, rfl, ?_⟩
    refine ⟨_, rfl, _, rfl, _, _, rfl, rfl, bc.ml ca hk hk, _, rfl, _, rfl, _, _, rfl, rfl, bd.ml cc hk hk, _, _, rfl, rfl, ?_⟩
    refine ⟨_, rfl, _, rfl, _, _, rfl, rfl, bc.ml cb hk hk, _, rfl, _, rfl, _, _, rfl, rfl, bd.ml cd hk hk, _, _, rfl, rfl, sz (by show 4 ≤ 1000000; decide), fun p np => ?_⟩
    exact q _ p ((L2.Same.refl H).new np) np upd_same

/-! _law_rt_map -/
def sp__law_rt_map (K : PySem.W.Frag) : Sp := fun vs H Q _ => ∃ (a : Addr) (top : Int) (n : Nat), vs = [.ref a, .int top] ∧ 1 ≤ top ∧ top ≤ 12 ∧ n < 800000000 ∧ Pu H a n ∧
  ∀ (m : M4) H' p, Mp m → Le 60 m → m.det.natAbs ≤ top.toNat → Pu H' a (n + 3000) → Kp a H H' → H p = none → H' p = some (.tup (m.l.map V.int)) → Q (.ref p) H'
structure Pm (top : Int) (m : M4) : Prop where
  nn : Nn m
  le : Le 60 m
  d0 : m.det ≠ 0
  dt : m.det.natAbs ≤ top.toNat
theorem pm_diag {top up down x : Int} (t : top ≤ 12) (u : 1 ≤ up) (d : 1 ≤ down) (h : up * down ≤ top) (x0 : 0 ≤ x) (x1 : x ≤ 60) : Pm top ⟨up, x, 0, down⟩ := by
  have h1 : up * 1 ≤ up * down := Int.mul_le_mul_of_nonneg_left d (by omega)
  have h2 : 1 * down ≤ up * down := Int.mul_le_mul_of_nonneg_right u (by omega)
  have e : (M4.mk up x 0 down).det = up * down := by
    show up * down - x * 0 = _
    omega
  refine ⟨⟨by show 0 ≤ up; omega, x0, Int.le_refl 0, by show 0 ≤ down; omega⟩, ⟨by show up ≤ 60; omega, x1, by show (0 : Int) ≤ 60; decide, by show down ≤ 60; omega⟩, ?_, ?_⟩
  · rw [e]
    omega
  · rw [e]
    omega
theorem pm_mul {top : Int} {m : M4} (h : Pm top m) (w : List Bool) (l : Bool) (le : Le 60 (if l then (mat w).mul m else m.mul (mat w))) : Pm top (if l then (mat w).mul m else m.mul (mat w)) := by
  have e : (if l then (mat w).mul m else m.mul (mat w)).det = m.det := by
    cases l
    · show (m.mul (mat w)).det = _
      rw [M4.det_mul, mat_det]
      omega
    · show ((mat w).mul m).det = _
      rw [M4.det_mul, mat_det]
      omega
  refine ⟨?_, le, by rw [e]; exact h.d0, by rw [e]; exact h.dt⟩
  cases l
  · exact mul_nn h.nn (mat_nn w)
  · exact mul_nn (mat_nn w) h.nn
theorem pm_col {top : Int} {m : M4} (h : Pm top m) : Pm top ⟨m.b, m.a, m.d, m.c⟩ := by
  have e : (M4.mk m.b m.a m.d m.c).det = - m.det := by
    show m.b * m.c - m.a * m.d = -(m.a * m.d - m.b * m.c)
    omega
  exact ⟨⟨h.nn.b, h.nn.a, h.nn.d, h.nn.c⟩, ⟨h.le.b, h.le.a, h.le.d, h.le.c⟩, by rw [e]; have := h.d0; omega, by rw [e, Int.natAbs_neg]; exact h.dt⟩
theorem pm_row {top : Int} {m : M4} (h : Pm top m) : Pm top ⟨m.c, m.d, m.a, m.b⟩ := by
  have e : (M4.mk m.c m.d m.a m.b).det = - m.det := by
    show m.c * m.b - m.d * m.a = -(m.a * m.d - m.b * m.c)
    rw [Int.mul_comm m.c m.b, Int.mul_comm m.d m.a]
    omega
  exact ⟨⟨h.nn.c, h.nn.d, h.nn.a, h.nn.b⟩, ⟨h.le.c, h.le.d, h.le.a, h.le.b⟩, by rw [e]; have := h.d0; omega, by rw [e, Int.natAbs_neg]; exact h.dt⟩
/-- what holds between the steps of the drawing -/
def Pq (H : Hp) (a : Addr) (top : Int) (n : Nat) (v : Option V) (H2 : Hp) : Prop := ∃ (p : Addr) (m : M4), v = some (.ref p) ∧ H2 p = some (.tup (m.l.map V.int)) ∧ Pm top m ∧ Pu H2 a n ∧ Kp a H H2
theorem Pq.le {H H2 : Hp} {a : Addr} {top : Int} {n k : Nat} {v : Option V} (h : Pq H a top n v H2) (l : n ≤ k) : Pq H a top k v H2 := by
  obtain ⟨p, m, e, hp, pm, pu, kp⟩ := h
  exact ⟨p, m, e, hp, pm, pu.le l, kp⟩
theorem tup_ne {H : Hp} {a p : Addr} {n : Nat} {xs : List V} (h : Pu H a n) (hp : H p = some (.tup xs)) : p ≠ a := by
  rintro rfl
  obtain ⟨_, _, _, h1, _⟩ := h
  rw [hp] at h1
  cases h1
theorem ok__law_rt_map (T : Tx K mg) : FnOk P w K mg base CX0 3 T.a__law_rt_map T.fd__law_rt_map ["purse", "top"] (sp__law_rt_map K) := by
  have G__law_coin := ok__law_coin (P := P) (w := w) (base := base) T
  have G__law_rt_low := ok__law_rt_low (P := P) (w := w) (base := base) T
  have G__law_rt_turns := ok__law_rt_turns (P := P) (w := w) (base := base) T
  have G__law_rt_way := ok__law_rt_way (P := P) (w := w) (base := base) T
  have G__law_rt_times := ok__law_rt_times (P := P) (w := w) (base := base) T
  have G__law_rt_size := ok__law_rt_size (P := P) (w := w) (base := base) T
  refine T.F__law_rt_map.ok sc__law_rt_map (fun vs H Q E h => ?_) (fun cdv A outer s H vs Q E hr h => ?_)
  · obtain ⟨a, top, n, rfl, _⟩ := h
    rfl
  · obtain ⟨a, top, n, rfl, t0, t1, hn, hp, q⟩ := h
    refine ⟨_, (pss_cons (ps_set (i := 2) sc__law_rt_map.nd rfl (Or.inl rfl) (pe_call G__law_coin (hr.mono (by decide)) (by rfl) T.g__law_coin T.F__law_coin.kp (b__law_coin T.F__law_coin) .nil pass0 (pa_cons (pv 0) (pa_cons pe_int pa_nil))))
  (pss_cons (ps_for PassesOwn.never rfl (pi_range1 (by rfl) T.z_range (pa_cons (pe_op op_mulL pe_int (pe_callTy call_int1 (by rfl) T.z_int (by decide +kernel) (pa_cons (pe_cmpR op_eq (pv 2) pe_int (nomark _)) pa_nil))) pa_nil)) (pg_name (i := 3) sc__law_rt_map.nd rfl (Or.inl rfl))
    (pss_cons (ps_setLc (i := 5) (own := [("spot", 4)]) (g := (gName 4)) (by rfl) sc__law_rt_map.nd rfl rfl (sw_true rfl rfl rfl (by decide +kernel)) (pi_range1 (by rfl) T.z_range (pa_cons pe_int pa_nil)) (blkOk_by (own := [("spot", 4)]) (N := n__law_rt_map) (sc := defScope s__law_rt_map) (by decide +kernel)) (fun _ _ _ _ _ => (pg_name (i := 4) sc__law_rt_map.nd rfl (Or.inl rfl))) (fun _ _ _ _ _ => pts_nil) (fun _ _ _ _ _ => (pe_call G__law_coin (hr.mono (by decide)) (by rfl) T.g__law_coin T.F__law_coin.kp (b__law_coin T.F__law_coin) .nil pass0 (pa_cons (pv 0) (pa_cons pe_int pa_nil)))))
  (pss_one (ps_if (pt_chain op_lt op_le pe_int (pe_callB call_abs (by rfl) T.z_abs (by decide +kernel) (pa_cons (pe_call G__law_rt_size (hr.mono (by decide)) (by rfl) T.g__law_rt_size T.F__law_rt_size.kp (b__law_rt_size T.F__law_rt_size) .nil pass0 (pa_cons (pv 5) pa_nil)) pa_nil)) (pv 1)) (pss_one (ps_ret (pe_call G__law_rt_low (hr.mono (by decide)) (by rfl) T.g__law_rt_low T.F__law_rt_low.kp (b__law_rt_low T.F__law_rt_low) .nil pass0 (pa_cons (pv 5) pa_nil)))) pss_nil))))
  (pss_cons (ps_set (i := 6) sc__law_rt_map.nd rfl (Or.inl rfl) (pe_op op_add pe_int (pe_call G__law_coin (hr.mono (by decide)) (by rfl) T.g__law_coin T.F__law_coin.kp (b__law_coin T.F__law_coin) .nil pass0 (pa_cons (pv 0) (pa_cons (pv 1) pa_nil)))))
  (pss_cons (ps_set (i := 7) sc__law_rt_map.nd rfl (Or.inl rfl) (pe_op op_add pe_int (pe_call G__law_coin (hr.mono (by decide)) (by rfl) T.g__law_coin T.F__law_coin.kp (b__law_coin T.F__law_coin) .nil pass0 (pa_cons (pv 0) (pa_cons (pe_op op_fdivL (pv 1) (pv 6)) pa_nil)))))
  (pss_cons (ps_set (i := 8) sc__law_rt_map.nd rfl (Or.inl rfl) (pe_tup (pa_cons (pv 6) (pa_cons pe_int (pa_cons pe_int (pa_cons (pv 7) pa_nil))))))
  (pss_cons (ps_set (i := 9) sc__law_rt_map.nd rfl (Or.inl rfl) (pe_ifExp (pt_cmpR op_eq (pv 2) pe_int (nomark _)) (pe_tup (pa_cons (pv 6) (pa_cons (pe_call G__law_coin (hr.mono (by decide)) (by rfl) T.g__law_coin T.F__law_coin.kp (b__law_coin T.F__law_coin) .nil pass0 (pa_cons (pv 0) (pa_cons pe_int pa_nil))) (pa_cons pe_int (pa_cons (pv 7) pa_nil))))) (pv 8)))
  (pss_cons (ps_for PassesOwn.never rfl (pi_range1 (by rfl) T.z_range (pa_cons (pe_op op_mulL pe_int (pe_callTy call_int1 (by rfl) T.z_int (by decide +kernel) (pa_cons (pe_cmpR op_gt (pv 2) pe_int (nomark _)) pa_nil))) pa_nil)) (pg_name (i := 3) sc__law_rt_map.nd rfl (Or.inl rfl))
    (pss_cons (ps_set (i := 10) sc__law_rt_map.nd rfl (Or.inl rfl) (pe_call G__law_rt_turns (hr.mono (by decide)) (by rfl) T.g__law_rt_turns T.F__law_rt_turns.kp (b__law_rt_turns T.F__law_rt_turns) .nil pass0 (pa_cons (pe_call G__law_rt_way (hr.mono (by decide)) (by rfl) T.g__law_rt_way T.F__law_rt_way.kp (b__law_rt_way T.F__law_rt_way) .nil pass0 (pa_cons (pv 0) (pa_cons (pe_ix ix_list (pe_lst (pa_cons pe_int (pa_cons pe_int pa_nil))) (pe_call G__law_coin (hr.mono (by decide)) (by rfl) T.g__law_coin T.F__law_coin.kp (b__law_coin T.F__law_coin) .nil pass0 (pa_cons (pv 0) (pa_cons pe_int pa_nil))) (fun _ _ => rfl)) pa_nil))) pa_nil)))
  (pss_cons (ps_set (i := 11) sc__law_rt_map.nd rfl (Or.inl rfl) (pe_ifExp (pt_cmpR op_eq (pv 3) pe_int (nomark _)) (pe_call G__law_rt_times (hr.mono (by decide)) (by rfl) T.g__law_rt_times T.F__law_rt_times.kp (b__law_rt_times T.F__law_rt_times) .nil pass0 (pa_cons (pv 10) (pa_cons (pv 9) pa_nil))) (pe_call G__law_rt_times (hr.mono (by decide)) (by rfl) T.g__law_rt_times T.F__law_rt_times.kp (b__law_rt_times T.F__law_rt_times) .nil pass0 (pa_cons (pv 9) (pa_cons (pv 10) pa_nil)))))
  (pss_one (ps_if (pt_cmpR op_le (pe_callB (cr_maxT hr) (by rfl) T.z_max (by decide +kernel) (pa_cons (pv 11) pa_nil)) pe_int (nomark _)) (pss_one (ps_set (i := 9) sc__law_rt_map.nd rfl (Or.inl rfl) (pv 11))) pss_nil)))))
  (pss_cons (ps_if (pt_cmpR op_eq (pe_call G__law_coin (hr.mono (by decide)) (by rfl) T.g__law_coin T.F__law_coin.kp (b__law_coin T.F__law_coin) .nil pass0 (pa_cons (pv 0) (pa_cons pe_int pa_nil))) pe_int (nomark _)) (pss_one (ps_set (i := 9) sc__law_rt_map.nd rfl (Or.inl rfl) (pe_tup (pa_cons (pe_ix ix_tup (pv 9) pe_int (fun _ _ => rfl)) (pa_cons (pe_ix ix_tup (pv 9) pe_int (fun _ _ => rfl)) (pa_cons (pe_ix ix_tup (pv 9) pe_int (fun _ _ => rfl)) (pa_cons (pe_ix ix_tup (pv 9) pe_int (fun _ _ => rfl)) pa_nil))))))) pss_nil)
  (pss_cons (ps_if (pt_cmpR op_eq (pe_call G__law_coin (hr.mono (by decide)) (by rfl) T.g__law_coin T.F__law_coin.kp (b__law_coin T.F__law_coin) .nil pass0 (pa_cons (pv 0) (pa_cons pe_int pa_nil))) pe_int (nomark _)) (pss_one (ps_set (i := 9) sc__law_rt_map.nd rfl (Or.inl rfl) (pe_tup (pa_cons (pe_ix ix_tup (pv 9) pe_int (fun _ _ => rfl)) (pa_cons (pe_ix ix_tup (pv 9) pe_int (fun _ _ => rfl)) (pa_cons (pe_ix ix_tup (pv 9) pe_int (fun _ _ => rfl)) (pa_cons (pe_ix ix_tup (pv 9) pe_int (fun _ _ => rfl)) pa_nil))))))) pss_nil)
  (pss_one (ps_ret (pe_call G__law_rt_low (hr.mono (by decide)) (by rfl) T.g__law_rt_low T.F__law_rt_low.kp (b__law_rt_low T.F__law_rt_low) .nil pass0 (pa_cons (pv 9) pa_nil))))))))))))), ?_⟩
    refine ⟨_, rfl, a, 4, n, rfl, by decide, by decide, by omega, hp, fun st H1 s0 s1 hp1 k1 => ?_⟩
    refine ⟨_, rfl, rfl, .inr ⟨_, rfl, _, _, rfl, rfl, cml_l (by decide), _, rfl, ?_, ?_, for_range (lo := 0)
      (fun i σ H2 => ∃ (x y z : Option V), σ = [some (.ref a), some (.int top), some (.int st), x, y, z, none, none, none, none, none, none] ∧ Pu H2 a (n + 1 + 4 * i) ∧ Kp a H H2) ⟨none, none, none, rfl, hp1, k1⟩ ?_ ?_⟩⟩
    · split <;> decide
    · split <;> decide
    · rintro i σ H2 hi ⟨x, y, z, rfl, hp2, k2⟩
      have i5 : i < 5 := by
        revert hi
        split <;> intro hi <;> omega
      refine ⟨4, rfl, by decide, by decide, fun D hD => lc_range (lo := 0) (n := 4) (Cs H2 a D (n + 1 + 4 * i) 9) (cs_start hD hp2) ?_ ?_⟩
      · intro j H3 hj c
        refine ⟨rfl, ?_⟩
        refine iteT (B := Cs H2 a D (n + 1 + 4 * i) 9 (j + 1) H3) ?_
        refine ⟨_, rfl, a, 9, n + 1 + 4 * i + j, rfl, by decide, by decide, by omega, c.pu, fun r' H4 r0' r1' hp4 k4 => ?_⟩
        exact cs_step c (by omega) hD hp2 hp4 k4 r0' r1'
      · intro H3 c
        obtain ⟨m, mn, ml, e3, hp3, k3⟩ := cs_four c
        have bm := bd4 (k := 30) mn ml (by decide)
        have ba := bm m.a (by simp [M4.l])
        have bb := bm m.b (by simp [M4.l])
        have bc := bm m.c (by simp [M4.l])
        have bd := bm m.d (by simp [M4.l])
        refine ⟨_, rfl, D, m, rfl, .inl (SqL.of e3), ⟨ba.sml, bb.sml⟩, ⟨bc.sml, bd.sml⟩, _, rfl, _, _, rfl, rfl, _, rfl, bl2 (fun h => ?_) (fun h => ?_)⟩
        · have h0 : m.det ≠ 0 := by
            have h1 := of_decide_eq_true h
            split at h1 <;> omega
          refine ⟨_, rfl, _, _, rfl, rfl, _, rfl, bl2 (fun h => ?_) (fun h => ?_)⟩
          · have h2 : m.det.natAbs ≤ top.toNat := by
              have h1 := of_decide_eq_true h
              split at h1 <;> omega
            refine ⟨_, rfl, D, m.l, rfl, .inl (SqL.of e3), det_pos_gl h0, (det_gl h0 bm).sml, by show 4 ≤ 100; decide, fun H4 p sm np e4 => ?_⟩
            rw [← low_l] at e4
            refine q m.low H4 p (low_mp mn h0) ?_ (Nat.le_trans (low_det_le h0) h2) ((hp3.le (by omega)).same sm) ((k2.trans k3).trans (Kp.of sm)) ((k2.trans k3).free hp3 np) e4
            have := low_le mn ml
            exact ⟨by have := this.a; omega, by have := this.b; omega, by have := this.c; omega, by have := this.d; omega⟩
          · exact ⟨_, _, _, rfl, hp3.le (by omega), k2.trans k3⟩
        · exact ⟨_, rfl, iteF ⟨_, _, _, rfl, hp3.le (by omega), k2.trans k3⟩⟩
    · rintro σ H2 ⟨x, y, z, rfl, hp2, k2⟩
      have hp2 := hp2.le (show _ ≤ n + 21 by split <;> omega)
      refine ⟨_, rfl, _, rfl, a, top, n + 21, rfl, t0, by omega, by omega, hp2, fun u H3 u0 u1 hp3 k3 => ?_⟩
      refine ⟨_, _, rfl, rfl, ?_⟩
      have f1 : (1 + u) * (top.fdiv (1 + u)) ≤ top ∧ 1 ≤ top.fdiv (1 + u) ∧ top.fdiv (1 + u) ≤ 12 := by
        rw [Int.fdiv_eq_ediv_of_nonneg _ (by omega)]
        refine ⟨Int.mul_ediv_self_le (by omega), (Int.le_ediv_iff_mul_le (by omega)).mpr (by omega), ?_⟩
        have := Int.ediv_le_self (1 + u) (show 0 ≤ top by omega)
        omega
      obtain ⟨f1, f2, f3⟩ := f1
      refine ⟨_, rfl, _, rfl, _, rfl, _, _, rfl, rfl, .inl ⟨by omega, by omega⟩, a, _, n + 22, rfl, f2, by omega, by omega, hp3, fun d H4 d0 d1 hp4 k4 => ?_⟩
      refine ⟨_, _, rfl, rfl, ?_⟩
      have ud : (1 + u) * (1 + d) ≤ top := Int.le_trans (Int.mul_le_mul_of_nonneg_left (by omega) (by omega)) f1
      have k4' : Kp a H H4 := (k2.trans k3).trans k4
      refine ⟨_, rfl, _, rfl, sz (by show 4 ≤ 1000000; decide), fun p8 np8 => ?_⟩
      refine ⟨_, rfl, rfl, _, rfl, meetE (fun v H' => Pq H a top (n + 24) (some v) H') (fun _ R h => ?_) (fun _ R h => ?_) (fun v H5 pq => ?_)⟩
      · refine ⟨_, rfl, _, rfl, a, 61, n + 23, rfl, by decide, by decide, by omega, hp4.new np8, fun x' H5 x0 x1 hp5 k5 => ?_⟩
        refine ⟨_, rfl, sz (by show 4 ≤ 1000000; decide), fun p np => ?_⟩
        exact h _ _ ⟨p, ⟨1 + u, x', 0, 1 + d⟩, rfl, upd_same, pm_diag t1 (by omega) (by omega) ud x0 (by omega), hp5.new np, ((k4'.new np8).trans k5).new np⟩
      · exact ⟨_, rfl, h _ _ ⟨p8, ⟨1 + u, 0, 0, 1 + d⟩, rfl, upd_same, pm_diag t1 (by omega) (by omega) ud (by decide) (by decide), (hp4.new np8).le (by omega), k4'.new np8⟩⟩
      · refine ⟨_, rfl, _, _, rfl, rfl, .inr ⟨_, rfl, _, _, rfl, rfl, cml_l (by decide), _, rfl, ?_, ?_, for_range (lo := 0)
          (fun i σ H2 => ∃ (v x y z x10 x11 : Option V), σ = [some (.ref a), some (.int top), some (.int st), x, y, z, some (.int (1 + u)), some (.int (1 + d)), some (.ref p8), v, x10, x11] ∧ Pq H a top (n + 24 + 1003 * i) v H2) ⟨_, _, _, _, _, _, rfl, pq⟩ ?_ ?_⟩⟩
        · split <;> decide
        · split <;> decide
        · rintro i σ H2 hi ⟨v, x, y, z, x10, x11, rfl, pq⟩
          have i2 : i < 2 := by
            revert hi
            split <;> intro hi <;> omega
          obtain ⟨p9, m, rfl, e9, pm, hp6, k6⟩ := pq
          refine ⟨_, rfl, sz (by show 2 ≤ 1000000; decide), fun p0 np0 => ?_⟩
          refine ⟨_, rfl, a, 2, n + 24 + 1003 * i, rfl, by decide, by decide, by omega, hp6.new np0, fun r H7 r0 r1 hp7 k7 => ?_⟩
          have e1 : H7 p0 = some (.lst [.int 4, .int 8]) := k7 p0 _ (hp6.ne np0).symm upd_same
          obtain ⟨t, ht, et⟩ := menu_at (l := [4, 8]) r0 r1
          have t1 : 4 ≤ t ∧ t ≤ 8 := by
            simp only [List.mem_cons, List.not_mem_nil, or_false] at ht
            rcases ht with rfl | rfl <;> decide
          refine ⟨p0, _, r, _, rfl, rfl, SqL.of e1, et, ?_⟩
          refine ⟨a, t, n + 24 + 1003 * i + 1, rfl, by omega, by omega, by omega, hp7, fun w H8 hw hp8 k8 => ?_⟩
          have hw8 : w.length ≤ 8 := by omega
          refine ⟨w, rfl, fun H9 p10 sm9 np10 e10 => ?_⟩
          have k9 : Kp a (L2.upd _ p0 (.lst [.int 4, .int 8])) H9 := (k7.trans k8).trans (Kp.of sm9)
          have k9' := ((Kp.refl a _).new np0).trans k9
          have e9' := k9' _ _ (tup_ne hp6 e9) e9
          have k69 := k6.trans k9'
          have bw := bd_mat hw8
          have bm := bd4 (k := 9) pm.nn pm.le (by decide)
          refine ⟨_, rfl, rfl, _, rfl, meetE (fun v H' => ∃ (p : Addr) (l : Bool) (m' : M4), v = .ref p ∧ m' = (if l then (mat w).mul m else m.mul (mat w)) ∧ H' p = some (.tup (m'.l.map V.int)) ∧ Same H9 H') (fun _ R h => ?_) (fun _ R h => ?_) (fun v HA pq => ?_)⟩
          · refine ⟨_, rfl, _, rfl, p10, p9, mat w, m, 9, rfl, SqT.of e10, SqT.of e9', by decide, bw, bm, fun HA pA smA npA eA => ?_⟩
            exact h _ _ ⟨pA, true, _, rfl, rfl, eA, smA⟩
          · refine ⟨_, rfl, _, rfl, p9, p10, m, mat w, 9, rfl, SqT.of e9', SqT.of e10, by decide, bm, bw, fun HA pA smA npA eA => ?_⟩
            exact h _ _ ⟨pA, false, _, rfl, rfl, eA, smA⟩
          · obtain ⟨pA, l, m', rfl, em, eA, smA⟩ := pq
            have hpA : Pu HA a (n + 24 + 1003 * (i + 1)) := ((hp8.same sm9).same smA).le (by omega)
            have kA := k69.trans (Kp.of smA)
            refine ⟨_, rfl, pA, m'.a, [m'.b, m'.c, m'.d], rfl, SqT.of eA, by show 3 ≤ 100; decide, fun mx h1 h2 => ?_⟩
            refine ⟨_, _, rfl, rfl, _, rfl, bl2 (fun hx => ?_) (fun hx => ?_)⟩
            · have hx := of_decide_eq_true hx
              have g := fun y hy => Int.le_trans (h2 y hy) hx
              have le : Le 60 m' := ⟨g _ (by simp), g _ (by simp), g _ (by simp), g _ (by simp)⟩
              have pm' : Pm top m' := by
                rw [em] at le ⊢
                exact pm_mul pm w l le
              exact ⟨_, rfl, _, _, _, _, _, _, rfl, pA, m', rfl, eA, pm', hpA, kA⟩
            · exact ⟨_, _, _, _, _, _, rfl, p9, m, rfl, smA _ _ e9', pm, hpA, kA⟩
        · rintro σ H6 ⟨v, x, y, z, x10, x11, rfl, pq⟩
          have pq := pq.le (show _ ≤ n + 24 + 1003 * 2 by split <;> omega)
          obtain ⟨p9, m, rfl, e9, pm, hp6, k6⟩ := pq
          refine ⟨_, rfl, a, 2, n + 24 + 1003 * 2, rfl, by decide, by decide, by omega, hp6, fun r H7 r0 r1 hp7 k7 => ?_⟩
          have e9' := k7 _ _ (tup_ne hp6 e9) e9
          have k67 := k6.trans k7
          refine ⟨rfl, _, rfl, meet (fun σ' H' => ∃ (v : Option V), σ' = [some (.ref a), some (.int top), some (.int st), x, y, z, some (.int (1 + u)), some (.int (1 + d)), some (.ref p8), v, x10, x11] ∧ Pq H a top (n + 24 + 1003 * 2 + 1) v H') (fun _ N h => ?_) (fun _ N h => ?_) (fun σ8 H8 z8 => ?_)⟩
          · refine ⟨_, rfl, p9, _, _, _, rfl, rfl, SqT.of e9', rfl, _, rfl, p9, _, _, _, rfl, rfl, SqT.of e9', rfl, _, rfl, p9, _, _, _, rfl, rfl, SqT.of e9', rfl, _, rfl, p9, _, _, _, rfl, rfl, SqT.of e9', rfl, sz (by show 4 ≤ 1000000; decide), fun p np => ?_⟩
            exact h _ _ ⟨_, rfl, p, ⟨m.b, m.a, m.d, m.c⟩, rfl, upd_same, pm_col pm, hp7.new np, k67.new np⟩
          · exact h _ _ ⟨_, rfl, p9, m, rfl, e9', pm, hp7, k67⟩
          · obtain ⟨v, rfl, p9, m, rfl, e9, pm, hp8, k8⟩ := z8
            refine ⟨_, rfl, a, 2, n + 24 + 1003 * 2 + 1, rfl, by decide, by decide, by omega, hp8, fun r H7 r0 r1 hp7 k7 => ?_⟩
            have e9' := k7 _ _ (tup_ne hp8 e9) e9
            have k67 := k8.trans k7
            refine ⟨rfl, _, rfl, meet (fun σ' H' => ∃ (v : Option V), σ' = [some (.ref a), some (.int top), some (.int st), x, y, z, some (.int (1 + u)), some (.int (1 + d)), some (.ref p8), v, x10, x11] ∧ Pq H a top (n + 24 + 1003 * 2 + 2) v H') (fun _ N h => ?_) (fun _ N h => ?_) (fun σ8 H8 z8 => ?_)⟩
            · refine ⟨_, rfl, p9, _, _, _, rfl, rfl, SqT.of e9', rfl, _, rfl, p9, _, _, _, rfl, rfl, SqT.of e9', rfl, _, rfl, p9, _, _, _, rfl, rfl, SqT.of e9', rfl, _, rfl, p9, _, _, _, rfl, rfl, SqT.of e9', rfl, sz (by show 4 ≤ 1000000; decide), fun p np => ?_⟩
              exact h _ _ ⟨_, rfl, p, ⟨m.c, m.d, m.a, m.b⟩, rfl, upd_same, pm_row pm, hp7.new np, k67.new np⟩
            · exact h _ _ ⟨_, rfl, p9, m, rfl, e9', pm, hp7, k67⟩
            · obtain ⟨v, rfl, p9, m, rfl, e9, pm, hp8, k8⟩ := z8
              refine ⟨_, rfl, p9, m.l, rfl, .inr (SqT.of e9), det_pos_gl pm.d0, (det_gl pm.d0 (bd4 (k := 30) pm.nn pm.le (by decide))).sml, by show 4 ≤ 100; decide, fun H9 p sm np e => ?_⟩
              rw [← low_l] at e
              refine q m.low H9 p (low_mp pm.nn pm.d0) (low_le pm.nn pm.le) (Nat.le_trans (low_det_le pm.d0) pm.dt) ((hp8.le (by omega)).same sm) (k8.trans (Kp.of sm)) (k8.free hp8 np) e

/-! _law_rt_goal -/
def sp__law_rt_goal (K : PySem.W.Frag) : Sp := fun vs H Q _ => ∃ (a b : Addr) (m : M4) (x y : Int), vs = [.ref a, .ref b] ∧ SqT K H a (m.l.map V.int) ∧ SqT K H b [.int x, .int y] ∧ (∀ i ∈ m.l, Bd 900 i) ∧ Bd 900 x ∧ Bd 900 y ∧
  0 < gl [m.a * x + m.b * y, m.c * x + m.d * y] ∧ Sml (gl [m.a * x + m.b * y, m.c * x + m.d * y] : Nat) ∧
  ∀ H' p, Same H H' → H p = none → H' p = some (.tup ((lowl [m.a * x + m.b * y, m.c * x + m.d * y]).map V.int)) → Q (.ref p) H'
theorem ok__law_rt_goal (T : Tx K mg) : FnOk P w K mg base CX0 3 T.a__law_rt_goal T.fd__law_rt_goal ["plan", "pair"] (sp__law_rt_goal K) := by
  have G__law_rt_low := ok__law_rt_low (P := P) (w := w) (base := base) T
  refine T.F__law_rt_goal.ok sc__law_rt_goal (fun vs H Q E h => ?_) (fun cdv A outer s H vs Q E hr h => ?_)
  · obtain ⟨a, b, m, x, y, rfl, _⟩ := h
    rfl
  · obtain ⟨a, b, m, x, y, rfl, ha, hb, bm, bx, by', g0, gs, q⟩ := h
    refine ⟨_, (pss_one (ps_ret (pe_call G__law_rt_low (hr.mono (by decide)) (by rfl) T.g__law_rt_low T.F__law_rt_low.kp (b__law_rt_low T.F__law_rt_low) .nil pass0 (pa_cons (pe_tup (pa_cons (pe_op op_add (pe_op op_mulL (pe_ix ix_tup (pv 0) pe_int (fun _ _ => rfl)) (pe_ix ix_tup (pv 1) pe_int (fun _ _ => rfl))) (pe_op op_mulL (pe_ix ix_tup (pv 0) pe_int (fun _ _ => rfl)) (pe_ix ix_tup (pv 1) pe_int (fun _ _ => rfl)))) (pa_cons (pe_op op_add (pe_op op_mulL (pe_ix ix_tup (pv 0) pe_int (fun _ _ => rfl)) (pe_ix ix_tup (pv 1) pe_int (fun _ _ => rfl))) (pe_op op_mulL (pe_ix ix_tup (pv 0) pe_int (fun _ _ => rfl)) (pe_ix ix_tup (pv 1) pe_int (fun _ _ => rfl)))) pa_nil))) pa_nil)))), ?_⟩
    have ba := bm m.a (by simp [M4.l])
    have bb := bm m.b (by simp [M4.l])
    have bc := bm m.c (by simp [M4.l])
    have bd := bm m.d (by simp [M4.l])
    refine ⟨_, rfl, a, _, _, _, rfl, rfl, ha, rfl, _, rfl, b, _, _, _, rfl, rfl, hb, rfl, _, _, rfl, rfl, ba.ml bx, _, rfl, a, _, _, _, rfl, rfl, ha, rfl, _, rfl, b, _, _, _, rfl, rfl, hb, rfl, _, _, rfl, rfl, bb.ml by', _, _, rfl, rfl, ?_⟩
    refine ⟨_, rfl, a, _, _, _, rfl, rfl, ha, rfl, _, rfl, b, _, _, _, rfl, rfl, hb, rfl, _, _, rfl, rfl, bc.ml bx, _, rfl, a, _, _, _, rfl, rfl, ha, rfl, _, rfl, b, _, _, _, rfl, rfl, hb, rfl, _, _, rfl, rfl, bd.ml by', _, _, rfl, rfl, sz (by show 2 ≤ 1000000; decide), fun t nt => ?_⟩
    refine ⟨t, [m.a * x + m.b * y, m.c * x + m.d * y], rfl, .inr (SqT.of upd_same), g0, gs, by show 2 ≤ 100; decide, fun H' p sm np hp => ?_⟩
    have s1 := (L2.Same.refl H).new (o := .tup [.int (m.a * x + m.b * y), .int (m.c * x + m.d * y)]) nt
    exact q H' p (s1.trans sm) (s1.free np) hp

/-! is_undivided_map -/
def sp_is_undivided_map (K : PySem.W.Frag) : Sp := fun vs H Q _ => ∃ (p : Addr) (m : M4), vs = [.ref p] ∧ SqT K H p (m.l.map V.int) ∧ (∀ i ∈ m.l, Bd 900 i) ∧ ∀ b : Bool, (b = true ↔ (Nn m ∧ m.det ≠ 0)) → Q (.bl b) H
theorem ok_is_undivided_map (T : Tx K mg) : FnOk P w K mg base CX0 1 T.a_is_undivided_map T.fd_is_undivided_map ["one"] (sp_is_undivided_map K) := by
  refine T.F_is_undivided_map.ok sc_is_undivided_map (fun vs H Q E h => ?_) (fun cdv A outer s H vs Q E hr h => ?_)
  · obtain ⟨p, m, rfl, _⟩ := h
    rfl
  · obtain ⟨p, m, rfl, hp, hb, q⟩ := h
    refine ⟨_, (pss_cons (ps_asg (pv 0) (pg_tup (by rfl) (pgs_cons (pg_name (i := 1) sc_is_undivided_map.nd rfl (Or.inl rfl)) (pgs_cons (pg_name (i := 2) sc_is_undivided_map.nd rfl (Or.inl rfl)) (pgs_cons (pg_name (i := 3) sc_is_undivided_map.nd rfl (Or.inl rfl)) (pgs_cons (pg_name (i := 4) sc_is_undivided_map.nd rfl (Or.inl rfl)) pgs_nil))))))
  (pss_one (ps_ret (pe_and (pe_cmpR op_ge (pe_callB (cr_minN rfl) (by rfl) T.z_min (by decide +kernel) (pa_cons (pv 1) (pa_cons (pv 2) (pa_cons (pv 3) (pa_cons (pv 4) pa_nil))))) pe_int (nomark _)) (pe_one (pe_cmpR op_ne (pe_op op_mulL (pv 1) (pv 4)) (pe_op op_mulL (pv 2) (pv 3)) (nomark _))))))), ?_⟩
    have ba := hb m.a (by simp [M4.l])
    have bb := hb m.b (by simp [M4.l])
    have bc := hb m.c (by simp [M4.l])
    have bd := hb m.d (by simp [M4.l])
    refine ⟨_, rfl, p, _, rfl, hp, rfl, _, _, rfl, _, _, rfl, _, _, rfl, _, _, rfl, rfl, ?_⟩
    refine ⟨_, rfl, _, rfl, _, rfl, _, rfl, m.a, m.b, m.c, m.d, rfl, fun x hx hl => ⟨_, _, rfl, rfl, _, rfl, bl2 (fun h => ?_) (fun h => ?_)⟩⟩
    · have h := of_decide_eq_true h
      have nn : Nn m := ⟨by have := hl m.a (by simp); omega, by have := hl m.b (by simp); omega, by have := hl m.c (by simp); omega, by have := hl m.d (by simp); omega⟩
      refine ⟨_, rfl, _, rfl, _, _, rfl, rfl, ba.ml bd, _, rfl, _, rfl, _, _, rfl, rfl, bb.ml bc, rfl, q _ ?_⟩
      have e : m.det = m.a * m.d - m.b * m.c := rfl
      refine ⟨fun z => ⟨nn, fun d => ?_⟩, fun z => ?_⟩
      · have z : ¬ V.int (m.a * m.d) = V.int (m.b * m.c) := by simpa using z
        exact z (by rw [show m.a * m.d = m.b * m.c by omega])
      · have : ¬ V.int (m.a * m.d) = V.int (m.b * m.c) := fun y => by
          injection y with y
          exact z.2 (by omega)
        simpa using this
    · have h := of_decide_eq_false h
      refine q _ ⟨(fun z => nomatch z), fun z => absurd ?_ h⟩
      have := z.1.a
      have := z.1.b
      have := z.1.c
      have := z.1.d
      simp only [List.mem_cons, List.not_mem_nil, or_false] at hx
      rcases hx with rfl | rfl | rfl | rfl <;> omega

/-! is_map -/
def sp_is_map (K : PySem.W.Frag) : Sp := fun vs H Q _ => ∃ (p : Addr) (m : M4), vs = [.ref p] ∧ SqT K H p (m.l.map V.int) ∧ (∀ i ∈ m.l, Bd 900 i) ∧ ∀ b : Bool, (b = true ↔ Mp m) → Q (.bl b) H
theorem gl_four (m : M4) : gl m.l = Nat.gcd (Nat.gcd (Nat.gcd m.a.natAbs m.b.natAbs) m.c.natAbs) m.d.natAbs := by
  show Nat.gcd (Nat.gcd (Nat.gcd (Nat.gcd 0 m.a.natAbs) m.b.natAbs) m.c.natAbs) m.d.natAbs = _
  rw [Nat.gcd_zero_left]
theorem ok_is_map (T : Tx K mg) : FnOk P w K mg base CX0 2 T.a_is_map T.fd_is_map ["one"] (sp_is_map K) := by
  have G_is_undivided_map := ok_is_undivided_map (P := P) (w := w) (base := base) T
  refine T.F_is_map.ok sc_is_map (fun vs H Q E h => ?_) (fun cdv A outer s H vs Q E hr h => ?_)
  · obtain ⟨p, m, rfl, _⟩ := h
    rfl
  · obtain ⟨p, m, rfl, hp, hb, q⟩ := h
    refine ⟨_, (pss_cons (ps_asg (pv 0) (pg_tup (by rfl) (pgs_cons (pg_name (i := 1) sc_is_map.nd rfl (Or.inl rfl)) (pgs_cons (pg_name (i := 2) sc_is_map.nd rfl (Or.inl rfl)) (pgs_cons (pg_name (i := 3) sc_is_map.nd rfl (Or.inl rfl)) (pgs_cons (pg_name (i := 4) sc_is_map.nd rfl (Or.inl rfl)) pgs_nil))))))
  (pss_one (ps_ret (pe_and (pe_call G_is_undivided_map (hr.mono (by decide)) (by rfl) T.g_is_undivided_map T.F_is_undivided_map.kp (b_is_undivided_map T.F_is_undivided_map) .nil pass0 (pa_cons (pv 0) pa_nil)) (pe_one (pe_cmpR op_eq (pe_callBfun cr_gcdN (by rfl) T.m_gcd (pa_cons (pv 1) (pa_cons (pv 2) (pa_cons (pv 3) (pa_cons (pv 4) pa_nil))))) pe_int (nomark _))))))), ?_⟩
    refine ⟨_, rfl, p, _, rfl, hp, rfl, _, _, rfl, _, _, rfl, _, _, rfl, _, _, rfl, rfl, ?_⟩
    refine ⟨_, rfl, p, m, rfl, hp, hb, fun b hb => ⟨_, rfl, bl2 (fun c => ?_) (fun c => ?_)⟩⟩
    · have hm := hb.mp c
      refine ⟨_, rfl, _, rfl, _, rfl, _, rfl, .inr (.inr ⟨m.a, m.b, m.c, m.d, rfl, rfl, q _ ?_⟩)⟩
      rw [← gl_four]
      refine ⟨fun z => ?_, fun z => ?_⟩
      · have z : V.int (gl m.l : Nat) = V.int 1 := by simpa using z
        injection z with z
        exact ⟨hm.1, hm.2, by omega⟩
      · rw [z.gd]
        rfl
    · refine q _ ⟨(fun z => nomatch z), fun z => ?_⟩
      rw [hb.mpr ⟨z.nn, z.dt⟩] at c
      cases c

/-! check_map -/
def sp_check_map (K : PySem.W.Frag) : Sp := fun vs H Q _ => ∃ (p : Addr) (m : M4), vs = [.ref p] ∧ SqT K H p (m.l.map V.int) ∧ Mp m ∧ (∀ i ∈ m.l, Bd 900 i) ∧ Q .non H
theorem ok_check_map (T : Tx K mg) : FnOk P w K mg base CX0 3 T.a_check_map T.fd_check_map ["one"] (sp_check_map K) := by
  have G_is_map := ok_is_map (P := P) (w := w) (base := base) T
  refine T.F_check_map.ok sc_check_map (fun vs H Q E h => ?_) (fun cdv A outer s H vs Q E hr h => ?_)
  · obtain ⟨p, m, rfl, _⟩ := h
    rfl
  · obtain ⟨p, m, rfl, hp, mp, hb, q⟩ := h
    refine ⟨_, (pss_one (ps_if (pt_not (pt_val (pe_call G_is_map (hr.mono (by decide)) (by rfl) T.g_is_map T.F_is_map.kp (b_is_map T.F_is_map) .nil pass0 (pa_cons (pv 0) pa_nil)))) (pss_one ps_never) pss_nil)), ?_⟩
    refine ⟨_, rfl, p, m, rfl, hp, hb, fun b h => ⟨_, rfl, ?_⟩⟩
    rw [h.mpr mp]
    exact iteF q

/-! times -/
def sp_times (K : PySem.W.Frag) : Sp := fun vs H Q _ => ∃ (x y : Addr) (m n : M4) (k : Nat), vs = [.ref x, .ref y] ∧ SqT K H x (m.l.map V.int) ∧ SqT K H y (n.l.map V.int) ∧ k ≤ 1900 ∧ (∀ i ∈ m.l, Bd k i) ∧ (∀ i ∈ n.l, Bd k i) ∧
  ∀ H' p, Same H H' → H p = none → H' p = some (.tup ((m.mul n).l.map V.int)) → Q (.ref p) H'
theorem ok_times (T : Tx K mg) : FnOk P w K mg base CX0 1 T.a_times T.fd_times ["one", "other"] (sp_times K) := by
  refine T.F_times.ok sc_times (fun vs H Q E h => ?_) (fun cdv A outer s H vs Q E hr h => ?_)
  · obtain ⟨x, y, m, n, k, rfl, _⟩ := h
    rfl
  · obtain ⟨x, y, m, n, k, rfl, hx, hy, hk, bm, bn, q⟩ := h
    refine ⟨_, (pss_cons (ps_asg (pv 0) (pg_tup (by rfl) (pgs_cons (pg_name (i := 2) sc_times.nd rfl (Or.inl rfl)) (pgs_cons (pg_name (i := 3) sc_times.nd rfl (Or.inl rfl)) (pgs_cons (pg_name (i := 4) sc_times.nd rfl (Or.inl rfl)) (pgs_cons (pg_name (i := 5) sc_times.nd rfl (Or.inl rfl)) pgs_nil))))))
  (pss_cons (ps_asg (pv 1) (pg_tup (by rfl) (pgs_cons (pg_name (i := 6) sc_times.nd rfl (Or.inl rfl)) (pgs_cons (pg_name (i := 7) sc_times.nd rfl (Or.inl rfl)) (pgs_cons (pg_name (i := 8) sc_times.nd rfl (Or.inl rfl)) (pgs_cons (pg_name (i := 9) sc_times.nd rfl (Or.inl rfl)) pgs_nil))))))
  (pss_one (ps_ret (pe_tup (pa_cons (pe_op op_add (pe_op op_mulL (pv 2) (pv 6)) (pe_op op_mulL (pv 3) (pv 8))) (pa_cons (pe_op op_add (pe_op op_mulL (pv 2) (pv 7)) (pe_op op_mulL (pv 3) (pv 9))) (pa_cons (pe_op op_add (pe_op op_mulL (pv 4) (pv 6)) (pe_op op_mulL (pv 5) (pv 8))) (pa_cons (pe_op op_add (pe_op op_mulL (pv 4) (pv 7)) (pe_op op_mulL (pv 5) (pv 9))) pa_nil))))))))), ?_⟩
    have ba := bm m.a (by simp [M4.l])
    have bb := bm m.b (by simp [M4.l])
    have bc := bm m.c (by simp [M4.l])
    have bd := bm m.d (by simp [M4.l])
    have ca := bn n.a (by simp [M4.l])
    have cb := bn n.b (by simp [M4.l])
    have cc := bn n.c (by simp [M4.l])
    have cd := bn n.d (by simp [M4.l])
    refine ⟨_, rfl, x, _, rfl, hx, rfl, _, _, rfl, _, _, rfl, _, _, rfl, _, _, rfl, rfl, ?_⟩
    refine ⟨_, rfl, y, _, rfl, hy, rfl, _, _, rfl, _, _, rfl, _, _, rfl, _, _, rfl, rfl, ?_⟩
    refine ⟨_, rfl, _, rfl, _, _, rfl, rfl, ba.ml ca hk hk, _, rfl, _, rfl, _, _, rfl, rfl, bb.ml cc hk hk, _, _, rfl, rfl, ?_⟩
    refine ⟨_, rfl, _, rfl, _, _, rfl, rfl, ba.ml cb hk hk, _, rfl, _, rfl, _, _, rfl, rfl, bb.ml cd hk hk, _, _, rfl, rfl, ?_⟩
    refine ⟨_, rfl, _, rfl, _, _, rfl, rfl, bc.ml ca hk hk, _, rfl, _, rfl, _, _, rfl, rfl, bd.ml cc hk hk, _, _, rfl, rfl, ?_⟩
    refine ⟨_, rfl, _, rfl, _, _, rfl, rfl, bc.ml cb hk hk, _, rfl, _, rfl, _, _, rfl, rfl, bd.ml cd hk hk, _, _, rfl, rfl, sz (by show 4 ≤ 1000000; decide), fun p np => ?_⟩
    exact q _ p ((L2.Same.refl H).new np) np upd_same

/-! check_undivided_map -/
def sp_check_undivided_map (K : PySem.W.Frag) : Sp := fun vs H Q _ => ∃ (p : Addr) (m : M4), vs = [.ref p] ∧ SqT K H p (m.l.map V.int) ∧ Nn m ∧ m.det ≠ 0 ∧ (∀ i ∈ m.l, Bd 900 i) ∧ Q .non H
theorem ok_check_undivided_map (T : Tx K mg) : FnOk P w K mg base CX0 2 T.a_check_undivided_map T.fd_check_undivided_map ["one"] (sp_check_undivided_map K) := by
  have G_is_undivided_map := ok_is_undivided_map (P := P) (w := w) (base := base) T
  refine T.F_check_undivided_map.ok sc_check_undivided_map (fun vs H Q E h => ?_) (fun cdv A outer s H vs Q E hr h => ?_)
  · obtain ⟨p, m, rfl, _⟩ := h
    rfl
  · obtain ⟨p, m, rfl, hp, nn, hd, hb, q⟩ := h
    refine ⟨_, (pss_one (ps_if (pt_not (pt_val (pe_call G_is_undivided_map (hr.mono (by decide)) (by rfl) T.g_is_undivided_map T.F_is_undivided_map.kp (b_is_undivided_map T.F_is_undivided_map) .nil pass0 (pa_cons (pv 0) pa_nil)))) (pss_one ps_never) pss_nil)), ?_⟩
    refine ⟨_, rfl, p, m, rfl, hp, hb, fun b h => ⟨_, rfl, ?_⟩⟩
    rw [h.mpr ⟨nn, hd⟩]
    exact iteF q

/-! least_map -/
def sp_least_map (K : PySem.W.Frag) : Sp := fun vs H Q _ => ∃ (m : M4), vs = [.int m.a, .int m.b, .int m.c, .int m.d] ∧ Nn m ∧ m.det ≠ 0 ∧ (∀ i ∈ m.l, Bd 900 i) ∧
  ∀ H' p, Same H H' → H p = none → H' p = some (.tup (m.low.l.map V.int)) → Q (.ref p) H'
theorem gl_4 (m : M4) : gl m.l = Nat.gcd (Nat.gcd (Nat.gcd m.a.natAbs m.b.natAbs) m.c.natAbs) m.d.natAbs := by
  show Nat.gcd (Nat.gcd (Nat.gcd (Nat.gcd 0 m.a.natAbs) m.b.natAbs) m.c.natAbs) m.d.natAbs = _
  rw [Nat.gcd_zero_left]
theorem ok_least_map (T : Tx K mg) : FnOk P w K mg base CX0 3 T.a_least_map T.fd_least_map ["a", "b", "c", "d"] (sp_least_map K) := by
  have G_check_undivided_map := ok_check_undivided_map (P := P) (w := w) (base := base) T
  refine T.F_least_map.ok sc_least_map (fun vs H Q E h => ?_) (fun cdv A outer s H vs Q E hr h => ?_)
  · obtain ⟨m, rfl, _⟩ := h
    rfl
  · obtain ⟨m, rfl, nn, hd, hb, q⟩ := h
    refine ⟨_, (pss_cons (ps_expr (pe_call G_check_undivided_map (hr.mono (by decide)) (by rfl) T.g_check_undivided_map T.F_check_undivided_map.kp (b_check_undivided_map T.F_check_undivided_map) .nil pass0 (pa_cons (pe_tup (pa_cons (pv 0) (pa_cons (pv 1) (pa_cons (pv 2) (pa_cons (pv 3) pa_nil))))) pa_nil)))
  (pss_cons (ps_set (i := 4) sc_least_map.nd rfl (Or.inl rfl) (pe_callBfun cr_gcdN (by rfl) T.m_gcd (pa_cons (pv 0) (pa_cons (pv 1) (pa_cons (pv 2) (pa_cons (pv 3) pa_nil))))))
  (pss_one (ps_ret (pe_tup (pa_cons (pe_op op_fdivL (pv 0) (pv 4)) (pa_cons (pe_op op_fdivL (pv 1) (pv 4)) (pa_cons (pe_op op_fdivL (pv 2) (pv 4)) (pa_cons (pe_op op_fdivL (pv 3) (pv 4)) pa_nil))))))))), ?_⟩
    have g0 := det_pos_gl hd
    have gs := (det_gl hd hb).sml
    refine ⟨_, rfl, _, rfl, _, rfl, _, rfl, sz (by show 4 ≤ 1000000; decide), fun p0 np0 => ?_⟩
    refine ⟨p0, m, rfl, SqT.of upd_same, nn, hd, hb, ?_⟩
    refine ⟨_, rfl, _, rfl, _, rfl, _, rfl, .inr (.inr ⟨m.a, m.b, m.c, m.d, rfl, ?_⟩)⟩
    rw [← gl_4]
    have cd : ∀ i : Int, Cfd i (gl m.l : Nat) := fun i => .inr ⟨by omega, Nat.lt_trans gs.lg (by decide)⟩
    refine ⟨_, rfl, _, rfl, _, _, rfl, rfl, cd _, _, rfl, _, rfl, _, _, rfl, rfl, cd _, _, rfl, _, rfl, _, _, rfl, rfl, cd _, _, rfl, _, rfl, _, _, rfl, rfl, cd _, sz (by show 4 ≤ 1000000; decide), fun p np => ?_⟩
    refine q _ p (((L2.Same.refl H).new np0).new np) (((L2.Same.refl H).new np0).free np) ?_
    rw [upd_same]
    show some (HO.tup [V.int (Int.fdiv _ _), V.int (Int.fdiv _ _), V.int (Int.fdiv _ _), V.int (Int.fdiv _ _)]) = _
    rw [Int.fdiv_eq_ediv_of_nonneg _ (by omega), Int.fdiv_eq_ediv_of_nonneg _ (by omega), Int.fdiv_eq_ediv_of_nonneg _ (by omega), Int.fdiv_eq_ediv_of_nonneg _ (by omega)]
    rfl

/-! behind -/
def sp_behind (K : PySem.W.Frag) : Sp := fun vs H Q _ => ∃ (x y : Addr) (m n : M4), vs = [.ref x, .ref y] ∧ SqT K H x (m.l.map V.int) ∧ SqT K H y (n.l.map V.int) ∧ Mp m ∧ Mp n ∧ (∀ i ∈ m.l, Bd 400 i) ∧ (∀ i ∈ n.l, Bd 400 i) ∧
  ∀ H' p, Same H H' → H p = none → H' p = some (.tup ((n.mul m).low.l.map V.int)) → Q (.ref p) H'
theorem mul_bd {m n : M4} {j k : Nat} (hm : ∀ i ∈ m.l, Bd j i) (hn : ∀ i ∈ n.l, Bd k i) : ∀ i ∈ (m.mul n).l, Bd (j + k + 1) i := by
  have ba := hm m.a (by simp [M4.l])
  have bb := hm m.b (by simp [M4.l])
  have bc := hm m.c (by simp [M4.l])
  have bd := hm m.d (by simp [M4.l])
  have ca := hn n.a (by simp [M4.l])
  have cb := hn n.b (by simp [M4.l])
  have cc := hn n.c (by simp [M4.l])
  have cd := hn n.d (by simp [M4.l])
  intro i hi
  simp only [M4.l, M4.mul, List.mem_cons, List.not_mem_nil, or_false] at hi
  rcases hi with rfl | rfl | rfl | rfl
  · exact (ba.mul ca).add (bb.mul cc)
  · exact (ba.mul cb).add (bb.mul cd)
  · exact (bc.mul ca).add (bd.mul cc)
  · exact (bc.mul cb).add (bd.mul cd)
theorem det_mul_ne {m n : M4} (hm : m.det ≠ 0) (hn : n.det ≠ 0) : (m.mul n).det ≠ 0 := by
  rw [M4.det_mul]
  exact Int.mul_ne_zero hm hn
theorem ok_behind (T : Tx K mg) : FnOk P w K mg base CX0 4 T.a_behind T.fd_behind ["one", "other"] (sp_behind K) := by
  have G_check_map := ok_check_map (P := P) (w := w) (base := base) T
  have G_times := ok_times (P := P) (w := w) (base := base) T
  have G_least_map := ok_least_map (P := P) (w := w) (base := base) T
  refine T.F_behind.ok sc_behind (fun vs H Q E h => ?_) (fun cdv A outer s H vs Q E hr h => ?_)
  · obtain ⟨x, y, m, n, rfl, _⟩ := h
    rfl
  · obtain ⟨x, y, m, n, rfl, hx, hy, mp, np', hm, hn, q⟩ := h
    refine ⟨_, (pss_cons (ps_expr (pe_call G_check_map (hr.mono (by decide)) (by rfl) T.g_check_map T.F_check_map.kp (b_check_map T.F_check_map) .nil pass0 (pa_cons (pv 0) pa_nil)))
  (pss_cons (ps_expr (pe_call G_check_map (hr.mono (by decide)) (by rfl) T.g_check_map T.F_check_map.kp (b_check_map T.F_check_map) .nil pass0 (pa_cons (pv 1) pa_nil)))
  (pss_cons (ps_asg (pe_call G_times (hr.mono (by decide)) (by rfl) T.g_times T.F_times.kp (b_times T.F_times) .nil pass0 (pa_cons (pv 1) (pa_cons (pv 0) pa_nil))) (pg_tup (by rfl) (pgs_cons (pg_name (i := 2) sc_behind.nd rfl (Or.inl rfl)) (pgs_cons (pg_name (i := 3) sc_behind.nd rfl (Or.inl rfl)) (pgs_cons (pg_name (i := 4) sc_behind.nd rfl (Or.inl rfl)) (pgs_cons (pg_name (i := 5) sc_behind.nd rfl (Or.inl rfl)) pgs_nil))))))
  (pss_one (ps_ret (pe_call G_least_map (hr.mono (by decide)) (by rfl) T.g_least_map T.F_least_map.kp (b_least_map T.F_least_map) .nil pass0 (pa_cons (pv 2) (pa_cons (pv 3) (pa_cons (pv 4) (pa_cons (pv 5) pa_nil)))))))))), ?_⟩
    have hm9 : ∀ i ∈ m.l, Bd 900 i := fun i hi => (hm i hi).up (by decide)
    have hn9 : ∀ i ∈ n.l, Bd 900 i := fun i hi => (hn i hi).up (by decide)
    refine ⟨_, rfl, x, m, rfl, hx, mp, hm9, ?_⟩
    refine ⟨_, rfl, y, n, rfl, hy, np', hn9, ?_⟩
    refine ⟨_, rfl, _, rfl, y, x, n, m, 900, rfl, hy, hx, by decide, hn9, hm9, fun H1 p1 sm1 np1 e1 => ?_⟩
    refine ⟨p1, _, rfl, .inl (.inl e1), rfl, _, _, rfl, _, _, rfl, _, _, rfl, _, _, rfl, rfl, ?_⟩
    refine ⟨_, rfl, _, rfl, _, rfl, _, rfl, n.mul m, rfl, mul_nn np'.nn mp.nn, det_mul_ne np'.dt mp.dt, fun i hi => (mul_bd hn hm i hi).up (by decide), fun H2 p2 sm2 np2 e2 => ?_⟩
    exact q H2 p2 (sm1.trans sm2) (sm1.free np2) e2

/-! turned -/
def sp_turned (K : PySem.W.Frag) : Sp := fun vs H Q _ => ∃ (x : Addr) (m : M4), vs = [.ref x] ∧ SqT K H x (m.l.map V.int) ∧ Mp m ∧ (∀ i ∈ m.l, Bd 900 i) ∧
  (m.b = 0 ∧ m.c = 0 → ∀ H' p, Same H H' → H p = none → H' p = some (.tup [.int m.d, .int 0, .int 0, .int m.a]) → Q (.ref p) H') ∧
  (m.a = 0 ∧ m.d = 0 → ∀ H' p, Same H H' → H p = none → H' p = some (.tup [.int 0, .int m.b, .int m.c, .int 0]) → Q (.ref p) H') ∧
  (¬ (m.b = 0 ∧ m.c = 0) → ¬ (m.a = 0 ∧ m.d = 0) → Q .non H)
theorem ok_turned (T : Tx K mg) : FnOk P w K mg base CX0 4 T.a_turned T.fd_turned ["one"] (sp_turned K) := by
  have G_check_map := ok_check_map (P := P) (w := w) (base := base) T
  refine T.F_turned.ok sc_turned (fun vs H Q E h => ?_) (fun cdv A outer s H vs Q E hr h => ?_)
  · obtain ⟨x, m, rfl, _⟩ := h
    rfl
  · obtain ⟨x, m, rfl, hx, mp, hb, q1, q2, q3⟩ := h
    refine ⟨_, (pss_cons (ps_expr (pe_call G_check_map (hr.mono (by decide)) (by rfl) T.g_check_map T.F_check_map.kp (b_check_map T.F_check_map) .nil pass0 (pa_cons (pv 0) pa_nil)))
  (pss_cons (ps_asg (pv 0) (pg_tup (by rfl) (pgs_cons (pg_name (i := 1) sc_turned.nd rfl (Or.inl rfl)) (pgs_cons (pg_name (i := 2) sc_turned.nd rfl (Or.inl rfl)) (pgs_cons (pg_name (i := 3) sc_turned.nd rfl (Or.inl rfl)) (pgs_cons (pg_name (i := 4) sc_turned.nd rfl (Or.inl rfl)) pgs_nil))))))
  (pss_cons (ps_if (PW.pt (pw_and (pt_cmpR op_eq (pv 2) pe_int (nomark _)) (pw_and1 (pt_cmpR op_eq (pv 3) pe_int (nomark _))))) (pss_one (ps_ret (pe_tup (pa_cons (pv 4) (pa_cons pe_int (pa_cons pe_int (pa_cons (pv 1) pa_nil))))))) pss_nil)
  (pss_cons (ps_if (PW.pt (pw_and (pt_cmpR op_eq (pv 1) pe_int (nomark _)) (pw_and1 (pt_cmpR op_eq (pv 4) pe_int (nomark _))))) (pss_one (ps_ret (pe_tup (pa_cons pe_int (pa_cons (pv 2) (pa_cons (pv 3) (pa_cons pe_int pa_nil))))))) pss_nil)
  (pss_one (ps_ret pe_non)))))), ?_⟩
    refine ⟨_, rfl, x, m, rfl, hx, mp, hb, ?_⟩
    refine ⟨_, rfl, x, _, rfl, hx, rfl, _, _, rfl, _, _, rfl, _, _, rfl, _, _, rfl, rfl, ?_⟩
    by_cases h : m.b = 0 ∧ m.c = 0
    · refine ⟨_, rfl, rfl, _, rfl, ifI (fun _ => ?_) (fun z => absurd h.1 z)⟩
      refine ⟨_, rfl, rfl, _, rfl, ifI (fun _ => ?_) (fun z => absurd h.2 z)⟩
      exact ⟨_, rfl, _, rfl, sz (by show 4 ≤ 1000000; decide), fun p np => q1 h _ p ((L2.Same.refl H).new np) np upd_same⟩
    · by_cases hb0 : m.b = 0
      · refine ⟨_, rfl, rfl, _, rfl, ifI (fun _ => ?_) (fun z => absurd hb0 z)⟩
        refine ⟨_, rfl, rfl, _, rfl, ifI (fun z => absurd ⟨hb0, z⟩ h) (fun _ => ?_)⟩
        refine ⟨_, rfl, rfl, _, rfl, ifI (fun a0 => ?_) (fun a0 => iteF ?_)⟩
        · refine ⟨_, rfl, rfl, _, rfl, ifI (fun d0 => ?_) (fun d0 => ?_)⟩
          · exact ⟨_, rfl, _, rfl, sz (by show 4 ≤ 1000000; decide), fun p np => q2 ⟨a0, d0⟩ _ p ((L2.Same.refl H).new np) np upd_same⟩
          · exact q3 h (fun z => d0 z.2)
        · exact q3 h (fun z => a0 z.1)
      · refine ⟨_, rfl, rfl, _, rfl, ifI (fun z => absurd z hb0) (fun _ => iteF ?_)⟩
        refine ⟨_, rfl, rfl, _, rfl, ifI (fun a0 => ?_) (fun a0 => iteF ?_)⟩
        · refine ⟨_, rfl, rfl, _, rfl, ifI (fun d0 => ?_) (fun d0 => ?_)⟩
          · exact ⟨_, rfl, _, rfl, sz (by show 4 ≤ 1000000; decide), fun p np => q2 ⟨a0, d0⟩ _ p ((L2.Same.refl H).new np) np upd_same⟩
          · exact q3 h (fun z => d0 z.2)
        · exact q3 h (fun z => a0 z.1)

/-! _law_right -/
def sp__law_right (K : PySem.W.Frag) : Sp := fun vs H Q _ => ∃ (a : Addr) (n : Nat), vs = [.ref a] ∧ n < 100000 ∧ Pu H a n ∧ ∀ H', Pu H' a (n + 9999) → Kp a H H' → Q (.bl true) H'
theorem bd_mil {m : M4} (h : Nn m) (l : Le 1000000 m) : ∀ i ∈ m.l, Bd 20 i := bd4 h l (by decide)
theorem shw4 {m : M4} (h : ∀ i ∈ m.l, Bd 900 i) : Shw (tupD m.l) := shw_tup (fun x hx => (h x hx).sml) (by show 4 ≤ 8000; decide)
theorem tupD_one : tupD M4.one.l = tupD [1, 0, 0, 1] := rfl
theorem bdA {X : M4} (h : ∀ i ∈ X.l, Bd 400 i) : ∀ i ∈ (M4.mk X.d 0 0 X.a).l, Bd 400 i := fun i hi => by
  simp only [M4.l, List.mem_cons, List.not_mem_nil, or_false] at hi
  rcases hi with rfl | rfl | rfl | rfl
  · exact h _ (by simp [M4.l])
  · exact Nat.pow_pos (by decide)
  · exact Nat.pow_pos (by decide)
  · exact h _ (by simp [M4.l])
theorem ok__law_right (T : Tx K mg) : FnG P w K mg base CX0 5 T.a__law_right T.fd__law_right ["purse"] (sp__law_right K) := by
  have G__law_rt_low := ok__law_rt_low (P := P) (w := w) (base := base) T
  have G__law_rt_fraction := ok__law_rt_fraction (P := P) (w := w) (base := base) T
  have G__law_rt_any_map := ok__law_rt_any_map (P := P) (w := w) (base := base) T
  have G__law_rt_map := ok__law_rt_map (P := P) (w := w) (base := base) T
  have G__law_coin := ok__law_coin (P := P) (w := w) (base := base) T
  have G__law_rt_times := ok__law_rt_times (P := P) (w := w) (base := base) T
  have G__law_rt_goal := ok__law_rt_goal (P := P) (w := w) (base := base) T
  have G_behind := ok_behind (P := P) (w := w) (base := base) T
  have G_turned := ok_turned (P := P) (w := w) (base := base) T
  refine okG T.F__law_right sc__law_right (fun vs H Q E h => ?_) (fun cdv A outer s H vs Q E hG hr h => ?_)
  · obtain ⟨a, n, rfl, _⟩ := h
    rfl
  · obtain ⟨a, n, rfl, hn, hp, q⟩ := h
    refine ⟨_, (pss_cons (ps_set (i := 1) sc__law_right.nd rfl (Or.inl rfl) (pe_ifExp (pt_cmpR op_eq (pe_call G__law_coin (hr.mono (by decide)) (by rfl) T.g__law_coin T.F__law_coin.kp (b__law_coin T.F__law_coin) .nil pass0 (pa_cons (pv 0) (pa_cons pe_int pa_nil))) pe_int (nomark _)) (pe_call G__law_rt_any_map (hr.mono (by decide)) (by rfl) T.g__law_rt_any_map T.F__law_rt_any_map.kp (b__law_rt_any_map T.F__law_rt_any_map) .nil pass0 (pa_cons (pv 0) pa_nil)) (pe_call G__law_rt_map (hr.mono (by decide)) (by rfl) T.g__law_rt_map T.F__law_rt_map.kp (b__law_rt_map T.F__law_rt_map) .nil pass0 (pa_cons (pv 0) (pa_cons pe_int pa_nil)))))
  (pss_cons (ps_set (i := 2) sc__law_right.nd rfl (Or.inl rfl) (pe_ix ix_list (pe_lst (pa_cons (pe_call G__law_rt_any_map (hr.mono (by decide)) (by rfl) T.g__law_rt_any_map T.F__law_rt_any_map.kp (b__law_rt_any_map T.F__law_rt_any_map) .nil pass0 (pa_cons (pv 0) pa_nil)) (pa_cons (pe_call G__law_rt_map (hr.mono (by decide)) (by rfl) T.g__law_rt_map T.F__law_rt_map.kp (b__law_rt_map T.F__law_rt_map) .nil pass0 (pa_cons (pv 0) (pa_cons pe_int pa_nil))) (pa_cons (pv 1) pa_nil)))) (pe_call G__law_coin (hr.mono (by decide)) (by rfl) T.g__law_coin T.F__law_coin.kp (b__law_coin T.F__law_coin) .nil pass0 (pa_cons (pv 0) (pa_cons pe_int pa_nil))) (fun _ _ => rfl)))
  (pss_cons (ps_set (i := 3) sc__law_right.nd rfl (Or.inl rfl) (pe_call G__law_rt_low (hr.mono (by decide)) (by rfl) T.g__law_rt_low T.F__law_rt_low.kp (b__law_rt_low T.F__law_rt_low) .nil pass0 (pa_cons (pe_call G__law_rt_times (hr.mono (by decide)) (by rfl) T.g__law_rt_times T.F__law_rt_times.kp (b__law_rt_times T.F__law_rt_times) .nil pass0 (pa_cons (pv 2) (pa_cons (pv 1) pa_nil))) pa_nil)))
  (pss_cons (ps_if (PW.pt (pw_or (pt_cmpR op_ne (pe_callB (call_repr hG hr) (by rfl) T.z_repr (by decide +kernel) (pa_cons (pe_call G_behind (hr.mono (by decide)) (by rfl) T.g_behind T.F_behind.kp (b_behind T.F_behind) .nil pass0 (pa_cons (pv 1) (pa_cons (pv 2) pa_nil))) pa_nil)) (pe_callB (call_repr hG hr) (by rfl) T.z_repr (by decide +kernel) (pa_cons (pv 3) pa_nil)) (nomark _)) (pw_or1 (pt_cmpR op_ne (pe_callB (call_repr hG hr) (by rfl) T.z_repr (by decide +kernel) (pa_cons (pe_callK0 G_behind (hr.mono (by decide)) (by rfl) T.g_behind T.F_behind.kp (kb_behind_10 T.F_behind) pass0 (pk_cons (pv 2) (pk_cons (pv 1) pk_nil))) pa_nil)) (pe_callB (call_repr hG hr) (by rfl) T.z_repr (by decide +kernel) (pa_cons (pv 3) pa_nil)) (nomark _))))) (pss_one (ps_ret pe_bl)) pss_nil)
  (pss_cons (ps_set (i := 4) sc__law_right.nd rfl (Or.inl rfl) (pe_call G__law_rt_fraction (hr.mono (by decide)) (by rfl) T.g__law_rt_fraction T.F__law_rt_fraction.kp (b__law_rt_fraction T.F__law_rt_fraction) .nil pass0 (pa_cons (pv 0) (pa_cons pe_int pa_nil))))
  (pss_cons (ps_if (pt_cmpR (op_neD hr.units) (pe_call G__law_rt_goal (hr.mono (by decide)) (by rfl) T.g__law_rt_goal T.F__law_rt_goal.kp (b__law_rt_goal T.F__law_rt_goal) .nil pass0 (pa_cons (pv 3) (pa_cons (pv 4) pa_nil))) (pe_call G__law_rt_goal (hr.mono (by decide)) (by rfl) T.g__law_rt_goal T.F__law_rt_goal.kp (b__law_rt_goal T.F__law_rt_goal) .nil pass0 (pa_cons (pv 2) (pa_cons (pe_call G__law_rt_goal (hr.mono (by decide)) (by rfl) T.g__law_rt_goal T.F__law_rt_goal.kp (b__law_rt_goal T.F__law_rt_goal) .nil pass0 (pa_cons (pv 1) (pa_cons (pv 4) pa_nil))) pa_nil))) (nomark _)) (pss_one (ps_ret pe_bl)) pss_nil)
  (pss_cons (ps_par (i := 5) (j := 6) (by rfl) sc__law_right.nd rfl rfl (by decide) rfl rfl (pa_cons (pe_op op_add pe_int (pe_call G__law_coin (hr.mono (by decide)) (by rfl) T.g__law_coin T.F__law_coin.kp (b__law_coin T.F__law_coin) .nil pass0 (pa_cons (pv 0) (pa_cons (pe_ix ix_list (pe_lst (pa_cons pe_int (pa_cons (pe_op op_powL pe_int pe_int) pa_nil))) (pe_call G__law_coin (hr.mono (by decide)) (by rfl) T.g__law_coin T.F__law_coin.kp (b__law_coin T.F__law_coin) .nil pass0 (pa_cons (pv 0) (pa_cons pe_int pa_nil))) (fun _ _ => rfl)) pa_nil)))) (pa_cons (pe_op op_add pe_int (pe_call G__law_coin (hr.mono (by decide)) (by rfl) T.g__law_coin T.F__law_coin.kp (b__law_coin T.F__law_coin) .nil pass0 (pa_cons (pv 0) (pa_cons (pe_op op_powL pe_int pe_int) pa_nil)))) pa_nil)) (by rfl))
  (pss_cons (ps_set (i := 1) sc__law_right.nd rfl (Or.inl rfl) (pe_ix ix_list (pe_lst (pa_cons (pv 1) (pa_cons (pe_call G__law_rt_low (hr.mono (by decide)) (by rfl) T.g__law_rt_low T.F__law_rt_low.kp (b__law_rt_low T.F__law_rt_low) .nil pass0 (pa_cons (pe_tup (pa_cons (pv 5) (pa_cons pe_int (pa_cons pe_int (pa_cons (pv 6) pa_nil))))) pa_nil)) (pa_cons (pe_call G__law_rt_low (hr.mono (by decide)) (by rfl) T.g__law_rt_low T.F__law_rt_low.kp (b__law_rt_low T.F__law_rt_low) .nil pass0 (pa_cons (pe_tup (pa_cons pe_int (pa_cons (pv 5) (pa_cons (pv 6) (pa_cons pe_int pa_nil))))) pa_nil)) pa_nil)))) (pe_call G__law_coin (hr.mono (by decide)) (by rfl) T.g__law_coin T.F__law_coin.kp (b__law_coin T.F__law_coin) .nil pass0 (pa_cons (pv 0) (pa_cons pe_int pa_nil))) (fun _ _ => rfl)))
  (pss_cons (ps_set (i := 3) sc__law_right.nd rfl (Or.inl rfl) pe_non)
  (pss_cons (ps_if (PW.pt (pw_and (pt_cmpR op_eq (pe_ix ix_tup (pv 1) pe_int (fun _ _ => rfl)) pe_int (nomark _)) (pw_and1 (pt_cmpR op_eq (pe_ix ix_tup (pv 1) pe_int (fun _ _ => rfl)) pe_int (nomark _))))) (pss_one (ps_set (i := 3) sc__law_right.nd rfl (Or.inl rfl) (pe_tup (pa_cons (pe_ix ix_tup (pv 1) pe_int (fun _ _ => rfl)) (pa_cons pe_int (pa_cons pe_int (pa_cons (pe_ix ix_tup (pv 1) pe_int (fun _ _ => rfl)) pa_nil))))))) pss_nil)
  (pss_cons (ps_if (PW.pt (pw_and (pt_cmpR op_eq (pe_ix ix_tup (pv 1) pe_int (fun _ _ => rfl)) pe_int (nomark _)) (pw_and1 (pt_cmpR op_eq (pe_ix ix_tup (pv 1) pe_int (fun _ _ => rfl)) pe_int (nomark _))))) (pss_one (ps_set (i := 3) sc__law_right.nd rfl (Or.inl rfl) (pv 1))) pss_nil)
  (pss_cons (ps_if (PW.pt (pw_or (pt_cmpR op_ne (pe_callB (call_repr hG hr) (by rfl) T.z_repr (by decide +kernel) (pa_cons (pe_call G_turned (hr.mono (by decide)) (by rfl) T.g_turned T.F_turned.kp (b_turned T.F_turned) .nil pass0 (pa_cons (pv 1) pa_nil)) pa_nil)) (pe_callB (call_repr hG hr) (by rfl) T.z_repr (by decide +kernel) (pa_cons (pv 3) pa_nil)) (nomark _)) (pw_or1 (pt_cmpR op_ne (pe_callB (call_repr hG hr) (by rfl) T.z_repr (by decide +kernel) (pa_cons (pe_callK0 G_turned (hr.mono (by decide)) (by rfl) T.g_turned T.F_turned.kp (kb_turned_0 T.F_turned) pass0 (pk_cons (pv 1) pk_nil)) pa_nil)) (pe_callB (call_repr hG hr) (by rfl) T.z_repr (by decide +kernel) (pa_cons (pv 3) pa_nil)) (nomark _))))) (pss_one (ps_ret pe_bl)) pss_nil)
  (pss_cons (ps_if (pt_cmpR op_isN (pv 3) pe_non (nomark _)) (pss_one (ps_ret pe_bl)) pss_nil)
  (pss_one (ps_ret (pe_and (pe_cmpR (op_eqD hr.units) (pe_call G_behind (hr.mono (by decide)) (by rfl) T.g_behind T.F_behind.kp (b_behind T.F_behind) .nil pass0 (pa_cons (pv 1) (pa_cons (pe_call G_turned (hr.mono (by decide)) (by rfl) T.g_turned T.F_turned.kp (b_turned T.F_turned) .nil pass0 (pa_cons (pv 1) pa_nil)) pa_nil))) (pe_tup (pa_cons pe_int (pa_cons pe_int (pa_cons pe_int (pa_cons pe_int pa_nil))))) (nomark _)) (pe_one (pe_cmpR (op_eqD hr.units) (pe_call G_behind (hr.mono (by decide)) (by rfl) T.g_behind T.F_behind.kp (b_behind T.F_behind) .nil pass0 (pa_cons (pe_call G_turned (hr.mono (by decide)) (by rfl) T.g_turned T.F_turned.kp (b_turned T.F_turned) .nil pass0 (pa_cons (pv 1) pa_nil)) (pa_cons (pv 1) pa_nil))) (pe_tup (pa_cons pe_int (pa_cons pe_int (pa_cons pe_int (pa_cons pe_int pa_nil))))) (nomark _))))))))))))))))))), ?_⟩
    refine ⟨_, rfl, a, 2, n, rfl, by decide, by decide, by omega, hp, fun r H1 r0 r1 hp1 k1 => ⟨rfl, _, rfl, meetE (fun v H' => ∃ (m : M4), Tm H' v m ∧ Pu H' a (n + 3001) ∧ Kp a H H') (fun _ R h => ?_) (fun _ R h => ?_) (fun v H2 z => ?_)⟩⟩
    · exact ⟨_, rfl, a, n + 1, rfl, by omega, hp1, fun m H' p mp ml hp' k' np e => h _ _ ⟨m, Tm.of e mp ml, hp'.le (by omega), k1.trans k'⟩⟩
    · exact ⟨_, rfl, a, 12, n + 1, rfl, by decide, by decide, by omega, hp1, fun m H' p mp ml _ hp' k' np e => h _ _ ⟨m, Tm.of e mp ⟨by have := ml.a; omega, by have := ml.b; omega, by have := ml.c; omega, by have := ml.d; omega⟩, hp'.le (by omega), k1.trans k'⟩⟩
    obtain ⟨m, ⟨p, rfl, ep, mp, ml⟩, hp2, k2⟩ := z
    have pa := tup_nea hp2 ep
    -- rival
    refine ⟨_, rfl, a, n + 3001, rfl, by omega, hp2, fun m1 H3 p1 mp1 ml1 hp3 k3 np1 e1 => ?_⟩
    refine ⟨_, rfl, a, 12, n + 3001 + 30, rfl, by decide, by decide, by omega, hp3, fun m2 H4 p2 mp2 ml2 _ hp4 k4 np2 e2 => ?_⟩
    have k04 := (k2.trans k3).trans k4
    have T0 : Tm H4 (.ref p) m := ((Tm.of ep mp ml).kp hp2 k3).kp hp3 k4
    have T1 : Tm H4 (.ref p1) m1 := (Tm.of e1 mp1 ml1).kp hp3 k4
    have T2 : Tm H4 (.ref p2) m2 := Tm.of e2 mp2 ⟨by have := ml2.a; omega, by have := ml2.b; omega, by have := ml2.c; omega, by have := ml2.d; omega⟩
    refine ⟨_, rfl, sz (by show 3 ≤ 1000000; decide), fun L nL => ?_⟩
    refine ⟨_, rfl, a, 3, n + 3001 + 30 + 3000, rfl, by decide, by decide, by omega, hp4.new nL, fun r5 H5 r50 r51 hp5 k5 => ?_⟩
    have sL := (L2.Same.refl H4).new (o := .lst [.ref p1, .ref p2, .ref p]) nL
    have k45 : Kp a H4 H5 := (Kp.of sL).trans k5
    have eL : H5 L = some (.lst [.ref p1, .ref p2, .ref p]) := k5 L _ (hp4.ne nL).symm upd_same
    obtain ⟨v, hv, ev⟩ := at_any (l := [.ref p1, .ref p2, .ref p]) r50 r51
    obtain ⟨R, TR⟩ : ∃ R, Tm H5 v R := by
      simp only [List.mem_cons, List.not_mem_nil, or_false] at hv
      rcases hv with rfl | rfl | rfl
      · exact ⟨m1, T1.kp hp4 k45⟩
      · exact ⟨m2, T2.kp hp4 k45⟩
      · exact ⟨m, T0.kp hp4 k45⟩
    have T5 := T0.kp hp4 k45
    have k05 := k04.trans k45
    clear T0 T1 T2 e1 e2 hv
    obtain ⟨pr, rfl, er, mr, lr⟩ := TR
    obtain ⟨p', e', ep5, _, _⟩ := T5
    cases e'
    refine ⟨L, _, r5, _, rfl, rfl, SqL.of eL, ev, ?_⟩
    have bm := bd_mil mp.nn ml
    have br := bd_mil mr.nn lr
    have bm9 : ∀ i ∈ m.l, Bd 900 i := fun i hi => (bm i hi).up (by decide)
    have br9 : ∀ i ∈ R.l, Bd 900 i := fun i hi => (br i hi).up (by decide)
    have bm4 : ∀ i ∈ m.l, Bd 400 i := fun i hi => (bm i hi).up (by decide)
    have br4 : ∀ i ∈ R.l, Bd 400 i := fun i hi => (br i hi).up (by decide)
    have bM : ∀ i ∈ (R.mul m).l, Bd 900 i := fun i hi => (mul_bd br4 bm4 i hi).up (by decide)
    have dM := det_mul_ne mr.dt mp.dt
    have nM := mul_nn mr.nn mp.nn
    have bD := low_bd dM bM
    have mD := low_mp nM dM
    obtain ⟨D, hD⟩ : ∃ D, D = (R.mul m).low := ⟨_, rfl⟩
    rw [← hD] at bD mD
    -- due
    refine ⟨_, rfl, _, rfl, pr, p, R, m, 900, rfl, SqT.of er, SqT.of ep5, by decide, br9, bm9, fun H6 p6 sm6 np6 e6 => ?_⟩
    refine ⟨p6, (R.mul m).l, rfl, .inr (SqT.of e6), det_pos_gl dM, (det_gl dM bM).sml, by show 4 ≤ 100; decide, fun H7 p7 sm7 np7 e7 => ?_⟩
    rw [← low_l, ← hD] at e7
    have sm57 := sm6.trans sm7
    -- behind, twice
    refine ⟨_, rfl, _, rfl, p, pr, m, R, rfl, SqT.of (sm57 _ _ ep5), SqT.of (sm57 _ _ er), mp, mr, bm4, br4, fun H8 p8 sm8 np8 e8 => ?_⟩
    rw [← hD] at e8
    refine ⟨_, _, rfl, dp_tup (l := D.l) (SqT.of e8), shw4 bD, ?_⟩
    refine ⟨_, rfl, _, _, rfl, dp_tup (l := D.l) (SqT.of (sm8 _ _ e7)), shw4 bD, ?_⟩
    generalize (tupD D.l).shown = tx
    refine ⟨rfl, _, rfl, iteNS rfl ?_⟩
    have sm58 := sm57.trans sm8
    refine ⟨_, rfl, _, rfl, p, pr, m, R, rfl, SqT.of (sm58 _ _ ep5), SqT.of (sm58 _ _ er), mp, mr, bm4, br4, fun H9 p9 sm9 np9 e9 => ?_⟩
    rw [← hD] at e9
    refine ⟨_, _, rfl, dp_tup (l := D.l) (SqT.of e9), shw4 bD, ?_⟩
    refine ⟨_, rfl, _, _, rfl, dp_tup (l := D.l) (SqT.of (sm9 _ _ (sm8 _ _ e7))), shw4 bD, ?_⟩
    generalize (tupD D.l).shown = tx
    refine ⟨rfl, _, rfl, iteNS rfl ?_⟩
    have sm59 := sm58.trans sm9
    have hp9 := hp5.same sm59
    have k09 := k05.trans (Kp.of sm59)
    have e79 := sm9 _ _ (sm8 _ _ e7)
    have ep9 := sm59 _ _ ep5
    have er9 := sm59 _ _ er
    -- the fraction
    refine ⟨_, rfl, a, 400, n + 3001 + 30 + 3000 + 1, rfl, by decide, by decide, by omega, hp9, fun w HA pA hw wa9 wb9 hpA kA nA eA => ?_⟩
    have e7A := kA _ _ (tup_nea hp9 e79) e79
    have epA := kA _ _ (tup_nea hp9 ep9) ep9
    have erA := kA _ _ (tup_nea hp9 er9) er9
    have k0A := k09.trans kA
    obtain ⟨x1, y1⟩ := up_pos w
    generalize wa w = x at *
    generalize wb w = y at *
    have bx9 : Bd 900 x := (show Bd 30 x from bd_le (by omega) (by omega)).up (by decide)
    have by9 : Bd 900 y := (show Bd 30 y from bd_le (by omega) (by omega)).up (by decide)
    obtain ⟨d0, d1⟩ := map_pos mD.nn mD.dt x1 y1
    obtain ⟨w0, w1⟩ := map_pos mp.nn mp.dt x1 y1
    have gen : ∀ (T : M4) (s t : Int), (∀ i ∈ T.l, Bd 900 i) → Bd 900 s → Bd 900 t → Bd 1900 (T.a * s + T.b * t) := fun T s t h hs ht => (((h T.a (by simp [M4.l])).mul hs).add ((h T.b (by simp [M4.l])).mul ht)).up (by decide)
    refine ⟨_, rfl, _, rfl, p7, pA, D, x, y, rfl, SqT.of e7A, SqT.of eA, bD, bx9, by9, gl_pos List.mem_cons_self (by omega), (bd_gl List.mem_cons_self (by omega) (gen _ _ _ bD bx9 by9)).sml, fun HB pB smB nB eB => ?_⟩
    obtain ⟨u, v, el, u1, v1, uv, lu, lv, gu, gv, gp⟩ := low_two w0 w1
    have bm3 : ∀ i ∈ m.l, Bd 30 i := fun i hi => (bm i hi).up (by decide)
    have bP : Bd 900 (m.a * x + m.b * y) := (((bm3 m.a (by simp [M4.l])).mul (show Bd 30 x from bd_le (by omega) (by omega))).add ((bm3 m.b (by simp [M4.l])).mul (show Bd 30 y from bd_le (by omega) (by omega)))).up (by decide)
    have bR : Bd 900 (m.c * x + m.d * y) := (((bm3 m.c (by simp [M4.l])).mul (show Bd 30 x from bd_le (by omega) (by omega))).add ((bm3 m.d (by simp [M4.l])).mul (show Bd 30 y from bd_le (by omega) (by omega)))).up (by decide)
    refine ⟨_, rfl, _, rfl, _, rfl, p, pA, m, x, y, rfl, SqT.of (smB _ _ epA), SqT.of (smB _ _ eA), bm9, bx9, by9, gl_pos List.mem_cons_self (by omega), (bd_gl (k := 900) List.mem_cons_self (by omega) bP).sml, fun HC pC smC nC eC => ?_⟩
    rw [el] at eC
    obtain ⟨z0, z1⟩ := map_pos mr.nn mr.dt u1 v1
    have bu9 : Bd 900 u := bP.le' (by omega)
    have bv9 : Bd 900 v := bR.le' (by omega)
    refine ⟨pr, pC, R, u, v, rfl, SqT.of (smC _ _ (smB _ _ erA)), SqT.of eC, br9, bu9, bv9, gl_pos List.mem_cons_self (by omega), (bd_gl List.mem_cons_self (by omega) (gen _ _ _ br9 bu9 bv9)).sml, fun HD pD smD nD eD => ?_⟩
    have key := goal_goal dM (show (0 : Int) < (gl [m.a * x + m.b * y, m.c * x + m.d * y] : Int) by omega) gu gv z0 z1
    rw [← hD] at key
    rw [← key] at eD
    refine ⟨_, _, dp_tup (SqT.of (smD _ _ (smC _ _ eB))), dp_tup (SqT.of eD), shaped_tup _, shaped_tup _, _, rfl, ?_⟩
    rw [eqv_tup, decide_eq_true rfl]
    refine iteF ?_
    have smAD := (smB.trans smC).trans smD
    have hpD := hpA.same smAD
    have k0D := k0A.trans (Kp.of smAD)
    have epD := smAD _ _ epA
    clear key eD eC eB el gu gv
    -- two integers
    refine ⟨_, rfl, _, _, rfl, rfl, cpw 4 (by decide) (by decide) (by decide), sz (by show 2 ≤ 1000000; decide), fun M nM => ?_⟩
    refine ⟨_, rfl, a, 2, n + 6132, rfl, by decide, by decide, by omega, (hpD.le (by omega)).new nM, fun r6 H6 r60 r61 hp6 k6 => ?_⟩
    have sM := (L2.Same.refl HD).new (o := .lst ([3, 10 ^ (6 : Int).toNat].map V.int)) nM
    have kD6 : Kp a HD H6 := (Kp.of sM).trans k6
    have eM : H6 M = some (.lst ([3, 10 ^ (6 : Int).toNat].map V.int)) := k6 M _ (hpD.ne nM).symm upd_same
    obtain ⟨t, ht, et⟩ := menu_at (l := [3, 10 ^ (6 : Int).toNat]) r60 r61
    have t1 : 3 ≤ t ∧ t ≤ 1000000 := by
      simp only [List.mem_cons, List.not_mem_nil, or_false] at ht
      rcases ht with rfl | rfl <;> decide
    refine ⟨M, _, r6, _, rfl, rfl, SqL.of eM, et, a, t, n + 6133, rfl, by omega, by omega, by omega, hp6, fun u0 H7 u00 u01 hp7 k7 => ⟨_, _, rfl, rfl, ?_⟩⟩
    refine ⟨_, rfl, _, _, rfl, rfl, cpw 4 (by decide) (by decide) (by decide), a, _, n + 6134, rfl, by decide, by decide, by omega, hp7, fun v0 H8 v00 v01 hp8 k8 => ⟨_, _, rfl, rfl, _, _, rfl, ?_⟩⟩
    have v01 : v0 < 1000000 := v01
    have k0E := ((k0D.trans kD6).trans k7).trans k8
    have kDE := (kD6.trans k7).trans k8
    have epE := kDE _ _ pa epD
    obtain ⟨nA, dA, nB, dB⟩ := mk_diag (u := 1 + u0) (v := 1 + v0) (by omega) (by omega)
    have lA : Le 1000000 (M4.mk (1 + u0) 0 0 (1 + v0)) := ⟨by show 1 + u0 ≤ _; omega, by show (0 : Int) ≤ 1000000; decide, by show (0 : Int) ≤ 1000000; decide, by show 1 + v0 ≤ _; omega⟩
    have lB : Le 1000000 (M4.mk 0 (1 + u0) (1 + v0) 0) := ⟨by show (0 : Int) ≤ 1000000; decide, by show 1 + u0 ≤ _; omega, by show 1 + v0 ≤ _; omega, by show (0 : Int) ≤ 1000000; decide⟩
    refine ⟨_, rfl, _, rfl, _, rfl, sz (by show 4 ≤ 1000000; decide), fun b1 nb1 => ?_⟩
    have s1 := (L2.Same.refl H8).new (o := .tup [.int (1 + u0), .int 0, .int 0, .int (1 + v0)]) nb1
    refine ⟨b1, (M4.mk (1 + u0) 0 0 (1 + v0)).l, rfl, .inr (SqT.of upd_same), det_pos_gl dA, (det_gl dA (bd_mil nA lA)).sml, by show 4 ≤ 100; decide, fun H9 b2 sm9 nb2 eb2 => ?_⟩
    rw [← low_l] at eb2
    refine ⟨_, rfl, _, rfl, sz (by show 4 ≤ 1000000; decide), fun b3 nb3 => ?_⟩
    have s3 := (L2.Same.refl H9).new (o := .tup [.int 0, .int (1 + u0), .int (1 + v0), .int 0]) nb3
    refine ⟨b3, (M4.mk 0 (1 + u0) (1 + v0) 0).l, rfl, .inr (SqT.of upd_same), det_pos_gl dB, (det_gl dB (bd_mil nB lB)).sml, by show 4 ≤ 100; decide, fun HF b4 smF nb4 eb4 => ?_⟩
    rw [← low_l] at eb4
    have s8F := ((s1.trans sm9).trans s3).trans smF
    have s9F := s3.trans smF
    have T0 : Tm HF (.ref p) m := (Tm.of epE mp ml).same s8F
    have T1 : Tm HF (.ref b2) _ := (Tm.of eb2 (low_mp nA dA) (low_le nA lA)).same s9F
    have T2 : Tm HF (.ref b4) _ := Tm.of eb4 (low_mp nB dB) (low_le nB lB)
    have hpF := hp8.same s8F
    refine ⟨sz (by show 3 ≤ 1000000; decide), fun N nN => ?_⟩
    have sN := (L2.Same.refl HF).new (o := .lst [.ref p, .ref b2, .ref b4]) nN
    refine ⟨_, rfl, a, 3, n + 6135, rfl, by decide, by decide, by omega, hpF.new nN, fun r9 HG r90 r91 hpG kG => ?_⟩
    have kFG : Kp a HF HG := (Kp.of sN).trans kG
    have eN : HG N = some (.lst [.ref p, .ref b2, .ref b4]) := kG N _ (hpF.ne nN).symm upd_same
    obtain ⟨v9, hv9, ev9⟩ := at_any (l := [.ref p, .ref b2, .ref b4]) r90 r91
    obtain ⟨X, TX⟩ : ∃ X, Tm HG v9 X := by
      simp only [List.mem_cons, List.not_mem_nil, or_false] at hv9
      rcases hv9 with rfl | rfl | rfl
      · exact ⟨_, T0.kp hpF kFG⟩
      · exact ⟨_, T1.kp hpF kFG⟩
      · exact ⟨_, T2.kp hpF kFG⟩
    obtain ⟨b, rfl, eb, mX, lX⟩ := TX
    refine ⟨N, _, r9, _, rfl, rfl, SqL.of eN, ev9, ?_⟩
    have k0G : Kp a H HG := (k0E.trans (Kp.of s8F)).trans kFG
    have hpG : Pu HG a (n + 9000) := hpG.le (by omega)
    clear T0 T1 T2 s8F s9F smF s3 sm9 s1 eb2 eb4 dA dB lA lB nA nB
    have bX := bd_mil mX.nn lX
    have bX9 : ∀ i ∈ X.l, Bd 900 i := fun i hi => (bX i hi).up (by decide)
    have bX4 : ∀ i ∈ X.l, Bd 400 i := fun i hi => (bX i hi).up (by decide)
    have fin : ∀ H', Same HG H' → Q (.bl true) H' := fun H' s => q H' ((hpG.same s).le (by omega)) (k0G.trans (Kp.of s))
    by_cases hA : X.b = 0 ∧ X.c = 0
    · obtain ⟨tA1, tA2, tA3, tA4⟩ := turn_A mX hA.1 hA.2
      refine ⟨_, rfl, b, _, _, _, rfl, rfl, SqT.of eb, rfl, rfl, _, rfl, ifI (fun _ => ?_) (fun z => absurd hA.1 z)⟩
      refine ⟨_, rfl, b, _, _, _, rfl, rfl, SqT.of eb, rfl, rfl, _, rfl, ifI (fun _ => ?_) (fun z => absurd hA.2 z)⟩
      refine ⟨_, rfl, b, _, _, _, rfl, rfl, SqT.of eb, rfl, _, rfl, b, _, _, _, rfl, rfl, SqT.of eb, rfl, sz (by show 4 ≤ 1000000; decide), fun t0 nt0 => ?_⟩
      have s0 := (L2.Same.refl HG).new (o := .tup [.int X.d, .int 0, .int 0, .int X.a]) nt0
      have et0 : L2.upd HG t0 (.tup [.int X.d, .int 0, .int 0, .int X.a]) t0 = some (.tup ((M4.mk X.d 0 0 X.a).l.map V.int)) := upd_same
      have eb0 := s0 _ _ eb
      refine ⟨_, rfl, b, _, _, _, rfl, rfl, SqT.of eb0, rfl, rfl, _, rfl, ifI (fun z => absurd z tA4) (fun _ => iteF ?_)⟩
      have bT4 : ∀ i ∈ (M4.mk X.d 0 0 X.a).l, Bd 400 i := bdA bX4
      have bT9 : ∀ i ∈ (M4.mk X.d 0 0 X.a).l, Bd 900 i := fun i hi => (bT4 i hi).up (by decide)
      have ebD := s0 _ _ eb
      refine ⟨_, rfl, b, X, rfl, SqT.of ebD, mX, bX9, fun _ HT t1 sm1 _ e1 => ?_, fun z => absurd z.1 tA4, fun z => absurd hA z⟩
      refine ⟨_, _, rfl, dp_tup (l := (M4.mk X.d 0 0 X.a).l) (SqT.of e1), shw4 bT9, ?_⟩
      refine ⟨_, rfl, _, _, rfl, dp_tup (l := (M4.mk X.d 0 0 X.a).l) (SqT.of (sm1 _ _ et0)), shw4 bT9, ?_⟩
      generalize (tupD (M4.mk X.d 0 0 X.a).l).shown = tx
      refine ⟨rfl, _, rfl, iteNS rfl ?_⟩
      have smT1 := s0.trans sm1
      refine ⟨_, rfl, b, X, rfl, SqT.of (smT1 _ _ eb), mX, bX9, fun _ HT t1 sm2 _ e2 => ?_, fun z => absurd z.1 tA4, fun z => absurd hA z⟩
      refine ⟨_, _, rfl, dp_tup (l := (M4.mk X.d 0 0 X.a).l) (SqT.of e2), shw4 bT9, ?_⟩
      refine ⟨_, rfl, _, _, rfl, dp_tup (l := (M4.mk X.d 0 0 X.a).l) (SqT.of (sm2 _ _ (sm1 _ _ et0))), shw4 bT9, ?_⟩
      generalize (tupD (M4.mk X.d 0 0 X.a).l).shown = tx
      refine ⟨rfl, _, rfl, iteNS rfl ?_⟩
      have smT2 := smT1.trans sm2
      refine ⟨_, rfl, rfl, _, rfl, bl2 (fun z => absurd (of_decide_eq_true z) (fun z => nomatch z)) (fun _ => ?_)⟩
      refine ⟨_, rfl, _, rfl, b, X, rfl, SqT.of (smT2 _ _ eb), mX, bX9, fun _ HT3 t3 sm3 _ e3 => ?_, fun z => absurd z.1 tA4, fun z => absurd hA z⟩
      have smT3 := smT2.trans sm3
      refine ⟨b, t3, X, M4.mk X.d 0 0 X.a, rfl, SqT.of (smT3 _ _ eb), SqT.of e3, mX, tA3, bX4, bT4, fun H4 t4 sm4 _ e4 => ?_⟩
      rw [tA1] at e4
      have smT4 := smT3.trans sm4
      refine ⟨sz (by show 4 ≤ 1000000; decide), fun t5 nt5 => ?_⟩
      have s5 := (L2.Same.refl H4).new (o := .tup [.int 1, .int 0, .int 0, .int 1]) nt5
      refine ⟨_, _, dp_tup (l := [1, 0, 0, 1]) (SqT.of (s5 _ _ e4)), dp_tup (l := [1, 0, 0, 1]) (SqT.of upd_same), shaped_tup _, shaped_tup _, ?_⟩
      rw [eqv_tup, decide_eq_true rfl]
      refine ⟨_, rfl, iteT ?_⟩
      have smT5 := smT4.trans s5
      refine ⟨_, rfl, b, X, rfl, SqT.of (smT5 _ _ eb), mX, bX9, fun _ HT6 t6 sm6 _ e6 => ?_, fun z => absurd z.1 tA4, fun z => absurd hA z⟩
      have smT6 := smT5.trans sm6
      refine ⟨_, rfl, t6, b, M4.mk X.d 0 0 X.a, X, rfl, SqT.of e6, SqT.of (smT6 _ _ eb), tA3, mX, bT4, bX4, fun H7 t7 sm7 _ e7 => ?_⟩
      rw [tA2] at e7
      refine ⟨sz (by show 4 ≤ 1000000; decide), fun t8 nt8 => ?_⟩
      have s8 := (L2.Same.refl H7).new (o := .tup [.int 1, .int 0, .int 0, .int 1]) nt8
      refine ⟨_, _, dp_tup (l := [1, 0, 0, 1]) (SqT.of (s8 _ _ e7)), dp_tup (l := [1, 0, 0, 1]) (SqT.of upd_same), shaped_tup _, shaped_tup _, ?_⟩
      rw [eqv_tup, decide_eq_true rfl]
      exact fin _ ((smT6.trans sm7).trans s8)
    · by_cases hB : X.a = 0 ∧ X.d = 0
      · obtain ⟨tB1, tB2, tB3, tB4⟩ := turn_B mX hB.1 hB.2
        have eX : (M4.mk 0 X.b X.c 0).l = X.l := by
          show [0, X.b, X.c, 0] = [X.a, X.b, X.c, X.d]
          rw [hB.1, hB.2]
        refine ⟨_, rfl, b, _, _, _, rfl, rfl, SqT.of eb, rfl, rfl, _, rfl, ifI (fun z => absurd z tB4) (fun _ => iteF ?_)⟩
        refine ⟨_, rfl, b, _, _, _, rfl, rfl, SqT.of eb, rfl, rfl, _, rfl, ifI (fun _ => ?_) (fun z => absurd hB.1 z)⟩
        refine ⟨_, rfl, b, _, _, _, rfl, rfl, SqT.of eb, rfl, rfl, _, rfl, ifI (fun _ => ?_) (fun z => absurd hB.2 z)⟩
        refine ⟨_, rfl, ?_⟩
        have s0 := L2.Same.refl HG
        have et0 : HG b = some (.tup ((M4.mk 0 X.b X.c 0).l.map V.int)) := by
          rw [eX]
          exact eb
        have bT4 : ∀ i ∈ (M4.mk 0 X.b X.c 0).l, Bd 400 i := by
                  rw [eX]
                  exact bX4
        have bT9 : ∀ i ∈ (M4.mk 0 X.b X.c 0).l, Bd 900 i := fun i hi => (bT4 i hi).up (by decide)
        have ebD := s0 _ _ eb
        refine ⟨_, rfl, b, X, rfl, SqT.of ebD, mX, bX9, fun z => absurd z.1 tB4, fun _ HT t1 sm1 _ e1 => ?_, fun _ z => absurd hB z⟩
        refine ⟨_, _, rfl, dp_tup (l := (M4.mk 0 X.b X.c 0).l) (SqT.of e1), shw4 bT9, ?_⟩
        refine ⟨_, rfl, _, _, rfl, dp_tup (l := (M4.mk 0 X.b X.c 0).l) (SqT.of (sm1 _ _ et0)), shw4 bT9, ?_⟩
        generalize (tupD (M4.mk 0 X.b X.c 0).l).shown = tx
        refine ⟨rfl, _, rfl, iteNS rfl ?_⟩
        have smT1 := s0.trans sm1
        refine ⟨_, rfl, b, X, rfl, SqT.of (smT1 _ _ eb), mX, bX9, fun z => absurd z.1 tB4, fun _ HT t1 sm2 _ e2 => ?_, fun _ z => absurd hB z⟩
        refine ⟨_, _, rfl, dp_tup (l := (M4.mk 0 X.b X.c 0).l) (SqT.of e2), shw4 bT9, ?_⟩
        refine ⟨_, rfl, _, _, rfl, dp_tup (l := (M4.mk 0 X.b X.c 0).l) (SqT.of (sm2 _ _ (sm1 _ _ et0))), shw4 bT9, ?_⟩
        generalize (tupD (M4.mk 0 X.b X.c 0).l).shown = tx
        refine ⟨rfl, _, rfl, iteNS rfl ?_⟩
        have smT2 := smT1.trans sm2
        refine ⟨_, rfl, rfl, _, rfl, bl2 (fun z => absurd (of_decide_eq_true z) (fun z => nomatch z)) (fun _ => ?_)⟩
        refine ⟨_, rfl, _, rfl, b, X, rfl, SqT.of (smT2 _ _ eb), mX, bX9, fun z => absurd z.1 tB4, fun _ HT3 t3 sm3 _ e3 => ?_, fun _ z => absurd hB z⟩
        have smT3 := smT2.trans sm3
        refine ⟨b, t3, X, M4.mk 0 X.b X.c 0, rfl, SqT.of (smT3 _ _ eb), SqT.of e3, mX, tB3, bX4, bT4, fun H4 t4 sm4 _ e4 => ?_⟩
        rw [tB1] at e4
        have smT4 := smT3.trans sm4
        refine ⟨sz (by show 4 ≤ 1000000; decide), fun t5 nt5 => ?_⟩
        have s5 := (L2.Same.refl H4).new (o := .tup [.int 1, .int 0, .int 0, .int 1]) nt5
        refine ⟨_, _, dp_tup (l := [1, 0, 0, 1]) (SqT.of (s5 _ _ e4)), dp_tup (l := [1, 0, 0, 1]) (SqT.of upd_same), shaped_tup _, shaped_tup _, ?_⟩
        rw [eqv_tup, decide_eq_true rfl]
        refine ⟨_, rfl, iteT ?_⟩
        have smT5 := smT4.trans s5
        refine ⟨_, rfl, b, X, rfl, SqT.of (smT5 _ _ eb), mX, bX9, fun z => absurd z.1 tB4, fun _ HT6 t6 sm6 _ e6 => ?_, fun _ z => absurd hB z⟩
        have smT6 := smT5.trans sm6
        refine ⟨_, rfl, t6, b, M4.mk 0 X.b X.c 0, X, rfl, SqT.of e6, SqT.of (smT6 _ _ eb), tB3, mX, bT4, bX4, fun H7 t7 sm7 _ e7 => ?_⟩
        rw [tB2] at e7
        refine ⟨sz (by show 4 ≤ 1000000; decide), fun t8 nt8 => ?_⟩
        have s8 := (L2.Same.refl H7).new (o := .tup [.int 1, .int 0, .int 0, .int 1]) nt8
        refine ⟨_, _, dp_tup (l := [1, 0, 0, 1]) (SqT.of (s8 _ _ e7)), dp_tup (l := [1, 0, 0, 1]) (SqT.of upd_same), shaped_tup _, shaped_tup _, ?_⟩
        rw [eqv_tup, decide_eq_true rfl]
        exact fin _ ((smT6.trans sm7).trans s8)
      · refine ⟨_, rfl, b, _, _, _, rfl, rfl, SqT.of eb, rfl, rfl, _, rfl, ifI (fun b0 => ?_) (fun _ => iteF ?_)⟩
        · refine ⟨_, rfl, b, _, _, _, rfl, rfl, SqT.of eb, rfl, rfl, _, rfl, ifI (fun c0 => absurd ⟨b0, c0⟩ hA) (fun _ => ?_)⟩
          refine ⟨_, rfl, b, _, _, _, rfl, rfl, SqT.of eb, rfl, rfl, _, rfl, ifI (fun a0 => ?_) (fun _ => iteF ?_)⟩
          · refine ⟨_, rfl, b, _, _, _, rfl, rfl, SqT.of eb, rfl, rfl, _, rfl, ifI (fun d0 => absurd ⟨a0, d0⟩ hB) (fun _ => ?_)⟩
            refine ⟨_, rfl, b, X, rfl, SqT.of eb, mX, bX9, fun z => absurd z hA, fun z => absurd z hB, fun _ _ => ?_⟩
            refine ⟨_, _, rfl, .non, shw_non, ?_⟩
            refine ⟨_, rfl, _, _, rfl, .non, shw_non, rfl, _, rfl, iteNS rfl ?_⟩
            refine ⟨_, rfl, b, X, rfl, SqT.of eb, mX, bX9, fun z => absurd z hA, fun z => absurd z hB, fun _ _ => ?_⟩
            refine ⟨_, _, rfl, .non, shw_non, ?_⟩
            refine ⟨_, rfl, _, _, rfl, .non, shw_non, rfl, _, rfl, iteNS rfl ?_⟩
            refine ⟨_, rfl, rfl, _, rfl, bl2 (fun _ => fin _ (L2.Same.refl HG)) (fun z => absurd rfl (of_decide_eq_false z))⟩
          · refine ⟨_, rfl, b, X, rfl, SqT.of eb, mX, bX9, fun z => absurd z hA, fun z => absurd z hB, fun _ _ => ?_⟩
            refine ⟨_, _, rfl, .non, shw_non, ?_⟩
            refine ⟨_, rfl, _, _, rfl, .non, shw_non, rfl, _, rfl, iteNS rfl ?_⟩
            refine ⟨_, rfl, b, X, rfl, SqT.of eb, mX, bX9, fun z => absurd z hA, fun z => absurd z hB, fun _ _ => ?_⟩
            refine ⟨_, _, rfl, .non, shw_non, ?_⟩
            refine ⟨_, rfl, _, _, rfl, .non, shw_non, rfl, _, rfl, iteNS rfl ?_⟩
            refine ⟨_, rfl, rfl, _, rfl, bl2 (fun _ => fin _ (L2.Same.refl HG)) (fun z => absurd rfl (of_decide_eq_false z))⟩
        · refine ⟨_, rfl, b, _, _, _, rfl, rfl, SqT.of eb, rfl, rfl, _, rfl, ifI (fun a0 => ?_) (fun _ => iteF ?_)⟩
          · refine ⟨_, rfl, b, _, _, _, rfl, rfl, SqT.of eb, rfl, rfl, _, rfl, ifI (fun d0 => absurd ⟨a0, d0⟩ hB) (fun _ => ?_)⟩
            refine ⟨_, rfl, b, X, rfl, SqT.of eb, mX, bX9, fun z => absurd z hA, fun z => absurd z hB, fun _ _ => ?_⟩
            refine ⟨_, _, rfl, .non, shw_non, ?_⟩
            refine ⟨_, rfl, _, _, rfl, .non, shw_non, rfl, _, rfl, iteNS rfl ?_⟩
            refine ⟨_, rfl, b, X, rfl, SqT.of eb, mX, bX9, fun z => absurd z hA, fun z => absurd z hB, fun _ _ => ?_⟩
            refine ⟨_, _, rfl, .non, shw_non, ?_⟩
            refine ⟨_, rfl, _, _, rfl, .non, shw_non, rfl, _, rfl, iteNS rfl ?_⟩
            refine ⟨_, rfl, rfl, _, rfl, bl2 (fun _ => fin _ (L2.Same.refl HG)) (fun z => absurd rfl (of_decide_eq_false z))⟩
          · refine ⟨_, rfl, b, X, rfl, SqT.of eb, mX, bX9, fun z => absurd z hA, fun z => absurd z hB, fun _ _ => ?_⟩
            refine ⟨_, _, rfl, .non, shw_non, ?_⟩
            refine ⟨_, rfl, _, _, rfl, .non, shw_non, rfl, _, rfl, iteNS rfl ?_⟩
            refine ⟨_, rfl, b, X, rfl, SqT.of eb, mX, bX9, fun z => absurd z hA, fun z => absurd z hB, fun _ _ => ?_⟩
            refine ⟨_, _, rfl, .non, shw_non, ?_⟩
            refine ⟨_, rfl, _, _, rfl, .non, shw_non, rfl, _, rfl, iteNS rfl ?_⟩
            refine ⟨_, rfl, rfl, _, rfl, bl2 (fun _ => fin _ (L2.Same.refl HG)) (fun z => absurd rfl (of_decide_eq_false z))⟩

/-! _law_purse -/
def sp__law_purse (K : PySem.W.Frag) : Sp := fun vs H Q _ => ∃ (a : Addr) (ns : List Int) (place : Int), vs = [.ref a, .int place] ∧ SqL K H a (ns.map V.int) ∧ ns.length ≤ 63 ∧ 0 ≤ place ∧ place ≤ 63 ∧
  ∀ H' p, Same H H' → H p = none → Pu H' p 0 → Q (.ref p) H'
theorem ok__law_purse (T : Tx K mg) : FnOk P w K mg base CX0 1 T.a__law_purse T.fd__law_purse ["script", "place"] (sp__law_purse K) := by
  refine T.F__law_purse.ok sc__law_purse (fun vs H Q E h => ?_) (fun cdv A outer s H vs Q E hr h => ?_)
  · obtain ⟨a, ns, place, rfl, _⟩ := h
    rfl
  · obtain ⟨a, ns, place, rfl, hS, hl, h0, h1, q⟩ := h
    refine ⟨_, (pss_cons (ps_set (i := 2) sc__law_purse.nd rfl (Or.inl rfl) (pe_ifExp (pt_cmpR op_lt (pv 1) (pe_callB call_len_seq (by rfl) T.z_len (by decide +kernel) (pa_cons (pv 0) pa_nil)) (nomark _)) (pe_ix ix_list (pv 0) (pv 1) (fun _ _ => rfl)) pe_int))
  (pss_one (ps_ret (pe_lst (pa_cons (pe_callB (call_max2 rfl) (by rfl) T.z_max (by decide +kernel) (pa_cons pe_int (pa_cons (pe_op op_sub (pe_callB call_abs (by rfl) T.z_abs (by decide +kernel) (pa_cons (pv 2) pa_nil)) (pe_op op_powL pe_int pe_int)) pa_nil))) (pa_cons (pe_op op_modN (pe_callTy call_int1 (by rfl) T.z_int (by decide +kernel) (pa_cons (pe_op op_add (pe_op op_add (pe_op op_mulL (pv 2) pe_int) (pe_op op_mulL (pv 1) pe_int)) pe_int) pa_nil)) (pe_op op_add (pe_op op_powL pe_int pe_int) pe_int)) (pa_cons pe_int pa_nil))))))), ?_⟩
    obtain ⟨j, ej⟩ := nat_of h0
    -- the cell
    have hc : ∃ c : Int, decide (place < ((ns.map V.int).length : Int)) = true → (ns.map V.int)[j]? = some (.int c) := by
      by_cases hj : j < ns.length
      · exact ⟨ns[j], fun _ => by rw [List.getElem?_map, List.getElem?_eq_getElem hj]; rfl⟩
      · refine ⟨0, fun e => ?_⟩
        have e := of_decide_eq_true e
        rw [List.length_map] at e
        omega
    obtain ⟨c, hc⟩ : ∃ c : Int, (decide (place < ((ns.map V.int).length : Int)) = true → (ns.map V.int)[j]? = some (.int c)) ∧ (decide (place < ((ns.map V.int).length : Int)) = false → c = 0) := by
      cases e : decide (place < ((ns.map V.int).length : Int)) with
      | true =>
        obtain ⟨c, hc⟩ := hc
        exact ⟨c, fun _ => hc e, fun z => nomatch z⟩
      | false => exact ⟨0, (fun z => nomatch z), fun _ => rfl⟩
    refine if_val (decide (place < ((ns.map V.int).length : Int))) (.int c) (fun R r => ⟨_, rfl, _, rfl, a, _, rfl, .inl hS, _, _, rfl, rfl, _, rfl, r⟩) (fun e R r => ⟨_, rfl, _, rfl, a, _, _, _, rfl, rfl, hS, at_of ej (hc.1 e), r⟩) (fun e R r => ?_) ?_
    · rw [hc.2 e] at r
      exact r
    · refine ⟨_, rfl, _, rfl, _, _, rfl, rfl, cpw 4 (by decide) (by decide) (by decide), _, _, rfl, rfl, _, _, rfl, _, rfl, _, _, rfl, rfl, cml_r (by decide), _, rfl, _, _, rfl, rfl, cml_r (by decide), _, _, rfl, rfl, _, _, rfl, rfl, .inl ⟨_, rfl, ?_⟩⟩
      refine ⟨_, _, rfl, rfl, cpw 4 (by decide) (by decide) (by decide), _, _, rfl, rfl, _, _, rfl, rfl, (by show ((10 : Int) ^ (24 : Int).toNat + 7) ≠ 0; decide), ?_⟩
      refine ⟨sz (by show 3 ≤ 1000000; decide), fun p hp => ?_⟩
      have e24 : (10 : Int) ^ (24 : Int).toNat + 7 = 1000000000000000000000007 := by decide
      refine q _ p ((L2.Same.refl H).new hp) hp ⟨_, _, _, upd_same, ?_, ?_, ?_, by decide, by decide⟩
      · split <;> omega
      · rw [e24, Int.fmod_eq_emod_of_nonneg _ (by decide)]
        exact Int.emod_nonneg _ (by decide)
      · rw [e24, Int.fmod_eq_emod_of_nonneg _ (by decide)]
        exact Int.lt_trans (Int.emod_lt_of_pos _ (by decide)) (by decide)

/-! law -/
def sp_law (K : PySem.W.Frag) : Sp := fun vs H Q _ => ∃ (a : Addr) (ns : List Int), vs = [.ref a] ∧ SqL K H a (ns.map V.int) ∧ ns.length ≤ 63 ∧ ∀ H', Q (.bl true) H'
theorem ok_law (T : Tx K mg) : FnG P w K mg base CX0 6 T.a_law T.fd_law ["script"] (sp_law K) := by
  have G__law_right := ok__law_right (P := P) (w := w) (base := base) T
  have G__law_purse := ok__law_purse (P := P) (w := w) (base := base) T
  refine okG T.F_law sc_law (fun vs H Q E h => ?_) (fun cdv A outer s H vs Q E hG hr h => ?_)
  · obtain ⟨a, ns, rfl, _⟩ := h
    rfl
  · obtain ⟨a, ns, rfl, hS, hl, q⟩ := h
    refine ⟨_, (pss_cons (ps_for PassesOwn.never rfl (pi_range1 (by rfl) T.z_range (pa_cons (pe_callB (call_max2 rfl) (by rfl) T.z_max (by decide +kernel) (pa_cons pe_int (pa_cons (pe_callB (call_min2 rfl) (by rfl) T.z_min (by decide +kernel) (pa_cons pe_int (pa_cons (pe_callB call_len_seq (by rfl) T.z_len (by decide +kernel) (pa_cons (pv 0) pa_nil)) pa_nil))) pa_nil))) pa_nil)) (pg_name (i := 1) sc_law.nd rfl (Or.inl rfl))
    (pss_one (ps_if (pt_not (pt_val (pe_callG G__law_right hG (hr.mono (by decide)) (by rfl) T.g__law_right T.F__law_right.kp (b__law_right T.F__law_right) pass0 (pa_cons (pe_call G__law_purse (hr.mono (by decide)) (by rfl) T.g__law_purse T.F__law_purse.kp (b__law_purse T.F__law_purse) .nil pass0 (pa_cons (pv 0) (pa_cons (pv 1) pa_nil))) pa_nil)))) (pss_one (ps_ret pe_bl)) pss_nil)))
  (pss_one (ps_ret pe_bl))), ?_⟩
    refine ⟨_, rfl, a, _, rfl, .inl hS, _, _, rfl, _, _, rfl, ?_⟩
    have hn : (((ns.map V.int).length : Nat) : Int) ≤ 63 := by rw [List.length_map]; omega
    generalize (((ns.map V.int).length : Nat) : Int) = m at hn
    refine ⟨_, rfl, ?_, ?_, for_range (lo := 0) (fun i σ H2 => ∃ x, σ = [some (.ref a), x] ∧ SqL K H2 a (ns.map V.int)) ⟨none, rfl, hS⟩ ?_ ?_⟩
    · split <;> split <;> omega
    · split <;> split <;> omega
    · rintro i σ H2 hi ⟨x, rfl, hS2⟩
      have hi : i < 63 := law_i hi (by decide) (by decide)
      refine ⟨_, rfl, _, rfl, a, ns, _, rfl, hS2, hl, by omega, by omega, fun H3 p sm np hp => ⟨p, 0, rfl, by decide, hp, fun H4 hp4 k4 => ⟨true, rfl, iteF ⟨_, rfl, (same_kp sm np k4).seq hS2⟩⟩⟩⟩
    · rintro σ H2 ⟨x, rfl, hS2⟩
      exact q _
theorem law_in {K : PySem.W.Frag} {n : Nat} {H : Hp} {a : Addr} {ns : List Int} (hl : ns.length ≤ 63) (hb : ∀ z ∈ ns, Builtin.Int.intBits z ≤ 1048576) (hS : SqL K H a (ns.map V.int)) (ho : ∀ b, b ≠ a → H b = none) : sp_law K [.ref a] H (fun v _ => v = .bl true) fun _ _ _ => False :=
  ⟨a, ns, rfl, hS, hl, fun _ => rfl⟩

end
/-! what the top has left -/
theorem mk_tx {K : PySem.W.Frag} {h : Heap} {mg : Str → Option Value} {f0 f1 f2 f3 f4 f5 f6 f7 f8 f9 f10 f11 f12 f13 f14 f15 f16 f17 f18 f19 f20 f21 f22 f23 : Addr} (X : K.In h) (G : h.Ns mainGlobals mg)
    {od0 an0 od1 an1 od2 an2 od3 an3 od4 an4 od5 an5 od6 an6 od7 an7 od8 an8 od9 an9 od10 an10 od11 an11 od12 an12 od13 an13 od14 an14 od15 an15 od16 an16 od17 an17 od18 an18 od19 an19 od20 an20 od21 an21 od22 an22 od23 an23 : Option Addr} {sl0 sl1 sl2 sl3 sl4 sl5 sl6 sl7 sl8 sl9 sl10 sl11 sl12 sl13 sl14 sl15 sl16 sl17 sl18 sl19 sl20 sl21 sl22 sl23 : Array (Option Value)} {oc0 kV0 dc0 pm0 cd0 ct0 oc1 kV1 dc1 pm1 cd1 ct1 oc2 kV2 dc2 pm2 cd2 ct2 oc3 kV3 dc3 pm3 cd3 ct3 oc4 kV4 dc4 pm4 cd4 ct4 oc5 kV5 dc5 pm5 cd5 ct5 oc6 kV6 dc6 pm6 cd6 ct6 oc7 kV7 dc7 pm7 cd7 ct7 oc8 kV8 dc8 pm8 cd8 ct8 oc9 kV9 dc9 pm9 cd9 ct9 oc10 kV10 dc10 pm10 cd10 ct10 oc11 kV11 dc11 pm11 cd11 ct11 oc12 kV12 dc12 pm12 cd12 ct12 oc13 kV13 dc13 pm13 cd13 ct13 oc14 kV14 dc14 pm14 cd14 ct14 oc15 kV15 dc15 pm15 cd15 ct15 oc16 kV16 dc16 pm16 cd16 ct16 oc17 kV17 dc17 pm17 cd17 ct17 oc18 kV18 dc18 pm18 cd18 ct18 oc19 kV19 dc19 pm19 cd19 ct19 oc20 kV20 dc20 pm20 cd20 ct20 oc21 kV21 dc21 pm21 cd21 ct21 oc22 kV22 dc22 pm22 cd22 ct22 oc23 kV23 dc23 pm23 cd23 ct23 : Value}
    (a0 : PySem.W.nsIn K mainGlobals "_law_rt_shared" = some (some (.ref f0))) (l0 : K.lookup f0 = some ⟨oc0, od0, .func (PySem.W.fnOf "_law_rt_shared" "_law_rt_shared" (defArgs s__law_rt_shared) (defBody s__law_rt_shared) (defScope s__law_rt_shared) .none kV0 dc0 pm0 an0 cd0 ct0), sl0⟩) (c0 : PySem.W.codeIn K cd0 "_law_rt_shared" = true) (k0 : PySem.W.keepIn K (.ref f0) = true)
    (a1 : PySem.W.nsIn K mainGlobals "_law_rt_low" = some (some (.ref f1))) (l1 : K.lookup f1 = some ⟨oc1, od1, .func (PySem.W.fnOf "_law_rt_low" "_law_rt_low" (defArgs s__law_rt_low) (defBody s__law_rt_low) (defScope s__law_rt_low) .none kV1 dc1 pm1 an1 cd1 ct1), sl1⟩) (c1 : PySem.W.codeIn K cd1 "_law_rt_low" = true) (k1 : PySem.W.keepIn K (.ref f1) = true)
    (a2 : PySem.W.nsIn K mainGlobals "_law_rt_ends" = some (some (.ref f2))) (l2 : K.lookup f2 = some ⟨oc2, od2, .func (PySem.W.fnOf "_law_rt_ends" "_law_rt_ends" (defArgs s__law_rt_ends) (defBody s__law_rt_ends) (defScope s__law_rt_ends) .none kV2 dc2 pm2 an2 cd2 ct2), sl2⟩) (c2 : PySem.W.codeIn K cd2 "_law_rt_ends" = true) (k2 : PySem.W.keepIn K (.ref f2) = true)
    (a3 : PySem.W.nsIn K mainGlobals "_law_rt_worth" = some (some (.ref f3))) (l3 : K.lookup f3 = some ⟨oc3, od3, .func (PySem.W.fnOf "_law_rt_worth" "_law_rt_worth" (defArgs s__law_rt_worth) (defBody s__law_rt_worth) (defScope s__law_rt_worth) .none kV3 dc3 pm3 an3 cd3 ct3), sl3⟩) (c3 : PySem.W.codeIn K cd3 "_law_rt_worth" = true) (k3 : PySem.W.keepIn K (.ref f3) = true)
    (a4 : PySem.W.nsIn K mainGlobals "_law_coin" = some (some (.ref f4))) (l4 : K.lookup f4 = some ⟨oc4, od4, .func (PySem.W.fnOf "_law_coin" "_law_coin" (defArgs s__law_coin) (defBody s__law_coin) (defScope s__law_coin) .none kV4 dc4 pm4 an4 cd4 ct4), sl4⟩) (c4 : PySem.W.codeIn K cd4 "_law_coin" = true) (k4 : PySem.W.keepIn K (.ref f4) = true)
    (a5 : PySem.W.nsIn K mainGlobals "_law_rt_fraction" = some (some (.ref f5))) (l5 : K.lookup f5 = some ⟨oc5, od5, .func (PySem.W.fnOf "_law_rt_fraction" "_law_rt_fraction" (defArgs s__law_rt_fraction) (defBody s__law_rt_fraction) (defScope s__law_rt_fraction) .none kV5 dc5 pm5 an5 cd5 ct5), sl5⟩) (c5 : PySem.W.codeIn K cd5 "_law_rt_fraction" = true) (k5 : PySem.W.keepIn K (.ref f5) = true)
    (a6 : PySem.W.nsIn K mainGlobals "_law_rt_size" = some (some (.ref f6))) (l6 : K.lookup f6 = some ⟨oc6, od6, .func (PySem.W.fnOf "_law_rt_size" "_law_rt_size" (defArgs s__law_rt_size) (defBody s__law_rt_size) (defScope s__law_rt_size) .none kV6 dc6 pm6 an6 cd6 ct6), sl6⟩) (c6 : PySem.W.codeIn K cd6 "_law_rt_size" = true) (k6 : PySem.W.keepIn K (.ref f6) = true)
    (a7 : PySem.W.nsIn K mainGlobals "_law_rt_any_map" = some (some (.ref f7))) (l7 : K.lookup f7 = some ⟨oc7, od7, .func (PySem.W.fnOf "_law_rt_any_map" "_law_rt_any_map" (defArgs s__law_rt_any_map) (defBody s__law_rt_any_map) (defScope s__law_rt_any_map) .none kV7 dc7 pm7 an7 cd7 ct7), sl7⟩) (c7 : PySem.W.codeIn K cd7 "_law_rt_any_map" = true) (k7 : PySem.W.keepIn K (.ref f7) = true)
    (a8 : PySem.W.nsIn K mainGlobals "_law_rt_turns" = some (some (.ref f8))) (l8 : K.lookup f8 = some ⟨oc8, od8, .func (PySem.W.fnOf "_law_rt_turns" "_law_rt_turns" (defArgs s__law_rt_turns) (defBody s__law_rt_turns) (defScope s__law_rt_turns) .none kV8 dc8 pm8 an8 cd8 ct8), sl8⟩) (c8 : PySem.W.codeIn K cd8 "_law_rt_turns" = true) (k8 : PySem.W.keepIn K (.ref f8) = true)
    (a9 : PySem.W.nsIn K mainGlobals "_law_rt_way" = some (some (.ref f9))) (l9 : K.lookup f9 = some ⟨oc9, od9, .func (PySem.W.fnOf "_law_rt_way" "_law_rt_way" (defArgs s__law_rt_way) (defBody s__law_rt_way) (defScope s__law_rt_way) .none kV9 dc9 pm9 an9 cd9 ct9), sl9⟩) (c9 : PySem.W.codeIn K cd9 "_law_rt_way" = true) (k9 : PySem.W.keepIn K (.ref f9) = true)
    (a10 : PySem.W.nsIn K mainGlobals "_law_rt_times" = some (some (.ref f10))) (l10 : K.lookup f10 = some ⟨oc10, od10, .func (PySem.W.fnOf "_law_rt_times" "_law_rt_times" (defArgs s__law_rt_times) (defBody s__law_rt_times) (defScope s__law_rt_times) .none kV10 dc10 pm10 an10 cd10 ct10), sl10⟩) (c10 : PySem.W.codeIn K cd10 "_law_rt_times" = true) (k10 : PySem.W.keepIn K (.ref f10) = true)
    (a11 : PySem.W.nsIn K mainGlobals "_law_rt_map" = some (some (.ref f11))) (l11 : K.lookup f11 = some ⟨oc11, od11, .func (PySem.W.fnOf "_law_rt_map" "_law_rt_map" (defArgs s__law_rt_map) (defBody s__law_rt_map) (defScope s__law_rt_map) .none kV11 dc11 pm11 an11 cd11 ct11), sl11⟩) (c11 : PySem.W.codeIn K cd11 "_law_rt_map" = true) (k11 : PySem.W.keepIn K (.ref f11) = true)
    (a12 : PySem.W.nsIn K mainGlobals "_law_rt_goal" = some (some (.ref f12))) (l12 : K.lookup f12 = some ⟨oc12, od12, .func (PySem.W.fnOf "_law_rt_goal" "_law_rt_goal" (defArgs s__law_rt_goal) (defBody s__law_rt_goal) (defScope s__law_rt_goal) .none kV12 dc12 pm12 an12 cd12 ct12), sl12⟩) (c12 : PySem.W.codeIn K cd12 "_law_rt_goal" = true) (k12 : PySem.W.keepIn K (.ref f12) = true)
    (a13 : PySem.W.nsIn K mainGlobals "is_undivided_map" = some (some (.ref f13))) (l13 : K.lookup f13 = some ⟨oc13, od13, .func (PySem.W.fnOf "is_undivided_map" "is_undivided_map" (defArgs s_is_undivided_map) (defBody s_is_undivided_map) (defScope s_is_undivided_map) .none kV13 dc13 pm13 an13 cd13 ct13), sl13⟩) (c13 : PySem.W.codeIn K cd13 "is_undivided_map" = true) (k13 : PySem.W.keepIn K (.ref f13) = true)
    (a14 : PySem.W.nsIn K mainGlobals "is_map" = some (some (.ref f14))) (l14 : K.lookup f14 = some ⟨oc14, od14, .func (PySem.W.fnOf "is_map" "is_map" (defArgs s_is_map) (defBody s_is_map) (defScope s_is_map) .none kV14 dc14 pm14 an14 cd14 ct14), sl14⟩) (c14 : PySem.W.codeIn K cd14 "is_map" = true) (k14 : PySem.W.keepIn K (.ref f14) = true)
    (a15 : PySem.W.nsIn K mainGlobals "check_map" = some (some (.ref f15))) (l15 : K.lookup f15 = some ⟨oc15, od15, .func (PySem.W.fnOf "check_map" "check_map" (defArgs s_check_map) (defBody s_check_map) (defScope s_check_map) .none kV15 dc15 pm15 an15 cd15 ct15), sl15⟩) (c15 : PySem.W.codeIn K cd15 "check_map" = true) (k15 : PySem.W.keepIn K (.ref f15) = true)
    (a16 : PySem.W.nsIn K mainGlobals "times" = some (some (.ref f16))) (l16 : K.lookup f16 = some ⟨oc16, od16, .func (PySem.W.fnOf "times" "times" (defArgs s_times) (defBody s_times) (defScope s_times) .none kV16 dc16 pm16 an16 cd16 ct16), sl16⟩) (c16 : PySem.W.codeIn K cd16 "times" = true) (k16 : PySem.W.keepIn K (.ref f16) = true)
    (a17 : PySem.W.nsIn K mainGlobals "check_undivided_map" = some (some (.ref f17))) (l17 : K.lookup f17 = some ⟨oc17, od17, .func (PySem.W.fnOf "check_undivided_map" "check_undivided_map" (defArgs s_check_undivided_map) (defBody s_check_undivided_map) (defScope s_check_undivided_map) .none kV17 dc17 pm17 an17 cd17 ct17), sl17⟩) (c17 : PySem.W.codeIn K cd17 "check_undivided_map" = true) (k17 : PySem.W.keepIn K (.ref f17) = true)
    (a18 : PySem.W.nsIn K mainGlobals "least_map" = some (some (.ref f18))) (l18 : K.lookup f18 = some ⟨oc18, od18, .func (PySem.W.fnOf "least_map" "least_map" (defArgs s_least_map) (defBody s_least_map) (defScope s_least_map) .none kV18 dc18 pm18 an18 cd18 ct18), sl18⟩) (c18 : PySem.W.codeIn K cd18 "least_map" = true) (k18 : PySem.W.keepIn K (.ref f18) = true)
    (a19 : PySem.W.nsIn K mainGlobals "behind" = some (some (.ref f19))) (l19 : K.lookup f19 = some ⟨oc19, od19, .func (PySem.W.fnOf "behind" "behind" (defArgs s_behind) (defBody s_behind) (defScope s_behind) .none kV19 dc19 pm19 an19 cd19 ct19), sl19⟩) (c19 : PySem.W.codeIn K cd19 "behind" = true) (k19 : PySem.W.keepIn K (.ref f19) = true)
    (a20 : PySem.W.nsIn K mainGlobals "turned" = some (some (.ref f20))) (l20 : K.lookup f20 = some ⟨oc20, od20, .func (PySem.W.fnOf "turned" "turned" (defArgs s_turned) (defBody s_turned) (defScope s_turned) .none kV20 dc20 pm20 an20 cd20 ct20), sl20⟩) (c20 : PySem.W.codeIn K cd20 "turned" = true) (k20 : PySem.W.keepIn K (.ref f20) = true)
    (a21 : PySem.W.nsIn K mainGlobals "_law_right" = some (some (.ref f21))) (l21 : K.lookup f21 = some ⟨oc21, od21, .func (PySem.W.fnOf "_law_right" "_law_right" (defArgs s__law_right) (defBody s__law_right) (defScope s__law_right) .none kV21 dc21 pm21 an21 cd21 ct21), sl21⟩) (c21 : PySem.W.codeIn K cd21 "_law_right" = true) (k21 : PySem.W.keepIn K (.ref f21) = true)
    (a22 : PySem.W.nsIn K mainGlobals "_law_purse" = some (some (.ref f22))) (l22 : K.lookup f22 = some ⟨oc22, od22, .func (PySem.W.fnOf "_law_purse" "_law_purse" (defArgs s__law_purse) (defBody s__law_purse) (defScope s__law_purse) .none kV22 dc22 pm22 an22 cd22 ct22), sl22⟩) (c22 : PySem.W.codeIn K cd22 "_law_purse" = true) (k22 : PySem.W.keepIn K (.ref f22) = true)
    (a23 : PySem.W.nsIn K mainGlobals "law" = some (some (.ref f23))) (l23 : K.lookup f23 = some ⟨oc23, od23, .func (PySem.W.fnOf "law" "law" (defArgs s_law) (defBody s_law) (defScope s_law) .none kV23 dc23 pm23 an23 cd23 ct23), sl23⟩) (c23 : PySem.W.codeIn K cd23 "law" = true) (k23 : PySem.W.keepIn K (.ref f23) = true)
    (z0 : PySem.W.nsIn K mainGlobals "abs" = some none)
    (z1 : PySem.W.nsIn K mainGlobals "int" = some none)
    (z2 : PySem.W.nsIn K mainGlobals "tuple" = some none)
    (z3 : PySem.W.nsIn K mainGlobals "range" = some none)
    (z4 : PySem.W.nsIn K mainGlobals "len" = some none)
    (z5 : PySem.W.nsIn K mainGlobals "max" = some none)
    (z6 : PySem.W.nsIn K mainGlobals "min" = some none)
    (z7 : PySem.W.nsIn K mainGlobals "repr" = some none)
    (m0 : PySem.W.nsIn K mainGlobals "gcd" = some (some (.builtin "math.gcd")))
    : ∃ (T : Tx K mg) (kV dc pm cd ct : Value) (an : Option Addr), T.fd_law = PySem.W.fnOf "law" "law" (defArgs s_law) (defBody s_law) (defScope s_law) .none kV dc pm an cd ct := by
  refine ⟨{
    a__law_rt_shared := f0, fd__law_rt_shared := _, F__law_rt_shared := fun_mk (st := s__law_rt_shared) l0 c0 k0, g__law_rt_shared := PySem.W.mg_of X G a0,
    a__law_rt_low := f1, fd__law_rt_low := _, F__law_rt_low := fun_mk (st := s__law_rt_low) l1 c1 k1, g__law_rt_low := PySem.W.mg_of X G a1,
    a__law_rt_ends := f2, fd__law_rt_ends := _, F__law_rt_ends := fun_mk (st := s__law_rt_ends) l2 c2 k2, g__law_rt_ends := PySem.W.mg_of X G a2,
    a__law_rt_worth := f3, fd__law_rt_worth := _, F__law_rt_worth := fun_mk (st := s__law_rt_worth) l3 c3 k3, g__law_rt_worth := PySem.W.mg_of X G a3,
    a__law_coin := f4, fd__law_coin := _, F__law_coin := fun_mk (st := s__law_coin) l4 c4 k4, g__law_coin := PySem.W.mg_of X G a4,
    a__law_rt_fraction := f5, fd__law_rt_fraction := _, F__law_rt_fraction := fun_mk (st := s__law_rt_fraction) l5 c5 k5, g__law_rt_fraction := PySem.W.mg_of X G a5,
    a__law_rt_size := f6, fd__law_rt_size := _, F__law_rt_size := fun_mk (st := s__law_rt_size) l6 c6 k6, g__law_rt_size := PySem.W.mg_of X G a6,
    a__law_rt_any_map := f7, fd__law_rt_any_map := _, F__law_rt_any_map := fun_mk (st := s__law_rt_any_map) l7 c7 k7, g__law_rt_any_map := PySem.W.mg_of X G a7,
    a__law_rt_turns := f8, fd__law_rt_turns := _, F__law_rt_turns := fun_mk (st := s__law_rt_turns) l8 c8 k8, g__law_rt_turns := PySem.W.mg_of X G a8,
    a__law_rt_way := f9, fd__law_rt_way := _, F__law_rt_way := fun_mk (st := s__law_rt_way) l9 c9 k9, g__law_rt_way := PySem.W.mg_of X G a9,
    a__law_rt_times := f10, fd__law_rt_times := _, F__law_rt_times := fun_mk (st := s__law_rt_times) l10 c10 k10, g__law_rt_times := PySem.W.mg_of X G a10,
    a__law_rt_map := f11, fd__law_rt_map := _, F__law_rt_map := fun_mk (st := s__law_rt_map) l11 c11 k11, g__law_rt_map := PySem.W.mg_of X G a11,
    a__law_rt_goal := f12, fd__law_rt_goal := _, F__law_rt_goal := fun_mk (st := s__law_rt_goal) l12 c12 k12, g__law_rt_goal := PySem.W.mg_of X G a12,
    a_is_undivided_map := f13, fd_is_undivided_map := _, F_is_undivided_map := fun_mk (st := s_is_undivided_map) l13 c13 k13, g_is_undivided_map := PySem.W.mg_of X G a13,
    a_is_map := f14, fd_is_map := _, F_is_map := fun_mk (st := s_is_map) l14 c14 k14, g_is_map := PySem.W.mg_of X G a14,
    a_check_map := f15, fd_check_map := _, F_check_map := fun_mk (st := s_check_map) l15 c15 k15, g_check_map := PySem.W.mg_of X G a15,
    a_times := f16, fd_times := _, F_times := fun_mk (st := s_times) l16 c16 k16, g_times := PySem.W.mg_of X G a16,
    a_check_undivided_map := f17, fd_check_undivided_map := _, F_check_undivided_map := fun_mk (st := s_check_undivided_map) l17 c17 k17, g_check_undivided_map := PySem.W.mg_of X G a17,
    a_least_map := f18, fd_least_map := _, F_least_map := fun_mk (st := s_least_map) l18 c18 k18, g_least_map := PySem.W.mg_of X G a18,
    a_behind := f19, fd_behind := _, F_behind := fun_mk (st := s_behind) l19 c19 k19, g_behind := PySem.W.mg_of X G a19,
    a_turned := f20, fd_turned := _, F_turned := fun_mk (st := s_turned) l20 c20 k20, g_turned := PySem.W.mg_of X G a20,
    a__law_right := f21, fd__law_right := _, F__law_right := fun_mk (st := s__law_right) l21 c21 k21, g__law_right := PySem.W.mg_of X G a21,
    a__law_purse := f22, fd__law_purse := _, F__law_purse := fun_mk (st := s__law_purse) l22 c22 k22, g__law_purse := PySem.W.mg_of X G a22,
    a_law := f23, fd_law := _, F_law := fun_mk (st := s_law) l23 c23 k23, g_law := PySem.W.mg_of X G a23,
    z_abs := PySem.W.mg_none_of X G z0, z_int := PySem.W.mg_none_of X G z1, z_tuple := PySem.W.mg_none_of X G z2, z_range := PySem.W.mg_none_of X G z3, z_len := PySem.W.mg_none_of X G z4, z_max := PySem.W.mg_none_of X G z5, z_min := PySem.W.mg_none_of X G z6, z_repr := PySem.W.mg_none_of X G z7, m_gcd := PySem.W.mg_of X G m0
    }, _, _, _, _, _, _, rfl⟩
theorem law_F {l : PySem.W.OpenLaw} (el : l.prog = PySem.Challenge.pw_leftroads_k10_maps_behind_one_another) {w : World} {K : PySem.W.Frag} {mg : Str → Option Value} {fa : Addr} (hfa : mg "law" = some (.ref fa))
    (h : ∃ (T : Tx K mg) (kV dc pm cd ct : Value) (an : Option Addr), T.fd_law = PySem.W.fnOf "law" "law" (defArgs s_law) (defBody s_law) (defScope s_law) .none kV dc pm an cd ct) :
    ∃ fd : FuncData, (∀ (s : Shared) (v : Value), BindsTo s fd ⟨[v], []⟩ [("script", v)]) ∧ ∀ base : Heap, K.In base → base.Ns mainGlobals mg → FnG l.prog w K mg base CX0 6 fa fd ["script"] (sp_law K) := by
  obtain ⟨T, kV, dc, pm, cd, ct, an, e⟩ := h
  have z := hfa.symm.trans T.g_law
  cases z
  refine ⟨T.fd_law, fun s v => ?_, fun base _ _ => ok_law T⟩
  rw [e]
  exact .of_eq rfl
end Lr
open PySem PySem.W PyProof.Rows
set_option maxHeartbeats 0 in
theorem PySem.Challenge.cw_leftroads_k10_maps_behind_one_another_holds : PySem.Challenge.rw_leftroads_k10_maps_behind_one_another.Holds := by
  w_on; o_law; k_head; (case hw => w_witness2)
  k_fill
  refine Lr.walk_ofG (l := PySem.Challenge.rw_leftroads_k10_maps_behind_one_another) (n := 63) (k := 6) (x := "script") (sp := fun w => Lr.sp_law _) rfl (by decide) rfl ⟨rfl, by decide, by decide⟩ (fun w h Y => PySem.W.kIn_of Y) ?F (fun _ _ a ns hl hb hS ho => Lr.law_in (n := 0) hl hb hS ho)
  case F =>
    intro w mg fa h KX G hmg
    refine' Lr.law_F rfl hmg (Lr.mk_tx KX G ?a0 ?l0 ?c0 ?k0 ?a1 ?l1 ?c1 ?k1 ?a2 ?l2 ?c2 ?k2 ?a3 ?l3 ?c3 ?k3 ?a4 ?l4 ?c4 ?k4 ?a5 ?l5 ?c5 ?k5 ?a6 ?l6 ?c6 ?k6 ?a7 ?l7 ?c7 ?k7 ?a8 ?l8 ?c8 ?k8 ?a9 ?l9 ?c9 ?k9 ?a10 ?l10 ?c10 ?k10 ?a11 ?l11 ?c11 ?k11 ?a12 ?l12 ?c12 ?k12 ?a13 ?l13 ?c13 ?k13 ?a14 ?l14 ?c14 ?k14 ?a15 ?l15 ?c15 ?k15 ?a16 ?l16 ?c16 ?k16 ?a17 ?l17 ?c17 ?k17 ?a18 ?l18 ?c18 ?k18 ?a19 ?l19 ?c19 ?k19 ?a20 ?l20 ?c20 ?k20 ?a21 ?l21 ?c21 ?k21 ?a22 ?l22 ?c22 ?k22 ?a23 ?l23 ?c23 ?k23 ?z0 ?z1 ?z2 ?z3 ?z4 ?z5 ?z6 ?z7 ?m0)
    (case a0 => k_is)
    (case l0 => k_is)
    (case c0 => k_is)
    (case k0 => k_is)
    (case a1 => k_is)
    (case l1 => k_is)
    (case c1 => k_is)
    (case k1 => k_is)
    (case a2 => k_is)
    (case l2 => k_is)
    (case c2 => k_is)
    (case k2 => k_is)
    (case a3 => k_is)
    (case l3 => k_is)
    (case c3 => k_is)
    (case k3 => k_is)
    (case a4 => k_is)
    (case l4 => k_is)
    (case c4 => k_is)
    (case k4 => k_is)
    (case a5 => k_is)
    (case l5 => k_is)
    (case c5 => k_is)
    (case k5 => k_is)
    (case a6 => k_is)
    (case l6 => k_is)
    (case c6 => k_is)
    (case k6 => k_is)
    (case a7 => k_is)
    (case l7 => k_is)
    (case c7 => k_is)
    (case k7 => k_is)
    (case a8 => k_is)
    (case l8 => k_is)
    (case c8 => k_is)
    (case k8 => k_is)
    (case a9 => k_is)
    (case l9 => k_is)
    (case c9 => k_is)
    (case k9 => k_is)
    (case a10 => k_is)
    (case l10 => k_is)
    (case c10 => k_is)
    (case k10 => k_is)
    (case a11 => k_is)
    (case l11 => k_is)
    (case c11 => k_is)
    (case k11 => k_is)
    (case a12 => k_is)
    (case l12 => k_is)
    (case c12 => k_is)
    (case k12 => k_is)
    (case a13 => k_is)
    (case l13 => k_is)
    (case c13 => k_is)
    (case k13 => k_is)
    (case a14 => k_is)
    (case l14 => k_is)
    (case c14 => k_is)
    (case k14 => k_is)
    (case a15 => k_is)
    (case l15 => k_is)
    (case c15 => k_is)
    (case k15 => k_is)
    (case a16 => k_is)
    (case l16 => k_is)
    (case c16 => k_is)
    (case k16 => k_is)
    (case a17 => k_is)
    (case l17 => k_is)
    (case c17 => k_is)
    (case k17 => k_is)
    (case a18 => k_is)
    (case l18 => k_is)
    (case c18 => k_is)
    (case k18 => k_is)
    (case a19 => k_is)
    (case l19 => k_is)
    (case c19 => k_is)
    (case k19 => k_is)
    (case a20 => k_is)
    (case l20 => k_is)
    (case c20 => k_is)
    (case k20 => k_is)
    (case a21 => k_is)
    (case l21 => k_is)
    (case c21 => k_is)
    (case k21 => k_is)
    (case a22 => k_is)
    (case l22 => k_is)
    (case c22 => k_is)
    (case k22 => k_is)
    (case a23 => k_is)
    (case l23 => k_is)
    (case c23 => k_is)
    (case k23 => k_is)
    (case z0 => k_is)
    (case z1 => k_is)
    (case z2 => k_is)
    (case z3 => k_is)
    (case z4 => k_is)
    (case z5 => k_is)
    (case z6 => k_is)
    (case z7 => k_is)
    (case m0 => k_is)
