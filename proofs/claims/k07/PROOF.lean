import PyProof.Rows.All
import Wide.All
import OpenK.AllK
import Wide.FinOn
import HandS.ForMost
import HandS.EndBits
import HandS.Wide
import HandS.RaiseMore
import HandS.Walk
import HandS.Style
import HandS.IsInst
import KE.DataMinMax
import HandS.Gcd
import PyProof.MaxThree
import PyProof.StrOps2
import HandS.ForExc
import HandS.ExcInit
import HandS.ExcField
import KE.KExcIs
import PyProof.StrLawsFrom
import HandS.StrMore
import PySem.Challenge.RW_leftroads_k07_no_roads_no_courses
set_option Elab.async false
set_option linter.all false
set_option maxRecDepth 100000
set_option maxHeartbeats 8000000
/-! Calls where no repr is under way. -/
namespace Lr
open PySem PySem.Spec PyProof.Rows L2
section
variable {P : Program} {w : World} {K : PySem.W.Frag} {mg : Str → Option Value} {base : Heap}
/-- a def that keeps its promise where no repr is under way -/
structure FnG (P : Program) (w : World) (K : PySem.W.Frag) (mg : Str → Option Value) (base : Heap) (CX : CXT) (k : Nat) (f : Addr) (fd : FuncData) (ps : List Str) (sp : Sp) : Prop where
  many : ∀ vs H Q E, sp vs H Q E → vs.length = ps.length
  goes : ∀ (A : Around) (up : List Env) (s : Shared) (H : Hp) (as : Args) (us : List Value) (vs : List V) (Q : VK) (E : XK), A.guards = some [] → Room k A → Env0 P w K mg base A up s H →
    BindsTo s fd as (ps.zip us) → Vals vs us → sp vs H Q E → codeAny (model P w) A (.call (.ref f) as) (CR CX up P w H s Q E) s
theorem FnG.of {CX : CXT} {k : Nat} {f : Addr} {fd : FuncData} {ps : List Str} {sp : Sp} (F : FnOk P w K mg base CX k f fd ps sp) : FnG P w K mg base CX k f fd ps sp :=
  ⟨F.len, fun A up s H as us vs Q E _ => F.run A up s H as us vs Q E⟩
theorem FnG.up {CX : CXT} {j k : Nat} {f : Addr} {fd : FuncData} {ps : List Str} {sp : Sp} (F : FnG P w K mg base CX j f fd ps sp) (l : j ≤ k) : FnG P w K mg base CX k f fd ps sp :=
  ⟨F.many, fun A up s H as us vs Q E g r => F.goes A up s H as us vs Q E g (r.mono l)⟩
theorem FnG.wk {CX : CXT} {k : Nat} {f : Addr} {fd : FuncData} {ps : List Str} {sp sp' : Sp} (F : FnG P w K mg base CX k f fd ps sp) (i : ∀ vs H Q E, sp' vs H Q E → sp vs H Q E) : FnG P w K mg base CX k f fd ps sp' :=
  ⟨fun vs H Q E z => F.many vs H Q E (i _ _ _ _ z), fun A up s H as us vs Q E g r e b v z => F.goes A up s H as us vs Q E g r e b v (i _ _ _ _ z)⟩
/-- a def by its body, as F.ok says, with the guards told -/
theorem okGX {CX : CXT} {x qual : Str} {st : Stmt} {f : Addr} {fd : FuncData} {N ps : List Str} {k : Nat} {sp : Sp} (F : Fun K x qual st f fd) (S : FnScope N ps (defScope st)) (many : ∀ vs H Q E, sp vs H Q E → vs.length = ps.length)
    (body : ∀ (cdv : Value) (A : Around) (up : List Env) (s : Shared) (H : Hp) (vs : List V) (Q : VK) (E : XK), A.guards = some [] → Room k (A.deeper (envOfC qual (defScope st) s.heap.objs.size f cdv)) → sp vs H Q E →
      ∃ t, PSs (cxOf CX P w K mg base N qual (defScope st) f cdv A up s H E) (defBody st) t ∧ t { nx := fun _ H' => Q .non H', rt := Q } (start N vs) H) : FnG P w K mg base CX (k + 1) f fd ps sp := by
  obtain ⟨oc, od, kV, doc, pm, an, cdv, ct, osl, rfl, lk, hcd⟩ := F.ex
  refine ⟨many, fun A up s H as us vs Q E hG hr e0 hb rv hsp => ?_⟩
  have mn := many _ _ _ _ hsp
  have inK : K.In s.heap := e0.mod.kin.keeps fun b o z => (e0.bs b o z).1
  have nl : s.heap.NoLimit := e0.mod.nolimit.keeps fun b o z => (e0.bs b o z).1
  refine codeAny_call_function hr.depth (inK _ _ lk) rfl S.co
    S.gen rfl (PySem.W.codeRec_of inK hcd) (hb _ _ _ _ ?_)
  refine wpAny_newFunctionEnv_cells S.kind (fun ⟨n, v⟩ hy => ?_) fun ev he s1 x => ?_
  · rcases S.par n (List.of_mem_zip hy).1 with z | z
    · exact .inl z
    · exact .inr ⟨z, PySem.W.cellsFrom_some _ _ _ (.inl z)⟩
  · subst he
    refine ⟨nl.keeps x.toInCall.keep, codeAny_func ?_⟩
    obtain ⟨t, ht, hq⟩ := body cdv A up s H vs Q E hG (hr.deeper _) hsp
    have I := inv_start (CX := CX) (qual := qual) (f := f) (cd := cdv) (E := E) S hr.hd e0 mn rv x
    refine wpAny_mono (ht.run [] s1 (start N vs) H _ I hq) (fun fl s' hs => ?_) fun _ _ z => z
    cases fl with
    | ret u =>
      obtain ⟨v, σ', H', J, r1, q⟩ := hs
      exact ⟨v, H', J.os, J.bare, J.base, J.hok, r1, q⟩
    | next =>
      obtain ⟨σ', H', J, q⟩ := hs
      exact ⟨.non, H', J.os, J.bare, J.base, J.hok, rfl, q⟩
    | brk =>
      obtain ⟨_, _, _, q⟩ := hs
      exact q.elim
    | cont =>
      obtain ⟨_, _, _, q⟩ := hs
      exact q.elim
/-- .. of a def that no error leaves -/
theorem okG {x qual : Str} {st : Stmt} {f : Addr} {fd : FuncData} {N ps : List Str} {k : Nat} {sp : Sp} (F : Fun K x qual st f fd) (S : FnScope N ps (defScope st)) (many : ∀ vs H Q E, sp vs H Q E → vs.length = ps.length)
    (body : ∀ (cdv : Value) (A : Around) (up : List Env) (s : Shared) (H : Hp) (vs : List V) (Q : VK) (E : XK), A.guards = some [] → Room k (A.deeper (envOfC qual (defScope st) s.heap.objs.size f cdv)) → sp vs H Q E →
      ∃ t, PSs (cxOf CX0 P w K mg base N qual (defScope st) f cdv A up s H E).nox (defBody st) t ∧ t { nx := fun _ H' => Q .non H', rt := Q } (start N vs) H) : FnG P w K mg base CX0 (k + 1) f fd ps sp :=
  okGX F S many fun cdv A up s H vs Q E g hr z => by
    obtain ⟨t, ht, hq⟩ := body cdv A up s H vs Q E g hr z
    exact ⟨t, ht.nox, hq⟩
end
section
variable {X : Cx} {CX : CXT} {k : Nat} {f : Addr} {fd : FuncData} {ps : List Str} {sp : Sp} {E : XK} {x : Str} {p pos : Pos} {e : Expr} {es : List Expr} {t : TA}
theorem goes_fn {pins : List (Addr × Obj)} {σ : L2.St} {H : Hp} {s : Shared} {Q : VK} {us : List Value} {vs : List V} (F : FnG X.prog X.w X.K X.mg X.base CX k f fd ps sp) (hG : X.A.guards = some []) (hr : Room k X.A) (hb : Binds X.K fd ps []) (hx : Passes CX X E)
    (I : Inv X pins σ H s) (r : Vals vs us) (h : sp vs H Q E) : wpAny (model X.prog X.w) X.A (call (.ref f) us) (EP X pins σ Q) X.xe s := by
  have ln : us.length = ps.length := by
    rw [← r.length]
    exact F.many _ _ _ _ h
  have bt : BindsTo s fd ⟨us, []⟩ (ps.zip us) := by
    have z := hb s us I.kIn (by rw [List.append_nil]; exact ln)
    rw [List.append_nil] at z
    exact z
  refine wpAny_call (codeAny_mono (F.goes X.A X.stack s H ⟨us, []⟩ us vs Q E hG hr I.env0 bt r h) fun rs s' z => ?_)
  match rs, z with
  | .error er, z => exact hx pins σ H s er s' I z
  | .ok (.ret u), z => exact I.after z
/-- f(e, ..) of such a def -/
theorem pe_callG (F : FnG X.prog X.w X.K X.mg X.base CX k f fd ps sp) (hG : X.A.guards = some []) (hr : Room k X.A) (hg : Gl X x) (hm : X.mg x = some (.ref f)) (hk : PySem.W.keepIn X.K (.ref f) = true) (hb : Binds X.K fd ps []) (hx : Passes CX X E)
    (ha : PA X (e :: es) t) (hdb : (x == ("__debug__" : Str)) = false := by decide) (he : starEach (e :: es) X.env = (false, eval e X.env) :: starEach es X.env := by rfl) (hpl : (backTo pos (starEach es X.env)).any (·.1) = false := by rfl) :
    PE X (.Call (.Name x p) (e :: es) [] pos) (tCall sp [] E t) := by
  refine ⟨fun pins s σ H Q I h => ?_⟩
  refine wpAny_Call_Name_kw (ld_glob I hg hm ?_ hdb)
  refine PySem.W.callWith_K (h₀ := X.base) I.ok.mod.kin hk (thn (ha.run pos pins s σ H _ I h) fun us s1 z => ?_) he hpl
  obtain ⟨vs, H1, I1, r1, q⟩ := z
  rw [List.append_nil] at q
  exact ⟨I1.kIn, goes_fn F hG hr hb hx I1 r1 q⟩
end
section
/-- the law's call, from its promise: what stood ahead of it is tracked nowhere but for the script -/
theorem enterG {P : Program} {w : World} {K : PySem.W.Frag} {mg mb : Str → Option Value} {k : Nat} {fa a : Addr} {fd : FuncData} {x : Str} {sp : Sp} {s : Shared} {vs : List Value} {ns : List Int}
    (inK : K.In s.heap) (hm : s.heap.Ns mainGlobals mg) (hb : s.heap.Ns builtinsNs mb) (hbb : ∀ x : Str, x ≠ "__name__" → mb x = bootBuiltins x) (nl : s.heap.NoLimit) (hgen : s.gens = #[])
    (hobj : s.heap.get? a = some { cls := .type "list", data := .seq vs.toArray }) (hi : IntsAre vs ns) (hl : ns.length ≤ sizeLine) (hr : Room k callerA)
    (F : ∀ base : Heap, K.In base → base.Ns mainGlobals mg → FnG P w K mg base CX0 k fa fd [x] sp) (bd : ∀ (s : Shared) (u : Value), BindsTo s fd ⟨[u], []⟩ [(x, u)])
    (hsp : ∀ H : Hp, SqL K H a (ns.map V.int) → (∀ b, b ≠ a → H b = none) → sp [.ref a] H (fun v _ => v = .bl true) fun _ _ _ => False) :
    codeAny (model P w) callerA (.call (.ref fa) ⟨[.ref a], []⟩) (fun r s' => r = .ok (.ret (.bool true)) ∧ OldK s.heap s'.heap ∧ s'.os = s.os ∧ AllBare s'.gens) s := by
  have rv := vals_ints hi
  have ln := hi.length
  -- H tracks at most the script
  have go : ∀ H : Hp, (H = (fun _ => none) ∨ H a = some (.frz { cls := .type "list", data := .seq vs.toArray } (.lst (ns.map V.int))) ∧ K.lookup a = none ∧ ∀ b, b ≠ a → H b = none) → SqL K H a (ns.map V.int) →
      codeAny (model P w) callerA (.call (.ref fa) ⟨[.ref a], []⟩) (fun r s' => r = .ok (.ret (.bool true)) ∧ OldK s.heap s'.heap ∧ s'.os = s.os ∧ AllBare s'.gens) s := by
    intro H hH hS
    have only : ∀ b, b ≠ a → H b = none := fun b nb => by
      rcases hH with z | z
      · rw [z]
      · exact z.2.2 b nb
    have held : ∀ b u, H b = some u → b = a ∧ u = .frz { cls := .type "list", data := .seq vs.toArray } (.lst (ns.map V.int)) ∧ K.lookup a = none := fun b u z => by
      by_cases nb : b = a
      · refine ⟨nb, ?_⟩
        rw [nb] at z
        rcases hH with y | y
        · rw [y] at z
          cases z
        · rw [y.1] at z
          exact ⟨(Option.some.inj z).symm, y.2.1⟩
      · rw [only b nb] at z
        cases z
    have hok : HOk P w H s.heap := fun b u z => by
      obtain ⟨eb, eu, _⟩ := held b u z
      rw [eb, eu]
      exact ⟨hobj, by rw [List.length_map]; exact hl, vs, _, rv, hobj⟩
    -- a dict is not the script
    have dn : ∀ {b : Addr} {m : Str → Option Value}, s.heap.Ns b m → (hidT s.heap H).Ns b m := fun {b m} ⟨o, es, ep, ho, hd, more⟩ => by
      refine ⟨o, es, ep, hidT_get ho ?_, hd, more⟩
      refine only b fun eb => ?_
      rw [eb, hobj] at ho
      rw [← Option.some.inj ho] at hd
      exact nomatch hd
    have inB : K.In (hidT s.heap H) := fun b o z => hidT_get (inK b o z) (by
      cases q : H b with
      | none => rfl
      | some u =>
        obtain ⟨eb, _, nk⟩ := held b u q
        rw [eb, nk] at z
        cases z)
    obtain ⟨mc, n1, n2⟩ := nl
    have e0 : Env0 P w K mg (hidT s.heap H) callerA [] s H := {
      frames := rfl
      mod := ⟨inB, dn hm, ⟨mb, dn hb, hbb⟩, ⟨mc, dn n1, n2⟩⟩
      bs := fun b o z => of_hidT z
      bsz := Nat.le_of_eq (hidT_size _ _)
      funs := trivial
      frf := fun b z => absurd z List.not_mem_nil
      hok := hok
      bare := .of_eq hgen }
    refine codeAny_mono ((F _ inB (dn hm)).goes callerA [] s H _ [.ref a] [.ref a] _ (fun _ _ _ => False) rfl hr e0 (bd s (.ref a)) (.cons rfl .nil) (hsp H hS only)) fun r s' z => ?_
    match r, z with
    | .error _, z => exact z.elim
    | .ok (.ret u), z =>
      obtain ⟨v, H', os, bare, un, hok', r1, q⟩ := z
      cases (show v = V.bl true from q)
      cases (show u = Value.bool true from r1)
      refine ⟨rfl, OldK.of_keep fun b o ho => ?_, os, bare⟩
      cases q : H b with
      | none => exact un.keep b o ho q List.not_mem_nil List.not_mem_nil
      | some u =>
        obtain ⟨eb, eu, _⟩ := held b u q
        rw [eu] at q
        have z1 : s.heap.get? b = some _ := (hok b _ q).1
        have z2 : s'.heap.get? b = some _ := (hok' b _ (un.frzs b _ _ q)).1
        rw [z2, ← z1]
        exact ho
  cases hk : K.lookup a with
  | some o =>
    have z := inK a o hk
    rw [hobj] at z
    cases z
    exact go (fun _ => none) (.inl rfl) (.inr ⟨_, vs.toArray, _, hk, rfl, rfl, rfl, by rw [List.size_toArray, ln]; exact hl, by simpa using rv⟩)
  | none =>
    refine go (fun b => if b = a then some (.frz { cls := .type "list", data := .seq vs.toArray } (.lst (ns.map V.int))) else none) (.inr ⟨if_pos rfl, hk, fun b nb => if_neg nb⟩) (.inl (.inr ⟨_, if_pos rfl⟩))
/-- the goal that k_head leaves -/
theorem walk_ofG {l : PySem.W.OpenLaw} {n k : Nat} {q : Program} {loose : List Str} {XP : (Str → Option Value) → Heap → Prop} {YP : World → Heap → Prop} {d : DefRec} {K : Params → PySem.W.Frag} {sp : World → Sp} {x : Str}
    (hn : l.most = some n) (hn2 : n ≤ sizeLine) (hdf : d.params.defaults = []) (hr : Room k callerA) (hY : ∀ (w : World) (h : Heap), YP w h → (K w.params).In h)
    (F : ∀ (w : World) (mg : Str → Option Value) (fa : Addr) (h : Heap), (K w.params).In h → h.Ns mainGlobals mg → mg d.name = some (.ref fa) →
      ∃ fd : FuncData, (∀ (s : Shared) (u : Value), BindsTo s fd ⟨[u], []⟩ [(x, u)]) ∧ ∀ base : Heap, (K w.params).In base → base.Ns mainGlobals mg → FnG l.prog w (K w.params) mg base CX0 k fa fd [x] (sp w))
    (hsp : ∀ (w : World) (H : Hp) (a : Addr) (ns : List Int), ns.length ≤ n → (∀ z ∈ ns, Builtin.Int.intBits z ≤ 1048576) → SqL (K w.params) H a (ns.map V.int) → (∀ b, b ≠ a → H b = none) → sp w [.ref a] H (fun v _ => v = .bl true) fun _ _ _ => False) :
    PySem.W.WalkO q loose XP YP l.row.toRowW d [] (fun f vs => PySem.call f vs) := by
  refine Att.attach_callB hn hdf fun w s₀ s mg mb fa o pm cd doc a vs ns G Y ho hd hcd hmg hobj hi hlen hbits hg => ?_
  have inK := hY w _ Y
  obtain ⟨fd, bd, hF⟩ := F w mg fa _ inK G.T.g hmg
  exact enterG inK G.T.g G.T.b G.T.builtins G.T.nolimit hg hobj hi (Nat.le_trans hlen hn2) hr hF bd fun H hS only => hsp w H a ns hlen hbits hS only
end
end Lr

namespace Lr
open PySem PySem.Spec PyProof.Rows L2
/-! repr of data -/
/-- what repr writes out within the lines -/
structure Shw (d : PyData) : Prop where
  sh : d.showable = true
  nd : d.hasDict = false
  dp : d.depth ≤ 60
  lv : d.leavesShort 2000 = true
  bk : d.bulk ≤ 8000
theorem Shw.fits {d : PyData} (h : Shw d) : d.shown.length ≤ sizeLine := by
  have z := PyData.shown_le_bulk 2000 (by decide) d h.lv
  have y := h.bk
  have e : sizeLine = 16777216 := by decide
  omega
/-- repr(x), nothing being written out at the time -/
def rRepr (K : PySem.W.Frag) : List V → Hp → VK → Prop := fun xs H Q => ∃ v d, xs = [v] ∧ Dp K H v d ∧ Shw d ∧ Q (.str d.shown) H
section
variable {X : Cx}
theorem call_repr {k : Nat} (hG : X.A.guards = some []) (hr : Room k X.A) : CallR X (.builtin "repr") (rRepr X.K) := by
  intro pins s σ H xs us Q I r h
  obtain ⟨v, d, rfl, hd, hs, q⟩ := h
  obtain ⟨u, rfl, hu⟩ := vals1 r
  have un := hr.units
  obtain ⟨as, rd⟩ := Dp.reads I d v u hd hu
  have far : ∀ (a : Addr), u = .ref a → wpAny (model X.prog X.w) X.A (call (.builtin "repr") [u]) (EP X pins σ Q) X.xe s := fun a ea => by
    rw [ea] at rd ⊢
    exact repr_of_reads' rd hs.sh (PyData.noDict_hsm hs.nd) hG (by have := hs.dp; omega) (fun _ _ z => z) (fun h' u tk hk => ⟨.str d.shown, H, I.kept (t' := tk) hk, ⟨u, rfl⟩, q⟩) hs.fits
  cases hd with
  | non =>
    cases (show u = Value.none from hu)
    exact PySem.P.repr_of_none ⟨.str _, H, I.tok _, ⟨_, rfl⟩, q⟩
  | bl b =>
    cases (show u = Value.bool b from hu)
    exact PySem.P.repr_of_bool ⟨.str _, H, I.tok _, ⟨_, rfl⟩, q⟩
  | int i =>
    obtain ⟨t, e⟩ := (show ∃ t, u = Value.int i t from hu)
    cases e
    exact PySem.P.repr_of_int (of_decide_eq_true hs.sh) ⟨.str _, H, I.tok _, ⟨_, rfl⟩, q⟩
  | str x =>
    obtain ⟨t, e⟩ := (show ∃ t, u = Value.str x t from hu)
    cases e
    exact PySem.P.repr_of_str ⟨.str _, H, I.tok _, ⟨_, rfl⟩, q⟩ hs.fits
  | lst hl ha => exact far _ hu
  | tup hl ha => exact far _ hu
end
/-! forms -/
/-- an int below 2 ^ 1900 -/
def Sml (i : Int) : Prop := i.natAbs < 2 ^ 1900
theorem Sml.lg {i : Int} (h : Sml i) : i.natAbs.log2 < 1920 := Nat.lt_trans (PySem.Flt.log2_lt_of (k := 1900) (by decide) h) (by decide)
theorem Sml.tx {i : Int} (h : Sml i) : (PyData.int i).shown.length ≤ 2000 := by
  have z := int_text_length_le (k := 1920) (by decide) h.lg
  show (Str.ofString (toString i)).length ≤ 2000
  rw [PySem.ofString_length]
  omega
def intsD (l : List Int) : List PyData := l.map PyData.int
theorem ints_ok : ∀ {l : List Int}, (∀ i ∈ l, Sml i) → PyData.showableAll (intsD l) = true ∧ PyData.hasDictAll (intsD l) = false ∧ PyData.leavesShortAll 2000 (intsD l) = true ∧ PyData.bulkAll (intsD l) = l.length ∧ PyData.depthAll (intsD l) ≤ 1
  | [], _ => ⟨rfl, rfl, rfl, rfl, Nat.zero_le _⟩
  | i :: l, h => by
    obtain ⟨h1, h2, h3, h4, h5⟩ := ints_ok (l := l) fun j hj => h j (List.mem_cons_of_mem _ hj)
    have hi := h i List.mem_cons_self
    refine ⟨?_, ?_, ?_, ?_, ?_⟩
    · show (decide (i.natAbs.log2 < 1920) && PyData.showableAll (intsD l)) = true
      rw [decide_eq_true hi.lg, h1]
      rfl
    · show (false || PyData.hasDictAll (intsD l)) = false
      rw [h2]
      rfl
    · show (decide ((PyData.int i).shown.length ≤ 2000) && PyData.leavesShortAll 2000 (intsD l)) = true
      rw [decide_eq_true hi.tx, h3]
      rfl
    · show 0 + 1 + PyData.bulkAll (intsD l) = l.length + 1
      rw [h4]
      omega
    · have e : PyData.depthAll (intsD (i :: l)) = max (PyData.depth (.int i)) (PyData.depthAll (intsD l)) := rfl
      have e0 : PyData.depth (.int i) ≤ 1 := by show (0 : Nat) ≤ 1; omega
      rw [e]
      omega
/-- a tuple of intsD -/
def tupD (l : List Int) : PyData := .tuple (intsD l)
theorem shw_int {i : Int} (h : Sml i) : Shw (.int i) := ⟨decide_eq_true h.lg, rfl, (by show (0 : Nat) ≤ 60; omega), decide_eq_true h.tx, Nat.zero_le _⟩
theorem shw_tup {l : List Int} (h : ∀ i ∈ l, Sml i) (hl : l.length ≤ 8000) : Shw (tupD l) := by
  obtain ⟨h1, h2, h3, h4, h5⟩ := ints_ok h
  refine ⟨h1, h2, ?_, h3, ?_⟩
  · have e : PyData.depth (tupD l) ≤ PyData.depthAll (intsD l) + 1 := by
      first | exact Nat.le_refl _ | exact Nat.le_of_eq (Nat.add_comm _ _)
    omega
  · have e : PyData.bulk (tupD l) = PyData.bulkAll (intsD l) := rfl
    rw [e, h4]
    exact hl
theorem dp_ints {K : PySem.W.Frag} {H : Hp} : ∀ l : List Int, DpAll K H (l.map V.int) (intsD l)
  | [] => .nil
  | i :: l => .cons (.int i) (dp_ints l)
theorem dp_tup {K : PySem.W.Frag} {H : Hp} {a : Addr} {l : List Int} (h : SqT K H a (l.map V.int)) : Dp K H (.ref a) (tupD l) := .tup h (dp_ints l)
end Lr

namespace Lr
open PySem PySem.Spec PyProof.Rows L2
/-! operators on ints of any size that is met here -/
def Cml (i j : Int) : Prop := CMul i j ∨ CMulW i j
def Cpw (i j : Int) : Prop := 0 ≤ j ∧ (Builtin.Int.intBits i : Int) * j ≤ 2 ^ 27
def Cfd (i j : Int) : Prop := CDivN i j ∨ CDivW i j
theorem cml_l {i j : Int} (h : i.natAbs < 2 ^ 64) : Cml i j := .inl (.inl ⟨by omega, by omega⟩)
theorem cml_r {i j : Int} (h : j.natAbs < 2 ^ 64) : Cml i j := .inl (.inr ⟨by omega, by omega⟩)
theorem cml_w {i j : Int} (a b : Nat) (ha : i.natAbs < 2 ^ a) (hb : j.natAbs < 2 ^ b) (h : a + b ≤ 900000 := by decide) : Cml i j := by
  refine .inr (wide_mul (a := a + 1) (b := b + 1) (Nat.lt_of_lt_of_le ha (Nat.pow_le_pow_right (by decide) (by omega))) (Nat.lt_of_lt_of_le hb (Nat.pow_le_pow_right (by decide) (by omega))) (by omega) (by omega) (by omega))
theorem cml_s {i j : Int} (ha : Sml i) (hb : Sml j) : Cml i j := cml_w 1900 1900 ha hb
theorem bits_le {i : Int} {k : Nat} (h : i.natAbs < 2 ^ k) : Builtin.Int.intBits i ≤ k := by
  unfold Builtin.Int.intBits
  split
  · omega
  · rename_i hn
    have h0 : i.natAbs ≠ 0 := by
      intro z
      have : i = 0 := by omega
      simp [this] at hn
    have := (Nat.log2_lt h0).mpr h
    omega
theorem cpw {i j : Int} (k : Nat) (h : i.natAbs < 2 ^ k) (h0 : 0 ≤ j) (hj : (k : Int) * j ≤ 2 ^ 27) : Cpw i j := by
  refine ⟨h0, Int.le_trans (Int.mul_le_mul_of_nonneg_right ?_ h0) hj⟩
  have := bits_le h
  omega
section
variable {X : Cx}
theorem op_mulL : OpR X (binaryOp .Mult) (rI Cml fun i j => .int (i * j)) := opI fun _ _ _ _ _ _ _ hc q => mul_int q (by
  rcases hc with h | h
  · exact h.ok
  · exact h.ok)
theorem op_powL : OpR X (binaryOp .Pow) (rI Cpw fun i j => .int (i ^ j.toNat)) := opI fun _ _ _ _ _ _ _ hc q => pow_int hc.1 hc.2 q
theorem op_fdivL : OpR X (binaryOp .FloorDiv) (rI Cfd fun i j => .int (i.fdiv j)) := by
  intro pins s σ H x y v u Q I rx ry h
  obtain ⟨i, j, ex, ey, hc, q⟩ := h
  rcases hc with hc | hc
  · exact op_fdivN pins s σ H x y v u Q I rx ry ⟨i, j, ex, ey, hc, q⟩
  · have h0 : (0 : Int) < j := hc.1
    exact op_fdivW pins s σ H x y v u Q I rx ry ⟨i, j, ex, ey, hc, by
      show Q (.int (i / j)) H
      rw [← Int.fdiv_eq_ediv_of_nonneg i (by omega)]
      exact q⟩
end
/-! a call by names alone -/
section
variable {X : Cx} {CX : CXT} {k : Nat} {f : Addr} {fd : FuncData} {ps ks : List Str} {sp : Sp} {E : XK} {x : Str} {p pos : Pos} {kws : List Keyword} {tk : TA} {g : List Value → List Value → List Value} {gV : List V → List V → List V}
theorem pe_callK0 (F : FnOk X.prog X.w X.K X.mg X.base CX k f fd ps sp) (hr : Room k X.A) (hg : Gl X x) (hm : X.mg x = some (.ref f)) (hk : PySem.W.keepIn X.K (.ref f) = true) (hb : KBinds X.K fd ps ks g gV) (hx : Passes CX X E) (hkw : PK X kws tk)
    (hall : (backToKw pos (keywordEach kws X.env)).all (·.1.isSome) = true := by rfl) (hks : (backToKw pos (keywordEach kws X.env)).filterMap (·.1) = ks := by rfl) (hdb : (x == ("__debug__" : Str)) = false := by decide)
    (hpl : ((backTo pos (starEach [] X.env)).any (·.1) || (backToKw pos (keywordEach kws X.env)).any (·.1.isNone)) = false := by rfl) :
    PE X (.Call (.Name x p) [] kws pos) (tCallK sp gV E tNil tk) := by
  refine ⟨fun pins s σ H Q I h => ?_⟩
  refine wpAny_Call_Name_kw (ld_glob I hg hm ?_ hdb)
  refine PySem.W.callWith_KW0 (h₀ := X.base) I.ok.mod.kin hk hall (thn (hkw.run pos pins s σ H _ I h) fun ws s2 z => ?_) hpl
  obtain ⟨zs, H2, I2, rz, q2⟩ := z
  refine ⟨I2.kIn, ?_⟩
  rw [hks]
  exact run_fnk (us := []) (vs := []) F hr hb hx I2 .nil rz q2
end
/-! roads as texts -/
/-- the sign of a turn: L (false), R (true) -/
def sg (b : Bool) : Nat := if b then 82 else 76
def rd (w : List Bool) : Str := ⟨(w.map sg).toArray⟩
theorem rd_cps (w : List Bool) : (rd w).cps.toList = w.map sg := by simp [rd]
theorem rd_len (w : List Bool) : (rd w).length = w.length := by
  show (w.map sg).toArray.size = w.length
  simp
theorem str_ext {x y : Str} (h : x.cps.toList = y.cps.toList) : x = y := by
  obtain ⟨a⟩ := x
  obtain ⟨b⟩ := y
  have e : a = b := Array.toList_inj.mp h
  rw [e]
theorem app_list (x y : Str) : (x ++ y).cps.toList = x.cps.toList ++ y.cps.toList := by
  show (x.cps ++ y.cps).toList = _
  simp
theorem rd_app (u v : List Bool) : rd u ++ rd v = rd (u ++ v) := str_ext (by rw [app_list, rd_cps, rd_cps, rd_cps, List.map_append])
theorem rd_nil : rd [] = ("" : Str) := by decide +kernel
theorem rd_L : rd [false] = ("L" : Str) := by decide +kernel
theorem rd_R : rd [true] = ("R" : Str) := by decide +kernel
theorem sg_inj {a b : Bool} (h : sg a = sg b) : a = b := by
  cases a <;> cases b <;> first | rfl | exact absurd h (by decide)
theorem rd_inj {u v : List Bool} (h : rd u = rd v) : u = v := by
  have e : u.map sg = v.map sg := by rw [← rd_cps, ← rd_cps, h]
  exact List.map_inj_right (fun a b => sg_inj) |>.mp e
/-! the purse of the draws -/
/-- the purse at a, n draws at most so far -/
def Pu (H : Hp) (a : Addr) (n : Nat) : Prop := ∃ p0 p1 p2 : Int, H a = some (.lst [.int p0, .int p1, .int p2]) ∧ 0 ≤ p0 ∧ 0 ≤ p1 ∧ p1 < 2 ^ 80 ∧ 0 ≤ p2 ∧ p2 ≤ n
theorem Pu.le {H : Hp} {a : Addr} {n m : Nat} (h : Pu H a n) (l : n ≤ m) : Pu H a m := by
  obtain ⟨p0, p1, p2, h1, h2, h3, h4, h5, h6⟩ := h
  exact ⟨p0, p1, p2, h1, h2, h3, h4, h5, by omega⟩
/-- all that was tracked but for a is as it was -/
def Kp (a : Addr) (H H' : Hp) : Prop := ∀ b o, b ≠ a → H b = some o → H' b = some o
theorem Kp.refl (a : Addr) (H : Hp) : Kp a H H := fun _ _ _ h => h
theorem Kp.trans {a : Addr} {H H1 H2 : Hp} (x : Kp a H H1) (y : Kp a H1 H2) : Kp a H H2 := fun b o n h => y b o n (x b o n h)
theorem Kp.of {a : Addr} {H H' : Hp} (h : Same H H') : Kp a H H' := fun b o _ z => h b o z
theorem Kp.upd (a : Addr) (H : Hp) (o : HO) : Kp a H (upd H a o) := fun b u n h => by rw [upd_ne n]; exact h
theorem Kp.new {a : Addr} {H H' : Hp} {p : Addr} {o : HO} (x : Kp a H H') (h : H' p = none) : Kp a H (L2.upd H' p o) := fun b u n z => by
  rw [upd_ne (ne_of_none (x b u n z) h)]
  exact x b u n z
theorem Pu.same {H H' : Hp} {a : Addr} {n : Nat} (h : Pu H a n) (s : Same H H') : Pu H' a n := by
  obtain ⟨p0, p1, p2, h1, h2⟩ := h
  exact ⟨p0, p1, p2, s _ _ h1, h2⟩
theorem _root_.L2.Same.new {H H' : Hp} {p : Addr} {o : HO} (s : Same H H') (h : H' p = none) : Same H (L2.upd H' p o) := fun b u z => by
  rw [upd_ne (ne_of_none (s b u z) h)]
  exact s b u z
theorem Pu.new {H : Hp} {a p : Addr} {o : HO} {n : Nat} (h : Pu H a n) (hp : H p = none) : Pu (L2.upd H p o) a n := h.same ((L2.Same.refl H).new hp)
theorem Pu.ne {H : Hp} {a p : Addr} {n : Nat} (h : Pu H a n) (hp : H p = none) : a ≠ p := by
  obtain ⟨_, _, _, h1, _⟩ := h
  exact ne_of_none h1 hp
theorem sz {n : Nat} (h : n ≤ 1000000) : n ≤ sizeLine := Nat.le_trans h (by decide)
theorem tup_same {H H' : Hp} {K : PySem.W.Frag} {a : Addr} {xs : List V} (s : Same H H') (h : SqT K H a xs) : SqT K H' a xs := by
  rcases h with (h | ⟨o, h⟩) | h
  · exact .inl (.inl (s _ _ h))
  · exact .inl (.inr ⟨o, s _ _ h⟩)
  · exact .inr h
theorem Kp.tup {H H' : Hp} {a b : Addr} {xs : List V} (x : Kp a H H') (n : b ≠ a) (h : H b = some (.tup xs)) : H' b = some (.tup xs) := x b _ n h
theorem Kp.free {H H' : Hp} {a p : Addr} {n : Nat} (k : Kp a H H') (hp : Pu H' a n) (np : H' p = none) : H p = none := by
  cases e : H p with
  | none => rfl
  | some o =>
    have ne : p ≠ a := (hp.ne np).symm
    rw [k p o ne e] at np
    cases np
end Lr

set_option exponentiation.threshold 5000
namespace Lr
open PySem PySem.Spec PyProof.Rows L2
/-! readings whose ways meet -/
theorem if_val {t : TT} {ta tb : TE} {σ : L2.St} {H : Hp} {Q : VK} (c : Bool) (v : V) (ht : ∀ R : Bool → Hp → Prop, R c H → t σ H R) (h1 : c = true → ∀ R : VK, R v H → ta σ H R) (h2 : c = false → ∀ R : VK, R v H → tb σ H R) (q : Q v H) : tIf t ta tb σ H Q := by
  refine ht _ ?_
  cases c with
  | true => exact iteT (h1 rfl Q q)
  | false => exact iteF (h2 rfl Q q)
/-- .. where either way ends with what P says -/
theorem if_ends {t : TT} {ta tb : TE} {σ : L2.St} {H : Hp} {Q : VK} (P : V → Hp → Prop) (c : Bool) (ht : ∀ R : Bool → Hp → Prop, R c H → t σ H R) (h1 : c = true → ∀ R : VK, (∀ v H', P v H' → R v H') → ta σ H R) (h2 : c = false → ∀ R : VK, (∀ v H', P v H' → R v H') → tb σ H R)
    (q : ∀ v H', P v H' → Q v H') : tIf t ta tb σ H Q := by
  refine ht _ ?_
  cases c with
  | true => exact iteT (h1 rfl Q q)
  | false => exact iteF (h2 rfl Q q)
/-- an if whose ways meet -/
theorem if_meets {t : TT} {ta tb : TS} {D : Ends} {σ : L2.St} {H : Hp} (P : L2.St → Hp → Prop) (c : Bool) (ht : ∀ R : Bool → Hp → Prop, R c H → t σ H R) (h1 : c = true → ∀ N : L2.St → Hp → Prop, (∀ σ' H', P σ' H' → N σ' H') → ta { D with nx := N } σ H)
    (h2 : c = false → ∀ N : L2.St → Hp → Prop, (∀ σ' H', P σ' H' → N σ' H') → tb { D with nx := N } σ H) (q : ∀ σ' H', P σ' H' → D.nx σ' H') : tIfS t ta tb D σ H := by
  refine ht _ ?_
  cases c with
  | true => exact iteT (h1 rfl D.nx q)
  | false => exact iteF (h2 rfl D.nx q)
/-- two ways that meet, behind the test -/
theorem meet {c : Bool} {ta tb : TS} {D : Ends} {σ : L2.St} {H : Hp} (P : L2.St → Hp → Prop) (h1 : c = true → ∀ N : L2.St → Hp → Prop, (∀ σ' H', P σ' H' → N σ' H') → ta { D with nx := N } σ H)
    (h2 : c = false → ∀ N : L2.St → Hp → Prop, (∀ σ' H', P σ' H' → N σ' H') → tb { D with nx := N } σ H) (q : ∀ σ' H', P σ' H' → D.nx σ' H') : if c = true then ta D σ H else tb D σ H := by
  cases c with
  | true => exact iteT (h1 rfl D.nx q)
  | false => exact iteF (h2 rfl D.nx q)
/-! text lemmas -/
theorem nat_of {i : Int} (h : 0 ≤ i) : ∃ n : Nat, i = (n : Int) := ⟨i.toNat, by omega⟩
/-! the turns that a draw puts behind a road -/
def wayMenu : List V := [.str "L", .str "R", .str "LL", .str "RR", .str "LR", .str "RRRRR", .str "LLLLLLL"]
theorem wayMenu_at {r : Int} (h0 : 0 ≤ r) (h1 : r < 7) : ∃ u : List Bool, u.length ≤ 7 ∧ atI wayMenu r = some (.str (rd u)) := by
  have c : r = 0 ∨ r = 1 ∨ r = 2 ∨ r = 3 ∨ r = 4 ∨ r = 5 ∨ r = 6 := by omega
  rcases c with rfl | rfl | rfl | rfl | rfl | rfl | rfl
  · exact ⟨[false], by decide, by decide +kernel⟩
  · exact ⟨[true], by decide, by decide +kernel⟩
  · exact ⟨[false, false], by decide, by decide +kernel⟩
  · exact ⟨[true, true], by decide, by decide +kernel⟩
  · exact ⟨[false, true], by decide, by decide +kernel⟩
  · exact ⟨[true, true, true, true, true], by decide, by decide +kernel⟩
  · exact ⟨[false, false, false, false, false, false, false], by decide, by decide +kernel⟩
theorem rd_app_len {u v : List Bool} (h : u.length + v.length ≤ 1000000) : (rd u).length + (rd v).length ≤ sizeLine := by
  rw [rd_len, rd_len]
  exact sz h
/-! slices -/
theorem cut_rd (w : List Bool) (lo hi : Option Int) : cutS (rd w) lo hi = rd ((w.drop (HT.sIx w.length 0 lo)).take (HT.sIx w.length w.length hi - HT.sIx w.length 0 lo)) := by
  refine str_ext ?_
  rw [rd_cps]
  unfold cutS
  rw [rd_len, rd_cps]
  simp [List.map_take, List.map_drop]
theorem cut_take (w : List Bool) (t : Nat) : cutS (rd w) none (some (t : Int)) = rd (w.take t) := by
  rw [cut_rd, HT.sIx_none, HT.sIx_nat, List.drop_zero, Nat.sub_zero]
  by_cases h : t ≤ w.length
  · rw [Nat.min_eq_left h]
  · rw [Nat.min_eq_right (by omega), List.take_of_length_le (Nat.le_refl _), List.take_of_length_le (by omega)]
theorem cut_drop (w : List Bool) (t : Nat) : cutS (rd w) (some (t : Int)) none = rd (w.drop t) := by
  rw [cut_rd, HT.sIx_none, HT.sIx_nat]
  by_cases h : t ≤ w.length
  · rw [Nat.min_eq_left h, List.take_of_length_le (by rw [List.length_drop]; omega)]
  · rw [Nat.min_eq_right (by omega), List.drop_of_length_le (Nat.le_refl _), List.drop_of_length_le (by omega), List.take_nil]
theorem cut_mid (w : List Bool) (s t : Nat) : cutS (rd w) (some (s : Int)) (some (t : Int)) = rd ((w.take t).drop s) := by
  rw [cut_rd, HT.sIx_nat, HT.sIx_nat, List.drop_take]
  by_cases h : s ≤ w.length
  · rw [Nat.min_eq_left h]
    by_cases h2 : t ≤ w.length
    · rw [Nat.min_eq_left h2]
    · rw [Nat.min_eq_right (by omega), List.take_of_length_le (by rw [List.length_drop]; omega), List.take_of_length_le (by rw [List.length_drop]; omega)]
  · rw [Nat.min_eq_right (show w.length ≤ s by omega), List.drop_of_length_le (Nat.le_refl _), List.drop_of_length_le (show w.length ≤ s by omega), List.take_nil, List.take_nil]
theorem cut_most (w : List Bool) : cutS (rd w) none (some (-1)) = rd w.dropLast := by
  have e : HT.sIx w.length w.length (some (-1)) = w.length - 1 := by
    show (if (-1 : Int) < 0 then ((-1 : Int) + (w.length : Int)).toNat else min (-1 : Int).toNat w.length) = w.length - 1
    rw [if_pos (by decide)]
    omega
  rw [cut_rd, HT.sIx_none, e, List.drop_zero, Nat.sub_zero, List.dropLast_eq_take]
/-! a road walked turn by turn -/
theorem for_rd {w : List Bool} {g : TG} {tb : TS} {D : Ends} {σ : L2.St} {H : Hp} (Pv : List Bool → L2.St → Hp → Prop) (h0 : Pv [] σ H)
    (hs : ∀ pre t post σ H, w = pre ++ t :: post → Pv pre σ H → g (.str (rd [t])) σ H fun σ2 H2 => tb { D with nx := Pv (pre ++ [t]), ct := Pv (pre ++ [t]), bk := D.nx } σ2 H2) (hd : ∀ σ H, Pv w σ H → D.nx σ H) :
    ∃ W : Nat → Nat → L2.St → Hp → Prop, (∃ m, W 0 m σ H) ∧ ∀ i m σ H, W i m σ H →
      ((Its (rd w)).stop i H ∧ D.nx σ H) ∨ ((Its (rd w)).go i H ∧ ∃ N : L2.St → Hp → Prop, (∀ σ' H', N σ' H' → ∃ m', m' < m ∧ W (i + 1) m' σ' H') ∧ ∀ x H', (Its (rd w)).yld i H x H' → g x σ H' fun σ2 H2 => tb { D with nx := N, ct := N, bk := D.nx } σ2 H2) := by
  have es : (rd w).cps.size = w.length := rd_len w
  refine for_it walk_str (fun i σ H => Pv (w.take i) σ H) h0 (fun _ _ _ _ _ => trivial) ?_ ?_
  · rintro i x σ H H' hi p ⟨rfl, c, hc, rfl⟩
    have hi' : i < w.length := by omega
    have ec : c = sg w[i] := by
      have e1 : (rd w).cps.toList[i]? = some c := by rw [Array.getElem?_toList]; exact hc
      rw [rd_cps, List.getElem?_map, List.getElem?_eq_getElem hi'] at e1
      exact (Option.some.inj e1).symm
    have e2 : (⟨#[c]⟩ : Str) = rd [w[i]] := by rw [ec]; rfl
    have z := hs (w.take i) w[i] (w.drop (i + 1)) σ H' (by rw [List.getElem_cons_drop, List.take_append_drop]) p
    rw [e2]
    rw [List.take_append_getElem] at z
    exact z
  · intro σ H p
    rw [es, List.take_length] at p
    exact hd σ H p
theorem eq_L (t : Bool) : decide (V.str (rd [t]) = V.str ("L" : Str)) = !t := by cases t <;> decide +kernel
theorem eq_R (t : Bool) : decide (V.str (rd [t]) = V.str ("R" : Str)) = t := by cases t <;> decide +kernel
/-! counting signs -/
theorem count_L (w : List Bool) : Txt.count (rd w) ("L" : Str) + Txt.count (rd w) ("R" : Str) = (w.length : Int) := by
  have eL : ("L" : Str) = ⟨#[76]⟩ := by decide +kernel
  have eR : ("R" : Str) = ⟨#[82]⟩ := by decide +kernel
  rw [eL, eR, count_cnt, count_cnt, rd_cps]
  induction w with
  | nil => rfl
  | cons t w ih =>
    rw [List.map_cons, cnt_cons, cnt_cons, List.length_cons]
    have e : ((if sg t = 76 then 1 else 0 : Int)) + (if sg t = 82 then 1 else 0) = 1 := by cases t <;> decide
    omega
/-! menus of ints -/
theorem menu_at {l : List Int} {r : Int} (h0 : 0 ≤ r) (h1 : r < l.length) : ∃ t, t ∈ l ∧ atI (l.map V.int) r = some (.int t) := by
  obtain ⟨j, rfl⟩ := nat_of h0
  have hj : j < l.length := by omega
  exact ⟨l[j], List.getElem_mem hj, atI_nat (by rw [List.getElem?_map, List.getElem?_eq_getElem hj]; rfl)⟩
theorem same_kp {p : Addr} {H0 H1 H2 : Hp} (s : Same H0 H1) (n : H0 p = none) (k : Kp p H1 H2) : Same H0 H2 := fun b o h => k b o (ne_of_none h n) (s b o h)
theorem bl2 {b : Bool} {A B : Prop} (h1 : b = true → A) (h2 : b = false → B) : if b = true then A else B := by
  cases b with
  | true => exact iteT (h1 rfl)
  | false => exact iteF (h2 rfl)
/-! a turn exchanged, by a dict -/
def flipKs : List (Key × V) := [(.inr "L", .str "R"), (.inr "R", .str "L"), (.inr "", .str "")]
theorem flip_at {u : List Bool} (h : u.length ≤ 1) : valV (mergeK [] flipKs) (.inr (rd u)) = some (.str (rd (u.map not))) := by
  match u, h with
  | [], _ => decide +kernel
  | [false], _ => decide +kernel
  | [true], _ => decide +kernel
theorem shw_i {i : Int} (h : i.natAbs < 2 ^ 1900) : Shw (.int i) := shw_int h
theorem law_i {m C : Int} {i : Nat} (hi : i < (if (if m < C then m else C) > 1 then (if m < C then m else C) else 1 : Int).toNat) (h1 : 1 ≤ C) (h2 : C ≤ 63) : i < 63 := by
  revert hi
  split <;> split <;> omega
end Lr

set_option exponentiation.threshold 5000
namespace Lr
theorem snoc_ind {α : Type} {P : List α → Prop} (h0 : P []) (h1 : ∀ l x, P l → P (l ++ [x])) (l : List α) : P l := by
  have key : ∀ (n : Nat) (l : List α), l.length = n → P l := by
    intro n
    induction n with
    | zero =>
      intro l hl
      rw [List.length_eq_zero_iff.mp hl]
      exact h0
    | succ n ih =>
      intro l hl
      have hne : l ≠ [] := by
        intro z
        rw [z] at hl
        cases hl
      rw [← List.dropLast_concat_getLast hne]
      exact h1 _ _ (ih _ (by rw [List.length_dropLast]; omega))
  exact key _ l rfl
/-! tuples of four ints that are put one behind the other -/
@[ext] structure M4 where
  (a b c d : Int)
def M4.mul (m n : M4) : M4 := ⟨m.a * n.a + m.b * n.c, m.a * n.b + m.b * n.d, m.c * n.a + m.d * n.c, m.c * n.b + m.d * n.d⟩
def M4.one : M4 := ⟨1, 0, 0, 1⟩
def turnM (m : M4) (t : Bool) : M4 := if t then ⟨m.a, m.a + m.b, m.c, m.c + m.d⟩ else ⟨m.a + m.b, m.b, m.c + m.d, m.d⟩
def mat (w : List Bool) : M4 := w.foldl turnM M4.one
theorem mat_snoc (w : List Bool) (t : Bool) : mat (w ++ [t]) = turnM (mat w) t := by
  unfold mat
  rw [List.foldl_append]
  rfl
theorem turnM_mul (m : M4) (t : Bool) : turnM m t = m.mul (mat [t]) := by
  cases t
  · show (⟨m.a + m.b, m.b, m.c + m.d, m.d⟩ : M4) = ⟨m.a * (1 + 0) + m.b * (0 + 1), m.a * 0 + m.b * 1, m.c * (1 + 0) + m.d * (0 + 1), m.c * 0 + m.d * 1⟩
    ext <;> simp
  · show (⟨m.a, m.a + m.b, m.c, m.c + m.d⟩ : M4) = ⟨m.a * 1 + m.b * 0, m.a * (1 + 0) + m.b * (0 + 1), m.c * 1 + m.d * 0, m.c * (1 + 0) + m.d * (0 + 1)⟩
    ext <;> simp
theorem M4.mul_assoc (x y z : M4) : (x.mul y).mul z = x.mul (y.mul z) := by
  unfold M4.mul
  ext <;> simp [Int.add_mul, Int.mul_add, Int.mul_assoc] <;> omega
theorem M4.mul_one (x : M4) : x.mul M4.one = x := by
  unfold M4.mul M4.one
  ext <;> simp
theorem M4.one_mul (x : M4) : M4.one.mul x = x := by
  unfold M4.mul M4.one
  ext <;> simp
theorem mat_app (u v : List Bool) : mat (u ++ v) = (mat u).mul (mat v) := by
  induction v using snoc_ind with
  | h0 =>
    rw [List.append_nil]
    exact (M4.mul_one _).symm
  | h1 l x ih => rw [← List.append_assoc, mat_snoc, mat_snoc, ih, turnM_mul, turnM_mul (mat l), M4.mul_assoc]
def M4.det (m : M4) : Int := m.a * m.d - m.b * m.c
theorem M4.det_mul (x y : M4) : (x.mul y).det = x.det * y.det := by
  unfold M4.mul M4.det
  simp only [Int.add_mul, Int.mul_add, Int.sub_mul, Int.mul_sub]
  have e1 : x.a * y.a * (x.c * y.b) = x.a * y.b * (x.c * y.a) := by simp [Int.mul_comm, Int.mul_assoc, Int.mul_left_comm]
  have e2 : x.b * y.c * (x.d * y.d) = x.b * y.d * (x.d * y.c) := by simp [Int.mul_comm, Int.mul_assoc, Int.mul_left_comm]
  have e3 : x.a * y.a * (x.d * y.d) = x.a * x.d * (y.a * y.d) := by simp [Int.mul_comm, Int.mul_assoc, Int.mul_left_comm]
  have e4 : x.b * y.c * (x.c * y.b) = x.b * x.c * (y.b * y.c) := by simp [Int.mul_comm, Int.mul_assoc, Int.mul_left_comm]
  have e5 : x.a * y.b * (x.d * y.c) = x.a * x.d * (y.b * y.c) := by simp [Int.mul_comm, Int.mul_assoc, Int.mul_left_comm]
  have e6 : x.b * y.d * (x.c * y.a) = x.b * x.c * (y.a * y.d) := by simp [Int.mul_comm, Int.mul_assoc, Int.mul_left_comm]
  omega
theorem mat_det (w : List Bool) : (mat w).det = 1 := by
  induction w using snoc_ind with
  | h0 => rfl
  | h1 l x ih =>
    rw [mat_app, M4.det_mul, ih]
    cases x <;> rfl
/-- what a road's integers keep -/
structure Nn (m : M4) : Prop where
  a : 0 ≤ m.a
  b : 0 ≤ m.b
  c : 0 ≤ m.c
  d : 0 ≤ m.d
theorem turnM_nn {m : M4} (h : Nn m) (t : Bool) : Nn (turnM m t) := by
  obtain ⟨a, b, c, d⟩ := h
  cases t
  · exact ⟨by show 0 ≤ m.a + m.b; omega, b, by show 0 ≤ m.c + m.d; omega, d⟩
  · exact ⟨a, by show 0 ≤ m.a + m.b; omega, c, by show 0 ≤ m.c + m.d; omega⟩
theorem mat_nn (w : List Bool) : Nn (mat w) := by
  induction w using snoc_ind with
  | h0 => exact ⟨by decide, by decide, by decide, by decide⟩
  | h1 l x ih =>
    rw [mat_snoc]
    exact turnM_nn ih x
/-- how great they may be -/
theorem mat_le (w : List Bool) : (mat w).a + (mat w).b ≤ 2 ^ w.length ∧ (mat w).c + (mat w).d ≤ 2 ^ w.length := by
  induction w using snoc_ind with
  | h0 => exact ⟨by decide, by decide⟩
  | h1 l x ih =>
    have n := mat_nn l
    obtain ⟨a, b, c, d⟩ := n
    rw [mat_snoc, List.length_append]
    have e : (2 : Int) ^ (l.length + [x].length) = 2 ^ l.length * 2 := Int.pow_succ ..
    rw [e]
    cases x
    · show (mat l).a + (mat l).b + (mat l).b ≤ _ ∧ (mat l).c + (mat l).d + (mat l).d ≤ _
      omega
    · show (mat l).a + ((mat l).a + (mat l).b) ≤ _ ∧ (mat l).c + ((mat l).c + (mat l).d) ≤ _
      omega
/-- the fraction of a road -/
def wa (w : List Bool) : Int := (mat w).a + (mat w).b
def wb (w : List Bool) : Int := (mat w).c + (mat w).d
theorem up_R (w : List Bool) : wa (true :: w) = wa w + wb w ∧ wb (true :: w) = wb w := by
  have e : mat (true :: w) = (mat [true]).mul (mat w) := mat_app [true] w
  unfold wa wb
  rw [e]
  show (1 : Int) * (mat w).a + (1 + 0) * (mat w).c + (1 * (mat w).b + (1 + 0) * (mat w).d) = _ ∧ (0 : Int) * (mat w).a + (0 + 1) * (mat w).c + (0 * (mat w).b + (0 + 1) * (mat w).d) = _
  omega
theorem up_L (w : List Bool) : wa (false :: w) = wa w ∧ wb (false :: w) = wa w + wb w := by
  have e : mat (false :: w) = (mat [false]).mul (mat w) := mat_app [false] w
  unfold wa wb
  rw [e]
  show (1 + 0 : Int) * (mat w).a + 0 * (mat w).c + ((1 + 0) * (mat w).b + 0 * (mat w).d) = _ ∧ (0 + 1 : Int) * (mat w).a + 1 * (mat w).c + ((0 + 1) * (mat w).b + 1 * (mat w).d) = _
  omega
theorem pow_lt {n k : Nat} (h : n ≤ k) : (2 : Int) ^ n ≤ 2 ^ k := by
  have := Nat.pow_le_pow_right (show 0 < 2 by decide) h
  have e : ∀ m : Nat, (2 : Int) ^ m = ((2 ^ m : Nat) : Int) := fun m => by simp
  rw [e, e]
  exact Int.ofNat_le.mpr this
theorem up_pos (w : List Bool) : 1 ≤ wa w ∧ 1 ≤ wb w := by
  have n := mat_nn w
  have d := mat_det w
  obtain ⟨a, b, c, e⟩ := n
  unfold M4.det at d
  show 1 ≤ (mat w).a + (mat w).b ∧ 1 ≤ (mat w).c + (mat w).d
  constructor
  · by_cases h : (mat w).a = 0
    · by_cases h2 : (mat w).b = 0
      · rw [h, h2] at d
        simp at d
      · omega
    · omega
  · by_cases h : (mat w).c = 0
    · by_cases h2 : (mat w).d = 0
      · rw [h, h2] at d
        simp at d
      · omega
    · omega
theorem nat_pow_cast (k : Nat) : (2 : Int) ^ k = ((2 ^ k : Nat) : Int) := by simp
/-- the fraction of a road of at most k turns -/
theorem up_lt {w : List Bool} {k : Nat} (h : w.length ≤ k) : (wa w).natAbs ≤ 2 ^ k ∧ (wb w).natAbs ≤ 2 ^ k := by
  obtain ⟨h1, h2⟩ := mat_le w
  obtain ⟨p1, p2⟩ := up_pos w
  have h3 := pow_lt h
  rw [nat_pow_cast k] at h3
  have p1 : 1 ≤ (mat w).a + (mat w).b := p1
  have p2 : 1 ≤ (mat w).c + (mat w).d := p2
  show ((mat w).a + (mat w).b).natAbs ≤ 2 ^ k ∧ ((mat w).c + (mat w).d).natAbs ≤ 2 ^ k
  omega
open L2 in
theorem up_sml {w : List Bool} (h : w.length ≤ 1800) : Sml (wa w) ∧ Sml (wb w) := by
  obtain ⟨h1, h2⟩ := up_lt h
  have e : (2 : Nat) ^ 1800 < 2 ^ 1900 := Nat.pow_lt_pow_right (by decide) (by decide)
  exact ⟨Nat.lt_of_le_of_lt h1 e, Nat.lt_of_le_of_lt h2 e⟩
/-- a pair of small ints is written out -/
theorem shw2 {i j : Int} (h1 : Sml i) (h2 : Sml j) : Shw (tupD [i, j]) := shw_tup (fun x hx => by
  rcases List.mem_cons.mp hx with rfl | hx
  · exact h1
  · rcases List.mem_cons.mp hx with rfl | hx
    · exact h2
    · exact absurd hx List.not_mem_nil) (by show 2 ≤ 8000; decide)
end Lr

set_option exponentiation.threshold 5000
namespace Lr
open PySem PySem.Spec PyProof.Rows L2
/-! min of four ints -/
section
variable {prog : Program} {w : World} {A : Around} {E : Value → Shared → Prop} {s : Shared}
theorem args_min4 (a b c d : Value) : argsOk "min" ⟨[a, b, c, d], []⟩ := by
  unfold argsOk
  kernel_rfl
theorem min_four {a b c d : Int} {t1 t2 t3 t4 : Tok} {Q : Value → Shared → Prop} (hh : A.handled = none)
    (h : ∀ h' tk m t, (∀ x o, s.heap.get? x = some o → h'.get? x = some o) → m ∈ [a, b, c, d] → (∀ y ∈ [a, b, c, d], m ≤ y) → Q (.int m t) { s with heap := h', toks := tk }) :
    wpAny (model prog w) A (call (.builtin "min") [.int a t1, .int b t2, .int c t3, .int d t4]) Q E s := by
  have nm : (toString "min" ++ toString ".loop" : String) = "min.loop" := by decide
  refine call_function_tree F.kind_min F.plain_min
    F.entry_min (args_min4 _ _ _ _) ?_
  show wpAny _ A.in1 (Builtin.Builtins.bindParams "min" ["key", "default"] 0 ⟨[], []⟩
    >>= _) _ _ s
  refine wpAny_bind (wpAny_of_eq
    (show Builtin.Builtins.bindParams "min" ["key", "default"] 0 ⟨[], []⟩ = pure [Option.none, Option.none] from rfl) ?_)
  show wpAny _ A.in1 (newTuple [.int a t1, .int b t2, .int c t3, .int d t4] >>= _) _ _ s
  refine wpAny_bind (wpAny_newObj_type ?_)
  generalize hxs : (#[(a, t1), (b, t2), (c, t3), (d, t4)] : Array (Int × Tok)) = xs
  have exs : (#[.int a t1, .int b t2, .int c t3, .int d t4] : Array Value) = intItems xs := by
    rw [← hxs]
    simp [intItems]
  have enum : numsOf (intItems xs).toList = [a, b, c, d] := by
    rw [nums_intItems, ← hxs]
    rfl
  have size4 : xs.size = 4 := by
    rw [← hxs]
    rfl
  show wpAny _ _ (pyIter (.ref s.heap.objs.size) >>= _) _ _ { s with heap := s.heap.push { cls := .type "tuple", data := .seq #[.int a t1, .int b t2, .int c t3, .int d t4] } }
  rw [exs]
  generalize e1 : s.heap.push { cls := .type "tuple", data := .seq (intItems xs) } = g1
  have hT : g1.IsTuple s.heap.objs.size (intItems xs) := by
    rw [← e1]
    exact ⟨_, Heap.get?_push_size _ rfl, rfl, 0, rfl⟩
  have old1 : ∀ x o, s.heap.get? x = some o → g1.get? x = some o := fun x o z => by
    rw [← e1]
    exact Heap.get?_push_of_some _ z
  have n1 : g1.objs.size = s.heap.objs.size + 1 := by
    rw [← e1]
    exact Heap.size_push ..
  refine wpAny_bind (wpAny_pyIter_tuple hT ?_)
  show wpAny _ _ (_ >>= _) _ _ { s with heap := g1.push { cls := .type "tuple_iterator", data := .fields #[.ref s.heap.objs.size, .int 0 0] } }
  generalize e2 : g1.push { cls := .type "tuple_iterator", data := .fields #[.ref s.heap.objs.size, .int 0 0] } = g2
  have old2 : ∀ x o, g1.get? x = some o → g2.get? x = some o := fun x o z => by
    rw [← e2]
    exact Heap.get?_push_of_some _ z
  have n2 : g2.objs.size = s.heap.objs.size + 2 := by
    rw [← e2, Heap.size_push, n1]
  have hI : g2.IsTupleIter g1.objs.size s.heap.objs.size 0 := by
    rw [← e2]
    exact ⟨_, Heap.get?_push_size _ rfl, rfl, rfl⟩
  have hT2 : g2.IsTuple s.heap.objs.size (intItems xs) := by
    rw [← e2]
    exact hT.push _
  refine wpAny_bind (wpAny_newObj_type ?_)
  have W := Walks.tuple (prog := prog) (w := w) (A := A.in1) hh g1.objs.size s.heap.objs.size (by rw [n1]; exact Nat.ne_of_lt (Nat.lt_succ_self _)) (intItems xs)
  have fresh : g2.objs.size ∉ [g1.objs.size, s.heap.objs.size] := fun z => by
    rcases List.mem_cons.mp z with z | z
    · have z : (g2.objs.size : Nat) = (g1.objs.size : Nat) := z
      omega
    · rcases List.mem_cons.mp z with z | z
      · have z : (g2.objs.size : Nat) = (s.heap.objs.size : Nat) := z
        omega
      · exact absurd z List.not_mem_nil
  have is4 : (intItems xs).size = 4 := by simp [intItems, size4]
  rw [nm]
  refine wpAny_pure ⟨plainId_quiet F.plain_min_loop _, codeAny_min_loop_first W _ (CmpOf.ints_lt (numAt xs) (fun _ _ => intItems_at)) g2.objs.size fresh (by omega)
    (W.frame _ _ _ ⟨hI, hT2⟩ fun x _ o z => Heap.get?_push_of_some _ z) (Heap.get?_push_size _ rfl) fun v h' tk hP hk => ?_⟩
  obtain ⟨t, rfl⟩ := intItems_at hP
  obtain ⟨z1, z2⟩ := argBest_lt (numAt xs) (xs.size - 1)
  have e3 : (intItems xs).size - 1 = xs.size - 1 := by rw [is4, size4]
  rw [e3]
  have mem : ∀ j, j < 4 → numAt xs j ∈ [a, b, c, d] := fun j hj => by
    rw [← enum, nums_intItems, numAt_eq]
    exact PySem.getD_mem (by rw [List.length_map, Array.length_toList]; omega)
  refine h h' tk _ t (fun x o z => ?_) (mem _ (by omega)) fun y hy => ?_
  · have lt : (x : Nat) < (s.heap.objs.size : Nat) := Heap.lt_size z
    refine hk x o (fun z2 => ?_) (Nat.ne_of_lt (Nat.lt_of_lt_of_le lt (by rw [n2]; exact Nat.le_add_right _ _))) (Heap.get?_push_of_some _ (old2 _ _ (old1 _ _ z)))
    rcases List.mem_cons.mp z2 with z2 | z2
    · exact absurd z2 (Nat.ne_of_lt (Nat.lt_of_lt_of_le lt (by rw [n1]; exact Nat.le_add_right _ _)))
    · exact absurd z2 List.not_mem_nil
  · rw [← enum, nums_intItems] at hy
    obtain ⟨j, hj, rfl⟩ := mem_getD hy
    rw [List.length_map, Array.length_toList] at hj
    rw [← numAt_eq]
    exact z2 j (by omega)
end
section
variable {X : Cx}
/-- min(a, b, c, d) -/
def rMin4 : List V → Hp → VK → Prop := fun vs H Q => ∃ a b c d : Int, vs = [.int a, .int b, .int c, .int d] ∧ ∀ m : Int, m ∈ [a, b, c, d] → (∀ y ∈ [a, b, c, d], m ≤ y) → Q (.int m) H
theorem cr_minN (hc : X.calm = true) : CallR X (.builtin "min") rMin4 := by
  intro pins s σ H vs us Q I r h
  obtain ⟨a, b, c, d, rfl, q⟩ := h
  cases r with
  | cons r1 r => cases r with
    | cons r2 r => cases r with
      | cons r3 r => cases r with
        | cons r4 r =>
          cases r
          obtain ⟨t1, rfl⟩ := r1
          obtain ⟨t2, rfl⟩ := r2
          obtain ⟨t3, rfl⟩ := r3
          obtain ⟨t4, rfl⟩ := r4
          exact min_four (I.ok.hd hc) fun h' tk m t hk h1 h2 => ⟨.int m, H, I.kept (t' := tk) hk, ⟨t, rfl⟩, q m h1 h2⟩
/-- max(t), min(t) of a tuple of ints -/
def rMaxT (K : PySem.W.Frag) : List V → Hp → VK → Prop := fun vs H Q => ∃ (a : Addr) (n : Int) (ns : List Int), vs = [.ref a] ∧ SqT K H a ((n :: ns).map V.int) ∧ ns.length ≤ 100 ∧ ∀ m : Int, m ∈ n :: ns → (∀ y ∈ n :: ns, y ≤ m) → Q (.int m) H
def rMinT (K : PySem.W.Frag) : List V → Hp → VK → Prop := fun vs H Q => ∃ (a : Addr) (n : Int) (ns : List Int), vs = [.ref a] ∧ SqT K H a ((n :: ns).map V.int) ∧ ns.length ≤ 100 ∧ ∀ m : Int, m ∈ n :: ns → (∀ y ∈ n :: ns, m ≤ y) → Q (.int m) H
theorem fold_max : ∀ (ns : List Int) (n : Int), ns.foldl max n ∈ n :: ns ∧ ∀ y ∈ n :: ns, y ≤ ns.foldl max n
  | [], n => ⟨List.mem_cons_self, fun y hy => by
      rcases List.mem_cons.mp hy with rfl | hy
      · exact Int.le_refl _
      · exact absurd hy List.not_mem_nil⟩
  | x :: ns, n => by
    obtain ⟨h1, h2⟩ := fold_max ns (max n x)
    have hm := h2 (max n x) List.mem_cons_self
    refine ⟨?_, fun y hy => ?_⟩
    · rcases List.mem_cons.mp h1 with h1 | h1
      · show ns.foldl max (max n x) ∈ n :: x :: ns
        rw [h1]
        by_cases h : n ≤ x
        · rw [Int.max_eq_right h]
          exact List.mem_cons_of_mem _ List.mem_cons_self
        · rw [Int.max_eq_left (by omega)]
          exact List.mem_cons_self
      · exact List.mem_cons_of_mem _ (List.mem_cons_of_mem _ h1)
    · show y ≤ ns.foldl max (max n x)
      rcases List.mem_cons.mp hy with rfl | hy
      · omega
      · rcases List.mem_cons.mp hy with rfl | hy
        · omega
        · exact h2 y (List.mem_cons_of_mem _ hy)
theorem fold_min : ∀ (ns : List Int) (n : Int), ns.foldl min n ∈ n :: ns ∧ ∀ y ∈ n :: ns, ns.foldl min n ≤ y
  | [], n => ⟨List.mem_cons_self, fun y hy => by
      rcases List.mem_cons.mp hy with rfl | hy
      · exact Int.le_refl _
      · exact absurd hy List.not_mem_nil⟩
  | x :: ns, n => by
    obtain ⟨h1, h2⟩ := fold_min ns (min n x)
    have hm := h2 (min n x) List.mem_cons_self
    refine ⟨?_, fun y hy => ?_⟩
    · rcases List.mem_cons.mp h1 with h1 | h1
      · show ns.foldl min (min n x) ∈ n :: x :: ns
        rw [h1]
        by_cases h : n ≤ x
        · rw [Int.min_eq_left h]
          exact List.mem_cons_self
        · rw [Int.min_eq_right (by omega)]
          exact List.mem_cons_of_mem _ List.mem_cons_self
      · exact List.mem_cons_of_mem _ (List.mem_cons_of_mem _ h1)
    · show ns.foldl min (min n x) ≤ y
      rcases List.mem_cons.mp hy with rfl | hy
      · omega
      · rcases List.mem_cons.mp hy with rfl | hy
        · omega
        · exact h2 y (List.mem_cons_of_mem _ hy)
theorem reads_ints {h : Heap} : ∀ {ns : List Int} {us : List Value}, Vals (ns.map V.int) us → ReadsAll h us (ns.map PyData.int) []
  | [], _, r => by
    cases r
    exact .nil
  | n :: ns, _, r => by
    cases r with
    | cons r1 r2 =>
      obtain ⟨t, rfl⟩ := r1
      exact .cons (as := []) (.int n t) (reads_ints r2)
theorem alike_ints (ns : List Int) : PySem.W.AlikeAll (ns.map PyData.int) := by
  refine ⟨fun x hx y hy => ?_, fun x hx => ?_⟩
  · obtain ⟨a, _, rfl⟩ := List.mem_map.mp hx
    obtain ⟨b, _, rfl⟩ := List.mem_map.mp hy
    simp [PySem.W.alike]
  · obtain ⟨a, _, rfl⟩ := List.mem_map.mp hx
    exact fun z => nomatch z
theorem cr_maxT {k : Nat} (hr : Room k X.A) : CallR X (.builtin "max") (rMaxT X.K) := by
  intro pins s σ H vs us Q I r h
  obtain ⟨a, n, ns, rfl, hs, hl, q⟩ := h
  rw [Vals.ref1 r]
  obtain ⟨its, rv, ht, _⟩ := I.tuple hs
  have un := hr.units
  have dp : PyData.depthAll ((n :: ns).map PyData.int) ≤ 0 := by
    generalize n :: ns = l
    induction l with
    | nil => exact Nat.le_refl _
    | cons x l ih =>
      show max 0 (PyData.depthAll (l.map PyData.int)) ≤ 0
      omega
  refine PySem.W.max_tuple_data (x := .int n) (xs := ns.map PyData.int) (as := []) hr.hd (let ⟨o, h1, h2, j, h3⟩ := ht; ⟨o, h1, h2, j, h3⟩) (reads_ints (ns := n :: ns) rv) (alike_ints (n :: ns)) (by
    have : PyData.depthAll (PyData.int n :: ns.map PyData.int) ≤ 0 := dp
    omega) fun i v h' tk bs hv rd hk => ?_
  rw [PySem.W.maxD_ints] at rd
  cases rd
  exact ⟨.int _, H, I.kept (t' := tk) hk, ⟨_, rfl⟩, q _ (fold_max ns n).1 (fold_max ns n).2⟩
theorem cr_minT {k : Nat} (hr : Room k X.A) : CallR X (.builtin "min") (rMinT X.K) := by
  intro pins s σ H vs us Q I r h
  obtain ⟨a, n, ns, rfl, hs, hl, q⟩ := h
  rw [Vals.ref1 r]
  obtain ⟨its, rv, ht, _⟩ := I.tuple hs
  have un := hr.units
  have dp : PyData.depthAll ((n :: ns).map PyData.int) ≤ 0 := by
    generalize n :: ns = l
    induction l with
    | nil => exact Nat.le_refl _
    | cons x l ih =>
      show max 0 (PyData.depthAll (l.map PyData.int)) ≤ 0
      omega
  refine PySem.W.min_tuple_data (x := .int n) (xs := ns.map PyData.int) (as := []) hr.hd (let ⟨o, h1, h2, j, h3⟩ := ht; ⟨o, h1, h2, j, h3⟩) (reads_ints (ns := n :: ns) rv) (alike_ints (n :: ns)) (by
    have : PyData.depthAll (PyData.int n :: ns.map PyData.int) ≤ 0 := dp
    omega) fun i v h' tk bs hv rd hk => ?_
  rw [PySem.W.minD_ints] at rd
  cases rd
  exact ⟨.int _, H, I.kept (t' := tk) hk, ⟨_, rfl⟩, q _ (fold_min ns n).1 (fold_min ns n).2⟩
/-- math.gcd of any ints that are met here -/
def rGcdN : List V → Hp → VK → Prop := fun vs H Q => (∃ a b : Int, vs = [.int a, .int b] ∧ Q (.int ((Nat.gcd a.natAbs b.natAbs : Nat) : Int)) H) ∨
  (∃ a b c : Int, vs = [.int a, .int b, .int c] ∧ Q (.int ((Nat.gcd (Nat.gcd a.natAbs b.natAbs) c.natAbs : Nat) : Int)) H) ∨
  ∃ a b c d : Int, vs = [.int a, .int b, .int c, .int d] ∧ Q (.int ((Nat.gcd (Nat.gcd (Nat.gcd a.natAbs b.natAbs) c.natAbs) d.natAbs : Nat) : Int)) H
theorem args_gcd3 (a b c : Value) : argsOk "math.gcd" ⟨[a, b, c], []⟩ := by
  unfold argsOk
  kernel_rfl
theorem args_gcd4 (a b c d : Value) : argsOk "math.gcd" ⟨[a, b, c, d], []⟩ := by
  unfold argsOk
  kernel_rfl
theorem run_gcd3 (a b c : Int) (t u x : Tok) : Gives (Builtin.«math.gcd» ⟨[.int a t, .int b u, .int c x], []⟩) (.int ((((Nat.gcd 0 a.natAbs).gcd b.natAbs).gcd c.natAbs : Nat) : Int)) :=
  .of_wp fun M A E s Q h => by
    obtain ⟨hp, g, d, tk, os⟩ := s
    wp_walk
    exact ⟨_, rfl, h⟩
theorem run_gcd4 (a b c d : Int) (t u x y : Tok) : Gives (Builtin.«math.gcd» ⟨[.int a t, .int b u, .int c x, .int d y], []⟩) (.int (((((Nat.gcd 0 a.natAbs).gcd b.natAbs).gcd c.natAbs).gcd d.natAbs : Nat) : Int)) :=
  .of_wp fun M A E s Q h => by
    obtain ⟨hp, g, d, tk, os⟩ := s
    wp_walk
    exact ⟨_, rfl, h⟩
theorem cr_gcdN : CallR X (.builtin "math.gcd") rGcdN := by
  intro pins s σ H vs us Q I r h
  rcases h with ⟨a, b, rfl, q⟩ | ⟨a, b, c, rfl, q⟩ | ⟨a, b, c, d, rfl, q⟩
  · obtain ⟨t, u, rfl⟩ := Vals.int2 r
    exact PySem.W.mg_gcd fun _ => ⟨.int _, H, I.tok _, ⟨_, rfl⟩, q⟩
  · cases r with
    | cons r1 r => cases r with
      | cons r2 r => cases r with
        | cons r3 r =>
          cases r
          obtain ⟨t1, rfl⟩ := r1
          obtain ⟨t2, rfl⟩ := r2
          obtain ⟨t3, rfl⟩ := r3
          have g := run_gcd3 a b c t1 t2 t3
          rw [Nat.gcd_zero_left] at g
          exact call_function_meets PySem.W.MGF.kind_gcd PySem.W.MGF.plain_gcd PySem.W.MGF.entry_gcd (args_gcd3 _ _ _) g.meets ⟨.int _, H, I.tok _, ⟨_, rfl⟩, q⟩
  · cases r with
    | cons r1 r => cases r with
      | cons r2 r => cases r with
        | cons r3 r => cases r with
          | cons r4 r =>
            cases r
            obtain ⟨t1, rfl⟩ := r1
            obtain ⟨t2, rfl⟩ := r2
            obtain ⟨t3, rfl⟩ := r3
            obtain ⟨t4, rfl⟩ := r4
            have g := run_gcd4 a b c d t1 t2 t3 t4
            rw [Nat.gcd_zero_left] at g
            exact call_function_meets PySem.W.MGF.kind_gcd PySem.W.MGF.plain_gcd PySem.W.MGF.entry_gcd (args_gcd4 _ _ _ _) g.meets ⟨.int _, H, I.tok _, ⟨_, rfl⟩, q⟩
/-- text * int -/
theorem rep_list (z : Array Nat) (n : Nat) : ((List.replicate n z).foldl (· ++ ·) #[]).toList = (List.replicate n z.toList).flatten := by
  have key : ∀ (n : Nat) (acc : Array Nat), ((List.replicate n z).foldl (· ++ ·) acc).toList = acc.toList ++ (List.replicate n z.toList).flatten := by
    intro n
    induction n with
    | zero => intro acc; simp
    | succ n ih =>
      intro acc
      rw [List.replicate_succ, List.foldl_cons, ih, List.replicate_succ, List.flatten_cons]
      simp
  rw [key]
  simp
def repT (z : Str) (n : Int) : Str := ⟨((List.replicate n.toNat z.cps.toList).flatten).toArray⟩
theorem repT_len (z : Str) (n : Int) : (repT z n).length = z.length * n.toNat := by
  show ((List.replicate n.toNat z.cps.toList).flatten).toArray.size = z.cps.size * n.toNat
  simp [List.length_flatten, Nat.mul_comm]
theorem op_mulS : OpR X (binaryOp .Mult) (fun x y H Q => ∃ (z : Str) (n : Int), x = .str z ∧ y = .int n ∧ z.length ≤ 10000 ∧ -1000 ≤ n ∧ n ≤ 1000 ∧ Q (.str (repT z n)) H) := by
  intro pins s σ H x y v u Q I rx ry h
  obtain ⟨z, n, rfl, rfl, hz, n0, n1, q⟩ := h
  obtain ⟨t, rfl⟩ := rx
  obtain ⟨t2, rfl⟩ := ry
  refine PySem.P.mul_str (by rw [decide_eq_false (by omega), decide_eq_false (by omega)]; rfl) (fun h1 _ => ?_) (fun h1 _ => ?_) ?_
  · have : (2 ^ 63 - 1 : Int) / n ≥ 10000 := by
      have e1 : (10000 : Int) * n ≤ 2 ^ 63 - 1 := by omega
      exact (Int.le_ediv_iff_mul_le (by omega)).mpr e1
    have hz' : ((z.length : Nat) : Int) ≤ 10000 := by omega
    omega
  · have : z.length * n.toNat ≤ 10000 * 1000 := Nat.mul_le_mul hz (by omega)
    unfold PySem.Builtin.Str.tooLong
    exact decide_eq_false (by have e : sizeLine = 16777216 := by decide
                              omega)
  · by_cases h1 : n < 1
    · rw [if_pos h1]
      have e : repT z n = Str.empty := by
        have : n.toNat = 0 := by omega
        unfold repT
        rw [this]
        rfl
      rw [e] at q
      exact ⟨by decide, ⟨.str _, H, I.tok _, ⟨_, rfl⟩, q⟩⟩
    · rw [if_neg h1]
      by_cases h2 : (n == 1 || z.length == 0) = true
      · rw [if_pos h2]
        have e : repT z n = z := by
          refine str_ext ?_
          show ((List.replicate n.toNat z.cps.toList).flatten).toArray.toList = z.cps.toList
          rw [List.toList_toArray]
          rcases Bool.or_eq_true_iff.mp h2 with h3 | h3
          · have : n = 1 := by simpa using h3
            rw [this]
            simp
          · have h4 : z.length = 0 := by simpa using h3
            have h5 : z.cps.toList = [] := by
              rw [← List.length_eq_zero_iff]
              exact h4
            rw [h5]
            simp
        rw [e] at q
        exact ⟨.str _, H, I, ⟨_, rfl⟩, q⟩
      · rw [if_neg h2]
        have e : (⟨(List.replicate n.toNat z.cps).foldl (· ++ ·) #[]⟩ : Str) = repT z n := by
          refine str_ext ?_
          show ((List.replicate n.toNat z.cps).foldl (· ++ ·) #[]).toList = ((List.replicate n.toNat z.cps.toList).flatten).toArray.toList
          rw [rep_list, List.toList_toArray]
        rw [e]
        refine ⟨?_, ⟨.str _, H, I.tok _, ⟨_, rfl⟩, q⟩⟩
        rw [repT_len]
        have : z.length * n.toNat ≤ 10000 * 1000 := Nat.mul_le_mul hz (by omega)
        have e : sizeLine = 16777216 := by decide
        omega
end
/-- a road again and again -/
def repR (w : List Bool) (n : Nat) : List Bool := (List.replicate n w).flatten
theorem rep_rd (w : List Bool) (n : Int) : repT (rd w) n = rd (repR w n.toNat) := by
  refine str_ext ?_
  show ((List.replicate n.toNat (rd w).cps.toList).flatten).toArray.toList = _
  rw [List.toList_toArray, rd_cps, rd_cps]
  unfold repR
  generalize n.toNat = k
  induction k with
  | zero => rfl
  | succ k ih => rw [List.replicate_succ, List.replicate_succ, List.flatten_cons, List.flatten_cons, List.map_append, ih]
theorem repR_len (w : List Bool) (n : Nat) : (repR w n).length = n * w.length := by
  unfold repR
  simp
/-- texts of roads, one behind the other -/
theorem join_rd (ls : List (List Bool)) : Txt.join ("" : Str) (ls.map rd) = rd ls.flatten := by
  refine str_ext ?_
  show (PySem.Builtin.Str.glued ("" : Str) (ls.map rd)).cps.toList = _
  unfold PySem.Builtin.Str.glued
  have key : ∀ (l : List (List Bool)) (acc : Array Nat), ((l.map rd).foldl (fun acc p => acc ++ ("" : Str).cps ++ p.cps) acc).toList = acc.toList ++ l.flatten.map sg := by
    intro l
    induction l with
    | nil => intro acc; simp
    | cons x l ih =>
      intro acc
      rw [List.map_cons, List.foldl_cons, ih]
      have e : (("" : Str)).cps = #[] := by decide +kernel
      rw [e]
      have e2 : (rd x).cps.toList = x.map sg := rd_cps x
      simp [e2]
  cases ls with
  | nil =>
    rw [rd_cps]
    decide +kernel
  | cons x l =>
    show (((x :: l).map rd).drop 1 |>.foldl (fun acc p => acc ++ ("" : Str).cps ++ p.cps) (rd x).cps).toList = _
    rw [List.map_cons, List.drop_succ_cons, List.drop_zero, key, rd_cps, rd_cps, List.flatten_cons, List.map_append]
theorem join_room {ls : List (List Bool)} (h : ls.flatten.length ≤ 1000000) : ((ls.map rd).map (·.length)).sum + (ls.map rd).length * ("" : Str).length ≤ 16777216 := by
  have e : (("" : Str)).length = 0 := by decide +kernel
  have e2 : ((ls.map rd).map (·.length)).sum = ls.flatten.length := by
    rw [List.length_flatten, List.map_map]
    congr 1
    exact List.map_congr_left fun w _ => rd_len w
  rw [e, e2]
  omega
end Lr

set_option exponentiation.threshold 5000
namespace Lr
open PySem PySem.Spec PyProof.Rows L2
theorem eqv_ints : ∀ l m : List Int, PyData.eqvAll (intsD l) (intsD m) = decide (l = m)
  | [], [] => rfl
  | [], y :: m => rfl
  | x :: l, [] => rfl
  | x :: l, y :: m => by
    show ((x == y) && PyData.eqvAll (intsD l) (intsD m)) = _
    rw [eqv_ints l m]
    by_cases h : x = y
    · subst h
      simp
    · simp [h]
theorem eqv_tup (l m : List Int) : PyData.eqv (tupD l) (tupD m) = decide (l = m) := eqv_ints l m
theorem lay_ints : ∀ l : List Int, PyData.canLayAll0 (intsD l) = true
  | [] => rfl
  | x :: l => lay_ints l
theorem depth0_ints : ∀ l : List Int, PyData.depthAll (intsD l) = 0
  | [] => rfl
  | x :: l => by
    show max 0 (PyData.depthAll (intsD l)) = 0
    rw [depth0_ints l]
    rfl
theorem shaped_tup (l : List Int) : SeqAt.shaped (tupD l) = true := by
  have e : PyData.depth (tupD l) ≤ 64 := by
    show PyData.depthAll (intsD l) + 1 ≤ 64
    rw [depth0_ints]
    decide
  show (PyData.canLayAll0 (intsD l) && decide (PyData.depth (tupD l) ≤ 64)) = true
  rw [lay_ints, decide_eq_true e]
  rfl
/-- the fraction of a road is the fraction of its rest, sent by what is ahead -/
theorem wa_app (u v : List Bool) : wa (u ++ v) = (mat u).a * wa v + (mat u).b * wb v ∧ wb (u ++ v) = (mat u).c * wa v + (mat u).d * wb v := by
  unfold wa wb
  rw [mat_app]
  unfold M4.mul
  simp only [Int.mul_add]
  omega
theorem wa_diff (u v : List Bool) : wa (u ++ v) * wb u - wa u * wb (u ++ v) = wa v - wb v := by
  obtain ⟨e1, e2⟩ := wa_app u v
  have d := mat_det u
  rw [e1, e2]
  have e3 : wb u = (mat u).c + (mat u).d := rfl
  have e4 : wa u = (mat u).a + (mat u).b := rfl
  rw [e3, e4]
  unfold M4.det at d
  generalize (mat u).a = a at *
  generalize (mat u).b = b at *
  generalize (mat u).c = c at *
  generalize (mat u).d = e at *
  generalize wa v = x at *
  generalize wb v = y at *
  have f1 : (a * x + b * y) * (c + e) - (a + b) * (c * x + e * y) = (a * e - b * c) * x - (a * e - b * c) * y := by
    simp only [Int.add_mul, Int.mul_add, Int.sub_mul, Int.mul_sub]
    have g1 : a * x * c = a * (c * x) := by rw [Int.mul_assoc, Int.mul_comm x c]
    have g2 : a * x * e = a * e * x := by rw [Int.mul_assoc, Int.mul_comm x e, Int.mul_assoc]
    have g3 : b * y * c = b * c * y := by rw [Int.mul_assoc, Int.mul_comm y c, Int.mul_assoc]
    have g4 : b * y * e = b * (e * y) := by rw [Int.mul_assoc, Int.mul_comm y e]
    have g5 : b * (c * x) = b * c * x := by rw [Int.mul_assoc]
    have g6 : a * (e * y) = a * e * y := by rw [Int.mul_assoc]
    rw [g1, g2, g3, g4, g5, g6]
    omega
  rw [f1, d]
  omega
theorem wa_cons (t : Bool) (v : List Bool) : wa (t :: v) = (if t then wa v + wb v else wa v) ∧ wb (t :: v) = (if t then wb v else wa v + wb v) := by
  cases t
  · exact up_L v
  · exact up_R v
/-- the sign of what is left -/
theorem rest_R {v : List Bool} : wa v > wb v ↔ ∃ r, v = true :: r := by
  match v with
  | [] => exact ⟨fun h => absurd h (by decide), fun ⟨r, z⟩ => nomatch z⟩
  | false :: r =>
    obtain ⟨h1, h2⟩ := up_L r
    obtain ⟨p1, p2⟩ := up_pos r
    exact ⟨fun h => by omega, fun ⟨r, z⟩ => by cases z⟩
  | true :: r =>
    obtain ⟨h1, h2⟩ := up_R r
    obtain ⟨p1, p2⟩ := up_pos r
    exact ⟨fun _ => ⟨r, rfl⟩, fun _ => by omega⟩
theorem rest_nil {v : List Bool} : wa v = wb v ↔ v = [] := by
  match v with
  | [] => exact ⟨fun _ => rfl, fun _ => rfl⟩
  | false :: r =>
    obtain ⟨h1, h2⟩ := up_L r
    obtain ⟨p1, p2⟩ := up_pos r
    exact ⟨fun h => by omega, fun z => nomatch z⟩
  | true :: r =>
    obtain ⟨h1, h2⟩ := up_R r
    obtain ⟨p1, p2⟩ := up_pos r
    exact ⟨fun h => by omega, fun z => nomatch z⟩
/-- unlike roads tell unlike fractions -/
theorem wa_inj : ∀ {u v : List Bool}, wa u = wa v → wb u = wb v → u = v
  | [], v, h1, h2 => by
    have : wa v = wb v := by rw [← h1, ← h2]; rfl
    exact (rest_nil.mp this).symm
  | a :: u, [], h1, h2 => by
    have : wa (a :: u) = wb (a :: u) := by rw [h1, h2]; rfl
    exact rest_nil.mp this
  | a :: u, b :: v, h1, h2 => by
    obtain ⟨p1, p2⟩ := up_pos u
    obtain ⟨q1, q2⟩ := up_pos v
    obtain ⟨e1, e2⟩ := wa_cons a u
    obtain ⟨f1, f2⟩ := wa_cons b v
    rw [e1, f1] at h1
    rw [e2, f2] at h2
    cases a <;> cases b <;> simp at h1 h2
    · rw [wa_inj h1 (by omega)]
    · omega
    · omega
    · rw [wa_inj (by omega) h2]
/-- how many turns R are ahead of what is left -/
theorem runs_R (v : List Bool) : ∃ r, v = List.replicate ((wa v - 1) / wb v).toNat true ++ r ∧ wa r = wa v - ((wa v - 1) / wb v) * wb v ∧ wb r = wb v := by
  induction v with
  | nil => exact ⟨[], rfl, rfl, rfl⟩
  | cons t v ih =>
    obtain ⟨p1, p2⟩ := up_pos v
    cases t with
    | false =>
      obtain ⟨h1, h2⟩ := up_L v
      have e : (wa (false :: v) - 1) / wb (false :: v) = 0 := by
        rw [h1, h2]
        exact Int.ediv_eq_zero_of_lt (by omega) (by omega)
      rw [e]
      exact ⟨false :: v, rfl, by omega, rfl⟩
    | true =>
      obtain ⟨h1, h2⟩ := up_R v
      obtain ⟨r, er, e1, e2⟩ := ih
      have e : (wa (true :: v) - 1) / wb (true :: v) = (wa v - 1) / wb v + 1 := by
        rw [h1, h2, show wa v + wb v - 1 = (wa v - 1) + 1 * wb v by omega, Int.add_mul_ediv_right _ _ (by omega)]
      have n : 0 ≤ (wa v - 1) / wb v := Int.ediv_nonneg (by omega) (by omega)
      have en : ((wa v - 1) / wb v + 1).toNat = ((wa v - 1) / wb v).toNat + 1 := by omega
      rw [e, en]
      refine ⟨r, ?_, ?_, by rw [e2, h2]⟩
      · rw [List.replicate_succ, List.cons_append, ← er]
      · rw [e1, h1, h2, Int.add_mul]
        omega
theorem runs_L (v : List Bool) : ∃ r, v = List.replicate ((wb v - 1) / wa v).toNat false ++ r ∧ wb r = wb v - ((wb v - 1) / wa v) * wa v ∧ wa r = wa v := by
  induction v with
  | nil => exact ⟨[], rfl, rfl, rfl⟩
  | cons t v ih =>
    obtain ⟨p1, p2⟩ := up_pos v
    cases t with
    | true =>
      obtain ⟨h1, h2⟩ := up_R v
      have e : (wb (true :: v) - 1) / wa (true :: v) = 0 := by
        rw [h1, h2]
        exact Int.ediv_eq_zero_of_lt (by omega) (by omega)
      rw [e]
      exact ⟨true :: v, rfl, by omega, rfl⟩
    | false =>
      obtain ⟨h1, h2⟩ := up_L v
      obtain ⟨r, er, e1, e2⟩ := ih
      have e : (wb (false :: v) - 1) / wa (false :: v) = (wb v - 1) / wa v + 1 := by
        rw [h1, h2, show wa v + wb v - 1 = (wb v - 1) + 1 * wa v by omega, Int.add_mul_ediv_right _ _ (by omega)]
      have n : 0 ≤ (wb v - 1) / wa v := Int.ediv_nonneg (by omega) (by omega)
      have en : ((wb v - 1) / wa v + 1).toNat = ((wb v - 1) / wa v).toNat + 1 := by omega
      rw [e, en]
      refine ⟨r, ?_, ?_, by rw [e2, h1]⟩
      · rw [List.replicate_succ, List.cons_append, ← er]
      · rw [e1, h1, h2, Int.add_mul]
        omega
/-- what has no common divisor -/
theorem road_gcd (w : List Bool) : Nat.gcd (wa w).natAbs (wb w).natAbs = 1 := by
  have key : ∀ d : Nat, d ∣ (wa w).natAbs → d ∣ (wb w).natAbs → d = 1 := by
    induction w with
    | nil => intro d h _; exact Nat.dvd_one.mp h
    | cons t v ih =>
      intro d h1 h2
      obtain ⟨p1, p2⟩ := up_pos v
      obtain ⟨e1, e2⟩ := wa_cons t v
      have g1 : (d : Int) ∣ wa (t :: v) := Int.ofNat_dvd_left.mpr h1
      have g2 : (d : Int) ∣ wb (t :: v) := Int.ofNat_dvd_left.mpr h2
      rw [e1] at g1
      rw [e2] at g2
      cases t
      · simp at g1 g2
        have g3 : (d : Int) ∣ wb v := (Int.dvd_add_right g1).mp g2
        exact ih d (Int.ofNat_dvd_left.mp g1) (Int.ofNat_dvd_left.mp g3)
      · simp at g1 g2
        have g3 : (d : Int) ∣ wa v := (Int.dvd_add_left g2).mp g1
        exact ih d (Int.ofNat_dvd_left.mp g3) (Int.ofNat_dvd_left.mp g2)
  exact key _ (Nat.gcd_dvd_left _ _) (Nat.gcd_dvd_right _ _)
end Lr

set_option exponentiation.threshold 5000
namespace Lr
open PySem PySem.Spec PyProof.Rows L2
/-! what may be a list or a tuple -/
def Sq (K : PySem.W.Frag) (H : Hp) (a : Addr) (xs : List V) : Prop := SqL K H a xs ∨ SqT K H a xs
theorem Sq.same {K : PySem.W.Frag} {H H' : Hp} {a : Addr} {xs : List V} (h : Sq K H a xs) (s : Same H H') : Sq K H' a xs := h.elim (fun z => .inl (s.seq z)) fun z => .inr (tup_same s z)
theorem seq_ix {K : PySem.W.Frag} {H : Hp} {a : Addr} {xs : List V} {i : Int} {v : V} {Q : VK} (h : Sq K H a xs) (e : atI xs i = some v) (q : Q v H) : rIx K (.ref a) (.int i) H Q :=
  h.elim (fun z => .inl ⟨a, xs, i, v, rfl, rfl, z, e, q⟩) fun z => .inr (.inl ⟨a, xs, i, v, rfl, rfl, z, e, q⟩)
/-- the walk over it -/
def IsWalk (K : PySem.W.Frag) (H : Hp) (a : Addr) (xs : List V) (J : It) : Prop := (SqL K H a xs ∧ J = Itl K a) ∨ (SqT K H a xs ∧ J = Itt K a)
def iSeq (K : PySem.W.Frag) (tl : TE) : TI := fun σ H R => tl σ H fun x H1 => ∃ a xs, x = .ref a ∧ Sq K H1 a xs ∧ ∀ J, IsWalk K H1 a xs J → R J H1
theorem pi_seq {X : Cx} {tg l : Expr} {tl : TE} (hl : PE X l tl) : PI X tg l (iSeq X.K tl) := by
  refine ⟨fun pins s σ H R I h => ?_⟩
  refine thn (hl.run pins s σ H _ I h) fun v s1 z => ?_
  obtain ⟨x, H1, I1, r1, a, xs, rfl, hs, q⟩ := z
  cases r1
  rcases hs with hs | hs
  · obtain ⟨its, rv, p, _⟩ := I1.list hs
    refine wpAny_pyIter_list p.isList ⟨s1.heap.objs.size, [s1.heap.objs.size], _, _, H1, rfl, I1.kept (t' := s1.toks) fun b o e => Heap.get?_push_of_some _ e, turn_list a _, ⟨_, Heap.get?_push_size _ rfl, rfl, rfl⟩, fun b hb => ?_, q _ (.inl ⟨hs, rfl⟩)⟩
    rw [List.mem_singleton.mp hb]
    exact I1.fpOk (Nat.le_refl _) (I1.hok.fresh (Nat.le_refl _))
  · obtain ⟨its, rv, p, _⟩ := I1.tuple hs
    refine wpAny_pyIter_tuple (show s1.heap.IsTuple a its.toArray from p) ⟨s1.heap.objs.size, [s1.heap.objs.size], _, _, H1, rfl, I1.kept (t' := s1.toks) fun b o e => Heap.get?_push_of_some _ e, turn_tuple a _, ⟨_, Heap.get?_push_size _ rfl, rfl, rfl⟩, fun b hb => ?_, q _ (.inr ⟨hs, rfl⟩)⟩
    rw [List.mem_singleton.mp hb]
    exact I1.fpOk (Nat.le_refl _) (I1.hok.fresh (Nat.le_refl _))
theorem IsWalk.walk {K : PySem.W.Frag} {H : Hp} {a : Addr} {xs : List V} {J : It} (h : IsWalk K H a xs J) : Walk J xs.length (fun H' => Same H H') (YAt xs) := by
  rcases h with ⟨h, rfl⟩ | ⟨h, rfl⟩
  · exact walk_list.mono (fun H' s => s.seq h) fun _ _ _ _ _ _ z => z
  · exact walk_tup.mono (fun H' s => tup_same s h) fun _ _ _ _ _ _ z => z
/-- the greatest common divisor of a list -/
def gl (l : List Int) : Nat := l.foldl (fun g x => Nat.gcd g x.natAbs) 0
theorem gl_snoc (l : List Int) (x : Int) : gl (l ++ [x]) = Nat.gcd (gl l) x.natAbs := by
  unfold gl
  rw [List.foldl_append]
  rfl
theorem gl_dvd (l : List Int) : ∀ x ∈ l, ((gl l : Nat) : Int) ∣ x := by
  induction l using snoc_ind with
  | h0 => exact fun x hx => absurd hx List.not_mem_nil
  | h1 l y ih =>
    intro x hx
    rw [gl_snoc]
    rcases List.mem_append.mp hx with hx | hx
    · exact Int.dvd_trans (Int.natCast_dvd_natCast.mpr (Nat.gcd_dvd_left _ _)) (ih x hx)
    · rw [List.mem_singleton.mp hx]
      exact Int.ofNat_dvd_left.mpr (Nat.gcd_dvd_right _ _)
theorem gl_of_dvd (l : List Int) (d : Nat) (h : ∀ x ∈ l, (d : Int) ∣ x) : d ∣ gl l := by
  induction l using snoc_ind with
  | h0 => exact Nat.dvd_zero d
  | h1 l y ih =>
    rw [gl_snoc]
    exact Nat.dvd_gcd (ih fun x hx => h x (List.mem_append_left _ hx)) (Int.ofNat_dvd_left.mp (h y (List.mem_append_right _ List.mem_cons_self)))
theorem gl_pos {l : List Int} {x : Int} (hx : x ∈ l) (h0 : x ≠ 0) : 0 < gl l := by
  refine Nat.pos_of_ne_zero fun z => ?_
  have := gl_dvd l x hx
  rw [z] at this
  exact h0 (Int.zero_dvd.mp this)
theorem gl_le {l : List Int} {x : Int} (hx : x ∈ l) (h0 : x ≠ 0) : gl l ≤ x.natAbs := Nat.le_of_dvd (Int.natAbs_pos.mpr h0) (Int.ofNat_dvd_left.mp (gl_dvd l x hx))
/-- divided by it -/
def lowl (l : List Int) : List Int := l.map fun x => x / (gl l : Int)
end Lr

set_option exponentiation.threshold 5000
namespace Lr
open PySem PySem.Spec PyProof.Rows L2
/-! bounds -/
def Bd (k : Nat) (x : Int) : Prop := x.natAbs < 2 ^ k
theorem Bd.up {j k : Nat} {x : Int} (h : Bd j x) (l : j ≤ k) : Bd k x := Nat.lt_of_lt_of_le h (Nat.pow_le_pow_right (by decide) l)
theorem Bd.mul {j k : Nat} {x y : Int} (h1 : Bd j x) (h2 : Bd k y) : Bd (j + k) (x * y) := wide_lt h1 h2
theorem Bd.add {k : Nat} {x y : Int} (h1 : Bd k x) (h2 : Bd k y) : Bd (k + 1) (x + y) := by
  unfold Bd at *
  rw [Nat.pow_succ]
  omega
theorem Bd.sub {k : Nat} {x y : Int} (h1 : Bd k x) (h2 : Bd k y) : Bd (k + 1) (x - y) := by
  unfold Bd at *
  rw [Nat.pow_succ]
  omega
theorem Bd.sml {k : Nat} {x : Int} (h : Bd k x) (l : k ≤ 1900 := by decide) : Sml x := Bd.up h l
theorem Bd.ml {j k : Nat} {x y : Int} (h1 : Bd j x) (h2 : Bd k y) (l1 : j ≤ 1900 := by decide) (l2 : k ≤ 1900 := by decide) : Cml x y := cml_s (h1.sml l1) (h2.sml l2)
theorem bd_le {k : Nat} {x : Int} (h0 : 0 ≤ x) (h : x < 2 ^ k) : Bd k x := by
  unfold Bd
  rw [nat_pow_cast] at h
  omega
theorem Bd.dv {k : Nat} {x y : Int} (h : Bd k x) (hy : 0 < y) : Bd k (x / y) := by
  unfold Bd at *
  have : (x / y).natAbs ≤ x.natAbs := by
    have h1 := Int.natAbs_ediv_le_natAbs x y
    exact h1
  omega
/-! maps -/
def M4.l (m : M4) : List Int := [m.a, m.b, m.c, m.d]
structure Mp (m : M4) : Prop where
  nn : Nn m
  dt : m.det ≠ 0
  gd : gl m.l = 1
def M4.low (m : M4) : M4 := ⟨m.a / (gl m.l : Int), m.b / (gl m.l : Int), m.c / (gl m.l : Int), m.d / (gl m.l : Int)⟩
theorem low_l (m : M4) : m.low.l = lowl m.l := rfl
theorem lowl_gl {l : List Int} (h : 0 < gl l) : gl (lowl l) = 1 := by
  have key : ∀ x ∈ lowl l, ((gl (lowl l) : Nat) : Int) ∣ x := gl_dvd _
  have d2 : gl (lowl l) * gl l ∣ gl l := by
    refine gl_of_dvd l _ fun x hx => ?_
    have h1 := key (x / (gl l : Int)) (List.mem_map.mpr ⟨x, hx, rfl⟩)
    have h2 := gl_dvd l x hx
    have e : x = x / (gl l : Int) * (gl l : Int) := (Int.ediv_mul_cancel h2).symm
    rw [e, Int.natCast_mul]
    exact Int.mul_dvd_mul h1 (Int.dvd_refl _)
  have le := Nat.le_of_dvd h d2
  have p : 0 < gl (lowl l) := by
    refine Nat.pos_of_ne_zero fun z => ?_
    rw [z, Nat.zero_mul] at d2
    have := Nat.eq_zero_of_zero_dvd d2
    omega
  have : gl (lowl l) * gl l ≤ 1 * gl l := by omega
  have := Nat.le_of_mul_le_mul_right this h
  omega
theorem det_pos_gl {m : M4} (h : m.det ≠ 0) : 0 < gl m.l := by
  refine Nat.pos_of_ne_zero fun z => h ?_
  have key : ∀ x ∈ m.l, x = 0 := fun x hx => by
    have := gl_dvd m.l x hx
    rw [z] at this
    exact Int.zero_dvd.mp this
  have ha : m.a = 0 := key _ (by simp [M4.l])
  have hb : m.b = 0 := key _ (by simp [M4.l])
  unfold M4.det
  rw [ha, hb]
  simp
theorem low_det {m : M4} (h : m.det ≠ 0) : m.det = (gl m.l : Int) * (gl m.l : Int) * m.low.det := by
  have g := fun x hx => gl_dvd m.l x hx
  have ea := Int.mul_ediv_cancel' (g m.a (by simp [M4.l]))
  have eb := Int.mul_ediv_cancel' (g m.b (by simp [M4.l]))
  have ec := Int.mul_ediv_cancel' (g m.c (by simp [M4.l]))
  have ed := Int.mul_ediv_cancel' (g m.d (by simp [M4.l]))
  unfold M4.det M4.low
  show m.a * m.d - m.b * m.c = _ * (m.a / (gl m.l : Int) * (m.d / (gl m.l : Int)) - m.b / (gl m.l : Int) * (m.c / (gl m.l : Int)))
  generalize (gl m.l : Int) = k at *
  generalize m.a / k = a at *
  generalize m.b / k = b at *
  generalize m.c / k = c at *
  generalize m.d / k = d at *
  rw [← ea, ← eb, ← ec, ← ed, Int.mul_sub]
  have e1 : k * a * (k * d) = k * k * (a * d) := by simp [Int.mul_comm, Int.mul_assoc, Int.mul_left_comm]
  have e2 : k * b * (k * c) = k * k * (b * c) := by simp [Int.mul_comm, Int.mul_assoc, Int.mul_left_comm]
  rw [e1, e2]
theorem low_nn {m : M4} (h : Nn m) : Nn m.low := ⟨Int.ediv_nonneg h.a (Int.natCast_nonneg _), Int.ediv_nonneg h.b (Int.natCast_nonneg _), Int.ediv_nonneg h.c (Int.natCast_nonneg _), Int.ediv_nonneg h.d (Int.natCast_nonneg _)⟩
theorem low_mp {m : M4} (h : Nn m) (hd : m.det ≠ 0) : Mp m.low := by
  refine ⟨low_nn h, fun z => hd ?_, ?_⟩
  · rw [low_det hd, z, Int.mul_zero]
  · rw [low_l]
    exact lowl_gl (det_pos_gl hd)
theorem low_det_le {m : M4} (hd : m.det ≠ 0) : m.low.det.natAbs ≤ m.det.natAbs := by
  have g := det_pos_gl hd
  have e := congrArg Int.natAbs (low_det hd)
  rw [Int.natAbs_mul, Int.natAbs_mul, Int.natAbs_natCast] at e
  rw [e]
  have : 1 ≤ gl m.l * gl m.l := Nat.mul_pos g g
  exact Nat.le_mul_of_pos_left _ this
theorem div_le {x : Int} {k : Nat} (h : 0 ≤ x) : x / (k : Int) ≤ x := by
  by_cases h0 : k = 0
  · rw [h0]
    simpa using h
  · exact Int.ediv_le_self _ h
/-- great integers bounded by n -/
structure Le (n : Int) (m : M4) : Prop where
  a : m.a ≤ n
  b : m.b ≤ n
  c : m.c ≤ n
  d : m.d ≤ n
theorem low_le {m : M4} {n : Int} (h : Nn m) (l : Le n m) : Le n m.low :=
  ⟨Int.le_trans (div_le h.a) l.a, Int.le_trans (div_le h.b) l.b, Int.le_trans (div_le h.c) l.c, Int.le_trans (div_le h.d) l.d⟩
theorem mul_nn {m n : M4} (h : Nn m) (k : Nn n) : Nn (m.mul n) :=
  ⟨Int.add_nonneg (Int.mul_nonneg h.a k.a) (Int.mul_nonneg h.b k.c), Int.add_nonneg (Int.mul_nonneg h.a k.b) (Int.mul_nonneg h.b k.d),
    Int.add_nonneg (Int.mul_nonneg h.c k.a) (Int.mul_nonneg h.d k.c), Int.add_nonneg (Int.mul_nonneg h.c k.b) (Int.mul_nonneg h.d k.d)⟩
/-- a map that is in lowest terms stays -/
theorem Mp.low {m : M4} (h : Mp m) : m.low = m := by
  unfold M4.low
  rw [h.gd]
  simp
end Lr

set_option exponentiation.threshold 5000
namespace Lr
open PySem PySem.Spec PyProof.Rows L2
/-! draws in a row, by a comprehension -/
def Cs (H2 : Hp) (a D : Addr) (m : Nat) (t : Int) (i : Nat) (H3 : Hp) : Prop :=
  ∃ xs : List Int, xs.length = i ∧ (∀ x ∈ xs, 0 ≤ x ∧ x < t) ∧ H3 D = some (.lst (xs.map V.int)) ∧ Pu H3 a (m + i) ∧ Kp a H2 H3
theorem cs_start {H2 : Hp} {a D : Addr} {m : Nat} {t : Int} (hD : H2 D = none) (hp : Pu H2 a m) : Cs H2 a D m t 0 (upd H2 D (.lst [])) :=
  ⟨[], rfl, fun x hx => absurd hx List.not_mem_nil, upd_same, hp.new hD, (Kp.refl a H2).new hD⟩
theorem Pu.upd {H : Hp} {a p : Addr} {o : HO} {n : Nat} (h : Pu H a n) (ne : a ≠ p) : Pu (L2.upd H p o) a n := by
  obtain ⟨p0, p1, p2, h1, h2⟩ := h
  exact ⟨p0, p1, p2, by rw [upd_ne ne]; exact h1, h2⟩
theorem Kp.upd' {a : Addr} {H H' : Hp} {p : Addr} {o : HO} (x : Kp a H H') (h : H p = none) : Kp a H (L2.upd H' p o) := fun b u n z => by
  rw [upd_ne (ne_of_none z h)]
  exact x b u n z
theorem cs_step {H2 H3 H4 : Hp} {a D : Addr} {m i : Nat} {t r : Int} (h : Cs H2 a D m t i H3) (hi : i ≤ 1000) (hD : H2 D = none) (hp : Pu H2 a m) (hp4 : Pu H4 a (m + i + 1)) (k : Kp a H3 H4) (r0 : 0 ≤ r) (r1 : r < t) :
    ∃ acc, H4 D = some (.lst acc) ∧ acc.length < sizeLine ∧ Cs H2 a D m t (i + 1) (upd H4 D (.lst (acc ++ [.int r]))) := by
  obtain ⟨xs, hl, hx, e, p3, k3⟩ := h
  have ne : D ≠ a := fun z => hp.ne hD z.symm
  refine ⟨xs.map V.int, k D _ ne e, ?_, xs ++ [r], by rw [List.length_append, hl]; rfl, ?_, ?_, hp4.upd ne.symm, (k3.trans k).upd' hD⟩
  · rw [List.length_map, hl]
    exact Nat.lt_of_le_of_lt hi (by decide)
  · intro x hx'
    rcases List.mem_append.mp hx' with z | z
    · exact hx x z
    · rw [List.mem_singleton.mp z]
      exact ⟨r0, r1⟩
  · rw [upd_same, List.map_append]
    rfl
theorem Cs.pu {H2 H3 : Hp} {a D : Addr} {m i : Nat} {t : Int} (h : Cs H2 a D m t i H3) : Pu H3 a (m + i) := by
  obtain ⟨xs, _, _, _, p, _⟩ := h
  exact p
theorem cs_four {H2 H3 : Hp} {a D : Addr} {m : Nat} {t : Int} (h : Cs H2 a D m t 4 H3) : ∃ q : M4, Nn q ∧ Le (t - 1) q ∧ H3 D = some (.lst (q.l.map V.int)) ∧ Pu H3 a (m + 4) ∧ Kp a H2 H3 := by
  obtain ⟨xs, hl, hx, e, p3, k3⟩ := h
  match xs, hl with
  | [x, y, z, w], _ =>
    have hx1 := hx x (by simp)
    have hx2 := hx y (by simp)
    have hx3 := hx z (by simp)
    have hx4 := hx w (by simp)
    exact ⟨⟨x, y, z, w⟩, ⟨hx1.1, hx2.1, hx3.1, hx4.1⟩, ⟨by show x ≤ _; omega, by show y ≤ _; omega, by show z ≤ _; omega, by show w ≤ _; omega⟩, e, p3, k3⟩
/-- a map of bounded integers, bounded by bits -/
theorem bd4 {m : M4} {n : Int} {k : Nat} (h : Nn m) (l : Le n m) (hn : n < 2 ^ k) : ∀ i ∈ m.l, Bd k i := by
  intro i hi
  have g : ∀ x, 0 ≤ x → x ≤ n → Bd k x := fun x x0 x1 => bd_le x0 (by omega)
  simp only [M4.l, List.mem_cons, List.not_mem_nil, or_false] at hi
  rcases hi with rfl | rfl | rfl | rfl
  · exact g _ h.a l.a
  · exact g _ h.b l.b
  · exact g _ h.c l.c
  · exact g _ h.d l.d
theorem bd_gl {l : List Int} {k : Nat} {x : Int} (hx : x ∈ l) (h0 : x ≠ 0) (h : Bd k x) : Bd k (gl l : Nat) := by
  unfold Bd at *
  have := gl_le hx h0
  rw [Int.natAbs_natCast]
  omega
theorem det_gl {m : M4} {k : Nat} (h : m.det ≠ 0) (hb : ∀ i ∈ m.l, Bd k i) : Bd k (gl m.l : Nat) := by
  have key : m.a ≠ 0 ∨ m.b ≠ 0 := by
    by_cases ha : m.a = 0
    · by_cases hb : m.b = 0
      · exfalso
        apply h
        unfold M4.det
        rw [ha, hb]
        simp
      · exact .inr hb
    · exact .inl ha
  rcases key with g | g
  · exact bd_gl (x := m.a) (by simp [M4.l]) g (hb _ (by simp [M4.l]))
  · exact bd_gl (x := m.b) (by simp [M4.l]) g (hb _ (by simp [M4.l]))
end Lr
namespace Lr
open PySem PySem.Spec PyProof.Rows L2
theorem bd_mat {w : List Bool} {k : Nat} (h : w.length ≤ k) : ∀ i ∈ (mat w).l, Bd (k + 1) i := by
  obtain ⟨h1, h2⟩ := mat_le w
  have h3 := pow_lt h
  have n := mat_nn w
  obtain ⟨a, b, c, d⟩ := n
  have e : (2 : Int) ^ (k + 1) = 2 ^ k * 2 := Int.pow_succ ..
  have p : (0 : Int) < 2 ^ k := Int.pow_pos (by decide)
  intro i hi
  have g : ∀ x, 0 ≤ x → x ≤ 2 ^ k → Bd (k + 1) x := fun x x0 x1 => bd_le x0 (by omega)
  simp only [M4.l, List.mem_cons, List.not_mem_nil, or_false] at hi
  rcases hi with rfl | rfl | rfl | rfl
  · exact g _ a (by omega)
  · exact g _ b (by omega)
  · exact g _ c (by omega)
  · exact g _ d (by omega)
end Lr
namespace Lr
open PySem PySem.Spec PyProof.Rows L2
/-- two ways of an expression that meet, behind the test -/
theorem meetE {c : Bool} {ta tb : TE} {σ : L2.St} {H : Hp} {Q : VK} (P : V → Hp → Prop) (h1 : c = true → ∀ R : VK, (∀ v H', P v H' → R v H') → ta σ H R)
    (h2 : c = false → ∀ R : VK, (∀ v H', P v H' → R v H') → tb σ H R) (q : ∀ v H', P v H' → Q v H') : if c = true then ta σ H Q else tb σ H Q := by
  cases c with
  | true => exact iteT (h1 rfl Q q)
  | false => exact iteF (h2 rfl Q q)
end Lr

namespace Lr
open PySem PySem.Spec PyProof.Rows L2
/-! errors: raised, caught and kept, asked for their class and value -/
/-- a caught error at a: of the class at C, its own dict at d -/
def ExV (C d a : Addr) : HO := .ext fun h => ∃ (oe : Obj) (vs : Array Value), h.get? a = some oe ∧ Zc (.ref C) (some d) oe ∧ oe.data = .fields vs
theorem exV_ok {P : Program} {w : World} {H : Hp} {h : Heap} {C d a : Addr} {oe : Obj} {vs : Array Value} (e : h.get? a = some oe) (z : Zc (.ref C) (some d) oe) (f : oe.data = .fields vs) : ObjOk P w H h a (ExV C d a) :=
  ⟨⟨oe, vs, e, z, f⟩, ⟨oe, e⟩, fun _ _ ⟨o, v, y, r⟩ k => ⟨o, v, k o y, r⟩⟩
theorem exV_at {P : Program} {w : World} {H : Hp} {h : Heap} {C d a : Addr} (hok : HOk P w H h) (e : H a = some (ExV C d a)) : ∃ (oe : Obj) (vs : Array Value), h.get? a = some oe ∧ Zc (.ref C) (some d) oe ∧ oe.data = .fields vs := by
  have x : ObjOk P w H h a (ExV C d a) := hok a _ e
  exact x.1
section
variable {X : Cx} {pins : List (Addr × Obj)} {σ : L2.St} {H : Hp} {s : Shared}
/-- an object that stands, is no frame's, and was not there at the entry, may be tracked as a caught error -/
theorem trackE {C d a : Addr} {oe : Obj} {vs : Array Value} (I : Inv X pins σ H s) (e : s.heap.get? a = some oe) (z : Zc (.ref C) (some d) oe) (f : oe.data = .fields vs) (na : H a = none) (n0 : X.s_0.heap.get? a = none)
    (nl : a ≠ X.env.locals) (np : ∀ p ∈ X.pn ++ pins, p.1 ≠ a) : Inv X pins σ (upd H a (ExV C d a)) s := by
  have nn : ∀ {b : Addr} {o : HO}, H b = some o → b ≠ a := fun {b o} q y => by
    rw [y, na] at q
    cases q
  refine ⟨I.ok, I.os, I.bare, ⟨I.base.keep, I.base.slot, fun b o y1 y2 y3 => ?_, I.base.there, fun b xs y => ?_, fun b o u y => ?_, fun b ps y => ?_⟩, I.loc, I.cell, ?_, fun x c y => ?_, fun p hp => ?_, fun b o y => ?_, I.len⟩
  · rw [upd_ne (fun y => by rw [y, n0] at y1; cases y1)]
    exact I.base.free b o y1 y2 y3
  · have q := I.base.tups b xs y
    rw [upd_ne (nn q)]
    exact q
  · have q := I.base.frzs b o u y
    rw [upd_ne (nn q)]
    exact q
  · obtain ⟨m, q⟩ := I.base.tbls b ps y
    exact ⟨m, by rw [upd_ne (nn q)]; exact q⟩
  · rw [upd_ne (Ne.symm nl)]
    exact I.free
  · have nc : c ≠ a := fun q => by
      obtain ⟨v, o, y1, y2⟩ := I.cell x c y
      rw [q, e] at y1
      cases y1
      rw [f] at y2
      cases y2
    rw [upd_ne nc]
    exact I.freeC x c y
  · obtain ⟨y1, y2, y3⟩ := I.pin p hp
    exact ⟨y1, by rw [upd_ne (np p hp)]; exact y2, y3⟩
  · by_cases q : b = a
    · subst q
      rw [upd_same] at y
      cases y
      exact exV_ok e z f
    · rw [upd_ne q] at y
      refine (I.hok b o y).stay (fun c u _ r => r) (fun c r => ?_) fun c xs r => ?_
      · rw [upd_ne (nn r)]
        exact r
      · rw [upd_ne (nn r)]
        exact r
end
/-- what 'except x as n: n is kept' wishes of an error of the body; slot i is n's -/
def wAsK (K : PySem.W.Frag) (c : Value) (i : Nat) (ts : Addr → Value → Option Addr → TS) (D : Ends) : WX := fun cls d σ H =>
  PySem.W.exmOne K cls c = some true ∧ ∃ C dd : Addr, cls = .ref C ∧ d = some dd ∧ ∀ a, H a = none →
    ts a cls d { nx := fun σ' H' => D.nx (σ'.set i none) (upd H' a (ExV C dd a)), rt := fun _ _ => False, bk := fun _ _ => False, ct := fun _ _ => False } (σ.set i (some (.ref a))) H
section
variable {X : Cx} {x n : Str} {c : Value} {i : Nat} {body suite : List Stmt} {b₀ : Stmt} {np pos pos' : Pos} {tb : WX → TS} {ts : Addr → Value → Option Addr → TS}
theorem ps_tryK (h1 : X.stack = X.env :: X.outer) (h2 : X.env.frame = some X.env.locals) (h3 : X.ex = []) (nd : X.N.Nodup) (hi : X.N[i]? = some n) (lo : X.env.kindOf n = some .local) (hc : Names X x c)
    (B1 : ∀ (W : WX) (pn : List (Addr × Obj)) (xe : Value → Shared → Prop), Takes (X.tr pn xe) W → PassesOwn (model X.prog X.w) X.A X.env xe → PSs (X.tr pn xe) body (tb W))
    (S1 : ∀ (a : Addr) (oe : Obj) (cls : Value) (d : Option Addr) (pn : List (Addr × Obj)), Zc cls d oe → (∃ vs, oe.data = .fields vs) → PSs (X.suite a ((a, oe) :: pn)) (b₀ :: suite) (ts a cls d)) :
    PS X (.Try body [.ExceptHandler (some (.Name x np)) (some n) (b₀ :: suite) pos'] [] [] pos) (fun D σ H => tb (wAsK X.K c i ts D) D σ H) := by
  constructor
  intro pins s σ H D I h
  have ok := I.ok
  have frames : X.A.frames = some (X.env :: X.outer) := by
    rw [ok.frames, h1]
  refine wpAny_Try_except ?_
  have T0 := B1 (wAsK X.K c i ts D) (X.pn ++ pins) (fun e s₁ => wpAny (model X.prog X.w) X.A (noteFrame e X.env)
    (fun _ s₂ => wpAny (model X.prog X.w) X.A (setFlight e none) (fun _ s₃ => wpAny (model X.prog X.w) X.A
      (handleBy e X.env [.ExceptHandler (some (.Name x np)) (some n) (b₀ :: suite) pos']) (SP X pins D) X.xe s₃) X.xe s₂) X.xe s₁)
    (fun u s' y => ?_) PassesOwn.looking
  · refine wpAny_mono (T0.run [] s σ H D (I.toTry _) h) (fun f s1 y => ?_) fun e s1 y => y
    cases f with
    | next =>
      obtain ⟨σ1, H1, J, q⟩ := y
      exact wpAny_execs_nil ⟨σ1, H1, J.ofTry ok, q⟩
    | brk =>
      obtain ⟨σ1, H1, J, q⟩ := y
      exact ⟨σ1, H1, J.ofTry ok, q⟩
    | cont =>
      obtain ⟨σ1, H1, J, q⟩ := y
      exact ⟨σ1, H1, J.ofTry ok, q⟩
    | ret u =>
      obtain ⟨v, σ1, H1, J, r, q⟩ := y
      exact ⟨v, σ1, H1, J.ofTry ok, r, q⟩
  · obtain ⟨a, B, sI, pins1, σ1, H1, cls, d, eu, J0, nb, up, sky, na, eos, bare, te, C, dd, ecl, ed, yes⟩ := y
    subst eu
    have J : Inv X pins σ1 H1 sI := J0.ofTry ok
    have sky1 : Sky B (X.env :: X.outer) a (Zc cls d) X.env.locals s'.heap := by
      rw [← h1]
      exact sky
    show wpAny (model X.prog X.w) X.A (noteFrame (.ref a) X.env) _ _ _
    refine Sky.land Zc.steady frames h2 sky1 fun h3' fl3 up3 => ?_
    have J3 : Inv X pins σ1 H1 { s' with heap := h3' } := J.landed nb fl3.1 (up.trans up3) eos bare
    obtain ⟨oe3, vs3, he3, hz3, hd3⟩ := fl3.there
    have nfr : a ∉ frs (X.env :: X.outer) := fun hm => by
      obtain ⟨_, o', e', hnf⟩ := fl3.2.2.1.mem hm
      rw [he3] at e'
      cases e'
      exact hnf _ hd3
    have nL : a ≠ X.env.locals := fun q => nfr (List.mem_filterMap.mpr ⟨X.env, List.mem_cons_self, by rw [h2, q]⟩)
    have nF : a ∉ X.fs := fun hm => by
      obtain ⟨e, he, q⟩ := List.mem_filterMap.mp hm
      exact nfr (List.mem_filterMap.mpr ⟨e, List.mem_cons_of_mem _ he, q⟩)
    -- it was not there ahead of the try
    have nI : sI.heap.get? a = none := by
      cases e : sI.heap.get? a with
      | none => rfl
      | some o =>
        have q := nb a o e (by rw [h1]; exact nfr)
        rw [fl3.2.1] at q
        cases q
    have n0 : X.s_0.heap.get? a = none := by
      cases e : X.s_0.heap.get? a with
      | none => rfl
      | some o =>
        obtain ⟨o', q⟩ := I.base.there a o e (by rw [h3]; exact List.not_mem_nil)
        obtain ⟨o2, q2⟩ := J.base.there a o e (by rw [h3]; exact List.not_mem_nil)
        rw [nI] at q2
        cases q2
    have npn : ∀ p ∈ X.pn ++ pins, p.1 ≠ a := fun p hp q => by
      have y := (J.pin p hp).1
      rw [q, nI] at y
      cases y
    have S3 := J3.suite he3 hd3 na nL nF
    refine wpAny_handleBy_cons (codeAny_handlers_test ?_) (by intro q; cases q)
    have LT : PySem.W.Looks (model X.prog X.w) h3' (typeOf (.ref a)) cls := fun A Q E s k q => wpAny_typeOf_ref (k _ _ he3) (by rw [hz3.1]; exact q)
    have LM := PySem.W.exm_one (M := model X.prog X.w) (J3.kIn) LT te
    have test : ∀ {Q : Value → Shared → Prop} {E : Value → Shared → Prop}, Q c { s' with heap := h3' } →
        wpAny (model X.prog X.w) (X.A.mark (some (.ref a))) (eval (.Name x np) X.env) Q E { s' with heap := h3' } := fun {Q E} q => by
      obtain ⟨hg, hdbg, hm | ⟨hm, hv, hnn⟩⟩ := hc
      · exact ld_glob (X := X.suite a ((a, oe3) :: (X.pn ++ pins))) S3 hg hm q hdbg
      · exact ld_blt (X := X.suite a ((a, oe3) :: (X.pn ++ pins))) S3 hg hm hv q hnn hdbg
    refine test (LM.here ?_)
    refine codeAny_handlers_suite_as ?_
    refine HandSPX.lands_againZ fl3 fun h4 fl4 up4 => ?_
    have J4 : Inv X pins σ1 H1 { s' with heap := h4 } := J.landed nb fl4.1 ((up.trans up3).trans up4) eos bare
    obtain ⟨oe4, vs4, he4, hz4, hd4⟩ := fl4.there
    have S4 := J4.suite he4 hd4 na nL nF
    refine store_ok (X := X.suite a ((a, oe4) :: (X.pn ++ pins))) (v := .ref a) S4 nd hi (.inl lo) rfl (fun s5 S5 => ?_) (.inr lo)
    refine wpAny_mono ((S1 a oe4 cls d (X.pn ++ pins) hz4 ⟨_, hd4⟩).run [] s5 _ H1 _ S5 (yes a na)) (fun f s6 y => ?_) (fun _ _ y => False.elim y)
    cases f with
    | next =>
      obtain ⟨σ6, H6, S6, q6⟩ := y
      obtain ⟨g6, n6, _⟩ := S6.pin (a, oe4) (List.mem_append_left _ List.mem_cons_self)
      have U6 := S6.unsuite ok
      have K6 : Inv X pins σ6 (upd H6 a (ExV C dd a)) s6 := trackE U6 g6 (by rw [← ecl, ← ed]; exact hz4) hd4 n6 n0 nL npn
      exact gone_ok K6 nd hi lo fun s7 J7 => ⟨_, _, J7, q6⟩
    | brk =>
      obtain ⟨_, _, _, q6⟩ := y
      exact q6.elim
    | cont =>
      obtain ⟨_, _, _, q6⟩ := y
      exact q6.elim
    | ret u =>
      obtain ⟨_, _, _, _, _, q6⟩ := y
      exact q6.elim
end
/-- what is asked of an error's class where it is looked at -/
structure ErrK (K : PySem.W.Frag) (C : Addr) : Prop where
  no : PySem.W.findIn K (.ref C) "value" = some none
  xf : XfC K C
  cl : (PySem.W.clsIn K C).isSome = true
  ha : PySem.W.findIn K (.ref C) "__class__" = some (some (.builtin "object.__class__"))
  hn : PySem.W.specialIn K (.builtin "object.__class__") "__get__" = some (some (.builtin "getset_descriptor.__get__"))
  ht : PySem.W.takesIn K (.builtin "object.__class__") = some true
  hm : PySem.W.mroIn K C (.type "object") = some true
/-- .. and where it is raised -/
structure ErrC (K : PySem.W.Frag) (mg : Str → Option Value) (x : Str) (C fI : Addr) : Prop extends ErrK K C where
  g : mg x = some (.ref C)
  ni : PySem.W.nsIn K mainGlobals x = some (some (.ref C))
  ox : OexC K C
  ic : PySem.W.findIn K (.ref C) "__init__" = some (some (.ref fI))
  ti : PySem.W.typeIn K (.ref fI) = some (.type "function")
/-- the class of rank r, as isinstance tells it from the others -/
structure Fx (K : PySem.W.Frag) (C : Addr) (r : Nat) : Prop where
  k : ErrK K C
  ve : PySem.W.kitOne K (.ref C) (.type "ValueError") = some true
  re : ∀ c, PySem.W.nsIn K mainGlobals "RoadError" = some (some (.ref c)) → PySem.W.kitOne K (.ref C) (.ref c) = some true
  y0 : ∀ c, PySem.W.nsIn K mainGlobals "InvalidRoad" = some (some (.ref c)) → PySem.W.kitOne K (.ref C) (.ref c) = some (decide (0 = r))
  y1 : ∀ c, PySem.W.nsIn K mainGlobals "InvalidFraction" = some (some (.ref c)) → PySem.W.kitOne K (.ref C) (.ref c) = some (decide (1 = r))
  y2 : ∀ c, PySem.W.nsIn K mainGlobals "InvalidMap" = some (some (.ref c)) → PySem.W.kitOne K (.ref C) (.ref c) = some (decide (2 = r))
  y3 : ∀ c, PySem.W.nsIn K mainGlobals "InvalidMachine" = some (some (.ref c)) → PySem.W.kitOne K (.ref C) (.ref c) = some (decide (3 = r))
  y4 : ∀ c, PySem.W.nsIn K mainGlobals "InvalidSquare" = some (some (.ref c)) → PySem.W.kitOne K (.ref C) (.ref c) = some (decide (4 = r))
  y5 : ∀ c, PySem.W.nsIn K mainGlobals "InvalidNumber" = some (some (.ref c)) → PySem.W.kitOne K (.ref C) (.ref c) = some (decide (5 = r))
  y6 : ∀ c, PySem.W.nsIn K mainGlobals "InvalidTurn" = some (some (.ref c)) → PySem.W.kitOne K (.ref C) (.ref c) = some (decide (6 = r))
  y7 : ∀ c, PySem.W.nsIn K mainGlobals "HasEnded" = some (some (.ref c)) → PySem.W.kitOne K (.ref C) (.ref c) = some (decide (7 = r))
  y8 : ∀ c, PySem.W.nsIn K mainGlobals "NothingToUndo" = some (some (.ref c)) → PySem.W.kitOne K (.ref C) (.ref c) = some (decide (8 = r))
  y9 : ∀ c, PySem.W.nsIn K mainGlobals "Unreadable" = some (some (.ref c)) → PySem.W.kitOne K (.ref C) (.ref c) = some (decide (9 = r))
  y10 : ∀ c, PySem.W.nsIn K mainGlobals "InvalidBook" = some (some (.ref c)) → PySem.W.kitOne K (.ref C) (.ref c) = some (decide (10 = r))
theorem ns_one {K : PySem.W.Frag} {x : Str} {c d : Addr} (h : PySem.W.nsIn K mainGlobals x = some (some (.ref c))) (h' : PySem.W.nsIn K mainGlobals x = some (some (.ref d))) : d = c := by
  rw [h] at h'
  cases h'
  rfl
/-- isinstance(e, c), e an error that was kept -/
def rIsK (K : PySem.W.Frag) : List V → Hp → VK → Prop := fun xs H Q => ∃ (a C d : Addr) (fs : List (Str × V)) (c : V) (u : Value) (b : Bool), xs = [.ref a, c] ∧ H a = some (ExV C d a) ∧ H d = some (.xd fs) ∧ ErrK K C ∧ ClsV c u ∧
  PySem.W.kitOne K (.ref C) u = some b ∧ Q (.bl b) H
section
variable {X : Cx}
theorem inst_of {pins : List (Addr × Obj)} {σ : L2.St} {H : Hp} {s : Shared} {a C d : Addr} {fs : List (Str × V)} (I : Inv X pins σ H s) (e : H a = some (ExV C d a)) (ed : H d = some (.xd fs)) :
    ∃ (oe od : Obj) (mA : Str → Option Value), PySem.W.InstAt s.heap a oe C (some od) ∧ (∀ n, PySem.W.lookIn n od = some (mA n)) ∧ ∀ f, RelO (fs.lookup f) (mA f) := by
  obtain ⟨oe, vs, h0, hz, hd⟩ := exV_at I.hok e
  have hx : ObjOk X.prog X.w H s.heap d (.xd fs) := I.hok d _ ed
  obtain ⟨mA, hns, hr⟩ := hx
  obtain ⟨od, ho, hl⟩ := lookIn_ns hns
  exact ⟨oe, od, mA, ⟨h0, hz.1, by unfold PySem.W.notCls; rw [hd] <;> rfl, by rw [hz.2]; exact ho⟩, hl, hr⟩
theorem call_isK : CallR X (.builtin "isinstance") (rIsK X.K) := by
  intro pins s σ H xs us Q I r h
  obtain ⟨a, C, d, fs, c, u, b, rfl, e, ed, T, k, ek, q⟩ := h
  obtain ⟨u1, u2, rfl, r1, r2⟩ := vals2 r
  have e2 := k.eq r2
  subst e2
  obtain rfl : u1 = Value.ref a := r1
  obtain ⟨oe, od, mA, J, _, _⟩ := inst_of I e ed
  exact PySem.W.kia_one (PySem.W.kitx_exc T.cl T.xf.ga T.xf.gg T.xf.exC T.ha T.hn T.ht T.hm) I.kIn J ek (fun z => nomatch z) fun tk => ⟨.bl b, H, I.tok tk, rfl, q⟩
/-- e.n, e an error that was kept -/
def tXv (K : PySem.W.Frag) (n : Str) (te : TE) : TE := fun σ H Q => te σ H fun x H1 => ∃ (a C d : Addr) (fs : List (Str × V)) (v : V), x = .ref a ∧ H1 a = some (ExV C d a) ∧ H1 d = some (.xd fs) ∧ fs.lookup n = some v ∧ XfC K C ∧ PySem.W.findIn K (.ref C) n = some none ∧ Q v H1
theorem pe_xv {e : Expr} {te : TE} {pos : Pos} {n : Str} (he : PE X e te) (hb : attributeBase e n X.env (eval e X.env) = eval e X.env := by rfl) : PE X (.Attribute e n pos) (tXv X.K n te) := by
  refine ⟨fun pins s σ H Q I h => ?_⟩
  refine attr_of hb (thn (he.run pins s σ H _ I h) fun u s1 hh => ?_)
  obtain ⟨x, H1, I1, rx, a, C, d, fs, v, ex, e1, ed, l, T, hno, q⟩ := hh
  subst ex
  obtain rfl : u = Value.ref a := rx
  obtain ⟨oe, od, mA, J, hl, hr⟩ := inst_of I1 e1 ed
  obtain ⟨u, hu, ru⟩ := RelO.some_of (v := v) (o := mA n) (by rw [← l]; exact hr n)
  exact HandSPX.exc_get I1.kIn J T.ga T.gg T.exC (PySem.W.findObj_own T.hdC hno rfl (by rw [hl, hu])) (handed_of ru) ⟨v, H1, I1.tok _, ru, q⟩
/-- what the __init__ of the errors does -/
def spInit (K : PySem.W.Frag) : Sp := fun vs H Q _ => ∃ (a C : Addr) (v : V), vs = [.ref a, v] ∧ OexC K C ∧ PySem.W.findIn K (.ref C) "value" = some none ∧ H a = some (exo a C none) ∧
  ∀ dx, H dx = none → dx ≠ a → Q .non (upd (upd H dx (exd dx [(("value" : Str), v)])) a (exo a C (some dx)))
/-- C(e), of the class at C -/
def tMkV (C : Addr) (ta : TA) : L2.St → Hp → XK → Prop := fun σ H Q => ta σ H fun vs H1 => ∃ v, vs = [v] ∧ ∀ d, H1 d = none → Q (.ref C) (some d) (upd H1 d (.xd [(("value" : Str), v)]))
theorem upd_back {H : Hp} {a d : Addr} {o1 o2 o3 o4 : HO} (na : H a = none) (ne : d ≠ a) : upd (del (upd (upd (upd H a o1) d o2) a o3) a) d o4 = upd H d o4 := by
  funext b
  by_cases hd : b = d
  · rw [hd, upd_same, upd_same]
  · rw [upd_ne hd, upd_ne hd]
    by_cases hb : b = a
    · rw [hb, del_same, na]
    · rw [del_ne hb, upd_ne hb, upd_ne hd, upd_ne hb]
theorem upd_none {H : Hp} {a d : Addr} {o : HO} (h : upd H a o d = none) (ne : d ≠ a) : H d = none := by
  rw [upd_ne ne] at h
  exact h
theorem pmk_V {x : Str} {C fI : Addr} {k : Nat} {fd : FuncData} {e : Expr} {ta : TA} {p pos : Pos} (T : ErrC X.K X.mg x C fI) (F1 : FnOk X.prog X.w X.K X.mg X.base CX0 k fI fd ["self", "value"] (spInit X.K))
    (hr : Room (k + 1) X.A) (hb : Binds X.K fd ["self", "value"] []) (hg : Gl X x) (ha : PA X [e] ta)
    (hdb : (x == ("__debug__" : Str)) = false := by decide) (he : starEach (e :: []) X.env = (false, eval e X.env) :: starEach [] X.env := by rfl) (hpl : (backTo pos (starEach [] X.env)).any (·.1) = false := by rfl) :
    PMk X (.Call (.Name x p) [e] [] pos) (tMkV C ta) := by
  intro pins s σ H Q I h
  have ha' : PA X [e] (fun σ H Q' => ∃ Q0 : List V → Hp → Prop, ta σ H Q0 ∧ ∀ vs H1, Q0 vs H1 → Q' vs H1) := ⟨fun pos pins s σ H Q' I h => by
    obtain ⟨Q0, h0, imp⟩ := h
    refine thn (ha.run pos pins s σ H Q0 I h0) fun us s1 z => ?_
    obtain ⟨vs, H1, I1, r1, q⟩ := z
    exact ⟨vs, H1, I1, r1, imp _ _ q⟩⟩
  refine pmk_oex T.ox T.ic T.ti F1 hr hb .nil pass0 hg T.g ha' hdb he hpl pins s σ H Q I ⟨_, h, fun vs H1 z => ?_⟩
  obtain ⟨v, rfl, q⟩ := z
  refine ⟨by show 1 ≤ 1000; decide, fun a na => ⟨a, C, v, rfl, T.ox, T.no, upd_same, fun dx nx ne => ?_⟩⟩
  refine ⟨rfl, dx, _, upd_same, by rw [upd_ne ne]; exact upd_same, upd_none nx ne, ?_⟩
  rw [upd_back na ne]
  exact q dx (upd_none nx ne)
end
/-- four values of a list that is being made -/
def Fs (H2 : Hp) (D : Addr) (g : Nat → Int) (i : Nat) (H3 : Hp) : Prop := Same H2 H3 ∧ H3 D = some (.lst (((List.range i).map g).map V.int))
theorem fs_step {H2 H3 : Hp} {D : Addr} {g : Nat → Int} {i : Nat} {v : V} (h : Fs H2 D g i H3) (hD : H2 D = none) (e : v = .int (g i)) (hi : i < 1000) :
    ∃ acc, H3 D = some (.lst acc) ∧ acc.length < sizeLine ∧ Fs H2 D g (i + 1) (L2.upd H3 D (.lst (acc ++ [v]))) := by
  refine ⟨_, h.2, ?_, ?_, ?_⟩
  · rw [List.length_map, List.length_map, List.length_range]
    exact Nat.lt_trans hi (by decide)
  · exact fun b o z => by rw [upd_ne (ne_of_none z hD)]; exact h.1 b o z
  · rw [upd_same, e, List.range_succ, List.map_append, List.map_append]
    rfl
/-! lists of bools -/
def bsD (l : List Bool) : List PyData := l.map PyData.bool
theorem dp_bs {K : PySem.W.Frag} {H : Hp} : ∀ l : List Bool, DpAll K H (l.map V.bl) (bsD l)
  | [] => .nil
  | b :: l => .cons (.bl b) (dp_bs l)
theorem bs_eqv : ∀ l : List Bool, PyData.eqvAll (bsD l) (bsD l) = true
  | [] => rfl
  | b :: l => by
    show ((b == b) && PyData.eqvAll (bsD l) (bsD l)) = true
    rw [bs_eqv l, beq_self_eq_true]
    rfl
/-! classes as isinstance and except ask them -/
section
variable {K : PySem.W.Frag} {c y : Addr}
theorem kit_self (K : PySem.W.Frag) (c : Addr) : PySem.W.kitOne K (.ref c) (.ref c) = some true := if_pos (beq_self_eq_true _)
theorem kitC {b : Bool} (i : PySem.W.isClsIn K y = true) (t : PySem.W.typeIn K (.ref y) = some (.type "type")) (s : PySem.W.subIn K (.ref c) (.ref y) = some b) : PySem.W.kitCls K (.ref c) (.ref y) = some b := by
  have i' : (PySem.W.clsIn K y).isSome = true := i
  show (if ((PySem.W.clsIn K y).isSome && PySem.W.typeIn K (.ref y) == some (.type "type")) = true then PySem.W.subIn K (.ref c) (.ref y) else none) = some b
  rw [i', t, if_pos (by rfl)]
  exact s
theorem kit_yes (i : PySem.W.isClsIn K y = true) (t : PySem.W.typeIn K (.ref y) = some (.type "type")) (s : PySem.W.subIn K (.ref c) (.ref y) = some true) : PySem.W.kitOne K (.ref c) (.ref y) = some true := by
  unfold PySem.W.kitOne
  rw [kitC i t s]
  exact ite_self _
theorem kit_not (i : PySem.W.isClsIn K y = true) (t : PySem.W.typeIn K (.ref y) = some (.type "type")) (s : PySem.W.subIn K (.ref c) (.ref y) = some false) (o : PySem.W.subIn K (.ref c) (.ref c) = some true) : PySem.W.kitOne K (.ref c) (.ref y) = some false := by
  unfold PySem.W.kitOne
  rw [kitC i t s, if_neg]
  intro z
  have e : Value.ref c = Value.ref y := beq_iff_eq.mp z
  rw [← e, o] at s
  cases s
theorem kit_typ {T : String} (s : PySem.W.subIn K (.ref c) (.type T) = some true) (m : PySem.W.kitMeta T = true) : PySem.W.kitOne K (.ref c) (.type T) = some true := by
  unfold PySem.W.kitOne
  have z : PySem.W.kitCls K (.ref c) (.type T) = some true := by
    show (if PySem.W.kitMeta T = true then PySem.W.subIn K (.ref c) (.type T) else none) = some true
    rw [if_pos m]
    exact s
  rw [z]
  exact ite_self _
theorem exm_yes (b : PySem.W.subIn K (.ref y) (.type "BaseException") = some true) (i : PySem.W.isClsIn K y = true) (t : PySem.W.typeIn K (.ref y) = some (.type "type")) (s : PySem.W.subIn K (.ref c) (.ref y) = some true) : PySem.W.exmOne K (.ref c) (.ref y) = some true := by
  unfold PySem.W.exmOne
  rw [b, if_pos (by rfl)]
  exact kitC i t s
end
section
variable {X : Cx} {CX : CXT} {k : Nat} {f : Addr} {fd : FuncData} {ps ks : List Str} {sp : Sp} {E : L2.St → XK} {x : Str} {p pos : Pos} {kws : List Keyword} {tk : TA} {g : List Value → List Value → List Value} {gV : List V → List V → List V}
theorem go_names {pins : List (Addr × Obj)} {σ : L2.St} {H : Hp} {s : Shared} {Q : VK} {ws : List Value} {zs : List V} (F : FnOk X.prog X.w X.K X.mg X.base CX k f fd ps sp) (hr : Room k X.A) (hb : KBinds X.K fd ps ks g gV) (hx : PassesAt CX X σ (E σ))
    (I : Inv X pins σ H s) (rz : Vals zs ws) (h : sp (gV [] zs) H Q (E σ)) : wpAny (model X.prog X.w) X.A (call (.ref f) [] (ks.zip ws)) (EP X pins σ Q) X.xe s := by
  have r2 := hb.rel (vs := []) (us := []) .nil rz
  have ln : (g [] ws).length = ps.length := by
    rw [← r2.length]
    exact F.len _ _ _ _ h
  have run := F.run X.A X.stack s H ⟨[], ks.zip ws⟩ (g [] ws) (gV [] zs) Q (E σ) hr I.env0 (hb.to s [] ws I.kIn ln) r2 h
  refine wpAny_call (codeAny_mono run fun rs s' y => ?_)
  match rs, y with
  | .error er, y => exact hx pins H s er s' I y
  | .ok (.ret u), y => exact I.after y
/-- a call by names alone, in a try -/
theorem pe_callK0S (F : FnOk X.prog X.w X.K X.mg X.base CX k f fd ps sp) (hr : Room k X.A) (hg : Gl X x) (hm : X.mg x = some (.ref f)) (hk : PySem.W.keepIn X.K (.ref f) = true) (hb : KBinds X.K fd ps ks g gV) (hx : ∀ σ, PassesAt CX X σ (E σ)) (hkw : PK X kws tk)
    (hall : (backToKw pos (keywordEach kws X.env)).all (·.1.isSome) = true := by rfl) (hks : (backToKw pos (keywordEach kws X.env)).filterMap (·.1) = ks := by rfl) (hdb : (x == ("__debug__" : Str)) = false := by decide)
    (hpl : ((backTo pos (starEach [] X.env)).any (·.1) || (backToKw pos (keywordEach kws X.env)).any (·.1.isNone)) = false := by rfl) :
    PE X (.Call (.Name x p) [] kws pos) (fun σ H Q => tCallK sp gV (E σ) tNil tk σ H Q) := by
  refine ⟨fun pins s σ H Q I h => ?_⟩
  refine wpAny_Call_Name_kw (ld_glob I hg hm ?_ hdb)
  refine PySem.W.callWith_KW0 (h₀ := X.base) I.ok.mod.kin hk hall (thn (hkw.run pos pins s σ H _ I h) fun ws s2 z => ?_) hpl
  obtain ⟨zs, H2, I2, rz, q2⟩ := z
  refine ⟨I2.kIn, ?_⟩
  rw [hks]
  exact go_names F hr hb (hx σ) I2 rz q2
end
end Lr

set_option exponentiation.threshold 5000
namespace Lr
open PySem PySem.Spec PyProof.Rows L2
theorem gl2 (x y : Int) : gl [x, y] = Nat.gcd x.natAbs y.natAbs := by
  show Nat.gcd (Nat.gcd 0 x.natAbs) y.natAbs = _
  rw [Nat.gcd_zero_left]
/-- what is a multiple of a pair without a common divisor -/
theorem scale_low {g e P R X Y : Int} (hg : 0 < g) (he : 0 < e) (eP : g * P = e * X) (eR : g * R = e * Y) (xy : Nat.gcd X.natAbs Y.natAbs = 1) : lowl [P, R] = [X, Y] := by
  have k1 : g.natAbs * gl [P, R] = e.natAbs := by
    rw [gl2, ← Nat.gcd_mul_left, ← Int.natAbs_mul, ← Int.natAbs_mul, eP, eR, Int.natAbs_mul, Int.natAbs_mul, Nat.gcd_mul_left, xy, Nat.mul_one]
  have k2 : g * (gl [P, R] : Int) = e := by
    have := congrArg (Nat.cast (R := Int)) k1
    rw [Int.natCast_mul, Int.natAbs_of_nonneg (by omega), Int.natAbs_of_nonneg (by omega)] at this
    exact this
  have kp : (gl [P, R] : Int) ≠ 0 := by
    intro z
    rw [z] at k2
    omega
  have e1 : P = (gl [P, R] : Int) * X := Int.eq_of_mul_eq_mul_left (show g ≠ 0 by omega) (by rw [eP, ← Int.mul_assoc, k2])
  have e2 : R = (gl [P, R] : Int) * Y := Int.eq_of_mul_eq_mul_left (show g ≠ 0 by omega) (by rw [eR, ← Int.mul_assoc, k2])
  have f1 : P / (gl [P, R] : Int) = X := by
    conv => lhs; lhs; rw [e1]
    exact Int.mul_ediv_cancel_left _ kp
  have f2 : R / (gl [P, R] : Int) = Y := by
    conv => lhs; lhs; rw [e2]
    exact Int.mul_ediv_cancel_left _ kp
  show [P / (gl [P, R] : Int), R / (gl [P, R] : Int)] = [X, Y]
  rw [f1, f2]
/-- the two integers of what is sent back -/
def bU (m : M4) (x y : Int) : Int := m.d * x - m.b * y
def bV (m : M4) (x y : Int) : Int := m.a * y - m.c * x
theorem back_a (m : M4) (x y : Int) : m.a * bU m x y + m.b * bV m x y = m.det * x := by
  unfold bU bV M4.det
  rw [Int.mul_sub, Int.mul_sub, Int.sub_mul]
  have e1 : m.a * (m.d * x) = m.a * m.d * x := by rw [Int.mul_assoc]
  have e2 : m.a * (m.b * y) = m.b * (m.a * y) := by rw [Int.mul_left_comm]
  have e3 : m.b * (m.c * x) = m.b * m.c * x := by rw [Int.mul_assoc]
  omega
theorem back_c (m : M4) (x y : Int) : m.c * bU m x y + m.d * bV m x y = m.det * y := by
  unfold bU bV M4.det
  rw [Int.mul_sub, Int.mul_sub, Int.sub_mul]
  have e1 : m.c * (m.d * x) = m.d * (m.c * x) := by rw [Int.mul_left_comm]
  have e2 : m.c * (m.b * y) = m.b * m.c * y := by rw [Int.mul_left_comm, Int.mul_assoc]
  have e3 : m.d * (m.a * y) = m.a * m.d * y := by rw [Int.mul_left_comm, Int.mul_assoc]
  omega
theorem mul_sign {u v : Int} (h : 0 < u * v) : (0 < u ∧ 0 < v) ∨ (u < 0 ∧ v < 0) := by
  rcases Int.lt_trichotomy u 0 with hu | hu | hu
  · rcases Int.lt_trichotomy v 0 with hv | hv | hv
    · exact .inr ⟨hu, hv⟩
    · rw [hv] at h
      simp at h
    · have := Int.mul_neg_of_neg_of_pos hu hv
      omega
  · rw [hu] at h
    simp at h
  · rcases Int.lt_trichotomy v 0 with hv | hv | hv
    · have := Int.mul_neg_of_pos_of_neg hu hv
      omega
    · rw [hv] at h
      simp at h
    · exact .inl ⟨hu, hv⟩
/-- the signs of both, by the size -/
theorem back_sign {m : M4} (n : Nn m) {x y : Int} (hx : 1 ≤ x) (h : 0 < bU m x y * bV m x y) : (0 < m.det → 0 < bU m x y ∧ 0 < bV m x y) ∧ (m.det < 0 → bU m x y < 0 ∧ bV m x y < 0) := by
  have e := back_a m x y
  constructor
  · intro d
    rcases mul_sign h with g | g
    · exact g
    · exfalso
      have h1 := Int.mul_nonneg n.a (show 0 ≤ -bU m x y by omega)
      have h2 := Int.mul_nonneg n.b (show 0 ≤ -bV m x y by omega)
      rw [Int.mul_neg] at h1 h2
      have h3 := Int.mul_pos d (show 0 < x by omega)
      omega
  · intro d
    rcases mul_sign h with g | g
    · exfalso
      have h1 := Int.mul_nonneg n.a (show 0 ≤ bU m x y by omega)
      have h2 := Int.mul_nonneg n.b (show 0 ≤ bV m x y by omega)
      have h3 := Int.mul_neg_of_neg_of_pos d (show 0 < x by omega)
      omega
    · exact g
theorem nat_bU {m : M4} (n : Nn m) (hd : m.det ≠ 0) {x y : Int} (hx : 1 ≤ x) (h : 0 < bU m x y * bV m x y) :
    m.a * ((bU m x y).natAbs : Int) + m.b * ((bV m x y).natAbs : Int) = (m.det.natAbs : Int) * x ∧ m.c * ((bU m x y).natAbs : Int) + m.d * ((bV m x y).natAbs : Int) = (m.det.natAbs : Int) * y := by
  obtain ⟨s1, s2⟩ := back_sign n hx h
  have ea := back_a m x y
  have ec := back_c m x y
  rcases Int.lt_trichotomy m.det 0 with d | d | d
  · obtain ⟨u, v⟩ := s2 d
    rw [show ((bU m x y).natAbs : Int) = -bU m x y by omega, show ((bV m x y).natAbs : Int) = -bV m x y by omega, show (m.det.natAbs : Int) = -m.det by omega]
    simp only [Int.mul_neg, Int.neg_mul]
    omega
  · exact absurd d hd
  · obtain ⟨u, v⟩ := s1 d
    rw [show ((bU m x y).natAbs : Int) = bU m x y by omega, show ((bV m x y).natAbs : Int) = bV m x y by omega, show (m.det.natAbs : Int) = m.det by omega]
    exact ⟨ea, ec⟩
/-- what is sent back is sent there -/
theorem back_low {m : M4} (n : Nn m) (hd : m.det ≠ 0) {x y : Int} (hx : 1 ≤ x) (hy : 1 ≤ y) (xy : Nat.gcd x.natAbs y.natAbs = 1) (h : 0 < bU m x y * bV m x y) :
    ∃ u v : Int, lowl [((bU m x y).natAbs : Int), ((bV m x y).natAbs : Int)] = [u, v] ∧ 1 ≤ u ∧ 1 ≤ v ∧ gl [u, v] = 1 ∧ u ≤ ((bU m x y).natAbs : Int) ∧ v ≤ ((bV m x y).natAbs : Int) ∧ lowl [m.a * u + m.b * v, m.c * u + m.d * v] = [x, y] := by
  obtain ⟨e1, e2⟩ := nat_bU n hd hx h
  have h0 : bU m x y ≠ 0 ∧ bV m x y ≠ 0 := by
    constructor <;> intro z <;> rw [z] at h <;> simp at h
  generalize hU : ((bU m x y).natAbs : Int) = U at *
  generalize hV : ((bV m x y).natAbs : Int) = W at *
  have U0 : 0 < U := by omega
  have W0 : 0 < W := by omega
  have gp : 0 < gl [U, W] := gl_pos (x := U) List.mem_cons_self (by omega)
  have d1 : ((gl [U, W] : Nat) : Int) ∣ U := gl_dvd _ _ List.mem_cons_self
  have d2 : ((gl [U, W] : Nat) : Int) ∣ W := gl_dvd _ _ (List.mem_cons_of_mem _ List.mem_cons_self)
  have q1 := Int.mul_ediv_cancel' d1
  have q2 := Int.mul_ediv_cancel' d2
  have el : lowl [U, W] = [U / (gl [U, W] : Int), W / (gl [U, W] : Int)] := rfl
  have eg := lowl_gl gp
  rw [el] at eg
  have l1 := div_le (k := gl [U, W]) (show 0 ≤ U by omega)
  have l2 := div_le (k := gl [U, W]) (show 0 ≤ W by omega)
  refine ⟨_, _, el, ?_, ?_, eg, l1, l2, ?_⟩
  · by_cases z : U / (gl [U, W] : Int) ≤ 0
    · have := Int.ediv_nonneg (show 0 ≤ U by omega) (Int.natCast_nonneg (gl [U, W]))
      have : U / (gl [U, W] : Int) = 0 := by omega
      rw [this] at q1
      omega
    · omega
  · by_cases z : W / (gl [U, W] : Int) ≤ 0
    · have := Int.ediv_nonneg (show 0 ≤ W by omega) (Int.natCast_nonneg (gl [U, W]))
      have : W / (gl [U, W] : Int) = 0 := by omega
      rw [this] at q2
      omega
    · omega
  · refine scale_low (g := (gl [U, W] : Int)) (e := (m.det.natAbs : Int)) (by omega) (by omega) ?_ ?_ xy
    · rw [← e1, Int.mul_add, ← Int.mul_assoc, ← Int.mul_assoc, Int.mul_comm _ m.a, Int.mul_comm _ m.b, Int.mul_assoc, Int.mul_assoc, q1, q2]
    · rw [← e2, Int.mul_add, ← Int.mul_assoc, ← Int.mul_assoc, Int.mul_comm _ m.c, Int.mul_comm _ m.d, Int.mul_assoc, Int.mul_assoc, q1, q2]
end Lr
namespace Lr
open PySem PySem.Spec PyProof.Rows L2
theorem fact_pos {m : M4} (n : Nn m) (d : 0 < m.det) {x y : Int} (hx : 1 ≤ x) : (m.b * y < x * m.d ∧ x * m.c < m.a * y) ↔ 0 < bU m x y * bV m x y := by
  rw [Int.mul_comm x m.d, Int.mul_comm x m.c]
  constructor
  · rintro ⟨h1, h2⟩
    exact Int.mul_pos (show 0 < m.d * x - m.b * y by omega) (show 0 < m.a * y - m.c * x by omega)
  · intro h
    obtain ⟨h1, h2⟩ := (back_sign n hx h).1 d
    have h1 : 0 < m.d * x - m.b * y := h1
    have h2 : 0 < m.a * y - m.c * x := h2
    omega
theorem fact_neg {m : M4} (n : Nn m) (d : m.det < 0) {x y : Int} (hx : 1 ≤ x) : (m.a * y < x * m.c ∧ x * m.d < m.b * y) ↔ 0 < bU m x y * bV m x y := by
  rw [Int.mul_comm x m.d, Int.mul_comm x m.c]
  constructor
  · rintro ⟨h1, h2⟩
    have := Int.mul_pos (show 0 < -(m.d * x - m.b * y) by omega) (show 0 < -(m.a * y - m.c * x) by omega)
    rw [Int.neg_mul_neg] at this
    exact this
  · intro h
    obtain ⟨h1, h2⟩ := (back_sign n hx h).2 d
    have h1 : m.d * x - m.b * y < 0 := h1
    have h2 : m.a * y - m.c * x < 0 := h2
    omega
theorem shw_non : Shw PyData.none := ⟨rfl, rfl, by show (0 : Nat) ≤ 60; omega, rfl, Nat.zero_le _⟩
theorem Bd.le' {k : Nat} {x y : Int} (h : Bd k y) (l : x.natAbs ≤ y.natAbs) : Bd k x := Nat.lt_of_le_of_lt l h
end Lr
namespace Lr
open PySem PySem.Spec PyProof.Rows L2
theorem map_pos {m : M4} (n : Nn m) (d : m.det ≠ 0) {x y : Int} (hx : 1 ≤ x) (hy : 1 ≤ y) : 0 < m.a * x + m.b * y ∧ 0 < m.c * x + m.d * y := by
  unfold M4.det at d
  have ax := Int.mul_nonneg n.a (show 0 ≤ x by omega)
  have bx := Int.mul_nonneg n.b (show 0 ≤ y by omega)
  have cx := Int.mul_nonneg n.c (show 0 ≤ x by omega)
  have dx := Int.mul_nonneg n.d (show 0 ≤ y by omega)
  have pz : ∀ {u v : Int}, u * v = 0 → 1 ≤ v → u = 0 := fun h k => by
    rcases Int.mul_eq_zero.mp h with z | z
    · exact z
    · omega
  constructor
  · by_cases z : m.a * x + m.b * y = 0
    · exfalso
      apply d
      rw [pz (show m.a * x = 0 by omega) hx, pz (show m.b * y = 0 by omega) hy]
      simp
    · omega
  · by_cases z : m.c * x + m.d * y = 0
    · exfalso
      apply d
      rw [pz (show m.c * x = 0 by omega) hx, pz (show m.d * y = 0 by omega) hy]
      simp
    · omega
theorem iteNN {c A B : Prop} [Decidable c] (hc : ¬ c) (h : A) : if (!decide c) = true then A else B := by
  rw [decide_eq_false hc]
  exact iteT h
end Lr
namespace Lr
open PySem PySem.Spec PyProof.Rows L2
/-- a pair above 0, divided by what divides both -/
theorem low_two {P R : Int} (hP : 0 < P) (hR : 0 < R) : ∃ u v : Int, lowl [P, R] = [u, v] ∧ 1 ≤ u ∧ 1 ≤ v ∧ Nat.gcd u.natAbs v.natAbs = 1 ∧ u ≤ P ∧ v ≤ R ∧ (gl [P, R] : Int) * u = P ∧ (gl [P, R] : Int) * v = R ∧ 0 < gl [P, R] := by
  have gp : 0 < gl [P, R] := gl_pos (x := P) List.mem_cons_self (by omega)
  have d1 : ((gl [P, R] : Nat) : Int) ∣ P := gl_dvd _ _ List.mem_cons_self
  have d2 : ((gl [P, R] : Nat) : Int) ∣ R := gl_dvd _ _ (List.mem_cons_of_mem _ List.mem_cons_self)
  have q1 := Int.mul_ediv_cancel' d1
  have q2 := Int.mul_ediv_cancel' d2
  have el : lowl [P, R] = [P / (gl [P, R] : Int), R / (gl [P, R] : Int)] := rfl
  have eg := lowl_gl gp
  rw [el, gl2] at eg
  have l1 := div_le (k := gl [P, R]) (show 0 ≤ P by omega)
  have l2 := div_le (k := gl [P, R]) (show 0 ≤ R by omega)
  refine ⟨_, _, el, ?_, ?_, eg, l1, l2, q1, q2, gp⟩
  · by_cases z : P / (gl [P, R] : Int) ≤ 0
    · have := Int.ediv_nonneg (show 0 ≤ P by omega) (Int.natCast_nonneg (gl [P, R]))
      have : P / (gl [P, R] : Int) = 0 := by omega
      rw [this] at q1
      omega
    · omega
  · by_cases z : R / (gl [P, R] : Int) ≤ 0
    · have := Int.ediv_nonneg (show 0 ≤ R by omega) (Int.natCast_nonneg (gl [P, R]))
      have : R / (gl [P, R] : Int) = 0 := by omega
      rw [this] at q2
      omega
    · omega
/-- what is sent is sent back -/
theorem sent_back {m : M4} (hd : m.det ≠ 0) {x y u v g : Int} (hx : 1 ≤ x) (hy : 1 ≤ y) (xy : Nat.gcd x.natAbs y.natAbs = 1) (hg : 0 < g) (eu : g * u = m.a * x + m.b * y) (ev : g * v = m.c * x + m.d * y) :
    0 < bU m u v * bV m u v ∧ lowl [((bU m u v).natAbs : Int), ((bV m u v).natAbs : Int)] = [x, y] := by
  have e1 : g * bU m u v = m.det * x := by
    unfold bU M4.det
    rw [Int.mul_sub, Int.mul_left_comm, eu, Int.mul_left_comm g m.b, ev, Int.mul_add, Int.mul_add, Int.sub_mul]
    have h1 : m.d * (m.a * x) = m.a * m.d * x := by rw [Int.mul_left_comm, Int.mul_assoc]
    have h2 : m.d * (m.b * y) = m.b * (m.d * y) := by rw [Int.mul_left_comm]
    have h3 : m.b * (m.c * x) = m.b * m.c * x := by rw [Int.mul_assoc]
    omega
  have e2 : g * bV m u v = m.det * y := by
    unfold bV M4.det
    rw [Int.mul_sub, Int.mul_left_comm, ev, Int.mul_left_comm g m.c, eu, Int.mul_add, Int.mul_add, Int.sub_mul]
    have h1 : m.a * (m.c * x) = m.c * (m.a * x) := by rw [Int.mul_left_comm]
    have h2 : m.a * (m.d * y) = m.a * m.d * y := by rw [Int.mul_assoc]
    have h3 : m.c * (m.b * y) = m.b * m.c * y := by rw [Int.mul_left_comm, Int.mul_assoc]
    omega
  have f1 : g * ((bU m u v).natAbs : Int) = (m.det.natAbs : Int) * x := by
    have := congrArg (fun z : Int => (z.natAbs : Int)) e1
    simp only [Int.natAbs_mul, Int.natCast_mul] at this
    rw [show ((g.natAbs : Nat) : Int) = g by omega, show ((x.natAbs : Nat) : Int) = x by omega] at this
    exact this
  have f2 : g * ((bV m u v).natAbs : Int) = (m.det.natAbs : Int) * y := by
    have := congrArg (fun z : Int => (z.natAbs : Int)) e2
    simp only [Int.natAbs_mul, Int.natCast_mul] at this
    rw [show ((g.natAbs : Nat) : Int) = g by omega, show ((y.natAbs : Nat) : Int) = y by omega] at this
    exact this
  refine ⟨?_, scale_low hg (by omega) f1 f2 xy⟩
  have p : g * bU m u v * (g * bV m u v) = m.det * m.det * (x * y) := by
    rw [e1, e2]
    simp [Int.mul_comm, Int.mul_assoc, Int.mul_left_comm]
  have q : g * bU m u v * (g * bV m u v) = g * g * (bU m u v * bV m u v) := by simp [Int.mul_comm, Int.mul_assoc, Int.mul_left_comm]
  have dd : 0 < m.det * m.det := by
    rcases Int.lt_trichotomy m.det 0 with d | d | d
    · exact Int.mul_pos_of_neg_of_neg d d
    · exact absurd d hd
    · exact Int.mul_pos d d
  have pos : 0 < m.det * m.det * (x * y) := Int.mul_pos dd (Int.mul_pos (by omega) (by omega))
  rw [← p, q] at pos
  have gg : 0 < g * g := Int.mul_pos hg hg
  refine Int.not_le.mp fun z => ?_
  have := Int.mul_nonneg (Int.le_of_lt gg) (show 0 ≤ -(bU m u v * bV m u v) by omega)
  rw [Int.mul_neg] at this
  omega
end Lr
namespace Lr
open PySem PySem.Spec PyProof.Rows L2
/-- a pair of ints from 0 on -/
def Pr (H : Hp) (v : V) : Prop := ∃ (q : Addr) (s t : Int), v = .ref q ∧ H q = some (.tup [.int s, .int t]) ∧ 0 ≤ s ∧ 0 ≤ t ∧ Bd 30 s ∧ Bd 30 t
theorem tup_nea {H : Hp} {a p : Addr} {n : Nat} {xs : List V} (h : Pu H a n) (hp : H p = some (.tup xs)) : p ≠ a := by
  rintro rfl
  obtain ⟨_, _, _, h1, _⟩ := h
  rw [hp] at h1
  cases h1
theorem Pr.kp {H H' : Hp} {a : Addr} {n : Nat} {v : V} (h : Pr H v) (hp : Pu H a n) (k : Kp a H H') : Pr H' v := by
  obtain ⟨q, s, t, e, hq, r⟩ := h
  exact ⟨q, s, t, e, k _ _ (tup_nea hp hq) hq, r⟩
theorem Pr.same {H H' : Hp} {v : V} (h : Pr H v) (k : Same H H') : Pr H' v := by
  obtain ⟨q, s, t, e, hq, r⟩ := h
  exact ⟨q, s, t, e, k _ _ hq, r⟩
theorem far_bd {up far : Int} (u0 : 0 ≤ up) (u1 : up ≤ 1000000) (f0 : 1 ≤ far) (f1 : far ≤ 9) : 0 ≤ up * far ∧ Bd 30 (up * far) ∧ Bd 30 (up * far + 1) := by
  have h0 := Int.mul_nonneg u0 (show 0 ≤ far by omega)
  have h1 : up * far ≤ up * 9 := Int.mul_le_mul_of_nonneg_left f1 u0
  exact ⟨h0, bd_le h0 (by omega), bd_le (by omega) (by omega)⟩
end Lr
namespace Lr
open PySem PySem.Spec PyProof.Rows L2
theorem four_new {H : Hp} {q1 q2 q3 q4 L : Addr} {o1 o2 o3 o4 o5 : HO} (n1 : H q1 = none) (n2 : L2.upd H q1 o1 q2 = none) (n3 : L2.upd (L2.upd H q1 o1) q2 o2 q3 = none) (n4 : L2.upd (L2.upd (L2.upd H q1 o1) q2 o2) q3 o3 q4 = none)
    (n5 : L2.upd (L2.upd (L2.upd (L2.upd H q1 o1) q2 o2) q3 o3) q4 o4 L = none) :
    Same H (L2.upd (L2.upd (L2.upd (L2.upd (L2.upd H q1 o1) q2 o2) q3 o3) q4 o4) L o5) ∧ L2.upd (L2.upd (L2.upd (L2.upd (L2.upd H q1 o1) q2 o2) q3 o3) q4 o4) L o5 L = some o5 ∧
    L2.upd (L2.upd (L2.upd (L2.upd (L2.upd H q1 o1) q2 o2) q3 o3) q4 o4) L o5 q1 = some o1 ∧ L2.upd (L2.upd (L2.upd (L2.upd (L2.upd H q1 o1) q2 o2) q3 o3) q4 o4) L o5 q2 = some o2 ∧
    L2.upd (L2.upd (L2.upd (L2.upd (L2.upd H q1 o1) q2 o2) q3 o3) q4 o4) L o5 q3 = some o3 ∧ L2.upd (L2.upd (L2.upd (L2.upd (L2.upd H q1 o1) q2 o2) q3 o3) q4 o4) L o5 q4 = some o4 := by
  have s1 := (L2.Same.refl H).new (o := o1) n1
  have s2 := (L2.Same.refl _).new (o := o2) n2
  have s3 := (L2.Same.refl _).new (o := o3) n3
  have s4 := (L2.Same.refl _).new (o := o4) n4
  have s5 := (L2.Same.refl _).new (o := o5) n5
  exact ⟨(((s1.trans s2).trans s3).trans s4).trans s5, upd_same, s5 _ _ (s4 _ _ (s3 _ _ (s2 _ _ upd_same))), s5 _ _ (s4 _ _ (s3 _ _ upd_same)), s5 _ _ (s4 _ _ upd_same), s5 _ _ upd_same⟩
end Lr
namespace Lr
open PySem PySem.Spec PyProof.Rows L2
theorem ifI {x k : Int} {A B : Prop} (h1 : x = k → A) (h2 : x ≠ k → B) : if decide (V.int x = V.int k) = true then A else B := by
  by_cases h : x = k
  · rw [decide_eq_true (by rw [h])]
    exact iteT (h1 h)
  · rw [decide_eq_false (fun z => h (V.int.inj z))]
    exact iteF (h2 h)
end Lr
namespace Lr
open PySem PySem.Spec PyProof.Rows L2
/-- a map of integers to 10 ** 6 -/
def Tm (H : Hp) (v : V) (m : M4) : Prop := ∃ p : Addr, v = .ref p ∧ H p = some (.tup (m.l.map V.int)) ∧ Mp m ∧ Le 1000000 m
theorem Tm.kp {H H' : Hp} {a : Addr} {n : Nat} {v : V} {m : M4} (h : Tm H v m) (hp : Pu H a n) (k : Kp a H H') : Tm H' v m := by
  obtain ⟨q, e, hq, r⟩ := h
  exact ⟨q, e, k _ _ (tup_nea hp hq) hq, r⟩
theorem Tm.same {H H' : Hp} {v : V} {m : M4} (h : Tm H v m) (k : Same H H') : Tm H' v m := by
  obtain ⟨q, e, hq, r⟩ := h
  exact ⟨q, e, k _ _ hq, r⟩
theorem Tm.of {H : Hp} {p : Addr} {m : M4} (h : H p = some (.tup (m.l.map V.int))) (mp : Mp m) (ml : Le 1000000 m) : Tm H (.ref p) m := ⟨p, rfl, h, mp, ml⟩
theorem at_any {l : List V} {r : Int} (h0 : 0 ≤ r) (h1 : r < l.length) : ∃ v ∈ l, atI l r = some v := by
  obtain ⟨j, rfl⟩ := nat_of h0
  have hj : j < l.length := by omega
  exact ⟨l[j], List.getElem_mem hj, atI_nat (by rw [List.getElem?_eq_getElem hj])⟩
theorem low_bd {m : M4} {k : Nat} (hd : m.det ≠ 0) (h : ∀ i ∈ m.l, Bd k i) : ∀ i ∈ m.low.l, Bd k i := by
  have g := det_pos_gl hd
  intro i hi
  simp only [M4.l, M4.low, List.mem_cons, List.not_mem_nil, or_false] at hi
  have g' : (0 : Int) < (gl m.l : Int) := by omega
  rcases hi with rfl | rfl | rfl | rfl
  · exact (h m.a (by simp [M4.l])).dv g'
  · exact (h m.b (by simp [M4.l])).dv g'
  · exact (h m.c (by simp [M4.l])).dv g'
  · exact (h m.d (by simp [M4.l])).dv g'
/-- two pairs that tell one fraction -/
theorem low_same {g h P R P' R' : Int} (hg : 0 < g) (hh : 0 < h) (h0 : 0 < P') (h1 : 0 < R') (e1 : g * P = h * P') (e2 : g * R = h * R') : lowl [P, R] = lowl [P', R'] := by
  obtain ⟨u, v, el, _, _, uv, _, _, gu, gv, gp⟩ := low_two h0 h1
  rw [el]
  refine scale_low (g := g) (e := h * (gl [P', R'] : Int)) hg (Int.mul_pos hh (by omega)) ?_ ?_ uv
  · rw [e1, Int.mul_assoc, gu]
  · rw [e2, Int.mul_assoc, gv]
/-- low of a multiple of nothing -/
theorem low_unit {k : Int} (hk : 0 < k) : (M4.mk k 0 0 k).low = M4.one := by
  have e : gl (M4.mk k 0 0 k).l = k.natAbs := by
    show Nat.gcd (Nat.gcd (Nat.gcd (Nat.gcd 0 k.natAbs) (0 : Int).natAbs) (0 : Int).natAbs) k.natAbs = _
    simp
  have e2 : ((k.natAbs : Nat) : Int) = k := by omega
  unfold M4.low M4.one
  rw [e, e2]
  show M4.mk (k / k) (0 / k) (0 / k) (k / k) = _
  rw [Int.ediv_self (by omega), Int.zero_ediv]
theorem low_goal {m : M4} (hd : m.det ≠ 0) (x y : Int) : (gl m.l : Int) * (m.low.a * x + m.low.b * y) = m.a * x + m.b * y ∧ (gl m.l : Int) * (m.low.c * x + m.low.d * y) = m.c * x + m.d * y := by
  have g := fun x hx => gl_dvd m.l x hx
  have ea := Int.mul_ediv_cancel' (g m.a (by simp [M4.l]))
  have eb := Int.mul_ediv_cancel' (g m.b (by simp [M4.l]))
  have ec := Int.mul_ediv_cancel' (g m.c (by simp [M4.l]))
  have ed := Int.mul_ediv_cancel' (g m.d (by simp [M4.l]))
  constructor
  · show (gl m.l : Int) * (m.a / (gl m.l : Int) * x + m.b / (gl m.l : Int) * y) = _
    rw [Int.mul_add, ← Int.mul_assoc, ← Int.mul_assoc, ea, eb]
  · show (gl m.l : Int) * (m.c / (gl m.l : Int) * x + m.d / (gl m.l : Int) * y) = _
    rw [Int.mul_add, ← Int.mul_assoc, ← Int.mul_assoc, ec, ed]
theorem mul_goal (m n : M4) (x y : Int) : (m.mul n).a * x + (m.mul n).b * y = m.a * (n.a * x + n.b * y) + m.b * (n.c * x + n.d * y) ∧ (m.mul n).c * x + (m.mul n).d * y = m.c * (n.a * x + n.b * y) + m.d * (n.c * x + n.d * y) := by
  unfold M4.mul
  simp only [Int.add_mul, Int.mul_add, Int.mul_assoc]
  omega
end Lr
namespace Lr
open PySem PySem.Spec PyProof.Rows L2
theorem goal_goal {R m : M4} (dM : (R.mul m).det ≠ 0) {x y u v g' : Int} (hg : 0 < g') (gu : g' * u = m.a * x + m.b * y) (gv : g' * v = m.c * x + m.d * y) (z0 : 0 < R.a * u + R.b * v) (z1 : 0 < R.c * u + R.d * v) :
    lowl [(R.mul m).low.a * x + (R.mul m).low.b * y, (R.mul m).low.c * x + (R.mul m).low.d * y] = lowl [R.a * u + R.b * v, R.c * u + R.d * v] := by
  obtain ⟨g1, g2⟩ := low_goal dM x y
  obtain ⟨f1, f2⟩ := mul_goal R m x y
  refine low_same (g := (gl (R.mul m).l : Int)) (h := g') (by have := det_pos_gl dM; omega) hg z0 z1 ?_ ?_
  · rw [g1, f1, ← gu, ← gv, Int.mul_add, Int.mul_left_comm g' R.a u, Int.mul_left_comm g' R.b v]
  · rw [g2, f2, ← gu, ← gv, Int.mul_add, Int.mul_left_comm g' R.c u, Int.mul_left_comm g' R.d v]
end Lr
namespace Lr
open PySem PySem.Spec PyProof.Rows L2
theorem turn_A {m : M4} (h : Mp m) (hb : m.b = 0) (hc : m.c = 0) : ((M4.mk m.d 0 0 m.a).mul m).low = M4.one ∧ (m.mul (M4.mk m.d 0 0 m.a)).low = M4.one ∧ Mp (M4.mk m.d 0 0 m.a) ∧ m.a ≠ 0 := by
  obtain ⟨a, b, c, d⟩ := m
  obtain ⟨nn, dt, gd⟩ := h
  have hb : b = 0 := hb
  have hc : c = 0 := hc
  subst hb hc
  have a0 : 0 ≤ a := nn.a
  have d0 : 0 ≤ d := nn.d
  have dt : a * d - 0 * 0 ≠ 0 := dt
  have p : 0 < a * d := by
    have := Int.mul_nonneg a0 d0
    omega
  have q : 0 < d * a := by rw [Int.mul_comm]; exact p
  have e1 : (M4.mk d 0 0 a).mul (M4.mk a 0 0 d) = M4.mk (d * a) 0 0 (d * a) := by
    unfold M4.mul
    simp [Int.mul_comm]
  have e2 : (M4.mk a 0 0 d).mul (M4.mk d 0 0 a) = M4.mk (d * a) 0 0 (d * a) := by
    unfold M4.mul
    simp [Int.mul_comm]
  refine ⟨by show ((M4.mk d 0 0 a).mul (M4.mk a 0 0 d)).low = _; rw [e1, low_unit q], by show ((M4.mk a 0 0 d).mul (M4.mk d 0 0 a)).low = _; rw [e2, low_unit q], ⟨⟨d0, Int.le_refl 0, Int.le_refl 0, a0⟩, ?_, ?_⟩, ?_⟩
  · show d * a - 0 * 0 ≠ 0
    omega
  · have : Nat.gcd (Nat.gcd (Nat.gcd (Nat.gcd 0 a.natAbs) 0) 0) d.natAbs = 1 := gd
    show Nat.gcd (Nat.gcd (Nat.gcd (Nat.gcd 0 d.natAbs) 0) 0) a.natAbs = 1
    simp at this ⊢
    rw [Nat.gcd_comm]
    exact this
  · show a ≠ 0
    rintro rfl
    simp at p
theorem turn_B {m : M4} (h : Mp m) (ha : m.a = 0) (hd : m.d = 0) : ((M4.mk 0 m.b m.c 0).mul m).low = M4.one ∧ (m.mul (M4.mk 0 m.b m.c 0)).low = M4.one ∧ Mp (M4.mk 0 m.b m.c 0) ∧ m.b ≠ 0 := by
  obtain ⟨a, b, c, d⟩ := m
  have ha : a = 0 := ha
  have hd : d = 0 := hd
  subst ha hd
  have b0 : 0 ≤ b := h.nn.b
  have c0 : 0 ≤ c := h.nn.c
  have dt : 0 * 0 - b * c ≠ 0 := h.dt
  have p : 0 < b * c := by
    have := Int.mul_nonneg b0 c0
    omega
  have e1 : (M4.mk 0 b c 0).mul (M4.mk 0 b c 0) = M4.mk (b * c) 0 0 (b * c) := by
    unfold M4.mul
    simp [Int.mul_comm]
  refine ⟨by show ((M4.mk 0 b c 0).mul (M4.mk 0 b c 0)).low = _; rw [e1, low_unit p], by show ((M4.mk 0 b c 0).mul (M4.mk 0 b c 0)).low = _; rw [e1, low_unit p], h, ?_⟩
  show b ≠ 0
  rintro rfl
  simp at p
theorem mk_diag {u v : Int} (hu : 1 ≤ u) (hv : 1 ≤ v) : Nn (M4.mk u 0 0 v) ∧ (M4.mk u 0 0 v).det ≠ 0 ∧ Nn (M4.mk 0 u v 0) ∧ (M4.mk 0 u v 0).det ≠ 0 := by
  have p := Int.mul_pos (show 0 < u by omega) (show 0 < v by omega)
  refine ⟨⟨by show 0 ≤ u; omega, Int.le_refl 0, Int.le_refl 0, by show 0 ≤ v; omega⟩, ?_, ⟨Int.le_refl 0, by show 0 ≤ u; omega, by show 0 ≤ v; omega, Int.le_refl 0⟩, ?_⟩
  · show u * v - 0 * 0 ≠ 0
    omega
  · show 0 * 0 - u * v ≠ 0
    omega
end Lr

set_option exponentiation.threshold 5000
namespace Lr
open PySem PySem.Spec PyProof.Rows L2
/-! endless roads -/
/-- a road that is the same when so many turns are put behind it -/
def Per (w : List Bool) (p : Nat) : Prop := ∀ i, i < w.length → w[(i + p) % w.length]? = w[i]?
theorem per_len (w : List Bool) : Per w w.length := fun i hi => by
  rw [Nat.add_mod_right, Nat.mod_eq_of_lt hi]
theorem Per.at {w : List Bool} {p : Nat} (h : Per w p) (i : Nat) : w[(i + p) % w.length]? = w[i % w.length]? := by
  by_cases h0 : w.length = 0
  · rw [h0, Nat.mod_zero, Nat.mod_zero, List.getElem?_eq_none (by omega), List.getElem?_eq_none (by omega)]
  · have := h (i % w.length) (Nat.mod_lt _ (by omega))
    rw [Nat.mod_add_mod] at this
    exact this
theorem Per.sub {w : List Bool} {p r : Nat} (h : Per w p) (k : Per w (r + p)) : Per w r := fun i hi => by
  rw [← h.at (i + r), Nat.add_assoc, k i hi]
theorem Per.mul {w : List Bool} {p : Nat} (h : Per w p) (k : Nat) : Per w (k * p) := by
  induction k with
  | zero => exact fun i hi => by rw [Nat.zero_mul, Nat.add_zero, Nat.mod_eq_of_lt hi]
  | succ k ih => exact fun i hi => by rw [Nat.succ_mul, ← Nat.add_assoc, h.at, ih i hi]
/-- the least one -/
def Least (w : List Bool) (p : Nat) : Prop := 1 ≤ p ∧ p ≤ w.length ∧ Per w p ∧ ∀ k, 1 ≤ k → k < p → ¬ Per w k
theorem Least.dvd {w : List Bool} {p : Nat} (h : Least w p) : w.length % p = 0 := by
  obtain ⟨p1, pn, hp, hm⟩ := h
  by_cases z : w.length % p = 0
  · exact z
  · exfalso
    refine hm (w.length % p) (by omega) (Nat.mod_lt _ (by omega)) ?_
    have k := hp.mul (w.length / p)
    refine Per.sub k ?_
    rw [Nat.mul_comm, Nat.mod_add_div]
    exact per_len w
theorem Least.eq {w : List Bool} {p q : Nat} (h : Least w p) (k : Least w q) : p = q := by
  rcases Nat.lt_trichotomy p q with z | z | z
  · exact absurd h.2.2.1 (k.2.2.2 p h.1 z)
  · exact z
  · exact absurd k.2.2.1 (h.2.2.2 q k.1 z)
theorem repR_at {u : List Bool} {k i : Nat} (h : i < k * u.length) : (repR u k)[i]? = u[i % u.length]? := by
  induction k generalizing i with
  | zero => omega
  | succ k ih =>
    have e : repR u (k + 1) = u ++ repR u k := by
      unfold repR
      rw [List.replicate_succ, List.flatten_cons]
    rw [e]
    by_cases hi : i < u.length
    · rw [List.getElem?_append_left hi, Nat.mod_eq_of_lt hi]
    · rw [List.getElem?_append_right (by omega), ih (by rw [Nat.succ_mul] at h; omega), ← Nat.mod_eq_sub_mod (by omega)]
/-- where it comes round -/
theorem Per.low {w : List Bool} {p : Nat} (h : Per w p) (p1 : 1 ≤ p) (hp : p ≤ w.length) : ∀ i, i < w.length → w[i]? = (w.take p)[i % p]? := by
  intro i
  induction i using Nat.strongRecOn with
  | ind i ih =>
    intro hi
    by_cases z : i < p
    · rw [Nat.mod_eq_of_lt z, List.getElem?_take_of_lt z]
    · have e := h (i - p) (by omega)
      rw [show i - p + p = i by omega, Nat.mod_eq_of_lt hi] at e
      rw [e, ih (i - p) (by omega) (by omega), ← Nat.mod_eq_sub_mod (by omega)]
theorem per_rep {w : List Bool} {p : Nat} (p1 : 1 ≤ p) (hp : p ≤ w.length) : repR (w.take p) (w.length / p) = w ↔ Per w p ∧ w.length % p = 0 := by
  have tl : (w.take p).length = p := by rw [List.length_take]; omega
  constructor
  · intro e
    have el := congrArg List.length e
    rw [repR_len, tl] at el
    have m0 : w.length % p = 0 := by
      rw [← el]
      exact Nat.mul_mod_left _ _
    refine ⟨fun i hi => ?_, m0⟩
    have key : ∀ j, j < w.length → w[j]? = (w.take p)[j % p]? := fun j hj => by
      have := repR_at (u := w.take p) (k := w.length / p) (i := j) (by rw [tl, el]; exact hj)
      rw [e, tl] at this
      exact this
    have n0 : 0 < w.length := by omega
    rw [key _ (Nat.mod_lt _ n0), key _ hi]
    congr 1
    have d : p ∣ w.length := Nat.dvd_of_mod_eq_zero m0
    rw [Nat.mod_mod_of_dvd _ d, Nat.add_mod_right]
  · rintro ⟨h, m0⟩
    have el : w.length / p * p = w.length := Nat.div_mul_cancel (Nat.dvd_of_mod_eq_zero m0)
    refine List.ext_getElem? fun i => ?_
    by_cases hi : i < w.length
    · rw [repR_at (by rw [tl, el]; exact hi), tl, h.low p1 hp i hi]
    · rw [List.getElem?_eq_none (by rw [repR_len, tl, el]; omega), List.getElem?_eq_none (by omega)]
/-- what is told of an endless road at a place -/
def sq (f l : List Bool) (i : Nat) : Option Bool := if i < f.length then f[i]? else l[(i - f.length) % l.length]?
theorem sq_take (f l : List Bool) (hl : l ≠ []) {k i : Nat} (h : i < f.length + k) : (f ++ repR l k)[i]? = sq f l i := by
  unfold sq
  have l1 : 1 ≤ l.length := Nat.pos_of_ne_zero fun z => hl (List.length_eq_zero_iff.mp z)
  split
  · rename_i hi
    rw [List.getElem?_append_left hi]
  · rename_i hi
    rw [List.getElem?_append_right (by omega), repR_at]
    have : k * 1 ≤ k * l.length := Nat.mul_le_mul_left k l1
    omega
theorem sq_least {w : List Bool} {p : Nat} (h : Least w p) (f : List Bool) : sq f (w.take p) = sq f w := by
  have p1 := h.1
  have pn := h.2.1
  have tl : (w.take p).length = p := by rw [List.length_take]; omega
  funext i
  unfold sq
  split
  · rfl
  · have m := Nat.mod_lt (i - f.length) (show 0 < w.length by omega)
    rw [h.2.2.1.low p1 pn _ m, tl, Nat.mod_mod_of_dvd _ (Nat.dvd_of_mod_eq_zero h.dvd)]
/-! a turn of the road ahead that is one of the ring -/
def rr (l : List Bool) : List Bool := match l.getLast? with
  | none => []
  | some t => t :: l.dropLast
def stp (c : List Bool × List Bool) : List Bool × List Bool := if c.1.getLast? = c.2.getLast? then (c.1.dropLast, rr c.2) else c
theorem rr_len (l : List Bool) : (rr l).length = l.length := by
  unfold rr
  cases h : l.getLast? with
  | none => rw [List.getLast?_eq_none_iff.mp h]
  | some t =>
    have : l ≠ [] := fun z => by rw [z] at h; cases h
    have := List.length_pos_iff.mpr this
    simp [List.length_dropLast]
    omega
theorem last_ex {l : List Bool} {t : Bool} (h : l.getLast? = some t) : ∃ d, l = d ++ [t] := by
  have ne : l ≠ [] := fun z => by rw [z] at h; cases h
  have e := List.dropLast_concat_getLast ne
  rw [List.getLast?_eq_some_getLast ne] at h
  exact ⟨l.dropLast, by rw [← Option.some.inj h, e]⟩
theorem rr_snoc (d : List Bool) (t : Bool) : rr (d ++ [t]) = t :: d := by
  unfold rr
  simp
theorem rr_at {l : List Bool} {i : Nat} (hi : i < l.length) : (rr l)[i]? = l[(i + (l.length - 1)) % l.length]? := by
  cases h : l.getLast? with
  | none =>
    rw [List.getLast?_eq_none_iff.mp h] at hi
    exact absurd hi (Nat.not_lt_zero _)
  | some t =>
    obtain ⟨d, rfl⟩ := last_ex h
    rw [rr_snoc]
    have len : (d ++ [t]).length = d.length + 1 := by simp
    rw [len] at hi ⊢
    cases i with
    | zero =>
      rw [Nat.zero_add, Nat.mod_eq_of_lt (by omega), Nat.add_sub_cancel, List.getElem?_append_right (Nat.le_refl _), Nat.sub_self]
      rfl
    | succ i =>
      rw [show i + 1 + (d.length + 1 - 1) = i + (d.length + 1) by omega, Nat.add_mod_right, Nat.mod_eq_of_lt (by omega), List.getElem?_append_left (by omega)]
      rfl
theorem stp_snoc (f l : List Bool) (t : Bool) : stp (f ++ [t], l ++ [t]) = (f, t :: l) := by
  unfold stp
  simp [rr_snoc]
theorem sq_stp (c : List Bool × List Bool) : sq (stp c).1 (stp c).2 = sq c.1 c.2 := by
  obtain ⟨f, l⟩ := c
  by_cases h : f.getLast? = l.getLast?
  · cases hf : f.getLast? with
    | none =>
      have f0 := List.getLast?_eq_none_iff.mp hf
      have l0 := List.getLast?_eq_none_iff.mp (h.symm.trans hf)
      subst f0 l0
      rfl
    | some t =>
      obtain ⟨f, rfl⟩ := last_ex hf
      obtain ⟨l, rfl⟩ := last_ex (h.symm.trans hf)
      rw [stp_snoc]
      have lf : (f ++ [t]).length = f.length + 1 := by simp
      have ll : (l ++ [t]).length = l.length + 1 := by simp
      have lr : (t :: l).length = l.length + 1 := rfl
      funext i
      show (if i < f.length then f[i]? else (t :: l)[(i - f.length) % (t :: l).length]?) = if i < (f ++ [t]).length then (f ++ [t])[i]? else (l ++ [t])[(i - (f ++ [t]).length) % (l ++ [t]).length]?
      by_cases h1 : i < f.length
      · rw [if_pos h1, if_pos (by omega), List.getElem?_append_left h1]
      · rw [if_neg h1, ← rr_snoc, rr_len, rr_at (Nat.mod_lt _ (by omega)), ll, Nat.mod_add_mod]
        by_cases h2 : i < f.length + 1
        · have e : i = f.length := by omega
          rw [if_pos (by omega), e, Nat.sub_self, Nat.zero_add, Nat.mod_eq_of_lt (by omega), Nat.add_sub_cancel, List.getElem?_append_right (Nat.le_refl _), List.getElem?_append_right (Nat.le_refl _), Nat.sub_self, Nat.sub_self]
        · rw [if_neg (by omega), lf, show i - f.length + (l.length + 1 - 1) = i - (f.length + 1) + (l.length + 1) by omega, Nat.add_mod_right]
  · have e : stp (f, l) = (f, l) := by
      unfold stp
      rw [if_neg h]
    rw [e]
theorem per_rr {l : List Bool} {k : Nat} (h : Per (rr l) k) : Per l k := by
  intro i hi
  have n0 : 0 < l.length := by omega
  have e := h.at (i + 1)
  rw [rr_len] at e
  rw [rr_at (Nat.mod_lt _ n0), rr_at (Nat.mod_lt _ n0), Nat.mod_add_mod, Nat.mod_add_mod, show i + 1 + k + (l.length - 1) = i + k + l.length by omega, show i + 1 + (l.length - 1) = i + l.length by omega, Nat.add_mod_right, Nat.add_mod_right, Nat.mod_eq_of_lt hi] at e
  exact e
/-- a ring that comes round at no less than its length -/
def Prim (l : List Bool) : Prop := l ≠ [] ∧ ∀ k, 1 ≤ k → k < l.length → ¬ Per l k
theorem Prim.least {l : List Bool} (h : Prim l) : Least l l.length := ⟨Nat.pos_of_ne_zero fun z => h.1 (List.length_eq_zero_iff.mp z), Nat.le_refl _, per_len l, h.2⟩
theorem Prim.rr {l : List Bool} (h : Prim l) : Prim (rr l) := by
  refine ⟨fun z => h.1 ?_, fun k k1 k2 p => h.2 k k1 (by rw [rr_len] at k2; exact k2) (per_rr p)⟩
  have := rr_len l
  rw [z] at this
  exact List.length_eq_zero_iff.mp this.symm
theorem Least.prim {w : List Bool} {p : Nat} (h : Least w p) : Prim (w.take p) := by
  have p1 := h.1
  have pn := h.2.1
  have tl : (w.take p).length = p := by rw [List.length_take]; omega
  refine ⟨fun z => ?_, fun k k1 k2 q => h.2.2.2 k k1 (by omega) fun i hi => ?_⟩
  · rw [z] at tl
    simp at tl
    omega
  · have n0 : 0 < w.length := by omega
    rw [h.2.2.1.low p1 pn _ (Nat.mod_lt _ n0), h.2.2.1.low p1 pn _ hi, Nat.mod_mod_of_dvd _ (Nat.dvd_of_mod_eq_zero h.dvd)]
    have := q.at i
    rw [tl] at this
    exact this
theorem Prim.stp {c : List Bool × List Bool} (h : Prim c.2) : Prim (stp c).2 := by
  unfold Lr.stp
  split
  · exact h.rr
  · exact h
end Lr

set_option exponentiation.threshold 5000
namespace Lr
open PySem PySem.Spec PyProof.Rows L2
def its : Nat → List Bool × List Bool → List Bool × List Bool
  | 0, c => c
  | n + 1, c => stp (its n c)
theorem its_fix {c : List Bool × List Bool} {i : Nat} (h : stp (its i c) = its i c) : ∀ n, i ≤ n → its n c = its i c := by
  intro n hn
  induction n with
  | zero => rw [Nat.le_zero.mp hn]
  | succ n ih =>
    by_cases e : i = n + 1
    · rw [e]
    · show stp (its n c) = _
      rw [ih (by omega), h]
theorem stp_ne {c : List Bool × List Bool} (h : c.1.getLast? ≠ c.2.getLast?) : stp c = c := by
  unfold stp
  rw [if_neg h]
theorem stp_ring {c : List Bool × List Bool} (h : c.2 ≠ []) : (stp c).2 ≠ [] := by
  unfold stp
  split
  · intro z
    have := rr_len c.2
    have z : rr c.2 = [] := z
    rw [z] at this
    exact h (List.length_eq_zero_iff.mp this.symm)
  · exact h
theorem its_ring {c : List Bool × List Bool} (h : c.2 ≠ []) (n : Nat) : (its n c).2 ≠ [] := by
  induction n with
  | zero => exact h
  | succ n ih => exact stp_ring ih
theorem its_len {c : List Bool × List Bool} (n : Nat) : stp (its n c) = its n c ∨ (its n c).1.length + n = c.1.length := by
  induction n with
  | zero => exact .inr rfl
  | succ n ih =>
    show stp (stp (its n c)) = stp (its n c) ∨ (stp (its n c)).1.length + (n + 1) = c.1.length
    rcases ih with e | e
    · rw [e]
      exact .inl e
    · by_cases h : (its n c).1.getLast? = (its n c).2.getLast?
      · by_cases z : (its n c).1 = []
        · left
          have e2 : (its n c).2 = [] := by
            rw [z] at h
            exact List.getLast?_eq_none_iff.mp h.symm
          have e3 : its n c = ([], []) := Prod.ext z e2
          rw [e3]
          rfl
        · right
          have : (stp (its n c)).1 = (its n c).1.dropLast := by
            unfold stp
            rw [if_pos h]
          have p := List.length_pos_iff.mpr z
          rw [this, List.length_dropLast]
          omega
      · left
        rw [stp_ne h, stp_ne h]
theorem its_end {c : List Bool × List Bool} (h : c.2 ≠ []) : stp (its c.1.length c) = its c.1.length c := by
  rcases its_len (c := c) c.1.length with e | e
  · exact e
  · have z : (its c.1.length c).1 = [] := List.length_eq_zero_iff.mp (by omega)
    refine stp_ne ?_
    rw [z]
    intro k
    exact its_ring h _ (List.getLast?_eq_none_iff.mp k.symm)
theorem its_le (c : List Bool × List Bool) (n : Nat) : (its n c).1.length ≤ c.1.length ∧ (its n c).2.length = c.2.length := by
  induction n with
  | zero => exact ⟨Nat.le_refl _, rfl⟩
  | succ n ih =>
    show (stp (its n c)).1.length ≤ _ ∧ (stp (its n c)).2.length = _
    unfold stp
    split
    · rw [List.length_dropLast]
      exact ⟨by omega, by rw [rr_len]; exact ih.2⟩
    · exact ih
theorem its_sq (c : List Bool × List Bool) (n : Nat) : sq (its n c).1 (its n c).2 = sq c.1 c.2 := by
  induction n with
  | zero => rfl
  | succ n ih =>
    show sq (stp (its n c)).1 (stp (its n c)).2 = _
    rw [sq_stp, ih]
theorem its_prim {c : List Bool × List Bool} (h : Prim c.2) (n : Nat) : Prim (its n c).2 := by
  induction n with
  | zero => exact h
  | succ n ih => exact Prim.stp ih
/-- the least way of a course -/
def Lw (f w : List Bool) (c : List Bool × List Bool) : Prop := ∃ p, Least w p ∧ c = its f.length (f, w.take p)
theorem Lw.eq {f w : List Bool} {c d : List Bool × List Bool} (h : Lw f w c) (k : Lw f w d) : c = d := by
  obtain ⟨p, hp, rfl⟩ := h
  obtain ⟨q, hq, rfl⟩ := k
  rw [hp.eq hq]
theorem Lw.sq {f w : List Bool} {c : List Bool × List Bool} (h : Lw f w c) : sq c.1 c.2 = Lr.sq f w := by
  obtain ⟨p, hp, rfl⟩ := h
  rw [its_sq]
  exact sq_least hp f
theorem Lw.prim {f w : List Bool} {c : List Bool × List Bool} (h : Lw f w c) : Prim c.2 := by
  obtain ⟨p, hp, rfl⟩ := h
  exact its_prim hp.prim _
theorem Lw.fix {f w : List Bool} {c : List Bool × List Bool} (h : Lw f w c) : stp c = c := by
  obtain ⟨p, hp, rfl⟩ := h
  exact its_end (c := (f, w.take p)) hp.prim.1
theorem Lw.len {f w : List Bool} {c : List Bool × List Bool} (h : Lw f w c) : c.1.length ≤ f.length ∧ 1 ≤ c.2.length ∧ c.2.length ≤ w.length := by
  obtain ⟨p, hp, rfl⟩ := h
  obtain ⟨h1, h2⟩ := its_le (f, w.take p) f.length
  have p1 := hp.1
  have pn := hp.2.1
  have tl : (w.take p).length = p := by rw [List.length_take]; omega
  refine ⟨h1, ?_, ?_⟩
  · rw [h2]
    show 1 ≤ (w.take p).length
    omega
  · rw [h2]
    show (w.take p).length ≤ _
    omega
theorem Lw.self {f w : List Bool} {c : List Bool × List Bool} (h : Lw f w c) : Lw c.1 c.2 c := by
  refine ⟨c.2.length, h.prim.least, ?_⟩
  rw [List.take_length]
  exact (its_fix (i := 0) (c := (c.1, c.2)) h.fix c.1.length (Nat.zero_le _)).symm
/-! where a ring is found within two of them -/
theorem per_at {w : List Bool} {i : Nat} (hi : i ≤ w.length) : ((w ++ w).drop i).take w.length = w ↔ Per w i := by
  have key : ∀ j, j < w.length → (((w ++ w).drop i).take w.length)[j]? = w[(j + i) % w.length]? := fun j hj => by
    rw [List.getElem?_take_of_lt hj, List.getElem?_drop]
    by_cases h : i + j < w.length
    · rw [List.getElem?_append_left h, Nat.add_comm j i, Nat.mod_eq_of_lt h]
    · rw [List.getElem?_append_right (by omega), Nat.add_comm j i, Nat.mod_eq_sub_mod (by omega), Nat.mod_eq_of_lt (by omega)]
  constructor
  · intro e j hj
    rw [← key j hj, e]
  · intro h
    refine List.ext_getElem? fun j => ?_
    by_cases hj : j < w.length
    · rw [key j hj, h j hj]
    · rw [List.getElem?_eq_none (by rw [List.length_take]; omega), List.getElem?_eq_none (by omega)]
theorem at_per {w : List Bool} {i : Nat} : StrLaws.At (rd (w ++ w)) (rd w) (rd (w ++ w)).length i ↔ i ≤ w.length ∧ Per w i := by
  unfold StrLaws.At
  rw [rd_len, rd_len, List.length_append, StrLaws.subAt_eq, rd_cps, rd_cps, rd_len, ← List.map_drop, ← List.map_take]
  constructor
  · rintro ⟨h1, h2⟩
    refine ⟨by omega, (per_at (by omega)).mp ?_⟩
    exact List.map_inj_right (fun a b => sg_inj) |>.mp (eq_of_beq h2)
  · rintro ⟨h1, h2⟩
    refine ⟨by omega, ?_⟩
    rw [(per_at h1).mpr h2]
    exact beq_self_eq_true _
theorem find_ring {w : List Bool} (hw : w ≠ []) : ∃ p : Nat, Txt.find3 (rd (w ++ w)) (rd w) 1 = (p : Int) ∧ Least w p := by
  have n0 := List.length_pos_iff.mpr hw
  unfold Txt.find3
  have e : fromIndex (rd (w ++ w)).length 1 = 1 := rfl
  rw [e]
  rcases StrLaws.occ_head_from (rd (w ++ w)) (rd w) 1 1 (Nat.le_refl 1) with ⟨h0, hn⟩ | ⟨k, r, h0, hlo, hk, hn⟩
  · exact absurd (at_per.mpr ⟨Nat.le_refl _, per_len w⟩) (hn w.length n0)
  · rw [h0]
    obtain ⟨k1, k2⟩ := at_per.mp hk
    exact ⟨k, rfl, hlo, k1, k2, fun j j1 j2 h => hn j j1 j2 (at_per.mpr ⟨by omega, h⟩)⟩
/-! the last turn -/
def last1 (w : List Bool) : List Bool := match w.getLast? with
  | none => []
  | some t => [t]
theorem cut_last (w : List Bool) : cutS (rd w) (some (-1)) none = rd (last1 w) := by
  have e : HT.sIx w.length 0 (some (-1)) = w.length - 1 := by
    show (if (-1 : Int) < 0 then ((-1 : Int) + (w.length : Int)).toNat else min (-1 : Int).toNat w.length) = w.length - 1
    rw [if_pos (by decide)]
    omega
  rw [cut_rd, HT.sIx_none, e, List.take_of_length_le (by rw [List.length_drop]; omega)]
  congr 1
  unfold last1
  cases h : w.getLast? with
  | none =>
    rw [List.getLast?_eq_none_iff.mp h]
    rfl
  | some t =>
    obtain ⟨d, rfl⟩ := last_ex h
    simp
theorem last_eq {f l : List Bool} (hl : l ≠ []) : last1 f = last1 l ↔ f.getLast? = l.getLast? := by
  unfold last1
  cases h1 : l.getLast? with
  | none => exact absurd (List.getLast?_eq_none_iff.mp h1) hl
  | some t =>
    cases h2 : f.getLast? with
    | none => simp
    | some u => simp
theorem rr_last {l : List Bool} (hl : l ≠ []) : rr l = last1 l ++ l.dropLast := by
  unfold rr last1
  cases h1 : l.getLast? with
  | none => exact absurd (List.getLast?_eq_none_iff.mp h1) hl
  | some t => rfl
end Lr
namespace Lr
open PySem PySem.Spec PyProof.Rows L2
theorem at_last {w : List Bool} {t : Bool} (h : w.getLast? = some t) : atI (rd w).cps.toList (-1) = some (sg t) := by
  obtain ⟨d, rfl⟩ := last_ex h
  rw [rd_cps]
  unfold atI ixN
  rw [if_neg (by decide)]
  have len : ((d ++ [t]).map sg).length = d.length + 1 := by simp
  rw [len, if_pos (by omega)]
  show ((d ++ [t]).map sg)[((-1 : Int) + ((d.length + 1 : Nat) : Int)).toNat]? = _
  rw [show ((-1 : Int) + ((d.length + 1 : Nat) : Int)).toNat = d.length by omega]
  simp
theorem last_len {w : List Bool} {t : Bool} (h : w.getLast? = some t) : 1 ≤ w.length := by
  obtain ⟨d, rfl⟩ := last_ex h
  simp
theorem ifRd {u v : List Bool} {A B : Prop} (h1 : u = v → A) (h2 : u ≠ v → B) : if decide (V.str (rd u) = V.str (rd v)) = true then A else B := by
  by_cases h : u = v
  · rw [decide_eq_true (by rw [h])]
    exact iteT (h1 h)
  · rw [decide_eq_false (fun z => h (rd_inj (V.str.inj z)))]
    exact iteF (h2 h)
theorem ifRdN {u v : List Bool} {A B : Prop} (h1 : u ≠ v → A) (h2 : u = v → B) : if (!decide (V.str (rd u) = V.str (rd v))) = true then A else B := by
  by_cases h : u = v
  · rw [decide_eq_true (by rw [h])]
    exact iteF (h2 h)
  · rw [decide_eq_false (fun z => h (rd_inj (V.str.inj z)))]
    exact iteT (h1 h)
theorem ifNil {u : List Bool} {A B : Prop} (h1 : u = [] → A) (h2 : u ≠ [] → B) : if decide (V.str (rd u) = V.str ("" : Str)) = true then A else B := by
  rw [← rd_nil]
  exact ifRd h1 h2
theorem ifNilN {u : List Bool} {A B : Prop} (h1 : u ≠ [] → A) (h2 : u = [] → B) : if (!decide (V.str (rd u) = V.str ("" : Str))) = true then A else B := by
  rw [← rd_nil]
  exact ifRdN h1 h2
theorem least_ex {w : List Bool} (h : w ≠ []) : ∃ p, Least w p := by
  obtain ⟨p, _, l⟩ := find_ring h
  exact ⟨p, l⟩
/-- the text of a pair of roads -/
def pairD (f l : List Bool) : PyData := .tuple [.str (rd f), .str (rd l)]
theorem dp_pair {K : PySem.W.Frag} {H : Hp} {a : Addr} {f l : List Bool} (h : SqT K H a [.str (rd f), .str (rd l)]) : Dp K H (.ref a) (pairD f l) := .tup h (.cons (.str _) (.cons (.str _) .nil))
end Lr
namespace Lr
open PySem PySem.Spec PyProof.Rows L2
/-- an if statement as a whole, whose ways meet -/
theorem meetS {t : TT} {ta tb : TS} {D : Ends} {σ : L2.St} {H : Hp} (P : L2.St → Hp → Prop) (h : ∀ N : L2.St → Hp → Prop, (∀ σ' H', P σ' H' → N σ' H') → tIfS t ta tb { D with nx := N } σ H) (q : ∀ σ' H', P σ' H' → D.nx σ' H') : tIfS t ta tb D σ H := h D.nx q
theorem LR_at {r : Int} (h0 : 0 ≤ r) (h1 : r < 2) : ∃ t : Bool, atI ("LR" : Str).cps.toList r = some (sg t) := by
  have c : r = 0 ∨ r = 1 := by omega
  rcases c with rfl | rfl
  · exact ⟨false, by decide +kernel⟩
  · exact ⟨true, by decide +kernel⟩
end Lr
namespace Lr
open PySem PySem.Spec PyProof.Rows L2
theorem shw_rd {w : List Bool} (h : w.length ≤ 8000) : Shw (.str (rd w)) := by
  refine ⟨rfl, rfl, by show (0 : Nat) ≤ 60; omega, ?_, ?_⟩
  · show ((rd w).cps.toList.all fun c => decide (c < 16 ^ 8)) = true
    rw [rd_cps, List.all_map, List.all_eq_true]
    intro t _
    cases t <;> decide
  · show (rd w).cps.size ≤ 8000
    exact Nat.le_trans (Nat.le_of_eq (rd_len w)) h
theorem shw_pair {f l : List Bool} (h1 : f.length ≤ 3000) (h2 : l.length ≤ 3000) : Shw (pairD f l) := by
  have a := shw_rd (w := f) (by omega)
  have b := shw_rd (w := l) (by omega)
  refine ⟨rfl, rfl, ?_, ?_, ?_⟩
  · show max 0 (max 0 0) + 1 ≤ 60
    decide
  · show (PyData.leavesShort 2000 (.str (rd f)) && (PyData.leavesShort 2000 (.str (rd l)) && true)) = true
    rw [a.lv, b.lv]
    rfl
  · show (rd f).cps.size + 1 + ((rd l).cps.size + 1 + 0) ≤ 8000
    have e1 : (rd f).cps.size = f.length := rd_len f
    have e2 : (rd l).cps.size = l.length := rd_len l
    omega
/-- first turns -/
theorem take_sq {f l g m : List Bool} (hl : l ≠ []) (hm : m ≠ []) (e : sq f l = sq g m) (k : Nat) : (f ++ repR l k).take k = (g ++ repR m k).take k := by
  have len : ∀ (f l : List Bool), l ≠ [] → k ≤ (f ++ repR l k).length := fun f l hl => by
    have p := List.length_pos_iff.mpr hl
    rw [List.length_append, repR_len]
    have : k * 1 ≤ k * l.length := Nat.mul_le_mul_left k p
    omega
  refine List.ext_getElem? fun i => ?_
  by_cases hi : i < k
  · rw [List.getElem?_take_of_lt hi, List.getElem?_take_of_lt hi, sq_take f l hl (by omega), sq_take g m hm (by omega), e]
  · rw [List.getElem?_eq_none (by rw [List.length_take]; omega), List.getElem?_eq_none (by rw [List.length_take]; omega)]
end Lr

set_option exponentiation.threshold 5000
namespace Lr
open PySem PySem.Spec PyProof.Rows L2
/-- so many first turns -/
def ft (f l : List Bool) (n : Nat) : List Bool := (f ++ repR l n).take n
theorem sq_any {f l : List Bool} {r i : Nat} (h : i < f.length + r * l.length) : (f ++ repR l r)[i]? = sq f l i := by
  unfold sq
  split
  · rename_i hi
    rw [List.getElem?_append_left hi]
  · rename_i hi
    rw [List.getElem?_append_right (by omega), repR_at (by omega)]
theorem ft_any {f l : List Bool} {r n : Nat} (hl : l ≠ []) (h : n ≤ f.length + r * l.length) : (f ++ repR l r).take n = ft f l n := by
  have p := List.length_pos_iff.mpr hl
  have q : n * 1 ≤ n * l.length := Nat.mul_le_mul_left n p
  unfold ft
  refine List.ext_getElem? fun i => ?_
  by_cases hi : i < n
  · rw [List.getElem?_take_of_lt hi, List.getElem?_take_of_lt hi, sq_any (by omega), sq_any (by omega)]
  · rw [List.getElem?_eq_none (by rw [List.length_take]; omega), List.getElem?_eq_none (by rw [List.length_take]; omega)]
theorem ft_len {f l : List Bool} (hl : l ≠ []) (n : Nat) : (ft f l n).length = n := by
  have p := List.length_pos_iff.mpr hl
  have q : n * 1 ≤ n * l.length := Nat.mul_le_mul_left n p
  unfold ft
  rw [List.length_take, List.length_append, repR_len]
  omega
theorem ft_at {f l : List Bool} (hl : l ≠ []) {n i : Nat} (hi : i < n) : (ft f l n)[i]? = sq f l i := by
  have p := List.length_pos_iff.mpr hl
  have q : n * 1 ≤ n * l.length := Nat.mul_le_mul_left n p
  unfold ft
  rw [List.getElem?_take_of_lt hi, sq_any (by omega)]
theorem ft_take {f l : List Bool} (hl : l ≠ []) {n k : Nat} (h : n ≤ k) : (ft f l k).take n = ft f l n := by
  refine List.ext_getElem? fun i => ?_
  by_cases hi : i < n
  · rw [List.getElem?_take_of_lt hi, ft_at hl (by omega), ft_at hl hi]
  · rw [List.getElem?_eq_none (by rw [List.length_take]; omega), List.getElem?_eq_none (by rw [ft_len hl]; omega)]
theorem ft_eq {f l g m : List Bool} (hl : l ≠ []) (hm : m ≠ []) {n : Nat} : ft f l n = ft g m n ↔ ∀ i, i < n → sq f l i = sq g m i := by
  constructor
  · intro e i hi
    rw [← ft_at hl hi, e, ft_at hm hi]
  · intro h
    refine List.ext_getElem? fun i => ?_
    by_cases hi : i < n
    · rw [ft_at hl hi, ft_at hm hi, h i hi]
    · rw [List.getElem?_eq_none (by rw [ft_len hl]; omega), List.getElem?_eq_none (by rw [ft_len hm]; omega)]
theorem sq_per {f l : List Bool} (hl : l ≠ []) {i : Nat} (h : f.length ≤ i) : sq f l (i + l.length) = sq f l i := by
  unfold sq
  rw [if_neg (by omega), if_neg (by omega), show i + l.length - f.length = i - f.length + l.length by omega, Nat.add_mod_right]
/-- two rings that agree for as many turns as both have agree for ever -/
theorem agree_all {f l g m : List Bool} (hl : l ≠ []) (hm : m ≠ []) {M : Nat} (h1 : f.length ≤ M) (h2 : g.length ≤ M) (h : ∀ i, i < M + l.length + m.length → sq f l i = sq g m i) : ∀ i, sq f l i = sq g m i := by
  have p := List.length_pos_iff.mpr hl
  have q := List.length_pos_iff.mpr hm
  intro i
  induction i using Nat.strongRecOn with
  | ind i ih =>
    by_cases z : i < M + l.length + m.length
    · exact h i z
    · have e1 : sq f l i = sq f l (i - l.length) := by
        have := sq_per (f := f) hl (i := i - l.length) (by omega)
        rw [show i - l.length + l.length = i by omega] at this
        exact this
      have e2 : sq g m (i - l.length) = sq g m (i - l.length - m.length) := by
        have := sq_per (f := g) hm (i := i - l.length - m.length) (by omega)
        rw [show i - l.length - m.length + m.length = i - l.length by omega] at this
        exact this
      have e3 : sq f l (i - m.length) = sq f l (i - l.length - m.length) := by
        have := sq_per (f := f) hl (i := i - l.length - m.length) (by omega)
        rw [show i - l.length - m.length + l.length = i - m.length by omega] at this
        exact this
      have e4 : sq g m i = sq g m (i - m.length) := by
        have := sq_per (f := g) hm (i := i - m.length) (by omega)
        rw [show i - m.length + m.length = i by omega] at this
        exact this
      rw [e1, ih (i - l.length) (by omega), e2, ← ih (i - l.length - m.length) (by omega), ← e3, ih (i - m.length) (by omega), ← e4]
/-- the order of texts -/
def ltW (u v : List Bool) : Prop := u.map sg < v.map sg
instance (u v : List Bool) : Decidable (ltW u v) := inferInstanceAs (Decidable (u.map sg < v.map sg))
theorem lt_app {a b x y : List Nat} (h : a.length = b.length) (ne : a ≠ b) : a ++ x < b ++ y ↔ a < b := by
  induction a generalizing b with
  | nil =>
    cases b with
    | nil => exact absurd rfl ne
    | cons _ _ => cases h
  | cons c a ih =>
    cases b with
    | nil => cases h
    | cons d b =>
      have hl : a.length = b.length := Nat.succ.inj h
      rw [List.cons_append, List.cons_append, List.cons_lt_cons_iff, List.cons_lt_cons_iff]
      by_cases e : c = d
      · subst e
        have ne' : a ≠ b := fun z => ne (by rw [z])
        rw [ih hl ne']
      · constructor
        · rintro (z | z)
          · exact .inl z
          · exact absurd z.1 e
        · rintro (z | z)
          · exact .inl z
          · exact absurd z.1 e
theorem lt_irr (a : List Nat) : ¬ a < a := List.lt_irrefl a
theorem lt_asy {a b : List Nat} (h : a < b) : ¬ b < a := List.lt_asymm h
/-- the order of endless roads, by any number of turns that is enough -/
theorem ord_same {f l g m : List Bool} (hl : l ≠ []) (hm : m ≠ []) {M n k : Nat} (h1 : f.length ≤ M) (h2 : g.length ≤ M) (hn : M + l.length + m.length ≤ n) (hk : n ≤ k) : ltW (ft f l n) (ft g m n) ↔ ltW (ft f l k) (ft g m k) := by
  by_cases e : ft f l n = ft g m n
  · have all := agree_all hl hm h1 h2 fun i hi => (ft_eq hl hm).mp e i (by omega)
    have e2 : ft f l k = ft g m k := (ft_eq hl hm).mpr fun i _ => all i
    rw [e, e2]
    exact ⟨fun z => absurd z (lt_irr _), fun z => absurd z (lt_irr _)⟩
  · unfold ltW
    have d1 : ft f l k = ft f l n ++ (ft f l k).drop n := by rw [← ft_take hl hk, List.take_append_drop]
    have d2 : ft g m k = ft g m n ++ (ft g m k).drop n := by rw [← ft_take hm hk, List.take_append_drop]
    rw [d1, d2, List.map_append, List.map_append]
    refine (lt_app ?_ ?_).symm
    · rw [List.length_map, List.length_map, ft_len hl, ft_len hm]
    · intro z
      exact e (List.map_inj_right (fun a b => sg_inj) |>.mp z)
/-- -1, 0 or 1 -/
def ordW (u v : List Bool) : Int := if ltW u v then -1 else if ltW v u then 1 else 0
theorem ordW_int (u v : List Bool) : (if decide (ltW v u) = true then (1 : Int) else 0) - (if decide (ltW u v) = true then 1 else 0) = ordW u v := by
  unfold ordW
  by_cases h1 : ltW u v
  · have h2 : ¬ ltW v u := lt_asy h1
    rw [if_pos h1, decide_eq_true h1, decide_eq_false h2]
    rfl
  · rw [if_neg h1, decide_eq_false h1]
    by_cases h2 : ltW v u
    · rw [if_pos h2, decide_eq_true h2]
      rfl
    · rw [if_neg h2, decide_eq_false h2]
      rfl
theorem ordW_neg (u v : List Bool) : ordW v u = - ordW u v := by
  unfold ordW
  by_cases h1 : ltW u v
  · have h2 : ¬ ltW v u := lt_asy h1
    rw [if_pos h1, if_neg h2, if_pos h1]
    rfl
  · by_cases h2 : ltW v u
    · rw [if_pos h2, if_neg h1, if_pos h2]
    · rw [if_neg h2, if_neg h1, if_neg h1, if_neg h2]
      rfl
theorem ordW_sml (u v : List Bool) : Sml (ordW u v) := by
  unfold ordW
  split
  · show (1 : Nat) < 2 ^ 1900
    exact Nat.one_lt_two_pow (by decide)
  · split
    · show (1 : Nat) < 2 ^ 1900
      exact Nat.one_lt_two_pow (by decide)
    · exact Nat.pow_pos (by decide)
/-- both turns -/
def Both (w : List Bool) : Prop := false ∈ w ∧ true ∈ w
theorem in_rd {t : Bool} {w : List Bool} : sg t ∈ (rd w).cps.toList ↔ t ∈ w := by
  rw [rd_cps]
  constructor
  · intro h
    obtain ⟨u, hu, e⟩ := List.mem_map.mp h
    rw [sg_inj e] at hu
    exact hu
  · exact fun h => List.mem_map.mpr ⟨t, h, rfl⟩
theorem Both.ne {w : List Bool} (h : Both w) : w ≠ [] := fun z => by
  rw [z] at h
  exact absurd h.1 List.not_mem_nil
theorem str_L : ("L" : Str) = ⟨#[sg false]⟩ := by decide +kernel
theorem str_R : ("R" : Str) = ⟨#[sg true]⟩ := by decide +kernel
end Lr

set_option exponentiation.threshold 5000
namespace Lr
open PySem PySem.Spec PyProof.Rows L2
/-! squares of courses -/
def M4.adj (m : M4) : M4 := ⟨m.d, -m.b, -m.c, m.a⟩
/-- around the ring, moved to the beginning -/
def arnd (f w : List Bool) : M4 := ((mat f).mul (mat w)).mul (mat f).adj
/-- the three integers of a square, whatever divides them -/
structure T3 where
  (x y z : Int)
@[ext] theorem T3.ext' {s t : T3} (h1 : s.x = t.x) (h2 : s.y = t.y) (h3 : s.z = t.z) : s = t := by
  cases s; cases t; simp_all
def T3.l (t : T3) : List Int := [t.x, t.y, t.z]
def T3.sc (k : Int) (t : T3) : T3 := ⟨k * t.x, k * t.y, k * t.z⟩
def M4.tr3 (m : M4) : T3 := ⟨m.c, m.d - m.a, -m.b⟩
theorem adj_mul (m : M4) (h : m.det = 1) : m.adj.mul m = M4.one := by
  unfold M4.det at h
  unfold M4.adj M4.mul M4.one
  refine M4.ext ?_ ?_ ?_ ?_ <;> simp only [Int.neg_mul]
  · rw [Int.mul_comm m.d m.a]
    omega
  · rw [Int.mul_comm m.d m.b]
    omega
  · rw [Int.mul_comm m.c m.a]
    omega
  · rw [Int.mul_comm m.c m.b]
    omega
theorem mul_adj (m : M4) (h : m.det = 1) : m.mul m.adj = M4.one := by
  unfold M4.det at h
  unfold M4.adj M4.mul M4.one
  refine M4.ext ?_ ?_ ?_ ?_ <;> simp only [Int.mul_neg]
  · omega
  · rw [Int.mul_comm m.b m.a]
    omega
  · rw [Int.mul_comm m.d m.c]
    omega
  · rw [Int.mul_comm m.d m.a, Int.mul_comm m.c m.b]
    omega
theorem adj_prod (m n : M4) : (m.mul n).adj = n.adj.mul m.adj := by
  unfold M4.adj M4.mul
  refine M4.ext ?_ ?_ ?_ ?_ <;> simp only [Int.mul_neg, Int.neg_mul, Int.neg_neg]
  · rw [Int.mul_comm m.c n.b, Int.mul_comm m.d n.d]
    omega
  · rw [Int.mul_comm m.a n.b, Int.mul_comm m.b n.d]
    omega
  · rw [Int.mul_comm m.c n.a, Int.mul_comm m.d n.c]
    omega
  · rw [Int.mul_comm m.a n.a, Int.mul_comm m.b n.c]
    omega
def M4.tra (m : M4) : Int := m.a + m.d
theorem tra_comm (m n : M4) : (m.mul n).tra = (n.mul m).tra := by
  unfold M4.tra M4.mul
  show m.a * n.a + m.b * n.c + (m.c * n.b + m.d * n.d) = n.a * m.a + n.b * m.c + (n.c * m.b + n.d * m.d)
  rw [Int.mul_comm m.a, Int.mul_comm m.b, Int.mul_comm m.c, Int.mul_comm m.d]
  omega
theorem arnd_tra (f w : List Bool) : (arnd f w).tra = (mat w).tra := by
  unfold arnd
  rw [tra_comm, ← M4.mul_assoc, adj_mul _ (mat_det f), M4.one_mul]
theorem adj_det (m : M4) : m.adj.det = m.det := by
  unfold M4.adj M4.det
  simp only [Int.neg_mul_neg]
  rw [Int.mul_comm m.d, Int.mul_comm m.b]
theorem arnd_det (f w : List Bool) : (arnd f w).det = 1 := by
  unfold arnd
  rw [M4.det_mul, M4.det_mul, adj_det, mat_det, mat_det]
  rfl
/-- a turn of the ring that goes ahead -/
theorem arnd_on (f v : List Bool) (t : Bool) : arnd (f ++ [t]) (v ++ [t]) = arnd f (t :: v) := by
  unfold arnd
  rw [mat_app f [t], mat_app v [t], show t :: v = [t] ++ v from rfl, mat_app [t] v, adj_prod]
  generalize mat f = A
  generalize mat v = V
  have h := mat_det [t]
  generalize mat [t] = X at *
  calc ((A.mul X).mul (V.mul X)).mul (X.adj.mul A.adj) = ((A.mul (X.mul V)).mul (X.mul X.adj)).mul A.adj := by simp only [M4.mul_assoc]
    _ = (A.mul (X.mul V)).mul A.adj := by rw [mul_adj X h, M4.mul_one]
theorem arnd_twice (f w : List Bool) : arnd f (w ++ w) = (arnd f w).mul (arnd f w) := by
  unfold arnd
  rw [mat_app w w]
  have h := mat_det f
  generalize mat f = A at *
  generalize mat w = R
  calc (A.mul (R.mul R)).mul A.adj = ((A.mul R).mul (M4.one.mul R)).mul A.adj := by rw [M4.one_mul, M4.mul_assoc A R R]
    _ = ((A.mul R).mul ((A.adj.mul A).mul R)).mul A.adj := by rw [adj_mul A h]
    _ = ((A.mul R).mul A.adj).mul ((A.mul R).mul A.adj) := by simp only [M4.mul_assoc]
theorem arnd_ahead (u f w : List Bool) : arnd (u ++ f) w = ((mat u).mul (arnd f w)).mul (mat u).adj := by
  unfold arnd
  rw [mat_app, adj_prod]
  simp only [M4.mul_assoc]
theorem sq_tr3 (m : M4) : (m.mul m).tr3 = m.tr3.sc m.tra := by
  unfold M4.tr3 M4.mul T3.sc M4.tra
  refine T3.ext' ?_ ?_ ?_
  · show m.c * m.a + m.d * m.c = (m.a + m.d) * m.c
    rw [Int.add_mul, Int.mul_comm m.c m.a]
  · show m.c * m.b + m.d * m.d - (m.a * m.a + m.b * m.c) = (m.a + m.d) * (m.d - m.a)
    rw [Int.add_mul, Int.mul_sub, Int.mul_sub, Int.mul_comm m.c m.b, Int.mul_comm m.d m.a]
    omega
  · show -(m.a * m.b + m.b * m.d) = (m.a + m.d) * -m.b
    rw [Int.mul_neg, Int.add_mul, Int.mul_comm m.b m.d]
/-- more, less -/
theorem tr3_R (m : M4) : (((mat [true]).mul m).mul (mat [true]).adj).tr3 = ⟨m.tr3.x, m.tr3.y - 2 * m.tr3.x, m.tr3.x - m.tr3.y + m.tr3.z⟩ := by
  have e : mat [true] = ⟨1, 1, 0, 1⟩ := rfl
  rw [e]
  unfold M4.tr3 M4.mul M4.adj
  refine T3.ext' ?_ ?_ ?_ <;> simp <;> omega
theorem tr3_L (m : M4) : (((mat [false]).mul m).mul (mat [false]).adj).tr3 = ⟨m.tr3.x - m.tr3.y + m.tr3.z, m.tr3.y - 2 * m.tr3.z, m.tr3.z⟩ := by
  have e : mat [false] = ⟨1, 0, 1, 1⟩ := rfl
  rw [e]
  unfold M4.tr3 M4.mul M4.adj
  refine T3.ext' ?_ ?_ ?_ <;> simp <;> omega
/-- entries of a road with both turns -/
theorem mat_ge (w : List Bool) : 1 ≤ (mat w).a ∧ 1 ≤ (mat w).d ∧ (true ∈ w → 1 ≤ (mat w).b) ∧ (false ∈ w → 1 ≤ (mat w).c) := by
  induction w using snoc_ind with
  | h0 => exact ⟨by decide, by decide, fun h => absurd h List.not_mem_nil, fun h => absurd h List.not_mem_nil⟩
  | h1 l x ih =>
    obtain ⟨h1, h2, h3, h4⟩ := ih
    have nn := mat_nn l
    obtain ⟨n1, n2, n3, n4⟩ := nn
    rw [mat_snoc]
    cases x
    · refine ⟨by show 1 ≤ (mat l).a + (mat l).b; omega, h2, fun h => ?_, fun _ => by show 1 ≤ (mat l).c + (mat l).d; omega⟩
      simp at h
      exact h3 h
    · refine ⟨h1, by show 1 ≤ (mat l).c + (mat l).d; omega, fun _ => by show 1 ≤ (mat l).a + (mat l).b; omega, fun h => ?_⟩
      simp at h
      exact h4 h
theorem tra_both {w : List Bool} (h : Both w) : 3 ≤ (mat w).tra := by
  obtain ⟨h1, h2, h3, h4⟩ := mat_ge w
  have b := h3 h.2
  have c := h4 h.1
  have d := mat_det w
  unfold M4.det at d
  have p := Int.mul_pos (show 0 < (mat w).b by omega) (show 0 < (mat w).c by omega)
  unfold M4.tra
  by_cases z : (mat w).a + (mat w).d ≤ 2
  · have e1 : (mat w).a = 1 := by omega
    have e2 : (mat w).d = 1 := by omega
    rw [e1, e2] at d
    omega
  · omega
theorem arnd_ne {f w : List Bool} (h : Both w) : (arnd f w).tr3.x ≠ 0 := by
  intro z
  have z : (arnd f w).c = 0 := z
  have d := arnd_det f w
  have t := tra_both h
  rw [← arnd_tra f w] at t
  unfold M4.det at d
  unfold M4.tra at t
  rw [z, Int.mul_zero, Int.sub_zero] at d
  generalize (arnd f w).a = a at *
  generalize (arnd f w).d = e at *
  have u : a.natAbs * e.natAbs = 1 := by rw [← Int.natAbs_mul, d]; rfl
  have u1 := Nat.eq_one_of_mul_eq_one_right u
  have u2 := Nat.eq_one_of_mul_eq_one_left u
  omega
/-- the square without a common divisor, the first integer above 0 -/
def Nsq (t d : T3) : Prop := ∃ k : Int, k ≠ 0 ∧ t = d.sc k ∧ gl d.l = 1 ∧ 0 < d.x
theorem gl_sc (k : Int) (d : T3) : gl (d.sc k).l = k.natAbs * gl d.l := by
  show Nat.gcd (Nat.gcd (Nat.gcd 0 (k * d.x).natAbs) (k * d.y).natAbs) (k * d.z).natAbs = k.natAbs * Nat.gcd (Nat.gcd (Nat.gcd 0 d.x.natAbs) d.y.natAbs) d.z.natAbs
  simp only [Nat.gcd_zero_left, Int.natAbs_mul, Nat.gcd_mul_left]
theorem Nsq.eq {t d e : T3} (h : Nsq t d) (k : Nsq t e) : d = e := by
  obtain ⟨i, i0, hi, gi, pi⟩ := h
  obtain ⟨j, j0, hj, gj, pj⟩ := k
  have g := congrArg (fun z => gl (T3.l z)) (hi.symm.trans hj)
  simp only [gl_sc, gi, gj, Nat.mul_one] at g
  have ex : i * d.x = j * e.x := congrArg T3.x (hi.symm.trans hj)
  have ey : i * d.y = j * e.y := congrArg T3.y (hi.symm.trans hj)
  have ez : i * d.z = j * e.z := congrArg T3.z (hi.symm.trans hj)
  have ij : i = j := by
    rcases Int.natAbs_eq_natAbs_iff.mp g with z | z
    · exact z
    · exfalso
      rw [z, Int.neg_mul] at ex
      rcases Int.lt_trichotomy j 0 with s | s | s
      · have := Int.mul_neg_of_neg_of_pos s pi
        have := Int.mul_neg_of_neg_of_pos s pj
        omega
      · exact j0 s
      · have := Int.mul_pos s pi
        have := Int.mul_pos s pj
        omega
  subst ij
  exact T3.ext' (Int.eq_of_mul_eq_mul_left i0 ex) (Int.eq_of_mul_eq_mul_left i0 ey) (Int.eq_of_mul_eq_mul_left i0 ez)
theorem sc_sc (i j : Int) (d : T3) : (d.sc j).sc i = d.sc (i * j) := by
  unfold T3.sc
  simp only [Int.mul_assoc]
theorem Nsq.scale {t d : T3} {k : Int} (h : Nsq t d) (hk : k ≠ 0) : Nsq (t.sc k) d := by
  obtain ⟨i, i0, hi, gi, pi⟩ := h
  exact ⟨k * i, Int.mul_ne_zero hk i0, by rw [hi, sc_sc], gi, pi⟩
/-- unimodular changes of a square -/
def T3.up (t : T3) : T3 := ⟨t.x, t.y - 2 * t.x, t.x - t.y + t.z⟩
def T3.dn (t : T3) : T3 := ⟨t.x - t.y + t.z, t.y - 2 * t.z, t.z⟩
theorem up_dvd (t : T3) : gl t.up.l = gl t.l := by
  refine Nat.dvd_antisymm (gl_of_dvd _ _ fun x hx => ?_) (gl_of_dvd _ _ fun x hx => ?_)
  · have g := gl_dvd t.up.l
    have g1 : ((gl t.up.l : Nat) : Int) ∣ t.x := g t.x (by simp [T3.l, T3.up])
    have g2 : ((gl t.up.l : Nat) : Int) ∣ t.y - 2 * t.x := g _ (by simp [T3.l, T3.up])
    have g3 : ((gl t.up.l : Nat) : Int) ∣ t.x - t.y + t.z := g _ (by simp [T3.l, T3.up])
    have g4 : ((gl t.up.l : Nat) : Int) ∣ t.y := by
      have := Int.dvd_add g2 (Int.dvd_mul_of_dvd_right (b := 2) g1)
      rw [show t.y - 2 * t.x + 2 * t.x = t.y by omega] at this
      exact this
    have g5 : ((gl t.up.l : Nat) : Int) ∣ t.z := by
      have := Int.dvd_add (Int.dvd_sub g3 g1) g4
      rw [show t.x - t.y + t.z - t.x + t.y = t.z by omega] at this
      exact this
    simp only [T3.l, List.mem_cons, List.not_mem_nil, or_false] at hx
    rcases hx with rfl | rfl | rfl
    · exact g1
    · exact g4
    · exact g5
  · have g := gl_dvd t.l
    have g1 : ((gl t.l : Nat) : Int) ∣ t.x := g t.x (by simp [T3.l])
    have g2 : ((gl t.l : Nat) : Int) ∣ t.y := g t.y (by simp [T3.l])
    have g3 : ((gl t.l : Nat) : Int) ∣ t.z := g t.z (by simp [T3.l])
    simp only [T3.l, T3.up, List.mem_cons, List.not_mem_nil, or_false] at hx
    rcases hx with rfl | rfl | rfl
    · exact g1
    · exact Int.dvd_sub g2 (Int.dvd_mul_of_dvd_right g1)
    · exact Int.dvd_add (Int.dvd_sub g1 g2) g3
theorem rev_gl (t : T3) : gl (T3.mk t.z t.y t.x).l = gl t.l := by
  refine Nat.dvd_antisymm (gl_of_dvd _ _ fun x hx => gl_dvd _ x ?_) (gl_of_dvd _ _ fun x hx => gl_dvd _ x ?_)
  · simp only [T3.l, List.mem_cons, List.not_mem_nil, or_false] at hx ⊢
    rcases hx with rfl | rfl | rfl
    · exact .inr (.inr rfl)
    · exact .inr (.inl rfl)
    · exact .inl rfl
  · simp only [T3.l, List.mem_cons, List.not_mem_nil, or_false] at hx ⊢
    rcases hx with rfl | rfl | rfl
    · exact .inr (.inr rfl)
    · exact .inr (.inl rfl)
    · exact .inl rfl
theorem dn_dvd (t : T3) : gl t.dn.l = gl t.l := by
  have e : t.dn = T3.mk (T3.mk t.z t.y t.x).up.z (T3.mk t.z t.y t.x).up.y (T3.mk t.z t.y t.x).up.x := by
    unfold T3.dn T3.up
    refine T3.ext' ?_ rfl rfl
    show t.x - t.y + t.z = t.z - t.y + t.x
    omega
  rw [e, rev_gl, up_dvd, rev_gl]
/-- it is made by dividing -/
theorem nsq_div {t : T3} {s : Int} (hx : t.x ≠ 0) (hs : s = 1 ∧ 0 < t.x ∨ s = -1 ∧ t.x < 0) : Nsq t ⟨s * (t.x / (gl t.l : Int)), s * (t.y / (gl t.l : Int)), s * (t.z / (gl t.l : Int))⟩ := by
  have gp : 0 < gl t.l := gl_pos (x := t.x) (by simp [T3.l]) hx
  have d1 := Int.mul_ediv_cancel' (gl_dvd t.l t.x (by simp [T3.l]))
  have d2 := Int.mul_ediv_cancel' (gl_dvd t.l t.y (by simp [T3.l]))
  have d3 := Int.mul_ediv_cancel' (gl_dvd t.l t.z (by simp [T3.l]))
  have gg := lowl_gl gp
  have el : lowl t.l = (T3.mk (t.x / (gl t.l : Int)) (t.y / (gl t.l : Int)) (t.z / (gl t.l : Int))).l := rfl
  rw [el] at gg
  generalize t.x / (gl t.l : Int) = X at *
  generalize t.y / (gl t.l : Int) = Y at *
  generalize t.z / (gl t.l : Int) = Z at *
  have es : (T3.mk (s * X) (s * Y) (s * Z)) = (T3.mk X Y Z).sc s := rfl
  have sn : s.natAbs = 1 := by rcases hs with ⟨h, _⟩ | ⟨h, _⟩ <;> rw [h] <;> rfl
  have ss : s * s = 1 := by rcases hs with ⟨h, _⟩ | ⟨h, _⟩ <;> rw [h] <;> rfl
  refine ⟨s * (gl t.l : Int), ?_, ?_, ?_, ?_⟩
  · refine Int.mul_ne_zero ?_ (by omega)
    rcases hs with ⟨h, _⟩ | ⟨h, _⟩ <;> rw [h] <;> decide
  · rw [es, sc_sc]
    have e1 : s * (gl t.l : Int) * s = (gl t.l : Int) := by rw [Int.mul_comm s, Int.mul_assoc, ss, Int.mul_one]
    rw [e1]
    exact T3.ext' d1.symm d2.symm d3.symm
  · rw [es, gl_sc, sn, gg]
  · show 0 < s * X
    have gi : (0 : Int) < (gl t.l : Int) := by omega
    rcases hs with ⟨h, p⟩ | ⟨h, p⟩
    · rw [h, Int.one_mul]
      rw [← d1] at p
      refine Int.not_le.mp fun z => ?_
      have := Int.mul_nonneg (Int.le_of_lt gi) (show 0 ≤ -X by omega)
      rw [Int.mul_neg] at this
      omega
    · rw [h]
      rw [← d1] at p
      have : X < 0 := by
        refine Int.not_le.mp fun z => ?_
        have := Int.mul_nonneg (Int.le_of_lt gi) z
        omega
      omega
end Lr
namespace Lr
open PySem PySem.Spec PyProof.Rows L2
theorem nsq_sign {t e : T3} {k : Int} (hk : k ≠ 0) (ht : t = e.sc k) (ge : gl e.l = 1) (ex : e.x ≠ 0) : Nsq t (if e.x < 0 then e.sc (-1) else e) := by
  by_cases h : e.x < 0
  · rw [if_pos h]
    refine ⟨-k, by omega, ?_, by rw [gl_sc, ge]; rfl, ?_⟩
    · rw [sc_sc, ht, Int.neg_mul_neg, Int.mul_one]
    · show 0 < -1 * e.x
      omega
  · rw [if_neg h]
    exact ⟨k, hk, ht, ge, by omega⟩
theorem up_sc (k : Int) (d : T3) : (d.sc k).up = d.up.sc k := by
  unfold T3.up T3.sc
  refine T3.ext' rfl ?_ ?_
  · show k * d.y - 2 * (k * d.x) = k * (d.y - 2 * d.x)
    rw [Int.mul_sub, Int.mul_left_comm]
  · show k * d.x - k * d.y + k * d.z = k * (d.x - d.y + d.z)
    rw [Int.mul_add, Int.mul_sub]
theorem dn_sc (k : Int) (d : T3) : (d.sc k).dn = d.dn.sc k := by
  unfold T3.dn T3.sc
  refine T3.ext' ?_ ?_ rfl
  · show k * d.x - k * d.y + k * d.z = k * (d.x - d.y + d.z)
    rw [Int.mul_add, Int.mul_sub]
  · show k * d.y - 2 * (k * d.z) = k * (d.y - 2 * d.z)
    rw [Int.mul_sub, Int.mul_left_comm]
def sgn3 (e : T3) : T3 := if e.x < 0 then e.sc (-1) else e
/-- a turn R or L ahead -/
theorem nsq_R {f w : List Bool} {d : T3} (hb : Both w) (h : Nsq (arnd f w).tr3 d) : Nsq (arnd (true :: f) w).tr3 (sgn3 d.up) := by
  obtain ⟨k, k0, hk, gd, dx⟩ := h
  have e : (arnd (true :: f) w).tr3 = d.up.sc k := by
    rw [show true :: f = [true] ++ f from rfl, arnd_ahead, tr3_R, ← up_sc, ← hk]
    rfl
  refine nsq_sign k0 e (by rw [up_dvd, gd]) fun z => arnd_ne (f := true :: f) hb ?_
  rw [e]
  show k * d.up.x = 0
  rw [z, Int.mul_zero]
theorem nsq_L {f w : List Bool} {d : T3} (hb : Both w) (h : Nsq (arnd f w).tr3 d) : Nsq (arnd (false :: f) w).tr3 (sgn3 d.dn) := by
  obtain ⟨k, k0, hk, gd, dx⟩ := h
  have e : (arnd (false :: f) w).tr3 = d.dn.sc k := by
    rw [show false :: f = [false] ++ f from rfl, arnd_ahead, tr3_L, ← dn_sc, ← hk]
    rfl
  refine nsq_sign k0 e (by rw [dn_dvd, gd]) fun z => arnd_ne (f := false :: f) hb ?_
  rw [e]
  show k * d.dn.x = 0
  rw [z, Int.mul_zero]
theorem arnd_bd {f w : List Bool} (hf : f.length ≤ 70) (hw : w.length ≤ 20) : (∀ i ∈ (mat f).l, Bd 200 i) ∧ (∀ i ∈ (mat w).l, Bd 200 i) ∧ (∀ i ∈ ((mat f).mul (mat w)).l, Bd 200 i) ∧ (∀ i ∈ (mat f).adj.l, Bd 200 i) ∧ (∀ i ∈ (arnd f w).l, Bd 200 i) := by
  have b1 := bd_mat hf
  have b2 := bd_mat hw
  have mb : ∀ {m n : M4} {j k : Nat}, (∀ i ∈ m.l, Bd j i) → (∀ i ∈ n.l, Bd k i) → ∀ i ∈ (m.mul n).l, Bd (j + k + 1) i := fun {m n j k} hm hn i hi => by
    have ba := hm m.a (by simp [M4.l])
    have bb := hm m.b (by simp [M4.l])
    have bc := hm m.c (by simp [M4.l])
    have bd := hm m.d (by simp [M4.l])
    have ca := hn n.a (by simp [M4.l])
    have cb := hn n.b (by simp [M4.l])
    have cc := hn n.c (by simp [M4.l])
    have cd := hn n.d (by simp [M4.l])
    simp only [M4.l, M4.mul, List.mem_cons, List.not_mem_nil, or_false] at hi
    rcases hi with rfl | rfl | rfl | rfl
    · exact (ba.mul ca).add (bb.mul cc)
    · exact (ba.mul cb).add (bb.mul cd)
    · exact (bc.mul ca).add (bd.mul cc)
    · exact (bc.mul cb).add (bd.mul cd)
  have b3 := mb b1 b2
  have b4 : ∀ i ∈ (mat f).adj.l, Bd (70 + 1) i := fun i hi => by
    simp only [M4.l, M4.adj, List.mem_cons, List.not_mem_nil, or_false] at hi
    have ng : ∀ {x : Int}, Bd (70 + 1) x → Bd (70 + 1) (-x) := fun {x} h => by
      unfold Bd at *
      rw [Int.natAbs_neg]
      exact h
    rcases hi with rfl | rfl | rfl | rfl
    · exact b1 _ (by simp [M4.l])
    · exact ng (b1 _ (by simp [M4.l]))
    · exact ng (b1 _ (by simp [M4.l]))
    · exact b1 _ (by simp [M4.l])
  have b5 := mb b3 b4
  exact ⟨fun i hi => (b1 i hi).up (by decide), fun i hi => (b2 i hi).up (by decide), fun i hi => (b3 i hi).up (by decide), fun i hi => (b4 i hi).up (by decide), fun i hi => (b5 i hi).up (by decide)⟩
end Lr
namespace Lr
open PySem PySem.Spec PyProof.Rows L2
theorem arnd_gl (f w : List Bool) : gl (arnd f w).tr3.l = gl (mat w).tr3.l := by
  induction f with
  | nil =>
    have e : arnd [] w = mat w := by
      unfold arnd
      rw [show mat [] = M4.one from rfl, M4.one_mul, show M4.one.adj = M4.one from rfl, M4.mul_one]
    rw [e]
  | cons t f ih =>
    cases t
    · rw [show false :: f = [false] ++ f from rfl, arnd_ahead, tr3_L, ← ih]
      exact dn_dvd _
    · rw [show true :: f = [true] ++ f from rfl, arnd_ahead, tr3_R, ← ih]
      exact up_dvd _
theorem arnd_gl_lt {f w : List Bool} (hw : w.length ≤ 20) (hb : Both w) : gl (arnd f w).tr3.l < 2 ^ 22 := by
  rw [arnd_gl]
  have c := (mat_ge w).2.2.2 hb.1
  have le := gl_le (l := (mat w).tr3.l) (x := (mat w).c) (by simp [T3.l, M4.tr3]) (by omega)
  have b := bd_mat hw (mat w).c (by simp [M4.l])
  unfold Bd at b
  omega
theorem fdiv_neg_of {x g : Int} (h : g ∣ x) : x.fdiv (-g) = -1 * (x / g) := by
  rw [Int.fdiv_eq_ediv_of_dvd (Int.neg_dvd.mpr h), Int.ediv_neg]
  omega
end Lr
namespace Lr
open PySem PySem.Spec PyProof.Rows L2
theorem sq_on (f w : List Bool) (t : Bool) : sq (f ++ [t]) (w ++ [t]) = sq f (t :: w) := by
  have := sq_stp (f ++ [t], w ++ [t])
  rw [stp_snoc] at this
  exact this.symm
theorem sq_twice {f w : List Bool} (h : w ≠ []) : sq f (w ++ w) = sq f w := by
  have p := List.length_pos_iff.mpr h
  funext i
  unfold sq
  split
  · rfl
  · rw [List.length_append]
    have hm := Nat.mod_lt (i - f.length) (show 0 < w.length + w.length by omega)
    have e : (i - f.length) % (w.length + w.length) % w.length = (i - f.length) % w.length := Nat.mod_mod_of_dvd _ ⟨2, by omega⟩
    generalize (i - f.length) % (w.length + w.length) = k at *
    rw [← e]
    by_cases h1 : k < w.length
    · rw [List.getElem?_append_left h1, Nat.mod_eq_of_lt h1]
    · rw [List.getElem?_append_right (by omega), Nat.mod_eq_sub_mod (by omega), Nat.mod_eq_of_lt (by omega)]
/-- one course told in two ways -/
def Told (g m f w : List Bool) : Prop := sq g m = sq f w ∧ ∃ k : Int, 0 < k ∧ (arnd g m).tr3 = (arnd f w).tr3.sc k
theorem Told.refl (f w : List Bool) : Told f w f w := ⟨rfl, 1, by decide, by unfold T3.sc; simp only [Int.one_mul]⟩
theorem Told.on {g v f w : List Bool} {t : Bool} (h : Told g (t :: v) f w) : Told (g ++ [t]) (v ++ [t]) f w := by
  obtain ⟨e, k, k0, ek⟩ := h
  exact ⟨by rw [sq_on, e], k, k0, by rw [arnd_on, ek]⟩
theorem Told.twice {g m f w : List Bool} (h : Told g m f w) (b : Both m) : Told g (m ++ m) f w := by
  obtain ⟨e, k, k0, ek⟩ := h
  have t := tra_both b
  refine ⟨by rw [sq_twice b.ne, e], (mat m).tra * k, Int.mul_pos (by omega) k0, ?_⟩
  rw [arnd_twice, sq_tr3, arnd_tra, ek, sc_sc]
theorem Told.nsq {g m f w : List Bool} {d : T3} (h : Told g m f w) (n : Nsq (arnd f w).tr3 d) : Nsq (arnd g m).tr3 d := by
  obtain ⟨_, k, k0, ek⟩ := h
  rw [ek]
  exact n.scale (by omega)
end Lr
namespace Lr
open PySem PySem.Spec PyProof.Rows L2
theorem nsq_bd {t d : T3} {j : Nat} (h : Nsq t d) (b : ∀ i ∈ t.l, Bd j i) : ∀ i ∈ d.l, Bd j i := by
  obtain ⟨k, k0, hk, _, _⟩ := h
  have key : ∀ x : Int, Bd j (k * x) → Bd j x := fun x hx => by
    unfold Bd at *
    rw [Int.natAbs_mul] at hx
    have : 1 * x.natAbs ≤ k.natAbs * x.natAbs := Nat.mul_le_mul_right _ (by omega)
    omega
  rw [hk] at b
  intro i hi
  simp only [T3.l, List.mem_cons, List.not_mem_nil, or_false] at hi
  rcases hi with rfl | rfl | rfl
  · exact key _ (b _ (by simp [T3.l, T3.sc]))
  · exact key _ (b _ (by simp [T3.l, T3.sc]))
  · exact key _ (b _ (by simp [T3.l, T3.sc]))
theorem tr3_bd {m : M4} {k : Nat} (h : ∀ i ∈ m.l, Bd k i) : ∀ i ∈ m.tr3.l, Bd (k + 1) i := by
  intro i hi
  simp only [T3.l, M4.tr3, List.mem_cons, List.not_mem_nil, or_false] at hi
  rcases hi with rfl | rfl | rfl
  · exact (h _ (by simp [M4.l])).up (by omega)
  · exact (h _ (by simp [M4.l])).sub (h _ (by simp [M4.l]))
  · have := h m.b (by simp [M4.l])
    unfold Bd at *
    rw [Int.natAbs_neg, Nat.pow_succ]
    omega
theorem sgn_neg {e : T3} (h : e.x < 0) : (sgn3 e).l = [-e.x, -e.y, -e.z] := by
  unfold sgn3
  rw [if_pos h]
  show [-1 * e.x, -1 * e.y, -1 * e.z] = _
  simp only [Int.neg_mul, Int.one_mul]
theorem sgn_pos {e : T3} (h : ¬ e.x < 0) : (sgn3 e).l = e.l := by
  unfold sgn3
  rw [if_neg h]
end Lr

set_option exponentiation.threshold 5000
namespace Lr
open PySem PySem.Spec PyProof.Rows L2
/-! texts that are no roads -/
def IsRd (t : Str) : Prop := ∃ w, t = rd w
/-- no road (0), no ring (1), no ring with both turns (2) -/
def OddT (p : Str × Nat) : Prop := ¬ IsRd p.1 ∨ (0 < p.2 ∧ p.1 = ("" : Str)) ∨ (1 < p.2 ∧ ¬ (76 ∈ p.1.cps.toList ∧ 82 ∈ p.1.cps.toList))
open Classical in
/-- the first odd one -/
noncomputable def Fo : List (Str × Nat) → Option Str
  | [] => none
  | p :: l => if OddT p then some p.1 else Fo l
theorem fo_yes {p : Str × Nat} {l : List (Str × Nat)} (h : OddT p) : Fo (p :: l) = some p.1 := by
  unfold Fo
  exact if_pos h
theorem fo_no {p : Str × Nat} {l : List (Str × Nat)} (h : ¬ OddT p) : Fo (p :: l) = Fo l := by
  conv => lhs; unfold Fo
  exact if_neg h
theorem fo_none {p : Str × Nat} {l : List (Str × Nat)} (h : Fo (p :: l) = none) : ¬ OddT p ∧ Fo l = none := by
  by_cases c : OddT p
  · rw [fo_yes c] at h
    cases h
  · exact ⟨c, by rw [fo_no c] at h; exact h⟩
theorem odd_0 {t : Str} : OddT (t, 0) ↔ ¬ IsRd t := ⟨fun h => by
  rcases h with h | h | h
  · exact h
  · exact absurd h.1 (by show ¬ 0 < 0; decide)
  · exact absurd h.1 (by show ¬ 1 < 0; decide), fun h => .inl h⟩
theorem rd_empty : ("" : Str) = rd [] := by decide +kernel
theorem rd_eq_empty {w : List Bool} : rd w = ("" : Str) ↔ w = [] := by
  rw [rd_empty]
  exact ⟨fun h => rd_inj h, fun h => by rw [h]⟩
theorem both_rd {w : List Bool} : (76 ∈ (rd w).cps.toList ∧ 82 ∈ (rd w).cps.toList) ↔ Both w := by
  rw [rd_cps]
  constructor
  · rintro ⟨h1, h2⟩
    obtain ⟨b, hb, e⟩ := List.mem_map.mp h1
    obtain ⟨c, hc, e2⟩ := List.mem_map.mp h2
    refine ⟨?_, ?_⟩
    · cases b
      · exact hb
      · exact absurd e (by decide)
    · cases c
      · exact absurd e2 (by decide)
      · exact hc
  · rintro ⟨h1, h2⟩
    exact ⟨List.mem_map.mpr ⟨_, h1, rfl⟩, List.mem_map.mpr ⟨_, h2, rfl⟩⟩
theorem odd_1 {w : List Bool} : OddT (rd w, 1) ↔ w = [] := ⟨fun h => by
  rcases h with h | h | h
  · exact absurd ⟨w, rfl⟩ h
  · exact rd_eq_empty.mp h.2
  · exact absurd h.1 (by show ¬ 1 < 1; decide), fun h => .inr (.inl ⟨by show 0 < 1; decide, rd_eq_empty.mpr h⟩)⟩
theorem odd_2 {w : List Bool} : OddT (rd w, 2) ↔ ¬ Both w := ⟨fun h => by
  rcases h with h | h | h
  · exact absurd ⟨w, rfl⟩ h
  · exact fun b => b.ne (rd_eq_empty.mp h.2)
  · exact fun b => h.2 (both_rd.mpr b), fun h => .inr (.inr ⟨by show 1 < 2; decide, fun b => h (both_rd.mp b)⟩)⟩
/-- an error with a value is raised -/
def Rs (K : PySem.W.Frag) (H : Hp) (E : XK) (x : Str) (v : V) : Prop := ∀ H1, Same H H1 → ∀ C d, PySem.W.nsIn K mainGlobals x = some (some (.ref C)) → H1 d = none → E (.ref C) (some d) (L2.upd H1 d (.xd [("value", v)]))
theorem Rs.same {K : PySem.W.Frag} {H H' : Hp} {E : XK} {x : Str} {v : V} (h : Rs K H E x v) (s : Same H H') : Rs K H' E x v := fun H1 s1 => h H1 (s.trans s1)
theorem Rs.now {K : PySem.W.Frag} {H : Hp} {E : XK} {x : Str} {v : V} (h : Rs K H E x v) {C d : Addr} (hC : PySem.W.nsIn K mainGlobals x = some (some (.ref C))) (hd : H d = none) : E (.ref C) (some d) (L2.upd H d (.xd [("value", v)])) := h H (L2.Same.refl H) C d hC hd
theorem isrd_of {t : Str} (h : ∀ x ∈ t.cps.toList, x = 76 ∨ x = 82) : IsRd t := by
  refine ⟨t.cps.toList.map fun x => decide (x = 82), str_ext ?_⟩
  rw [rd_cps, List.map_map]
  refine (List.map_id _).symm.trans (List.map_congr_left fun x hx => ?_)
  rcases h x hx with rfl | rfl <;> rfl
/-- signs that there are -/
def Sok (t : Str) : Prop := ∀ c ∈ t.cps.toList, c < 1114112
theorem rd_sok (w : List Bool) : Sok (rd w) := fun c hc => by
  rw [rd_cps] at hc
  obtain ⟨b, _, rfl⟩ := List.mem_map.mp hc
  cases b <;> decide
theorem app_sok {x y : Str} (hx : Sok x) (hy : Sok y) : Sok (x ++ y) := fun c hc => by
  have e : (x ++ y).cps.toList = x.cps.toList ++ y.cps.toList := by
    show (x.cps ++ y.cps).toList = _
    simp
  rw [e] at hc
  rcases List.mem_append.mp hc with h | h
  · exact hx c h
  · exact hy c h
/-- signs as texts -/
def sgT (c : Nat) : Str := ⟨#[c]⟩
def sgD (l : List Nat) : List PyData := l.map fun c => .str (sgT c)
theorem dp_sg {K : PySem.W.Frag} {H : Hp} : ∀ l : List Nat, DpAll K H (l.map fun c => V.str (sgT c)) (sgD l)
  | [] => .nil
  | c :: l => .cons (.str _) (dp_sg l)
theorem sg_lay : ∀ l : List Nat, (∀ c ∈ l, c < 1114112) → PyData.canLayAll0 (sgD l) = true ∧ PyData.depthAll (sgD l) = 0
  | [], _ => ⟨rfl, rfl⟩
  | c :: l, h => by
    obtain ⟨h1, h2⟩ := sg_lay l fun x hx => h x (List.mem_cons_of_mem _ hx)
    have hc := h c List.mem_cons_self
    constructor
    · show (PyData.strOk (sgT c) && PyData.canLayAll0 (sgD l)) = true
      rw [h1]
      have e : PyData.strOk (sgT c) = decide (c < 1114112) := by
        show (#[c] : Array Nat).all (fun x => decide (x < 0x110000)) = _
        simp
      rw [e, decide_eq_true hc]
      rfl
    · show max 0 (PyData.depthAll (sgD l)) = 0
      rw [h2]
      rfl
theorem sg_shaped {l : List Nat} (h : ∀ c ∈ l, c < 1114112) : SeqAt.shaped (.list (sgD l)) = true := by
  obtain ⟨h1, h2⟩ := sg_lay l h
  show (PyData.canLayAll0 (sgD l) && decide (PyData.depthAll (sgD l) + 1 ≤ 64)) = true
  rw [h1, h2]
  rfl
theorem sg_eqv (l : List Nat) : PyData.eqv (.list (sgD l)) (.list []) = decide (l = []) := by
  cases l with
  | nil => rfl
  | cons c l => rfl
def FracP (x y : Int) : Prop := 1 ≤ x ∧ 1 ≤ y ∧ Nat.gcd x.natAbs y.natAbs = 1
/-- the texts that a question is asked about, with what is wanted of them -/
def itemsV (way : Nat) (t0 t1 t2 t3 : Str) : List (Str × Nat) := match way with
  | 0 => [(t0, 0)]
  | 1 => []
  | 2 => [(t0, 0), (t1, 0)]
  | 3 => [(t0, 0), (t1, 1)]
  | 4 => [(t0, 0), (t1, 2), (t2, 0), (t3, 2)]
  | 5 => [(t0, 0), (t1, 1)]
  | _ => [(t0, 0), (t1, 2)]
open Classical in
/-- what is due: a rank and a value -/
noncomputable def dueV (way : Nat) (t0 t1 t2 t3 : Str) (p : Addr) (x y many : Int) : Option (Nat × V) := match Fo (itemsV way t0 t1 t2 t3) with
  | some t => some (0, .str t)
  | none => if way = 1 ∧ ¬ FracP x y then some (1, .ref p) else if way = 5 ∧ many < 0 then some (5, .int many) else none
/-- a list of texts that are looked at: tuples of a text and a number -/
def Parts (H : Hp) (L : Addr) (ps : List (Addr × Str × Nat)) : Prop := H L = some (.lst (ps.map fun p => .ref p.1)) ∧ ∀ p ∈ ps, H p.1 = some (.tup [.str p.2.1, .int (p.2.2 : Nat)])
theorem Parts.same {H H' : Hp} {L : Addr} {ps : List (Addr × Str × Nat)} (h : Parts H L ps) (s : Same H H') : Parts H' L ps := ⟨s _ _ h.1, fun p hp => s _ _ (h.2 p hp)⟩
theorem Parts.upd {H : Hp} {L M : Addr} {ps : List (Addr × Str × Nat)} {xs ys : List V} (h : Parts H L ps) (hM : H M = some (.lst xs)) (n : L ≠ M) : Parts (L2.upd H M (.lst ys)) L ps :=
  ⟨by rw [upd_ne n]; exact h.1, fun p hp => by
    rw [upd_ne]
    · exact h.2 p hp
    · intro z
      have := h.2 p hp
      rw [z, hM] at this
      cases this⟩
/-- the list that tells an odd text -/
def OddL (H : Hp) (r : Addr) : Option Str → Prop
  | none => H r = some (.lst [])
  | some t => H r = some (.lst [.str t])
/-- the list that tells what is due -/
def DueL (H : Hp) (r : Addr) : Option (Nat × V) → Prop
  | none => H r = some (.lst [])
  | some (k, v) => H r = some (.lst [.int (k : Nat), v])
theorem fo_mem : ∀ {l : List (Str × Nat)} {t : Str}, Fo l = some t → ∃ z ∈ l, z.1 = t
  | [], t, h => nomatch h
  | p :: l, t, h => by
    by_cases c : OddT p
    · rw [fo_yes c] at h
      exact ⟨p, List.mem_cons_self, Option.some.inj h⟩
    · rw [fo_no c] at h
      obtain ⟨z, hz, e⟩ := fo_mem h
      exact ⟨z, List.mem_cons_of_mem _ hz, e⟩
theorem str_ok {t : Str} (h : Sok t) : PyData.strOk t = true := by
  show t.cps.all (fun x => decide (x < 0x110000)) = true
  rw [Array.all_eq_true]
  intro i hi
  exact decide_eq_true (h _ (by simp))
theorem str_shaped {t : Str} (h : Sok t) : SeqAt.shaped (.list [.str t]) = true := by
  show ((PyData.strOk t && true) && decide (max 0 0 + 1 ≤ 64)) = true
  rw [str_ok h]
  rfl
/-- the class of a rank -/
def errN (k : Nat) : Str := match k with
  | 0 => "InvalidRoad"
  | 1 => "InvalidFraction"
  | _ => "InvalidNumber"
section
variable {way : Nat} {t0 t1 t2 t3 : Str} {p : Addr} {x y many : Int}
theorem due_odd {t : Str} (h : Fo (itemsV way t0 t1 t2 t3) = some t) : dueV way t0 t1 t2 t3 p x y many = some (0, .str t) := by
  unfold dueV
  rw [h]
theorem due_none (h : Fo (itemsV way t0 t1 t2 t3) = none) (h1 : ¬ (way = 1 ∧ ¬ FracP x y)) (h2 : ¬ (way = 5 ∧ many < 0)) : dueV way t0 t1 t2 t3 p x y many = none := by
  unfold dueV
  rw [h]
  exact (if_neg h1).trans (if_neg h2)
theorem due_frac (h : ¬ FracP x y) : dueV 1 t0 t1 t2 t3 p x y many = some (1, .ref p) := by
  unfold dueV
  exact if_pos ⟨rfl, h⟩
theorem due_num (h : Fo (itemsV 5 t0 t1 t2 t3) = none) (m : many < 0) : dueV 5 t0 t1 t2 t3 p x y many = some (5, .int many) := by
  unfold dueV
  rw [h]
  exact (if_neg (fun z => absurd z.1 (by decide))).trans (if_pos ⟨rfl, m⟩)
end
theorem shw_txt {t : Str} (h : Sok t) (l : t.length ≤ 8000) : Shw (.str t) := by
  refine ⟨rfl, rfl, (by show (0 : Nat) ≤ 60; omega), ?_, ?_⟩
  · show (t.cps.toList.all fun c => decide (c < 16 ^ 8)) = true
    exact List.all_eq_true.mpr fun c hc => decide_eq_true (Nat.lt_trans (h c hc) (by decide))
  · show t.cps.size ≤ 8000
    exact l
/-- where the ways of a statement meet -/
theorem meetSeq {t u : TS} {D : Ends} {σ : L2.St} {H : Hp} (P : L2.St → Hp → Prop) (h : ∀ N : L2.St → Hp → Prop, (∀ σ' H', P σ' H' → N σ' H') → t { D with nx := N } σ H) (q : ∀ σ' H', P σ' H' → u D σ' H') : tSeq t u D σ H := h (u D) q
theorem asgSeq {u : TS} {D : Ends} {σ : L2.St} {H : Hp} {v : V} {i : Nat} (h : u D (σ.set i (some v)) H) : tSeq (tAsg (tC v) (gName i)) u D σ H := h
theorem due_shaped {k : Int} {dat : PyData} (h : PyData.canLay0 dat = true ∧ dat.depth ≤ 60) : SeqAt.shaped (.list [.int k, dat]) = true := by
  show ((true && (PyData.canLay0 dat && true)) && decide (max 0 (max dat.depth 0) + 1 ≤ 64)) = true
  rw [h.1]
  have := h.2
  rw [decide_eq_true (by omega)]
  rfl
end Lr

namespace Lr
open PySem PySem.Spec PyProof.Rows L2
def top (i : Nat) : Stmt := PySem.Challenge.pw_leftroads_k07_no_roads_no_courses.main.body.getD i (.Pass ⟨0, 0, 0, 0⟩)
abbrev s__law_purse : Stmt := top 35
abbrev n__law_purse : List Str := ["script", "place", "cell"]
theorem sc__law_purse : FnScope n__law_purse ["script", "place"] (defScope s__law_purse) := ⟨rfl, rfl, rfl, by decide +kernel, rfl, by decide +kernel, by decide +kernel⟩
abbrev s__law_rt_first_odd : Stmt := top 45
abbrev n__law_rt_first_odd : List Str := ["parts", "wording", "style", "sign", "odd"]
theorem sc__law_rt_first_odd : FnScope n__law_rt_first_odd ["parts"] (defScope s__law_rt_first_odd) := ⟨rfl, rfl, rfl, by decide +kernel, rfl, by decide +kernel, by decide +kernel⟩
abbrev s__law_rt_shared : Stmt := top 37
abbrev n__law_rt_shared : List Str := ["numbers", "found", "count", "left"]
theorem sc__law_rt_shared : FnScope n__law_rt_shared ["numbers"] (defScope s__law_rt_shared) := ⟨rfl, rfl, rfl, by decide +kernel, rfl, by decide +kernel, by decide +kernel⟩
abbrev s__law_rt_is_pair : Stmt := top 47
abbrev n__law_rt_is_pair : List Str := ["pair"]
theorem sc__law_rt_is_pair : FnScope n__law_rt_is_pair ["pair"] (defScope s__law_rt_is_pair) := ⟨rfl, rfl, rfl, by decide +kernel, rfl, by decide +kernel, by decide +kernel⟩
abbrev s__law_due : Stmt := top 48
abbrev n__law_due : List Str := ["way", "words", "pair", "many", "menu", "odd"]
theorem sc__law_due : FnScope n__law_due ["way", "words", "pair", "many"] (defScope s__law_due) := ⟨rfl, rfl, rfl, by decide +kernel, rfl, by decide +kernel, by decide +kernel⟩
abbrev s__law_coin : Stmt := top 36
abbrev n__law_coin : List Str := ["purse", "many", "drawn", "stirred"]
theorem sc__law_coin : FnScope n__law_coin ["purse", "many"] (defScope s__law_coin) := ⟨rfl, rfl, rfl, by decide +kernel, rfl, by decide +kernel, by decide +kernel⟩
abbrev s__law_rt_odd_way : Stmt := top 44
abbrev n__law_rt_odd_way : List Str := ["purse", "wording", "wide", "spot", "sign"]
theorem sc__law_rt_odd_way : FnScope n__law_rt_odd_way ["purse", "wording"] (defScope s__law_rt_odd_way) := ⟨rfl, rfl, rfl, by decide +kernel, rfl, by decide +kernel, by decide +kernel⟩
abbrev s__law_rt_ends : Stmt := top 39
abbrev n__law_rt_ends : List Str := ["wording", "low", "high", "sign", "middle"]
theorem sc__law_rt_ends : FnScope n__law_rt_ends ["wording"] (defScope s__law_rt_ends) := ⟨rfl, rfl, rfl, by decide +kernel, rfl, by decide +kernel, by decide +kernel⟩
abbrev s__law_rt_worth : Stmt := top 40
abbrev n__law_rt_worth : List Str := ["wording", "low", "high"]
theorem sc__law_rt_worth : FnScope n__law_rt_worth ["wording"] (defScope s__law_rt_worth) := ⟨rfl, rfl, rfl, by decide +kernel, rfl, by decide +kernel, by decide +kernel⟩
abbrev s__law_rt_fraction : Stmt := top 41
abbrev n__law_rt_fraction : List Str := ["purse", "top", "found", "step", "sign", "longer"]
theorem sc__law_rt_fraction : FnScope n__law_rt_fraction ["purse", "top"] (defScope s__law_rt_fraction) := ⟨rfl, rfl, rfl, by decide +kernel, rfl, by decide +kernel, by decide +kernel⟩
abbrev s__law_rt_odd_pair : Stmt := top 46
abbrev n__law_rt_odd_pair : List Str := ["purse", "menu", "pair", "many", "style"]
theorem sc__law_rt_odd_pair : FnScope n__law_rt_odd_pair ["purse"] (defScope s__law_rt_odd_pair) := ⟨rfl, rfl, rfl, by decide +kernel, rfl, by decide +kernel, by decide +kernel⟩
abbrev s__law_rt_kind : Stmt := top 43
abbrev n__law_rt_kind : List Str := ["caught", "rank", "worth", "kinds", "spot"]
theorem sc__law_rt_kind : FnScope n__law_rt_kind ["caught", "rank", "worth"] (defScope s__law_rt_kind) := ⟨rfl, rfl, rfl, by decide +kernel, rfl, by decide +kernel, by decide +kernel⟩
abbrev s__law_rt_way : Stmt := top 38
abbrev n__law_rt_way : List Str := ["purse", "top", "found", "step"]
theorem sc__law_rt_way : FnScope n__law_rt_way ["purse", "top"] (defScope s__law_rt_way) := ⟨rfl, rfl, rfl, by decide +kernel, rfl, by decide +kernel, by decide +kernel⟩
abbrev s_is_road : Stmt := top 15
abbrev n_is_road : List Str := ["text"]
theorem sc_is_road : FnScope n_is_road ["text"] (defScope s_is_road) := ⟨rfl, rfl, rfl, by decide +kernel, rfl, by decide +kernel, by decide +kernel⟩
abbrev s_check_road : Stmt := top 16
abbrev n_check_road : List Str := ["road"]
theorem sc_check_road : FnScope n_check_road ["road"] (defScope s_check_road) := ⟨rfl, rfl, rfl, by decide +kernel, rfl, by decide +kernel, by decide +kernel⟩
abbrev s_check_course : Stmt := top 17
abbrev n_check_course : List Str := ["told", "ahead", "ring"]
theorem sc_check_course : FnScope n_check_course ["told"] (defScope s_check_course) := ⟨rfl, rfl, rfl, by decide +kernel, rfl, by decide +kernel, by decide +kernel⟩
abbrev s_check_turning_course : Stmt := top 18
abbrev n_check_turning_course : List Str := ["told", "ring"]
theorem sc_check_turning_course : FnScope n_check_turning_course ["told"] (defScope s_check_turning_course) := ⟨rfl, rfl, rfl, by decide +kernel, rfl, by decide +kernel, by decide +kernel⟩
abbrev s_matrix_of : Stmt := top 24
abbrev n_matrix_of : List Str := ["road", "a", "b", "c", "d", "turn"]
theorem sc_matrix_of : FnScope n_matrix_of ["road"] (defScope s_matrix_of) := ⟨rfl, rfl, rfl, by decide +kernel, rfl, by decide +kernel, by decide +kernel⟩
abbrev s_times : Stmt := top 23
abbrev n_times : List Str := ["one", "other", "a", "b", "c", "d", "e", "f", "g", "h"]
theorem sc_times : FnScope n_times ["one", "other"] (defScope s_times) := ⟨rfl, rfl, rfl, by decide +kernel, rfl, by decide +kernel, by decide +kernel⟩
abbrev s_square_of : Stmt := top 33
abbrev n_square_of : List Str := ["told", "ahead", "ring", "a", "b", "c", "d", "round_way", "e", "f", "g", "h", "divisor"]
theorem sc_square_of : FnScope n_square_of ["told"] (defScope s_square_of) := ⟨rfl, rfl, rfl, by decide +kernel, rfl, by decide +kernel, by decide +kernel⟩
abbrev s_number_of : Stmt := top 26
abbrev n_number_of : List Str := ["road", "a", "b", "c", "d"]
theorem sc_number_of : FnScope n_number_of ["road"] (defScope s_number_of) := ⟨rfl, rfl, rfl, by decide +kernel, rfl, by decide +kernel, by decide +kernel⟩
abbrev s_is_fraction : Stmt := top 19
abbrev n_is_fraction : List Str := ["fraction", "above", "below"]
theorem sc_is_fraction : FnScope n_is_fraction ["fraction"] (defScope s_is_fraction) := ⟨rfl, rfl, rfl, by decide +kernel, rfl, by decide +kernel, by decide +kernel⟩
abbrev s_check_fraction : Stmt := top 20
abbrev n_check_fraction : List Str := ["fraction"]
theorem sc_check_fraction : FnScope n_check_fraction ["fraction"] (defScope s_check_fraction) := ⟨rfl, rfl, rfl, by decide +kernel, rfl, by decide +kernel, by decide +kernel⟩
abbrev s_road_of : Stmt := top 27
abbrev n_road_of : List Str := ["fraction", "above", "below", "runs", "many"]
theorem sc_road_of : FnScope n_road_of ["fraction"] (defScope s_road_of) := ⟨rfl, rfl, rfl, by decide +kernel, rfl, by decide +kernel, by decide +kernel⟩
abbrev s_order_of : Stmt := top 29
abbrev n_order_of : List Str := ["one", "other"]
theorem sc_order_of : FnScope n_order_of ["one", "other"] (defScope s_order_of) := ⟨rfl, rfl, rfl, by decide +kernel, rfl, by decide +kernel, by decide +kernel⟩
abbrev s_compare : Stmt := top 28
abbrev n_compare : List Str := ["one", "other", "above", "below", "other_above", "other_below"]
theorem sc_compare : FnScope n_compare ["one", "other"] (defScope s_compare) := ⟨rfl, rfl, rfl, by decide +kernel, rfl, by decide +kernel, by decide +kernel⟩
abbrev s_course : Stmt := top 30
abbrev n_course : List Str := ["ahead", "ring"]
theorem sc_course : FnScope n_course ["ahead", "ring"] (defScope s_course) := ⟨rfl, rfl, rfl, by decide +kernel, rfl, by decide +kernel, by decide +kernel⟩
abbrev s_check_from_zero : Stmt := top 21
abbrev n_check_from_zero : List Str := ["number"]
theorem sc_check_from_zero : FnScope n_check_from_zero ["number"] (defScope s_check_from_zero) := ⟨rfl, rfl, rfl, by decide +kernel, rfl, by decide +kernel, by decide +kernel⟩
abbrev s_turns_of : Stmt := top 32
abbrev n_turns_of : List Str := ["told", "number", "ahead", "ring", "rounds"]
theorem sc_turns_of : FnScope n_turns_of ["told", "number"] (defScope s_turns_of) := ⟨rfl, rfl, rfl, by decide +kernel, rfl, by decide +kernel, by decide +kernel⟩
abbrev s_compare_courses : Stmt := top 31
abbrev n_compare_courses : List Str := ["one", "other", "number"]
theorem sc_compare_courses : FnScope n_compare_courses ["one", "other"] (defScope s_compare_courses) := ⟨rfl, rfl, rfl, by decide +kernel, rfl, by decide +kernel, by decide +kernel⟩
abbrev s__law_ask_named : Stmt := top 50
abbrev n__law_ask_named : List Str := ["way", "words", "pair", "many"]
theorem sc__law_ask_named : FnScope n__law_ask_named ["way", "words", "pair", "many"] (defScope s__law_ask_named) := ⟨rfl, rfl, rfl, by decide +kernel, rfl, by decide +kernel, by decide +kernel⟩
abbrev s__law_ask : Stmt := top 49
abbrev n__law_ask : List Str := ["way", "words", "pair", "many"]
theorem sc__law_ask : FnScope n__law_ask ["way", "words", "pair", "many"] (defScope s__law_ask) := ⟨rfl, rfl, rfl, by decide +kernel, rfl, by decide +kernel, by decide +kernel⟩
abbrev s__law_rt_ring : Stmt := top 42
abbrev n__law_rt_ring : List Str := ["purse", "found", "spot"]
theorem sc__law_rt_ring : FnScope n__law_rt_ring ["purse"] (defScope s__law_rt_ring) := ⟨rfl, rfl, rfl, by decide +kernel, rfl, by decide +kernel, by decide +kernel⟩
abbrev s__law_right : Stmt := top 51
abbrev n__law_right : List Str := ["purse", "way", "named", "words", "spot", "style", "word", "pair", "many", "due", "caught", "e"]
theorem sc__law_right : FnScope n__law_right ["purse"] (defScope s__law_right) := ⟨rfl, rfl, rfl, by decide +kernel, rfl, by decide +kernel, by decide +kernel⟩
abbrev s_law : Stmt := top 52
abbrev n_law : List Str := ["script", "spot", "purse", "step"]
theorem sc_law : FnScope n_law ["script"] (defScope s_law) := ⟨rfl, rfl, rfl, by decide +kernel, rfl, by decide +kernel, by decide +kernel⟩
abbrev s_reinit : Stmt := inClass (top 2) 0
abbrev n_reinit : List Str := ["self", "value"]
theorem sc_reinit : FnScope n_reinit ["self", "value"] (defScope s_reinit) := ⟨rfl, rfl, rfl, by decide +kernel, rfl, by decide +kernel, by decide +kernel⟩
/-- what the top leaves: where each def stands, which names are still the built-in ones -/
structure Tx (K : PySem.W.Frag) (mg : Str → Option Value) where
  a__law_purse : Addr
  fd__law_purse : FuncData
  F__law_purse : Fun K "_law_purse" "_law_purse" s__law_purse a__law_purse fd__law_purse
  g__law_purse : mg "_law_purse" = some (.ref a__law_purse)
  a__law_rt_first_odd : Addr
  fd__law_rt_first_odd : FuncData
  F__law_rt_first_odd : Fun K "_law_rt_first_odd" "_law_rt_first_odd" s__law_rt_first_odd a__law_rt_first_odd fd__law_rt_first_odd
  g__law_rt_first_odd : mg "_law_rt_first_odd" = some (.ref a__law_rt_first_odd)
  a__law_rt_shared : Addr
  fd__law_rt_shared : FuncData
  F__law_rt_shared : Fun K "_law_rt_shared" "_law_rt_shared" s__law_rt_shared a__law_rt_shared fd__law_rt_shared
  g__law_rt_shared : mg "_law_rt_shared" = some (.ref a__law_rt_shared)
  a__law_rt_is_pair : Addr
  fd__law_rt_is_pair : FuncData
  F__law_rt_is_pair : Fun K "_law_rt_is_pair" "_law_rt_is_pair" s__law_rt_is_pair a__law_rt_is_pair fd__law_rt_is_pair
  g__law_rt_is_pair : mg "_law_rt_is_pair" = some (.ref a__law_rt_is_pair)
  a__law_due : Addr
  fd__law_due : FuncData
  F__law_due : Fun K "_law_due" "_law_due" s__law_due a__law_due fd__law_due
  g__law_due : mg "_law_due" = some (.ref a__law_due)
  a__law_coin : Addr
  fd__law_coin : FuncData
  F__law_coin : Fun K "_law_coin" "_law_coin" s__law_coin a__law_coin fd__law_coin
  g__law_coin : mg "_law_coin" = some (.ref a__law_coin)
  a__law_rt_odd_way : Addr
  fd__law_rt_odd_way : FuncData
  F__law_rt_odd_way : Fun K "_law_rt_odd_way" "_law_rt_odd_way" s__law_rt_odd_way a__law_rt_odd_way fd__law_rt_odd_way
  g__law_rt_odd_way : mg "_law_rt_odd_way" = some (.ref a__law_rt_odd_way)
  a__law_rt_ends : Addr
  fd__law_rt_ends : FuncData
  F__law_rt_ends : Fun K "_law_rt_ends" "_law_rt_ends" s__law_rt_ends a__law_rt_ends fd__law_rt_ends
  g__law_rt_ends : mg "_law_rt_ends" = some (.ref a__law_rt_ends)
  a__law_rt_worth : Addr
  fd__law_rt_worth : FuncData
  F__law_rt_worth : Fun K "_law_rt_worth" "_law_rt_worth" s__law_rt_worth a__law_rt_worth fd__law_rt_worth
  g__law_rt_worth : mg "_law_rt_worth" = some (.ref a__law_rt_worth)
  a__law_rt_fraction : Addr
  fd__law_rt_fraction : FuncData
  F__law_rt_fraction : Fun K "_law_rt_fraction" "_law_rt_fraction" s__law_rt_fraction a__law_rt_fraction fd__law_rt_fraction
  g__law_rt_fraction : mg "_law_rt_fraction" = some (.ref a__law_rt_fraction)
  a__law_rt_odd_pair : Addr
  fd__law_rt_odd_pair : FuncData
  F__law_rt_odd_pair : Fun K "_law_rt_odd_pair" "_law_rt_odd_pair" s__law_rt_odd_pair a__law_rt_odd_pair fd__law_rt_odd_pair
  g__law_rt_odd_pair : mg "_law_rt_odd_pair" = some (.ref a__law_rt_odd_pair)
  a__law_rt_kind : Addr
  fd__law_rt_kind : FuncData
  F__law_rt_kind : Fun K "_law_rt_kind" "_law_rt_kind" s__law_rt_kind a__law_rt_kind fd__law_rt_kind
  g__law_rt_kind : mg "_law_rt_kind" = some (.ref a__law_rt_kind)
  a__law_rt_way : Addr
  fd__law_rt_way : FuncData
  F__law_rt_way : Fun K "_law_rt_way" "_law_rt_way" s__law_rt_way a__law_rt_way fd__law_rt_way
  g__law_rt_way : mg "_law_rt_way" = some (.ref a__law_rt_way)
  a_is_road : Addr
  fd_is_road : FuncData
  F_is_road : Fun K "is_road" "is_road" s_is_road a_is_road fd_is_road
  g_is_road : mg "is_road" = some (.ref a_is_road)
  a_check_road : Addr
  fd_check_road : FuncData
  F_check_road : Fun K "check_road" "check_road" s_check_road a_check_road fd_check_road
  g_check_road : mg "check_road" = some (.ref a_check_road)
  a_check_course : Addr
  fd_check_course : FuncData
  F_check_course : Fun K "check_course" "check_course" s_check_course a_check_course fd_check_course
  g_check_course : mg "check_course" = some (.ref a_check_course)
  a_check_turning_course : Addr
  fd_check_turning_course : FuncData
  F_check_turning_course : Fun K "check_turning_course" "check_turning_course" s_check_turning_course a_check_turning_course fd_check_turning_course
  g_check_turning_course : mg "check_turning_course" = some (.ref a_check_turning_course)
  a_matrix_of : Addr
  fd_matrix_of : FuncData
  F_matrix_of : Fun K "matrix_of" "matrix_of" s_matrix_of a_matrix_of fd_matrix_of
  g_matrix_of : mg "matrix_of" = some (.ref a_matrix_of)
  a_times : Addr
  fd_times : FuncData
  F_times : Fun K "times" "times" s_times a_times fd_times
  g_times : mg "times" = some (.ref a_times)
  a_square_of : Addr
  fd_square_of : FuncData
  F_square_of : Fun K "square_of" "square_of" s_square_of a_square_of fd_square_of
  g_square_of : mg "square_of" = some (.ref a_square_of)
  a_number_of : Addr
  fd_number_of : FuncData
  F_number_of : Fun K "number_of" "number_of" s_number_of a_number_of fd_number_of
  g_number_of : mg "number_of" = some (.ref a_number_of)
  a_is_fraction : Addr
  fd_is_fraction : FuncData
  F_is_fraction : Fun K "is_fraction" "is_fraction" s_is_fraction a_is_fraction fd_is_fraction
  g_is_fraction : mg "is_fraction" = some (.ref a_is_fraction)
  a_check_fraction : Addr
  fd_check_fraction : FuncData
  F_check_fraction : Fun K "check_fraction" "check_fraction" s_check_fraction a_check_fraction fd_check_fraction
  g_check_fraction : mg "check_fraction" = some (.ref a_check_fraction)
  a_road_of : Addr
  fd_road_of : FuncData
  F_road_of : Fun K "road_of" "road_of" s_road_of a_road_of fd_road_of
  g_road_of : mg "road_of" = some (.ref a_road_of)
  a_order_of : Addr
  fd_order_of : FuncData
  F_order_of : Fun K "order_of" "order_of" s_order_of a_order_of fd_order_of
  g_order_of : mg "order_of" = some (.ref a_order_of)
  a_compare : Addr
  fd_compare : FuncData
  F_compare : Fun K "compare" "compare" s_compare a_compare fd_compare
  g_compare : mg "compare" = some (.ref a_compare)
  a_course : Addr
  fd_course : FuncData
  F_course : Fun K "course" "course" s_course a_course fd_course
  g_course : mg "course" = some (.ref a_course)
  a_check_from_zero : Addr
  fd_check_from_zero : FuncData
  F_check_from_zero : Fun K "check_from_zero" "check_from_zero" s_check_from_zero a_check_from_zero fd_check_from_zero
  g_check_from_zero : mg "check_from_zero" = some (.ref a_check_from_zero)
  a_turns_of : Addr
  fd_turns_of : FuncData
  F_turns_of : Fun K "turns_of" "turns_of" s_turns_of a_turns_of fd_turns_of
  g_turns_of : mg "turns_of" = some (.ref a_turns_of)
  a_compare_courses : Addr
  fd_compare_courses : FuncData
  F_compare_courses : Fun K "compare_courses" "compare_courses" s_compare_courses a_compare_courses fd_compare_courses
  g_compare_courses : mg "compare_courses" = some (.ref a_compare_courses)
  a__law_ask_named : Addr
  fd__law_ask_named : FuncData
  F__law_ask_named : Fun K "_law_ask_named" "_law_ask_named" s__law_ask_named a__law_ask_named fd__law_ask_named
  g__law_ask_named : mg "_law_ask_named" = some (.ref a__law_ask_named)
  a__law_ask : Addr
  fd__law_ask : FuncData
  F__law_ask : Fun K "_law_ask" "_law_ask" s__law_ask a__law_ask fd__law_ask
  g__law_ask : mg "_law_ask" = some (.ref a__law_ask)
  a__law_rt_ring : Addr
  fd__law_rt_ring : FuncData
  F__law_rt_ring : Fun K "_law_rt_ring" "_law_rt_ring" s__law_rt_ring a__law_rt_ring fd__law_rt_ring
  g__law_rt_ring : mg "_law_rt_ring" = some (.ref a__law_rt_ring)
  a__law_right : Addr
  fd__law_right : FuncData
  F__law_right : Fun K "_law_right" "_law_right" s__law_right a__law_right fd__law_right
  g__law_right : mg "_law_right" = some (.ref a__law_right)
  a_law : Addr
  fd_law : FuncData
  F_law : Fun K "law" "law" s_law a_law fd_law
  g_law : mg "law" = some (.ref a_law)
  a_reinit : Addr
  fd_reinit : FuncData
  F_reinit : Fun K "__init__" "RoadError.__init__" s_reinit a_reinit fd_reinit
  c_InvalidRoad : Addr
  g_InvalidRoad : mg "InvalidRoad" = some (.ref c_InvalidRoad)
  n_InvalidRoad : PySem.W.nsIn K mainGlobals "InvalidRoad" = some (some (.ref c_InvalidRoad))
  c_InvalidFraction : Addr
  g_InvalidFraction : mg "InvalidFraction" = some (.ref c_InvalidFraction)
  n_InvalidFraction : PySem.W.nsIn K mainGlobals "InvalidFraction" = some (some (.ref c_InvalidFraction))
  c_InvalidNumber : Addr
  g_InvalidNumber : mg "InvalidNumber" = some (.ref c_InvalidNumber)
  n_InvalidNumber : PySem.W.nsIn K mainGlobals "InvalidNumber" = some (some (.ref c_InvalidNumber))
  c_RoadError : Addr
  g_RoadError : mg "RoadError" = some (.ref c_RoadError)
  n_RoadError : PySem.W.nsIn K mainGlobals "RoadError" = some (some (.ref c_RoadError))
  c_InvalidMap : Addr
  g_InvalidMap : mg "InvalidMap" = some (.ref c_InvalidMap)
  n_InvalidMap : PySem.W.nsIn K mainGlobals "InvalidMap" = some (some (.ref c_InvalidMap))
  c_InvalidBook : Addr
  g_InvalidBook : mg "InvalidBook" = some (.ref c_InvalidBook)
  n_InvalidBook : PySem.W.nsIn K mainGlobals "InvalidBook" = some (some (.ref c_InvalidBook))
  c_InvalidMachine : Addr
  g_InvalidMachine : mg "InvalidMachine" = some (.ref c_InvalidMachine)
  n_InvalidMachine : PySem.W.nsIn K mainGlobals "InvalidMachine" = some (some (.ref c_InvalidMachine))
  c_InvalidSquare : Addr
  g_InvalidSquare : mg "InvalidSquare" = some (.ref c_InvalidSquare)
  n_InvalidSquare : PySem.W.nsIn K mainGlobals "InvalidSquare" = some (some (.ref c_InvalidSquare))
  c_InvalidTurn : Addr
  g_InvalidTurn : mg "InvalidTurn" = some (.ref c_InvalidTurn)
  n_InvalidTurn : PySem.W.nsIn K mainGlobals "InvalidTurn" = some (some (.ref c_InvalidTurn))
  c_HasEnded : Addr
  g_HasEnded : mg "HasEnded" = some (.ref c_HasEnded)
  n_HasEnded : PySem.W.nsIn K mainGlobals "HasEnded" = some (some (.ref c_HasEnded))
  c_NothingToUndo : Addr
  g_NothingToUndo : mg "NothingToUndo" = some (.ref c_NothingToUndo)
  n_NothingToUndo : PySem.W.nsIn K mainGlobals "NothingToUndo" = some (some (.ref c_NothingToUndo))
  c_Unreadable : Addr
  g_Unreadable : mg "Unreadable" = some (.ref c_Unreadable)
  n_Unreadable : PySem.W.nsIn K mainGlobals "Unreadable" = some (some (.ref c_Unreadable))
  E_InvalidRoad : ErrC K mg "InvalidRoad" c_InvalidRoad a_reinit
  E_InvalidFraction : ErrC K mg "InvalidFraction" c_InvalidFraction a_reinit
  E_InvalidNumber : ErrC K mg "InvalidNumber" c_InvalidNumber a_reinit
  k_InvalidRoad_InvalidRoad : PySem.W.kitOne K (.ref c_InvalidRoad) (.ref c_InvalidRoad) = some true
  k_InvalidRoad_InvalidFraction : PySem.W.kitOne K (.ref c_InvalidRoad) (.ref c_InvalidFraction) = some false
  k_InvalidRoad_InvalidMap : PySem.W.kitOne K (.ref c_InvalidRoad) (.ref c_InvalidMap) = some false
  k_InvalidRoad_InvalidBook : PySem.W.kitOne K (.ref c_InvalidRoad) (.ref c_InvalidBook) = some false
  k_InvalidRoad_RoadError : PySem.W.kitOne K (.ref c_InvalidRoad) (.ref c_RoadError) = some true
  k_InvalidRoad_ValueError : PySem.W.kitOne K (.ref c_InvalidRoad) (.type "ValueError") = some true
  k_InvalidRoad_InvalidMachine : PySem.W.kitOne K (.ref c_InvalidRoad) (.ref c_InvalidMachine) = some false
  k_InvalidRoad_InvalidSquare : PySem.W.kitOne K (.ref c_InvalidRoad) (.ref c_InvalidSquare) = some false
  k_InvalidRoad_InvalidNumber : PySem.W.kitOne K (.ref c_InvalidRoad) (.ref c_InvalidNumber) = some false
  k_InvalidRoad_InvalidTurn : PySem.W.kitOne K (.ref c_InvalidRoad) (.ref c_InvalidTurn) = some false
  k_InvalidRoad_HasEnded : PySem.W.kitOne K (.ref c_InvalidRoad) (.ref c_HasEnded) = some false
  k_InvalidRoad_NothingToUndo : PySem.W.kitOne K (.ref c_InvalidRoad) (.ref c_NothingToUndo) = some false
  k_InvalidRoad_Unreadable : PySem.W.kitOne K (.ref c_InvalidRoad) (.ref c_Unreadable) = some false
  x_InvalidRoad_RoadError : PySem.W.exmOne K (.ref c_InvalidRoad) (.ref c_RoadError) = some true
  k_InvalidFraction_InvalidRoad : PySem.W.kitOne K (.ref c_InvalidFraction) (.ref c_InvalidRoad) = some false
  k_InvalidFraction_InvalidFraction : PySem.W.kitOne K (.ref c_InvalidFraction) (.ref c_InvalidFraction) = some true
  k_InvalidFraction_InvalidMap : PySem.W.kitOne K (.ref c_InvalidFraction) (.ref c_InvalidMap) = some false
  k_InvalidFraction_InvalidBook : PySem.W.kitOne K (.ref c_InvalidFraction) (.ref c_InvalidBook) = some false
  k_InvalidFraction_RoadError : PySem.W.kitOne K (.ref c_InvalidFraction) (.ref c_RoadError) = some true
  k_InvalidFraction_ValueError : PySem.W.kitOne K (.ref c_InvalidFraction) (.type "ValueError") = some true
  k_InvalidFraction_InvalidMachine : PySem.W.kitOne K (.ref c_InvalidFraction) (.ref c_InvalidMachine) = some false
  k_InvalidFraction_InvalidSquare : PySem.W.kitOne K (.ref c_InvalidFraction) (.ref c_InvalidSquare) = some false
  k_InvalidFraction_InvalidNumber : PySem.W.kitOne K (.ref c_InvalidFraction) (.ref c_InvalidNumber) = some false
  k_InvalidFraction_InvalidTurn : PySem.W.kitOne K (.ref c_InvalidFraction) (.ref c_InvalidTurn) = some false
  k_InvalidFraction_HasEnded : PySem.W.kitOne K (.ref c_InvalidFraction) (.ref c_HasEnded) = some false
  k_InvalidFraction_NothingToUndo : PySem.W.kitOne K (.ref c_InvalidFraction) (.ref c_NothingToUndo) = some false
  k_InvalidFraction_Unreadable : PySem.W.kitOne K (.ref c_InvalidFraction) (.ref c_Unreadable) = some false
  x_InvalidFraction_RoadError : PySem.W.exmOne K (.ref c_InvalidFraction) (.ref c_RoadError) = some true
  k_InvalidNumber_InvalidRoad : PySem.W.kitOne K (.ref c_InvalidNumber) (.ref c_InvalidRoad) = some false
  k_InvalidNumber_InvalidFraction : PySem.W.kitOne K (.ref c_InvalidNumber) (.ref c_InvalidFraction) = some false
  k_InvalidNumber_InvalidMap : PySem.W.kitOne K (.ref c_InvalidNumber) (.ref c_InvalidMap) = some false
  k_InvalidNumber_InvalidBook : PySem.W.kitOne K (.ref c_InvalidNumber) (.ref c_InvalidBook) = some false
  k_InvalidNumber_RoadError : PySem.W.kitOne K (.ref c_InvalidNumber) (.ref c_RoadError) = some true
  k_InvalidNumber_ValueError : PySem.W.kitOne K (.ref c_InvalidNumber) (.type "ValueError") = some true
  k_InvalidNumber_InvalidMachine : PySem.W.kitOne K (.ref c_InvalidNumber) (.ref c_InvalidMachine) = some false
  k_InvalidNumber_InvalidSquare : PySem.W.kitOne K (.ref c_InvalidNumber) (.ref c_InvalidSquare) = some false
  k_InvalidNumber_InvalidNumber : PySem.W.kitOne K (.ref c_InvalidNumber) (.ref c_InvalidNumber) = some true
  k_InvalidNumber_InvalidTurn : PySem.W.kitOne K (.ref c_InvalidNumber) (.ref c_InvalidTurn) = some false
  k_InvalidNumber_HasEnded : PySem.W.kitOne K (.ref c_InvalidNumber) (.ref c_HasEnded) = some false
  k_InvalidNumber_NothingToUndo : PySem.W.kitOne K (.ref c_InvalidNumber) (.ref c_NothingToUndo) = some false
  k_InvalidNumber_Unreadable : PySem.W.kitOne K (.ref c_InvalidNumber) (.ref c_Unreadable) = some false
  x_InvalidNumber_RoadError : PySem.W.exmOne K (.ref c_InvalidNumber) (.ref c_RoadError) = some true
  z_max : mg "max" = none
  z_len : mg "len" = none
  z_int : mg "int" = none
  z_abs : mg "abs" = none
  z_min : mg "min" = none
  z_range : mg "range" = none
  z_isinstance : mg "isinstance" = none
  z_ValueError : mg "ValueError" = none
  z_repr : mg "repr" = none
  m_gcd : mg "gcd" = some (.builtin "math.gcd")
section
variable {P : Program} {w : World} {K : PySem.W.Frag} {mg : Str → Option Value} {base : Heap}
theorem b__law_purse {f : Addr} {fd : FuncData} (F : Fun K "_law_purse" "_law_purse" s__law_purse f fd) : Binds K fd ["script", "place"] [] :=
  F.binds fun _ _ _ _ _ _ us hl => match us, hl with | [_, _], _ => rfl
theorem b__law_rt_first_odd {f : Addr} {fd : FuncData} (F : Fun K "_law_rt_first_odd" "_law_rt_first_odd" s__law_rt_first_odd f fd) : Binds K fd ["parts"] [] :=
  F.binds fun _ _ _ _ _ _ us hl => match us, hl with | [_], _ => rfl
theorem b__law_rt_shared {f : Addr} {fd : FuncData} (F : Fun K "_law_rt_shared" "_law_rt_shared" s__law_rt_shared f fd) : Binds K fd ["numbers"] [] :=
  F.binds fun _ _ _ _ _ _ us hl => match us, hl with | [_], _ => rfl
theorem b__law_rt_is_pair {f : Addr} {fd : FuncData} (F : Fun K "_law_rt_is_pair" "_law_rt_is_pair" s__law_rt_is_pair f fd) : Binds K fd ["pair"] [] :=
  F.binds fun _ _ _ _ _ _ us hl => match us, hl with | [_], _ => rfl
theorem b__law_due {f : Addr} {fd : FuncData} (F : Fun K "_law_due" "_law_due" s__law_due f fd) : Binds K fd ["way", "words", "pair", "many"] [] :=
  F.binds fun _ _ _ _ _ _ us hl => match us, hl with | [_, _, _, _], _ => rfl
theorem b__law_coin {f : Addr} {fd : FuncData} (F : Fun K "_law_coin" "_law_coin" s__law_coin f fd) : Binds K fd ["purse", "many"] [] :=
  F.binds fun _ _ _ _ _ _ us hl => match us, hl with | [_, _], _ => rfl
theorem b__law_rt_odd_way {f : Addr} {fd : FuncData} (F : Fun K "_law_rt_odd_way" "_law_rt_odd_way" s__law_rt_odd_way f fd) : Binds K fd ["purse", "wording"] [] :=
  F.binds fun _ _ _ _ _ _ us hl => match us, hl with | [_, _], _ => rfl
theorem b__law_rt_ends {f : Addr} {fd : FuncData} (F : Fun K "_law_rt_ends" "_law_rt_ends" s__law_rt_ends f fd) : Binds K fd ["wording"] [] :=
  F.binds fun _ _ _ _ _ _ us hl => match us, hl with | [_], _ => rfl
theorem b__law_rt_worth {f : Addr} {fd : FuncData} (F : Fun K "_law_rt_worth" "_law_rt_worth" s__law_rt_worth f fd) : Binds K fd ["wording"] [] :=
  F.binds fun _ _ _ _ _ _ us hl => match us, hl with | [_], _ => rfl
theorem b__law_rt_fraction {f : Addr} {fd : FuncData} (F : Fun K "_law_rt_fraction" "_law_rt_fraction" s__law_rt_fraction f fd) : Binds K fd ["purse", "top"] [] :=
  F.binds fun _ _ _ _ _ _ us hl => match us, hl with | [_, _], _ => rfl
theorem b__law_rt_odd_pair {f : Addr} {fd : FuncData} (F : Fun K "_law_rt_odd_pair" "_law_rt_odd_pair" s__law_rt_odd_pair f fd) : Binds K fd ["purse"] [] :=
  F.binds fun _ _ _ _ _ _ us hl => match us, hl with | [_], _ => rfl
theorem b__law_rt_kind {f : Addr} {fd : FuncData} (F : Fun K "_law_rt_kind" "_law_rt_kind" s__law_rt_kind f fd) : Binds K fd ["caught", "rank", "worth"] [] :=
  F.binds fun _ _ _ _ _ _ us hl => match us, hl with | [_, _, _], _ => rfl
theorem b__law_rt_way {f : Addr} {fd : FuncData} (F : Fun K "_law_rt_way" "_law_rt_way" s__law_rt_way f fd) : Binds K fd ["purse", "top"] [] :=
  F.binds fun _ _ _ _ _ _ us hl => match us, hl with | [_, _], _ => rfl
theorem b_is_road {f : Addr} {fd : FuncData} (F : Fun K "is_road" "is_road" s_is_road f fd) : Binds K fd ["text"] [] :=
  F.binds fun _ _ _ _ _ _ us hl => match us, hl with | [_], _ => rfl
theorem b_check_road {f : Addr} {fd : FuncData} (F : Fun K "check_road" "check_road" s_check_road f fd) : Binds K fd ["road"] [] :=
  F.binds fun _ _ _ _ _ _ us hl => match us, hl with | [_], _ => rfl
theorem b_check_course {f : Addr} {fd : FuncData} (F : Fun K "check_course" "check_course" s_check_course f fd) : Binds K fd ["told"] [] :=
  F.binds fun _ _ _ _ _ _ us hl => match us, hl with | [_], _ => rfl
theorem b_check_turning_course {f : Addr} {fd : FuncData} (F : Fun K "check_turning_course" "check_turning_course" s_check_turning_course f fd) : Binds K fd ["told"] [] :=
  F.binds fun _ _ _ _ _ _ us hl => match us, hl with | [_], _ => rfl
theorem b_matrix_of {f : Addr} {fd : FuncData} (F : Fun K "matrix_of" "matrix_of" s_matrix_of f fd) : Binds K fd ["road"] [] :=
  F.binds fun _ _ _ _ _ _ us hl => match us, hl with | [_], _ => rfl
theorem b_times {f : Addr} {fd : FuncData} (F : Fun K "times" "times" s_times f fd) : Binds K fd ["one", "other"] [] :=
  F.binds fun _ _ _ _ _ _ us hl => match us, hl with | [_, _], _ => rfl
theorem b_square_of {f : Addr} {fd : FuncData} (F : Fun K "square_of" "square_of" s_square_of f fd) : Binds K fd ["told"] [] :=
  F.binds fun _ _ _ _ _ _ us hl => match us, hl with | [_], _ => rfl
theorem b_number_of {f : Addr} {fd : FuncData} (F : Fun K "number_of" "number_of" s_number_of f fd) : Binds K fd ["road"] [] :=
  F.binds fun _ _ _ _ _ _ us hl => match us, hl with | [_], _ => rfl
theorem b_is_fraction {f : Addr} {fd : FuncData} (F : Fun K "is_fraction" "is_fraction" s_is_fraction f fd) : Binds K fd ["fraction"] [] :=
  F.binds fun _ _ _ _ _ _ us hl => match us, hl with | [_], _ => rfl
theorem b_check_fraction {f : Addr} {fd : FuncData} (F : Fun K "check_fraction" "check_fraction" s_check_fraction f fd) : Binds K fd ["fraction"] [] :=
  F.binds fun _ _ _ _ _ _ us hl => match us, hl with | [_], _ => rfl
theorem b_road_of {f : Addr} {fd : FuncData} (F : Fun K "road_of" "road_of" s_road_of f fd) : Binds K fd ["fraction"] [] :=
  F.binds fun _ _ _ _ _ _ us hl => match us, hl with | [_], _ => rfl
theorem b_order_of {f : Addr} {fd : FuncData} (F : Fun K "order_of" "order_of" s_order_of f fd) : Binds K fd ["one", "other"] [] :=
  F.binds fun _ _ _ _ _ _ us hl => match us, hl with | [_, _], _ => rfl
theorem b_compare {f : Addr} {fd : FuncData} (F : Fun K "compare" "compare" s_compare f fd) : Binds K fd ["one", "other"] [] :=
  F.binds fun _ _ _ _ _ _ us hl => match us, hl with | [_, _], _ => rfl
theorem b_course {f : Addr} {fd : FuncData} (F : Fun K "course" "course" s_course f fd) : Binds K fd ["ahead", "ring"] [] :=
  F.binds fun _ _ _ _ _ _ us hl => match us, hl with | [_, _], _ => rfl
theorem b_check_from_zero {f : Addr} {fd : FuncData} (F : Fun K "check_from_zero" "check_from_zero" s_check_from_zero f fd) : Binds K fd ["number"] [] :=
  F.binds fun _ _ _ _ _ _ us hl => match us, hl with | [_], _ => rfl
theorem b_turns_of {f : Addr} {fd : FuncData} (F : Fun K "turns_of" "turns_of" s_turns_of f fd) : Binds K fd ["told", "number"] [] :=
  F.binds fun _ _ _ _ _ _ us hl => match us, hl with | [_, _], _ => rfl
theorem b_compare_courses {f : Addr} {fd : FuncData} (F : Fun K "compare_courses" "compare_courses" s_compare_courses f fd) : Binds K fd ["one", "other"] [] :=
  F.binds fun _ _ _ _ _ _ us hl => match us, hl with | [_, _], _ => rfl
theorem b__law_ask_named {f : Addr} {fd : FuncData} (F : Fun K "_law_ask_named" "_law_ask_named" s__law_ask_named f fd) : Binds K fd ["way", "words", "pair", "many"] [] :=
  F.binds fun _ _ _ _ _ _ us hl => match us, hl with | [_, _, _, _], _ => rfl
theorem b__law_ask {f : Addr} {fd : FuncData} (F : Fun K "_law_ask" "_law_ask" s__law_ask f fd) : Binds K fd ["way", "words", "pair", "many"] [] :=
  F.binds fun _ _ _ _ _ _ us hl => match us, hl with | [_, _, _, _], _ => rfl
theorem b__law_rt_ring {f : Addr} {fd : FuncData} (F : Fun K "_law_rt_ring" "_law_rt_ring" s__law_rt_ring f fd) : Binds K fd ["purse"] [] :=
  F.binds fun _ _ _ _ _ _ us hl => match us, hl with | [_], _ => rfl
theorem b__law_right {f : Addr} {fd : FuncData} (F : Fun K "_law_right" "_law_right" s__law_right f fd) : Binds K fd ["purse"] [] :=
  F.binds fun _ _ _ _ _ _ us hl => match us, hl with | [_], _ => rfl
theorem b_law {f : Addr} {fd : FuncData} (F : Fun K "law" "law" s_law f fd) : Binds K fd ["script"] [] :=
  F.binds fun _ _ _ _ _ _ us hl => match us, hl with | [_], _ => rfl
theorem fx_InvalidRoad (T : Tx K mg) : Fx K T.c_InvalidRoad 0 := ⟨T.E_InvalidRoad.toErrK, T.k_InvalidRoad_ValueError, fun c h => by cases ns_one T.n_RoadError h; exact T.k_InvalidRoad_RoadError, fun c h => by cases ns_one T.n_InvalidRoad h; exact T.k_InvalidRoad_InvalidRoad, fun c h => by cases ns_one T.n_InvalidFraction h; exact T.k_InvalidRoad_InvalidFraction, fun c h => by cases ns_one T.n_InvalidMap h; exact T.k_InvalidRoad_InvalidMap, fun c h => by cases ns_one T.n_InvalidMachine h; exact T.k_InvalidRoad_InvalidMachine, fun c h => by cases ns_one T.n_InvalidSquare h; exact T.k_InvalidRoad_InvalidSquare, fun c h => by cases ns_one T.n_InvalidNumber h; exact T.k_InvalidRoad_InvalidNumber, fun c h => by cases ns_one T.n_InvalidTurn h; exact T.k_InvalidRoad_InvalidTurn, fun c h => by cases ns_one T.n_HasEnded h; exact T.k_InvalidRoad_HasEnded, fun c h => by cases ns_one T.n_NothingToUndo h; exact T.k_InvalidRoad_NothingToUndo, fun c h => by cases ns_one T.n_Unreadable h; exact T.k_InvalidRoad_Unreadable, fun c h => by cases ns_one T.n_InvalidBook h; exact T.k_InvalidRoad_InvalidBook⟩
theorem fx_InvalidFraction (T : Tx K mg) : Fx K T.c_InvalidFraction 1 := ⟨T.E_InvalidFraction.toErrK, T.k_InvalidFraction_ValueError, fun c h => by cases ns_one T.n_RoadError h; exact T.k_InvalidFraction_RoadError, fun c h => by cases ns_one T.n_InvalidRoad h; exact T.k_InvalidFraction_InvalidRoad, fun c h => by cases ns_one T.n_InvalidFraction h; exact T.k_InvalidFraction_InvalidFraction, fun c h => by cases ns_one T.n_InvalidMap h; exact T.k_InvalidFraction_InvalidMap, fun c h => by cases ns_one T.n_InvalidMachine h; exact T.k_InvalidFraction_InvalidMachine, fun c h => by cases ns_one T.n_InvalidSquare h; exact T.k_InvalidFraction_InvalidSquare, fun c h => by cases ns_one T.n_InvalidNumber h; exact T.k_InvalidFraction_InvalidNumber, fun c h => by cases ns_one T.n_InvalidTurn h; exact T.k_InvalidFraction_InvalidTurn, fun c h => by cases ns_one T.n_HasEnded h; exact T.k_InvalidFraction_HasEnded, fun c h => by cases ns_one T.n_NothingToUndo h; exact T.k_InvalidFraction_NothingToUndo, fun c h => by cases ns_one T.n_Unreadable h; exact T.k_InvalidFraction_Unreadable, fun c h => by cases ns_one T.n_InvalidBook h; exact T.k_InvalidFraction_InvalidBook⟩
theorem fx_InvalidNumber (T : Tx K mg) : Fx K T.c_InvalidNumber 5 := ⟨T.E_InvalidNumber.toErrK, T.k_InvalidNumber_ValueError, fun c h => by cases ns_one T.n_RoadError h; exact T.k_InvalidNumber_RoadError, fun c h => by cases ns_one T.n_InvalidRoad h; exact T.k_InvalidNumber_InvalidRoad, fun c h => by cases ns_one T.n_InvalidFraction h; exact T.k_InvalidNumber_InvalidFraction, fun c h => by cases ns_one T.n_InvalidMap h; exact T.k_InvalidNumber_InvalidMap, fun c h => by cases ns_one T.n_InvalidMachine h; exact T.k_InvalidNumber_InvalidMachine, fun c h => by cases ns_one T.n_InvalidSquare h; exact T.k_InvalidNumber_InvalidSquare, fun c h => by cases ns_one T.n_InvalidNumber h; exact T.k_InvalidNumber_InvalidNumber, fun c h => by cases ns_one T.n_InvalidTurn h; exact T.k_InvalidNumber_InvalidTurn, fun c h => by cases ns_one T.n_HasEnded h; exact T.k_InvalidNumber_HasEnded, fun c h => by cases ns_one T.n_NothingToUndo h; exact T.k_InvalidNumber_NothingToUndo, fun c h => by cases ns_one T.n_Unreadable h; exact T.k_InvalidNumber_Unreadable, fun c h => by cases ns_one T.n_InvalidBook h; exact T.k_InvalidNumber_InvalidBook⟩
theorem b_reinit {f : Addr} {fd : FuncData} (F : Fun K "__init__" "RoadError.__init__" s_reinit f fd) : Binds K fd ["self", "value"] [] :=
  F.binds fun _ _ _ _ _ _ us hl => match us, hl with | [_, _], _ => rfl
theorem ok_reinit (T : Tx K mg) : FnOk P w K mg base CX0 1 T.a_reinit T.fd_reinit ["self", "value"] (spInit K) := by
  refine T.F_reinit.ok sc_reinit (fun vs H Q E h => ?_) (fun cdv A outer s H vs Q E hr h => ?_)
  · obtain ⟨a, C, v, rfl, _⟩ := h
    rfl
  · obtain ⟨a, C, v, rfl, oc, no, e, q⟩ := h
    refine ⟨_, (pss_one (ps_ost (pv 0) (pv 1))), ?_⟩
    exact ⟨_, rfl, _, rfl, a, C, rfl, oc, no, .inl ⟨e, q⟩⟩
def kg_square_of_0 {α : Type} : List α → List α → List α
  | [], [x0] => [x0]
  | _, _ => []
theorem kb_square_of_0 {f : Addr} {fd : FuncData} (F : Fun K "square_of" "square_of" s_square_of f fd) : KBinds K fd ["told"] ["told"] kg_square_of_0 kg_square_of_0 := by
  obtain ⟨oc, od, kV, doc, pm, an, cdv, ct, osl, rfl, _, _⟩ := F.ex
  refine ⟨fun s us ws _ hl => ?_, fun r z => ?_⟩
  · unfold kg_square_of_0 at hl ⊢
    split at hl
    · exact .of_eq rfl
    · exact absurd hl (by decide)
  · unfold kg_square_of_0
    cases r with
    | nil => (cases z with | nil => exact .nil | cons r0 z => (cases z with | nil => exact (.cons r0 .nil) | cons _ _ => exact .nil))
    | cons _ _ => (cases z with | nil => exact .nil | cons r0 z => (cases z with | nil => exact .nil | cons _ _ => exact .nil))
def kg_number_of_0 {α : Type} : List α → List α → List α
  | [], [x0] => [x0]
  | _, _ => []
theorem kb_number_of_0 {f : Addr} {fd : FuncData} (F : Fun K "number_of" "number_of" s_number_of f fd) : KBinds K fd ["road"] ["road"] kg_number_of_0 kg_number_of_0 := by
  obtain ⟨oc, od, kV, doc, pm, an, cdv, ct, osl, rfl, _, _⟩ := F.ex
  refine ⟨fun s us ws _ hl => ?_, fun r z => ?_⟩
  · unfold kg_number_of_0 at hl ⊢
    split at hl
    · exact .of_eq rfl
    · exact absurd hl (by decide)
  · unfold kg_number_of_0
    cases r with
    | nil => (cases z with | nil => exact .nil | cons r0 z => (cases z with | nil => exact (.cons r0 .nil) | cons _ _ => exact .nil))
    | cons _ _ => (cases z with | nil => exact .nil | cons r0 z => (cases z with | nil => exact .nil | cons _ _ => exact .nil))
def kg_road_of_0 {α : Type} : List α → List α → List α
  | [], [x0] => [x0]
  | _, _ => []
theorem kb_road_of_0 {f : Addr} {fd : FuncData} (F : Fun K "road_of" "road_of" s_road_of f fd) : KBinds K fd ["fraction"] ["fraction"] kg_road_of_0 kg_road_of_0 := by
  obtain ⟨oc, od, kV, doc, pm, an, cdv, ct, osl, rfl, _, _⟩ := F.ex
  refine ⟨fun s us ws _ hl => ?_, fun r z => ?_⟩
  · unfold kg_road_of_0 at hl ⊢
    split at hl
    · exact .of_eq rfl
    · exact absurd hl (by decide)
  · unfold kg_road_of_0
    cases r with
    | nil => (cases z with | nil => exact .nil | cons r0 z => (cases z with | nil => exact (.cons r0 .nil) | cons _ _ => exact .nil))
    | cons _ _ => (cases z with | nil => exact .nil | cons r0 z => (cases z with | nil => exact .nil | cons _ _ => exact .nil))
def kg_compare_10 {α : Type} : List α → List α → List α
  | [], [x0, x1] => [x1, x0]
  | _, _ => []
theorem kb_compare_10 {f : Addr} {fd : FuncData} (F : Fun K "compare" "compare" s_compare f fd) : KBinds K fd ["one", "other"] ["other", "one"] kg_compare_10 kg_compare_10 := by
  obtain ⟨oc, od, kV, doc, pm, an, cdv, ct, osl, rfl, _, _⟩ := F.ex
  refine ⟨fun s us ws _ hl => ?_, fun r z => ?_⟩
  · unfold kg_compare_10 at hl ⊢
    split at hl
    · exact .of_eq rfl
    · exact absurd hl (by decide)
  · unfold kg_compare_10
    cases r with
    | nil => (cases z with | nil => exact .nil | cons r0 z => (cases z with | nil => exact .nil | cons r1 z => (cases z with | nil => exact (.cons r1 (.cons r0 .nil)) | cons _ _ => exact .nil)))
    | cons _ _ => (cases z with | nil => exact .nil | cons r0 z => (cases z with | nil => exact .nil | cons r1 z => (cases z with | nil => exact .nil | cons _ _ => exact .nil)))
def kg_course_10 {α : Type} : List α → List α → List α
  | [], [x0, x1] => [x1, x0]
  | _, _ => []
theorem kb_course_10 {f : Addr} {fd : FuncData} (F : Fun K "course" "course" s_course f fd) : KBinds K fd ["ahead", "ring"] ["ring", "ahead"] kg_course_10 kg_course_10 := by
  obtain ⟨oc, od, kV, doc, pm, an, cdv, ct, osl, rfl, _, _⟩ := F.ex
  refine ⟨fun s us ws _ hl => ?_, fun r z => ?_⟩
  · unfold kg_course_10 at hl ⊢
    split at hl
    · exact .of_eq rfl
    · exact absurd hl (by decide)
  · unfold kg_course_10
    cases r with
    | nil => (cases z with | nil => exact .nil | cons r0 z => (cases z with | nil => exact .nil | cons r1 z => (cases z with | nil => exact (.cons r1 (.cons r0 .nil)) | cons _ _ => exact .nil)))
    | cons _ _ => (cases z with | nil => exact .nil | cons r0 z => (cases z with | nil => exact .nil | cons r1 z => (cases z with | nil => exact .nil | cons _ _ => exact .nil)))
def kg_compare_courses_10 {α : Type} : List α → List α → List α
  | [], [x0, x1] => [x1, x0]
  | _, _ => []
theorem kb_compare_courses_10 {f : Addr} {fd : FuncData} (F : Fun K "compare_courses" "compare_courses" s_compare_courses f fd) : KBinds K fd ["one", "other"] ["other", "one"] kg_compare_courses_10 kg_compare_courses_10 := by
  obtain ⟨oc, od, kV, doc, pm, an, cdv, ct, osl, rfl, _, _⟩ := F.ex
  refine ⟨fun s us ws _ hl => ?_, fun r z => ?_⟩
  · unfold kg_compare_courses_10 at hl ⊢
    split at hl
    · exact .of_eq rfl
    · exact absurd hl (by decide)
  · unfold kg_compare_courses_10
    cases r with
    | nil => (cases z with | nil => exact .nil | cons r0 z => (cases z with | nil => exact .nil | cons r1 z => (cases z with | nil => exact (.cons r1 (.cons r0 .nil)) | cons _ _ => exact .nil)))
    | cons _ _ => (cases z with | nil => exact .nil | cons r0 z => (cases z with | nil => exact .nil | cons r1 z => (cases z with | nil => exact .nil | cons _ _ => exact .nil)))
def kg_turns_of_10 {α : Type} : List α → List α → List α
  | [], [x0, x1] => [x1, x0]
  | _, _ => []
theorem kb_turns_of_10 {f : Addr} {fd : FuncData} (F : Fun K "turns_of" "turns_of" s_turns_of f fd) : KBinds K fd ["told", "number"] ["number", "told"] kg_turns_of_10 kg_turns_of_10 := by
  obtain ⟨oc, od, kV, doc, pm, an, cdv, ct, osl, rfl, _, _⟩ := F.ex
  refine ⟨fun s us ws _ hl => ?_, fun r z => ?_⟩
  · unfold kg_turns_of_10 at hl ⊢
    split at hl
    · exact .of_eq rfl
    · exact absurd hl (by decide)
  · unfold kg_turns_of_10
    cases r with
    | nil => (cases z with | nil => exact .nil | cons r0 z => (cases z with | nil => exact .nil | cons r1 z => (cases z with | nil => exact (.cons r1 (.cons r0 .nil)) | cons _ _ => exact .nil)))
    | cons _ _ => (cases z with | nil => exact .nil | cons r0 z => (cases z with | nil => exact .nil | cons r1 z => (cases z with | nil => exact .nil | cons _ _ => exact .nil)))
end
section
variable {P : Program} {w : World} {K : PySem.W.Frag} {mg : Str → Option Value} {base : Heap}
/-! _law_purse -/
def sp__law_purse (K : PySem.W.Frag) : Sp := fun vs H Q _ => ∃ (a : Addr) (ns : List Int) (place : Int), vs = [.ref a, .int place] ∧ SqL K H a (ns.map V.int) ∧ ns.length ≤ 63 ∧ 0 ≤ place ∧ place ≤ 63 ∧
  ∀ H' p, Same H H' → H p = none → Pu H' p 0 → Q (.ref p) H'
theorem ok__law_purse (T : Tx K mg) : FnOk P w K mg base CX0 1 T.a__law_purse T.fd__law_purse ["script", "place"] (sp__law_purse K) := by
  refine T.F__law_purse.ok sc__law_purse (fun vs H Q E h => ?_) (fun cdv A outer s H vs Q E hr h => ?_)
  · obtain ⟨a, ns, place, rfl, _⟩ := h
    rfl
  · obtain ⟨a, ns, place, rfl, hS, hl, h0, h1, q⟩ := h
    refine ⟨_, (pss_cons (ps_set (i := 2) sc__law_purse.nd rfl (Or.inl rfl) (pe_ifExp (pt_cmpR op_lt (pv 1) (pe_callB call_len_seq (by rfl) T.z_len (by decide +kernel) (pa_cons (pv 0) pa_nil)) (nomark _)) (pe_ix ix_list (pv 0) (pv 1) (fun _ _ => rfl)) pe_int))
  (pss_one (ps_ret (pe_lst (pa_cons (pe_callB (call_max2 rfl) (by rfl) T.z_max (by decide +kernel) (pa_cons pe_int (pa_cons (pe_op op_sub (pe_callB call_abs (by rfl) T.z_abs (by decide +kernel) (pa_cons (pv 2) pa_nil)) (pe_op op_powL pe_int pe_int)) pa_nil))) (pa_cons (pe_op op_modN (pe_callTy call_int1 (by rfl) T.z_int (by decide +kernel) (pa_cons (pe_op op_add (pe_op op_add (pe_op op_mulL (pv 2) pe_int) (pe_op op_mulL (pv 1) pe_int)) pe_int) pa_nil)) (pe_op op_add (pe_op op_powL pe_int pe_int) pe_int)) (pa_cons pe_int pa_nil))))))), ?_⟩
    obtain ⟨j, ej⟩ := nat_of h0
    -- the cell
    have hc : ∃ c : Int, decide (place < ((ns.map V.int).length : Int)) = true → (ns.map V.int)[j]? = some (.int c) := by
      by_cases hj : j < ns.length
      · exact ⟨ns[j], fun _ => by rw [List.getElem?_map, List.getElem?_eq_getElem hj]; rfl⟩
      · refine ⟨0, fun e => ?_⟩
        have e := of_decide_eq_true e
        rw [List.length_map] at e
        omega
    obtain ⟨c, hc⟩ : ∃ c : Int, (decide (place < ((ns.map V.int).length : Int)) = true → (ns.map V.int)[j]? = some (.int c)) ∧ (decide (place < ((ns.map V.int).length : Int)) = false → c = 0) := by
      cases e : decide (place < ((ns.map V.int).length : Int)) with
      | true =>
        obtain ⟨c, hc⟩ := hc
        exact ⟨c, fun _ => hc e, fun z => nomatch z⟩
      | false => exact ⟨0, (fun z => nomatch z), fun _ => rfl⟩
    refine if_val (decide (place < ((ns.map V.int).length : Int))) (.int c) (fun R r => ⟨_, rfl, _, rfl, a, _, rfl, .inl hS, _, _, rfl, rfl, _, rfl, r⟩) (fun e R r => ⟨_, rfl, _, rfl, a, _, _, _, rfl, rfl, hS, at_of ej (hc.1 e), r⟩) (fun e R r => ?_) ?_
    · rw [hc.2 e] at r
      exact r
    · refine ⟨_, rfl, _, rfl, _, _, rfl, rfl, cpw 4 (by decide) (by decide) (by decide), _, _, rfl, rfl, _, _, rfl, _, rfl, _, _, rfl, rfl, cml_r (by decide), _, rfl, _, _, rfl, rfl, cml_r (by decide), _, _, rfl, rfl, _, _, rfl, rfl, .inl ⟨_, rfl, ?_⟩⟩
      refine ⟨_, _, rfl, rfl, cpw 4 (by decide) (by decide) (by decide), _, _, rfl, rfl, _, _, rfl, rfl, (by show ((10 : Int) ^ (24 : Int).toNat + 7) ≠ 0; decide), ?_⟩
      refine ⟨sz (by show 3 ≤ 1000000; decide), fun p hp => ?_⟩
      have e24 : (10 : Int) ^ (24 : Int).toNat + 7 = 1000000000000000000000007 := by decide
      refine q _ p ((L2.Same.refl H).new hp) hp ⟨_, _, _, upd_same, ?_, ?_, ?_, by decide, by decide⟩
      · split <;> omega
      · rw [e24, Int.fmod_eq_emod_of_nonneg _ (by decide)]
        exact Int.emod_nonneg _ (by decide)
      · rw [e24, Int.fmod_eq_emod_of_nonneg _ (by decide)]
        exact Int.lt_trans (Int.emod_lt_of_pos _ (by decide)) (by decide)

/-! _law_rt_first_odd -/
def sp__law_rt_first_odd (K : PySem.W.Frag) : Sp := fun vs H Q _ => ∃ (L : Addr) (ps : List (Addr × Str × Nat)), vs = [.ref L] ∧ Parts H L ps ∧ ps.length ≤ 10 ∧ (∀ p ∈ ps, p.2.1.length ≤ 10000 ∧ Sok p.2.1) ∧
  ∀ H' r, Same H H' → H r = none → OddL H' r (Fo (ps.map (·.2))) → Q (.ref r) H'
theorem odd_flt (t : Str) : (t.cps.toList.filter fun c => !decide (c ∈ ("LR" : Str).cps.toList)) = [] ↔ IsRd t := by
  have e : ("LR" : Str).cps.toList = [76, 82] := by decide +kernel
  rw [e, List.filter_eq_nil_iff]
  constructor
  · intro h
    refine isrd_of fun x hx => ?_
    have := h x hx
    by_cases e : x = 76
    · exact .inl e
    · refine .inr ?_
      simpa [e] using this
  · rintro ⟨w, rfl⟩ c hc
    rw [rd_cps] at hc
    obtain ⟨b, _, rfl⟩ := List.mem_map.mp hc
    cases b <;> decide
theorem ok__law_rt_first_odd (T : Tx K mg) : FnOk P w K mg base CX0 1 T.a__law_rt_first_odd T.fd__law_rt_first_odd ["parts"] (sp__law_rt_first_odd K) := by
  refine T.F__law_rt_first_odd.ok sc__law_rt_first_odd (fun vs H Q E h => ?_) (fun cdv A outer s H vs Q E hr h => ?_)
  · obtain ⟨L, ps, rfl, _⟩ := h
    rfl
  · obtain ⟨L, ps, rfl, hP, hl, hb, q⟩ := h
    refine ⟨_, (pss_cons (ps_for PassesOwn.never rfl (pi_list (pv 0)) (pg_tup (by rfl) (pgs_cons (pg_name (i := 1) sc__law_rt_first_odd.nd rfl (Or.inl rfl)) (pgs_cons (pg_name (i := 2) sc__law_rt_first_odd.nd rfl (Or.inl rfl)) pgs_nil)))
    (pss_cons (ps_setLc (i := 4) (own := [("sign", 3)]) (g := (gName 3)) (by rfl) sc__law_rt_first_odd.nd rfl rfl (sw_true rfl rfl rfl (by decide +kernel)) (pi_str (pv 1)) (blkOk_by (own := [("sign", 3)]) (N := n__law_rt_first_odd) (sc := defScope s__law_rt_first_odd) (by decide +kernel)) (fun _ _ _ _ _ => (pg_name (i := 3) sc__law_rt_first_odd.nd rfl (Or.inl rfl))) (fun _ _ _ _ _ => (pts_one (pt_cmpR op_notIn_sign (pv 3) pe_str rfl))) (fun _ _ _ _ _ => (pv 3)))
  (pss_cons (ps_if (PW.pt (pw_or (pt_cmpR (op_neD hr.units) (pv 4) (pe_lst pa_nil) (nomark _)) (pw_or1 (PW.pt (pw_and (pt_cmpR op_gt (pv 2) pe_int (nomark _)) (pw_and1 (pt_cmpR op_eq (pv 1) pe_str (nomark _)))))))) (pss_one (ps_ret (pe_lst (pa_cons (pv 1) pa_nil)))) pss_nil)
  (pss_one (ps_if (PW.pt (pw_and (pt_cmpR op_gt (pv 2) pe_int (nomark _)) (pw_and1 (PW.pt (pw_or (pt_cmpR op_notIn_sign pe_str (pv 1) rfl) (pw_or1 (pt_cmpR op_notIn_sign pe_str (pv 1) rfl))))))) (pss_one (ps_ret (pe_lst (pa_cons (pv 1) pa_nil)))) pss_nil)))))
  (pss_one (ps_ret (pe_lst pa_nil)))), ?_⟩
    refine ⟨_, rfl, L, rfl, ⟨_, SqL.of hP.1⟩, for_list (xs := ps.map fun p => .ref p.1) (fun i σ H' => ∃ (x1 x2 x4 : Option V), σ = [some (.ref L), x1, x2, none, x4] ∧ Same H H' ∧ Fo (ps.map (·.2)) = Fo ((ps.drop i).map (·.2))) ⟨none, none, none, rfl, L2.Same.refl H, rfl⟩ (fun i σ H' _ z => ?_) ?_ ?_⟩
    · obtain ⟨_, _, _, _, sm, _⟩ := z
      exact SqL.of (sm _ _ hP.1)
    · rintro i z σ H1 hz ⟨x1, x2, x4, rfl, s1, ef⟩
      rw [List.getElem?_map] at hz
      obtain ⟨⟨p, t, k⟩, hpi, rfl⟩ : ∃ p, ps[i]? = some p ∧ z = .ref p.1 := by
        cases e : ps[i]? with
        | none => rw [e] at hz; cases hz
        | some p => rw [e] at hz; exact ⟨p, rfl, (Option.some.inj hz).symm⟩
      have hmem := List.mem_of_getElem? hpi
      have ht := s1 _ _ (hP.2 _ hmem)
      obtain ⟨tl, tk⟩ := hb _ hmem
      have tl : t.length ≤ 10000 := tl
      have tk : Sok t := tk
      have edr : ps.drop i = (p, t, k) :: ps.drop (i + 1) := by
        obtain ⟨hi, e⟩ := List.getElem?_eq_some_iff.mp hpi
        rw [List.drop_eq_getElem_cons hi, e]
      rw [edr] at ef
      refine ⟨p, _, rfl, .inl (.inl ht), rfl, _, _, rfl, _, _, rfl, rfl, ?_⟩
      refine ⟨_, rfl, _, rfl, fun D hD => lc_it walk_str (fun j H' => Same H1 H' ∧ H' D = some (.lst (((t.cps.toList.take j).filter fun c => !decide (c ∈ ("LR" : Str).cps.toList)).map fun c => V.str (sgT c)))) ⟨(L2.Same.refl H1).new hD, upd_same⟩ (fun _ _ _ _ => trivial) ?_ ?_⟩
      · rintro j x H2 H3 hj ⟨sm, eD⟩ ⟨rfl, c, hc, rfl⟩
        have hc : t.cps.toList[j]? = some c := by rw [Array.getElem?_toList]; exact hc
        have et : t.cps.toList.take (j + 1) = t.cps.toList.take j ++ [c] := by rw [List.take_add_one, hc]; rfl
        have hj' : j < 10000 := Nat.lt_of_lt_of_le hj tl
        refine ⟨rfl, ?_⟩
        refine ⟨_, rfl, c, ("LR" : Str), rfl, rfl, _, rfl, ?_⟩
        rw [et, List.filter_append]
        refine bl2 (fun b => ?_) (fun b => ?_)
        · refine ⟨_, rfl, _, eD, ?_, fun b o z => by rw [upd_ne (ne_of_none z hD)]; exact sm b o z, ?_⟩
          · rw [List.length_map]
            refine Nat.lt_of_le_of_lt (List.length_filter_le _ _) ?_
            rw [List.length_take]
            exact Nat.lt_of_le_of_lt (Nat.min_le_left _ _) (Nat.lt_trans hj' (by decide))
          · have e1 : List.filter (fun c => !decide (c ∈ ("LR" : Str).cps.toList)) [c] = [c] := by
              simp only [List.filter_cons, List.filter_nil]
              exact if_pos b
            rw [upd_same, e1, List.map_append]
            rfl
        · refine ⟨sm, ?_⟩
          have e1 : List.filter (fun c => !decide (c ∈ ("LR" : Str).cps.toList)) [c] = [] := by
            simp only [List.filter_cons, List.filter_nil]
            exact if_neg (by rw [b]; exact Bool.false_ne_true)
          rw [e1, List.append_nil]
          exact eD
      · rintro H2 ⟨s2, eD⟩
        rw [show t.cps.toList.take t.cps.size = t.cps.toList from List.take_of_length_le (by simp)] at eD
        generalize hF : (t.cps.toList.filter fun c => !decide (c ∈ ("LR" : Str).cps.toList)) = F at eD
        have hF0 : F = [] ↔ IsRd t := by rw [← hF]; exact odd_flt t
        have hFk : ∀ c ∈ F, c < 1114112 := fun c hc => by
          rw [← hF] at hc
          exact tk c (List.mem_filter.mp hc).1
        have s02 := s1.trans s2
        -- the odd text is told
        have tell : OddT (t, k) → ∀ H' r, Same H H' → H r = none → H' r = some (.lst [.str t]) → Q (.ref r) H' := fun o H' r sm nr er => by
          refine q H' r sm nr ?_
          rw [ef]
          show OddL H' r (Fo ((t, k) :: _))
          rw [fo_yes o]
          exact er
        have goOn : ¬ OddT (t, k) → Fo (ps.map (·.2)) = Fo ((ps.drop (i + 1)).map (·.2)) := fun o => by
          rw [ef]
          show Fo ((t, k) :: _) = _
          rw [fo_no o]
        refine ⟨_, rfl, sz (by show 0 ≤ 1000000; decide), fun E0 nE0 => ?_⟩
        have s3 := s02.new (o := .lst []) nE0
        have eF := (show Same H2 (L2.upd H2 E0 (.lst [])) from (L2.Same.refl H2).new nE0) _ _ eD
        have eE : L2.upd H2 E0 (.lst []) E0 = some (.lst []) := upd_same
        revert s3 eF eE
        generalize L2.upd H2 E0 (.lst []) = H3
        intro s3 eF eE
        refine ⟨.list (sgD F), .list [], .lst (SqL.of eF) (dp_sg F), .lst (SqL.of eE) .nil, sg_shaped hFk, rfl, _, rfl, ?_⟩
        rw [sg_eqv]
        have s3r : ∀ {r : Addr}, H3 r = none → H r = none := fun nr => s3.free nr
        refine bl2 (fun c1 => ?_) (fun c1 => ?_)
        · have o : OddT (t, k) := .inl fun z => by
            rw [decide_eq_true (hF0.mpr z)] at c1
            cases c1
          exact ⟨_, rfl, sz (by show 1 ≤ 1000000; decide), fun r nr => tell o _ r (s3.new nr) (s3.free nr) upd_same⟩
        have rdT : IsRd t := hF0.mp (by simpa using c1)
        refine ⟨_, rfl, _, _, rfl, rfl, _, rfl, ?_⟩
        by_cases k0 : k = 0
        · subst k0
          refine iteF (iteF ⟨_, rfl, _, _, rfl, rfl, _, rfl, iteF (iteF ?_)⟩)
          exact ⟨_, _, _, rfl, s3, goOn fun z => odd_0.mp z rdT⟩
        · have d0 : decide ((0 : Int) < (k : Int)) = true := decide_eq_true (by omega)
          refine bl2 (fun _ => ?_) (fun z => absurd (z.symm.trans d0) Bool.false_ne_true)
          refine ⟨_, rfl, rfl, _, rfl, bl2 (fun c2 => ?_) (fun c2 => ?_)⟩
          · have c2 : V.str t = V.str ("" : Str) := of_decide_eq_true c2
            injection c2 with c2
            have o : OddT (t, k) := .inr (.inl ⟨by show 0 < k; omega, c2⟩)
            exact ⟨_, rfl, sz (by show 1 ≤ 1000000; decide), fun r nr => tell o _ r (s3.new nr) (s3.free nr) upd_same⟩
          have tne : t ≠ ("" : Str) := fun z => by
            have c2 := of_decide_eq_false c2
            exact c2 (by rw [z])
          refine ⟨_, rfl, _, _, rfl, rfl, _, rfl, ?_⟩
          by_cases k1 : k ≤ 1
          · have d1 : decide ((1 : Int) < (k : Int)) = false := decide_eq_false (by omega)
            refine bl2 (fun z => absurd (z.symm.trans d1) (by decide)) (fun _ => iteF ⟨_, _, _, rfl, s3, goOn fun z => ?_⟩)
            rcases z with z | z | z
            · exact z rdT
            · exact tne z.2
            · have := z.1
              omega
          · have d1 : decide ((1 : Int) < (k : Int)) = true := decide_eq_true (by omega)
            refine bl2 (fun _ => ?_) (fun z => absurd (z.symm.trans d1) Bool.false_ne_true)
            have od : ¬ (76 ∈ t.cps.toList ∧ 82 ∈ t.cps.toList) → OddT (t, k) := fun z => .inr (.inr ⟨by show 1 < k; omega, z⟩)
            refine ⟨_, rfl, 76, t, congrArg V.str (by decide +kernel), rfl, _, rfl, bl2 (fun c3 => ?_) (fun c3 => ?_)⟩
            · have c3 : ¬ 76 ∈ t.cps.toList := by simpa using c3
              exact ⟨_, rfl, sz (by show 1 ≤ 1000000; decide), fun r nr => tell (od fun z => c3 z.1) _ r (s3.new nr) (s3.free nr) upd_same⟩
            · have c3 : 76 ∈ t.cps.toList := by simpa using c3
              refine ⟨_, rfl, 82, t, congrArg V.str (by decide +kernel), rfl, _, rfl, bl2 (fun c4 => ?_) (fun c4 => ?_)⟩
              · have c4 : ¬ 82 ∈ t.cps.toList := by simpa using c4
                exact ⟨_, rfl, sz (by show 1 ≤ 1000000; decide), fun r nr => tell (od fun z => c4 z.2) _ r (s3.new nr) (s3.free nr) upd_same⟩
              · have c4 : 82 ∈ t.cps.toList := by simpa using c4
                refine ⟨_, _, _, rfl, s3, goOn fun z => ?_⟩
                rcases z with z | z | z
                · exact z rdT
                · exact tne z.2
                · exact z.2 ⟨c3, c4⟩
    · rintro σ H1 ⟨x1, x2, x4, rfl, s1, ef⟩
      rw [List.length_map, List.drop_length] at ef
      refine ⟨sz (by show 0 ≤ 1000000; decide), fun r nr => ?_⟩
      refine q _ r (s1.new nr) (s1.free nr) ?_
      rw [ef]
      exact upd_same

/-! _law_rt_shared -/
def sp__law_rt_shared (K : PySem.W.Frag) : Sp := fun vs H Q _ => ∃ (a : Addr) (l : List Int), vs = [.ref a] ∧ Sq K H a (l.map V.int) ∧ Q (.int (gl l : Nat)) H
theorem ok__law_rt_shared (T : Tx K mg) : FnOk P w K mg base CX0 1 T.a__law_rt_shared T.fd__law_rt_shared ["numbers"] (sp__law_rt_shared K) := by
  refine T.F__law_rt_shared.ok sc__law_rt_shared (fun vs H Q E h => ?_) (fun cdv A outer s H vs Q E hr h => ?_)
  · obtain ⟨a, l, rfl, _⟩ := h
    rfl
  · obtain ⟨a, l, rfl, hs, q⟩ := h
    refine ⟨_, (pss_cons (ps_set (i := 1) sc__law_rt_shared.nd rfl (Or.inl rfl) pe_int)
  (pss_cons (ps_for PassesOwn.never rfl (pi_seq (pv 0)) (pg_name (i := 2) sc__law_rt_shared.nd rfl (Or.inl rfl))
    (pss_cons (ps_set (i := 3) sc__law_rt_shared.nd rfl (Or.inl rfl) (pe_callB call_abs (by rfl) T.z_abs (by decide +kernel) (pa_cons (pv 2) pa_nil)))
  (pss_one (ps_while PassesOwn.never (pt_cmpR op_ne (pv 3) pe_int (nomark _))
    (pss_one (ps_par (i := 1) (j := 3) (by rfl) sc__law_rt_shared.nd rfl rfl (by decide) rfl rfl (pa_cons (pv 3) (pa_cons (pe_op op_modN (pe_callTy call_int1 (by rfl) T.z_int (by decide +kernel) (pa_cons (pv 1) pa_nil)) (pe_callTy call_int1 (by rfl) T.z_int (by decide +kernel) (pa_cons (pv 3) pa_nil))) pa_nil)) (by rfl)))))))
  (pss_one (ps_ret (pv 1))))), ?_⟩
    refine ⟨_, rfl, a, _, rfl, hs, fun J hJ => for_it hJ.walk (fun i σ H' => ∃ x y : Option V, σ = [some (.ref a), some (.int (gl (l.take i) : Nat)), x, y] ∧ H' = H) ⟨none, none, rfl, rfl⟩ (fun i σ H' _ hp => ?_) ?_ ?_⟩
    · obtain ⟨_, _, _, rfl⟩ := hp
      exact L2.Same.refl _
    · rintro i x σ H' H2 hi ⟨x', y', rfl, rfl⟩ ⟨rfl, hx⟩
      rw [List.length_map] at hi
      rw [List.getElem?_map, List.getElem?_eq_getElem hi] at hx
      have ex := (Option.some.inj hx).symm
      subst ex
      generalize hc : l[i] = c
      have step : gl (l.take (i + 1)) = Nat.gcd (gl (l.take i)) c.natAbs := by
        rw [← hc, ← gl_snoc, List.take_append_getElem]
      have ea : (if c < 0 then -c else c) = (c.natAbs : Int) := by split <;> omega
      refine ⟨_, rfl, _, rfl, ?_⟩
      show tWhile _ _ _ [some (V.ref a), some (V.int (gl (l.take i) : Nat)), some (V.int c), some (V.int (if c < 0 then -c else c))] _
      rw [ea]
      refine ⟨fun m σ H' => ∃ f k : Nat, σ = [some (.ref a), some (.int (f : Nat)), some (.int c), some (.int (k : Nat))] ∧ m = k ∧ Nat.gcd f k = gl (l.take (i + 1)) ∧ H' = H2, ⟨c.natAbs, gl (l.take i), c.natAbs, rfl, rfl, step.symm, rfl⟩, ?_⟩
      rintro m σ H' ⟨f, k, rfl, rfl, hg, rfl⟩
      refine ⟨_, rfl, rfl, _, rfl, ?_⟩
      by_cases h0 : m = 0
      · subst h0
        refine iteNS rfl ?_
        rw [Nat.gcd_zero_right] at hg
        rw [← hg]
        exact ⟨_, _, rfl, rfl⟩
      · have e0 : (!decide (V.int ((m : Nat) : Int) = V.int 0)) = true := by
          rw [decide_eq_false (fun z => h0 (by have := V.int.inj z; omega))]
          rfl
        rw [e0]
        refine iteT ⟨_, fun σ' H' hn => hn, _, rfl, _, rfl, .inl ⟨_, rfl, _, rfl, .inl ⟨_, rfl, _, _, rfl, rfl, (by show ((m : Nat) : Int) ≠ 0; omega), _, _, rfl, ?_⟩⟩⟩
        have em : ((f : Nat) : Int).fmod ((m : Nat) : Int) = ((f % m : Nat) : Int) := by
          rw [Int.fmod_eq_emod_of_nonneg _ (by omega)]
          rfl
        refine ⟨f % m, Nat.mod_lt _ (by omega), m, f % m, ?_, rfl, ?_, rfl⟩
        · show [some (V.ref a), some (V.int (m : Nat)), some (V.int c), some (V.int (((f : Nat) : Int).fmod ((m : Nat) : Int)))] = _
          rw [em]
        · rw [← hg, Nat.gcd_comm f m, Nat.gcd_rec m f, Nat.gcd_comm]
    · rintro σ H' ⟨x, y, rfl, rfl⟩
      refine ⟨_, rfl, ?_⟩
      rw [List.length_map, List.take_length]
      exact q

/-! _law_rt_is_pair -/
def sp__law_rt_is_pair (K : PySem.W.Frag) : Sp := fun vs H Q _ => ∃ (p : Addr) (x y : Int), vs = [.ref p] ∧ SqT K H p [.int x, .int y] ∧ ∀ b : Bool, (b = true ↔ FracP x y) → Q (.bl b) H
theorem ok__law_rt_is_pair (T : Tx K mg) : FnOk P w K mg base CX0 2 T.a__law_rt_is_pair T.fd__law_rt_is_pair ["pair"] (sp__law_rt_is_pair K) := by
  have G__law_rt_shared := ok__law_rt_shared (P := P) (w := w) (base := base) T
  refine T.F__law_rt_is_pair.ok sc__law_rt_is_pair (fun vs H Q E h => ?_) (fun cdv A outer s H vs Q E hr h => ?_)
  · obtain ⟨p, x, y, rfl, _⟩ := h
    rfl
  · obtain ⟨p, x, y, rfl, hp, q⟩ := h
    refine ⟨_, (pss_one (ps_ret (pe_and (pe_cmpR op_gt (pe_callB (cr_minT hr) (by rfl) T.z_min (by decide +kernel) (pa_cons (pv 0) pa_nil)) pe_int (nomark _)) (pe_one (pe_cmpR op_eq (pe_call G__law_rt_shared (hr.mono (by decide)) (by rfl) T.g__law_rt_shared T.F__law_rt_shared.kp (b__law_rt_shared T.F__law_rt_shared) .nil pass0 (pa_cons (pv 0) pa_nil)) pe_int (nomark _)))))), ?_⟩
    refine ⟨_, rfl, p, x, [y], rfl, hp, by show 1 ≤ 100; decide, fun m hm hl => ⟨_, _, rfl, rfl, _, rfl, bl2 (fun c => ?_) (fun h => ?_)⟩⟩
    · have c := of_decide_eq_true c
      have h1 := hl x (by simp)
      have h2 := hl y (by simp)
      refine ⟨_, rfl, p, [x, y], rfl, .inr hp, rfl, q _ ?_⟩
      have e : gl [x, y] = Nat.gcd x.natAbs y.natAbs := by
        show Nat.gcd (Nat.gcd 0 x.natAbs) y.natAbs = _
        rw [Nat.gcd_zero_left]
      rw [e]
      refine ⟨fun z => ⟨by omega, by omega, ?_⟩, fun z => ?_⟩
      · have z : V.int _ = V.int 1 := of_decide_eq_true z
        injection z with z
        omega
      · rw [z.2.2]
        rfl
    · have h := of_decide_eq_false h
      refine q _ ⟨(fun z => nomatch z), fun z => absurd ?_ h⟩
      have := z.1
      have := z.2.1
      simp only [List.mem_cons, List.not_mem_nil, or_false] at hm
      rcases hm with rfl | rfl <;> omega

/-! _law_due -/
def sp__law_due (K : PySem.W.Frag) : Sp := fun vs H Q _ => ∃ (way : Nat) (W p : Addr) (t0 t1 t2 t3 : Str) (x y many : Int), vs = [.int (way : Nat), .ref W, .ref p, .int many] ∧ way < 7 ∧ H W = some (.lst [.str t0, .str t1, .str t2, .str t3]) ∧ H p = some (.tup [.int x, .int y]) ∧
  (∀ t ∈ [t0, t1, t2, t3], t.length ≤ 10000 ∧ Sok t) ∧ ∀ H' r, Same H H' → H r = none → DueL H' r (dueV way t0 t1 t2 t3 p x y many) → Q (.ref r) H'
theorem ok__law_due (T : Tx K mg) : FnOk P w K mg base CX0 3 T.a__law_due T.fd__law_due ["way", "words", "pair", "many"] (sp__law_due K) := by
  have G__law_rt_first_odd := ok__law_rt_first_odd (P := P) (w := w) (base := base) T
  have G__law_rt_is_pair := ok__law_rt_is_pair (P := P) (w := w) (base := base) T
  refine T.F__law_due.ok sc__law_due (fun vs H Q E h => ?_) (fun cdv A outer s H vs Q E hr h => ?_)
  · obtain ⟨way, W, p, t0, t1, t2, t3, x, y, many, rfl, _⟩ := h
    rfl
  · obtain ⟨way, W, p, t0, t1, t2, t3, x, y, many, rfl, hway, eW, ep, ht, q⟩ := h
    refine ⟨_, (pss_cons (ps_set (i := 4) sc__law_due.nd rfl (Or.inl rfl) (pe_lst (pa_cons (pe_lst (pa_cons (pe_tup (pa_cons (pe_ix ix_list (pv 1) pe_int (fun _ _ => rfl)) (pa_cons pe_int pa_nil))) pa_nil)) (pa_cons (pe_lst pa_nil) (pa_cons (pe_lst (pa_cons (pe_tup (pa_cons (pe_ix ix_list (pv 1) pe_int (fun _ _ => rfl)) (pa_cons pe_int pa_nil))) (pa_cons (pe_tup (pa_cons (pe_ix ix_list (pv 1) pe_int (fun _ _ => rfl)) (pa_cons pe_int pa_nil))) pa_nil))) (pa_cons (pe_lst (pa_cons (pe_tup (pa_cons (pe_ix ix_list (pv 1) pe_int (fun _ _ => rfl)) (pa_cons pe_int pa_nil))) (pa_cons (pe_tup (pa_cons (pe_ix ix_list (pv 1) pe_int (fun _ _ => rfl)) (pa_cons pe_int pa_nil))) pa_nil))) pa_nil))))))
  (pss_cons (ps_expr (pe_bm PySem.F.plainAttrs_list PySem.F.slot_list_append PySem.F.type_list_append mt_append (pv 4) (pa_cons (pe_lst (pa_cons (pe_tup (pa_cons (pe_ix ix_list (pv 1) pe_int (fun _ _ => rfl)) (pa_cons pe_int pa_nil))) (pa_cons (pe_tup (pa_cons (pe_ix ix_list (pv 1) pe_int (fun _ _ => rfl)) (pa_cons pe_int pa_nil))) (pa_cons (pe_tup (pa_cons (pe_ix ix_list (pv 1) pe_int (fun _ _ => rfl)) (pa_cons pe_int pa_nil))) (pa_cons (pe_tup (pa_cons (pe_ix ix_list (pv 1) pe_int (fun _ _ => rfl)) (pa_cons pe_int pa_nil))) pa_nil))))) pa_nil)))
  (pss_cons (ps_set (i := 4) sc__law_due.nd rfl (Or.inl rfl) (pe_op op_cat (pv 4) (pe_lst (pa_cons (pe_lst (pa_cons (pe_tup (pa_cons (pe_ix ix_list (pv 1) pe_int (fun _ _ => rfl)) (pa_cons pe_int pa_nil))) (pa_cons (pe_tup (pa_cons (pe_ix ix_list (pv 1) pe_int (fun _ _ => rfl)) (pa_cons pe_int pa_nil))) pa_nil))) (pa_cons (pe_lst (pa_cons (pe_tup (pa_cons (pe_ix ix_list (pv 1) pe_int (fun _ _ => rfl)) (pa_cons pe_int pa_nil))) (pa_cons (pe_tup (pa_cons (pe_ix ix_list (pv 1) pe_int (fun _ _ => rfl)) (pa_cons pe_int pa_nil))) pa_nil))) pa_nil)))))
  (pss_cons (ps_set (i := 5) sc__law_due.nd rfl (Or.inl rfl) (pe_call G__law_rt_first_odd (hr.mono (by decide)) (by rfl) T.g__law_rt_first_odd T.F__law_rt_first_odd.kp (b__law_rt_first_odd T.F__law_rt_first_odd) .nil pass0 (pa_cons (pe_ix ix_list (pv 4) (pv 0) (fun _ _ => rfl)) pa_nil)))
  (pss_cons (ps_if (pt_cmpR (op_neD hr.units) (pv 5) (pe_lst pa_nil) (nomark _)) (pss_one (ps_ret (pe_lst (pa_cons pe_int (pa_cons (pe_ix ix_list (pv 5) pe_int (fun _ _ => rfl)) pa_nil))))) pss_nil)
  (pss_cons (ps_if (PW.pt (pw_and (pt_cmpR op_eq (pv 0) pe_int (nomark _)) (pw_and1 (pt_not (pt_val (pe_call G__law_rt_is_pair (hr.mono (by decide)) (by rfl) T.g__law_rt_is_pair T.F__law_rt_is_pair.kp (b__law_rt_is_pair T.F__law_rt_is_pair) .nil pass0 (pa_cons (pv 2) pa_nil))))))) (pss_one (ps_ret (pe_lst (pa_cons pe_int (pa_cons (pv 2) pa_nil))))) pss_nil)
  (pss_one (ps_ret (pe_ifExp (PW.pt (pw_and (pt_cmpR op_eq (pv 0) pe_int (nomark _)) (pw_and1 (pt_cmpR op_lt (pv 3) pe_int (nomark _))))) (pe_lst (pa_cons pe_int (pa_cons (pv 3) pa_nil))) (pe_lst pa_nil)))))))))), ?_⟩
    have sm := L2.Same.refl H
    have ep := ep
    have eW := eW
    refine ⟨_, rfl, W, _, _, _, rfl, rfl, SqL.of eW, rfl, sz (by show 2 ≤ 1000000; decide), fun a1 na1 => ?_⟩
    have st := (L2.Same.refl H).new (o := .tup [.str t0, .int 0]) na1
    replace sm := sm.trans st
    replace ep := st _ _ ep
    replace eW := st _ _ eW
    have ea1 : (L2.upd H a1 (.tup [.str t0, .int 0])) a1 = some (.tup [.str t0, .int 0]) := upd_same
    clear st na1
    revert sm ep eW ea1
    generalize L2.upd H a1 (.tup [.str t0, .int 0]) = H1
    intro sm ep eW ea1
    refine ⟨sz (by show 1 ≤ 1000000; decide), fun B0 nB0 => ?_⟩
    have st := (L2.Same.refl H1).new (o := .lst [.ref a1]) nB0
    replace sm := sm.trans st
    replace ep := st _ _ ep
    replace eW := st _ _ eW
    replace ea1 := st _ _ ea1
    have P0 : Parts (L2.upd H1 B0 (.lst [.ref a1])) B0 [(a1, t0, 0)] := ⟨upd_same, by
      intro z hz
      simp only [List.mem_cons, List.not_mem_nil, or_false] at hz
      rcases hz with rfl
      · exact ea1⟩
    clear st nB0
    revert sm ep eW ea1 P0
    generalize L2.upd H1 B0 (.lst [.ref a1]) = H2
    intro sm ep eW ea1 P0
    refine ⟨sz (by show 0 ≤ 1000000; decide), fun B1 nB1 => ?_⟩
    have st := (L2.Same.refl H2).new (o := .lst []) nB1
    replace sm := sm.trans st
    replace ep := st _ _ ep
    replace eW := st _ _ eW
    replace P0 := P0.same st
    have P1 : Parts (L2.upd H2 B1 (.lst [])) B1 [] := ⟨upd_same, fun z hz => nomatch hz⟩
    clear st nB1
    revert sm ep eW P0 P1
    generalize L2.upd H2 B1 (.lst []) = H3
    intro sm ep eW P0 P1
    refine ⟨_, rfl, W, _, _, _, rfl, rfl, SqL.of eW, rfl, sz (by show 2 ≤ 1000000; decide), fun a2 na2 => ?_⟩
    have st := (L2.Same.refl H3).new (o := .tup [.str t0, .int 0]) na2
    replace sm := sm.trans st
    replace ep := st _ _ ep
    replace eW := st _ _ eW
    replace P0 := P0.same st
    replace P1 := P1.same st
    have ea2 : (L2.upd H3 a2 (.tup [.str t0, .int 0])) a2 = some (.tup [.str t0, .int 0]) := upd_same
    clear st na2
    revert sm ep eW P0 P1 ea2
    generalize L2.upd H3 a2 (.tup [.str t0, .int 0]) = H4
    intro sm ep eW P0 P1 ea2
    refine ⟨_, rfl, W, _, _, _, rfl, rfl, SqL.of eW, rfl, sz (by show 2 ≤ 1000000; decide), fun a3 na3 => ?_⟩
    have st := (L2.Same.refl H4).new (o := .tup [.str t1, .int 0]) na3
    replace sm := sm.trans st
    replace ep := st _ _ ep
    replace eW := st _ _ eW
    replace P0 := P0.same st
    replace P1 := P1.same st
    replace ea2 := st _ _ ea2
    have ea3 : (L2.upd H4 a3 (.tup [.str t1, .int 0])) a3 = some (.tup [.str t1, .int 0]) := upd_same
    clear st na3
    revert sm ep eW P0 P1 ea2 ea3
    generalize L2.upd H4 a3 (.tup [.str t1, .int 0]) = H5
    intro sm ep eW P0 P1 ea2 ea3
    refine ⟨sz (by show 2 ≤ 1000000; decide), fun B2 nB2 => ?_⟩
    have st := (L2.Same.refl H5).new (o := .lst [.ref a2, .ref a3]) nB2
    replace sm := sm.trans st
    replace ep := st _ _ ep
    replace eW := st _ _ eW
    replace P0 := P0.same st
    replace P1 := P1.same st
    replace ea2 := st _ _ ea2
    replace ea3 := st _ _ ea3
    have P2 : Parts (L2.upd H5 B2 (.lst [.ref a2, .ref a3])) B2 [(a2, t0, 0), (a3, t1, 0)] := ⟨upd_same, by
      intro z hz
      simp only [List.mem_cons, List.not_mem_nil, or_false] at hz
      rcases hz with rfl | rfl
      · exact ea2
      · exact ea3⟩
    clear st nB2
    revert sm ep eW P0 P1 ea2 ea3 P2
    generalize L2.upd H5 B2 (.lst [.ref a2, .ref a3]) = H6
    intro sm ep eW P0 P1 ea2 ea3 P2
    refine ⟨_, rfl, W, _, _, _, rfl, rfl, SqL.of eW, rfl, sz (by show 2 ≤ 1000000; decide), fun a4 na4 => ?_⟩
    have st := (L2.Same.refl H6).new (o := .tup [.str t0, .int 0]) na4
    replace sm := sm.trans st
    replace ep := st _ _ ep
    replace eW := st _ _ eW
    replace P0 := P0.same st
    replace P1 := P1.same st
    replace P2 := P2.same st
    have ea4 : (L2.upd H6 a4 (.tup [.str t0, .int 0])) a4 = some (.tup [.str t0, .int 0]) := upd_same
    clear st na4
    revert sm ep eW P0 P1 P2 ea4
    generalize L2.upd H6 a4 (.tup [.str t0, .int 0]) = H7
    intro sm ep eW P0 P1 P2 ea4
    refine ⟨_, rfl, W, _, _, _, rfl, rfl, SqL.of eW, rfl, sz (by show 2 ≤ 1000000; decide), fun a5 na5 => ?_⟩
    have st := (L2.Same.refl H7).new (o := .tup [.str t1, .int 1]) na5
    replace sm := sm.trans st
    replace ep := st _ _ ep
    replace eW := st _ _ eW
    replace P0 := P0.same st
    replace P1 := P1.same st
    replace P2 := P2.same st
    replace ea4 := st _ _ ea4
    have ea5 : (L2.upd H7 a5 (.tup [.str t1, .int 1])) a5 = some (.tup [.str t1, .int 1]) := upd_same
    clear st na5
    revert sm ep eW P0 P1 P2 ea4 ea5
    generalize L2.upd H7 a5 (.tup [.str t1, .int 1]) = H8
    intro sm ep eW P0 P1 P2 ea4 ea5
    refine ⟨sz (by show 2 ≤ 1000000; decide), fun B3 nB3 => ?_⟩
    have st := (L2.Same.refl H8).new (o := .lst [.ref a4, .ref a5]) nB3
    replace sm := sm.trans st
    replace ep := st _ _ ep
    replace eW := st _ _ eW
    replace P0 := P0.same st
    replace P1 := P1.same st
    replace P2 := P2.same st
    replace ea4 := st _ _ ea4
    replace ea5 := st _ _ ea5
    have P3 : Parts (L2.upd H8 B3 (.lst [.ref a4, .ref a5])) B3 [(a4, t0, 0), (a5, t1, 1)] := ⟨upd_same, by
      intro z hz
      simp only [List.mem_cons, List.not_mem_nil, or_false] at hz
      rcases hz with rfl | rfl
      · exact ea4
      · exact ea5⟩
    clear st nB3
    revert sm ep eW P0 P1 P2 ea4 ea5 P3
    generalize L2.upd H8 B3 (.lst [.ref a4, .ref a5]) = H9
    intro sm ep eW P0 P1 P2 ea4 ea5 P3
    refine ⟨sz (by show 4 ≤ 1000000; decide), fun M1 nM1 => ?_⟩
    have ne0 : B0 ≠ M1 := ne_of_none P0.1 nM1
    have ne1 : B1 ≠ M1 := ne_of_none P1.1 nM1
    have ne2 : B2 ≠ M1 := ne_of_none P2.1 nM1
    have ne3 : B3 ≠ M1 := ne_of_none P3.1 nM1
    have neW : W ≠ M1 := ne_of_none eW nM1
    have nep : p ≠ M1 := ne_of_none ep nM1
    have hM0 : H M1 = none := sm.free nM1
    have st := (L2.Same.refl H9).new (o := .lst [.ref B0, .ref B1, .ref B2, .ref B3]) nM1
    replace sm := sm.trans st
    replace ep := st _ _ ep
    replace eW := st _ _ eW
    replace P0 := P0.same st
    replace P1 := P1.same st
    replace P2 := P2.same st
    replace P3 := P3.same st
    have eM : (L2.upd H9 M1 (.lst [.ref B0, .ref B1, .ref B2, .ref B3])) M1 = some (.lst [.ref B0, .ref B1, .ref B2, .ref B3]) := upd_same
    clear st nM1
    revert sm ep eW P0 P1 P2 P3 eM
    generalize L2.upd H9 M1 (.lst [.ref B0, .ref B1, .ref B2, .ref B3]) = H10
    intro sm ep eW P0 P1 P2 P3 eM
    refine ⟨_, rfl, .inl ⟨rfl, _, SqL.of eM⟩, _, rfl, W, _, _, _, rfl, rfl, SqL.of eW, rfl, sz (by show 2 ≤ 1000000; decide), fun a6 na6 => ?_⟩
    have st := (L2.Same.refl H10).new (o := .tup [.str t0, .int 0]) na6
    replace sm := sm.trans st
    replace ep := st _ _ ep
    replace eW := st _ _ eW
    replace P0 := P0.same st
    replace P1 := P1.same st
    replace P2 := P2.same st
    replace P3 := P3.same st
    replace eM := st _ _ eM
    have ea6 : (L2.upd H10 a6 (.tup [.str t0, .int 0])) a6 = some (.tup [.str t0, .int 0]) := upd_same
    clear st na6
    revert sm ep eW P0 P1 P2 P3 eM ea6
    generalize L2.upd H10 a6 (.tup [.str t0, .int 0]) = H11
    intro sm ep eW P0 P1 P2 P3 eM ea6
    refine ⟨_, rfl, W, _, _, _, rfl, rfl, SqL.of eW, rfl, sz (by show 2 ≤ 1000000; decide), fun a7 na7 => ?_⟩
    have st := (L2.Same.refl H11).new (o := .tup [.str t1, .int 2]) na7
    replace sm := sm.trans st
    replace ep := st _ _ ep
    replace eW := st _ _ eW
    replace P0 := P0.same st
    replace P1 := P1.same st
    replace P2 := P2.same st
    replace P3 := P3.same st
    replace eM := st _ _ eM
    replace ea6 := st _ _ ea6
    have ea7 : (L2.upd H11 a7 (.tup [.str t1, .int 2])) a7 = some (.tup [.str t1, .int 2]) := upd_same
    clear st na7
    revert sm ep eW P0 P1 P2 P3 eM ea6 ea7
    generalize L2.upd H11 a7 (.tup [.str t1, .int 2]) = H12
    intro sm ep eW P0 P1 P2 P3 eM ea6 ea7
    refine ⟨_, rfl, W, _, _, _, rfl, rfl, SqL.of eW, rfl, sz (by show 2 ≤ 1000000; decide), fun a8 na8 => ?_⟩
    have st := (L2.Same.refl H12).new (o := .tup [.str t2, .int 0]) na8
    replace sm := sm.trans st
    replace ep := st _ _ ep
    replace eW := st _ _ eW
    replace P0 := P0.same st
    replace P1 := P1.same st
    replace P2 := P2.same st
    replace P3 := P3.same st
    replace eM := st _ _ eM
    replace ea6 := st _ _ ea6
    replace ea7 := st _ _ ea7
    have ea8 : (L2.upd H12 a8 (.tup [.str t2, .int 0])) a8 = some (.tup [.str t2, .int 0]) := upd_same
    clear st na8
    revert sm ep eW P0 P1 P2 P3 eM ea6 ea7 ea8
    generalize L2.upd H12 a8 (.tup [.str t2, .int 0]) = H13
    intro sm ep eW P0 P1 P2 P3 eM ea6 ea7 ea8
    refine ⟨_, rfl, W, _, _, _, rfl, rfl, SqL.of eW, rfl, sz (by show 2 ≤ 1000000; decide), fun a9 na9 => ?_⟩
    have st := (L2.Same.refl H13).new (o := .tup [.str t3, .int 2]) na9
    replace sm := sm.trans st
    replace ep := st _ _ ep
    replace eW := st _ _ eW
    replace P0 := P0.same st
    replace P1 := P1.same st
    replace P2 := P2.same st
    replace P3 := P3.same st
    replace eM := st _ _ eM
    replace ea6 := st _ _ ea6
    replace ea7 := st _ _ ea7
    replace ea8 := st _ _ ea8
    have ea9 : (L2.upd H13 a9 (.tup [.str t3, .int 2])) a9 = some (.tup [.str t3, .int 2]) := upd_same
    clear st na9
    revert sm ep eW P0 P1 P2 P3 eM ea6 ea7 ea8 ea9
    generalize L2.upd H13 a9 (.tup [.str t3, .int 2]) = H14
    intro sm ep eW P0 P1 P2 P3 eM ea6 ea7 ea8 ea9
    refine ⟨sz (by show 4 ≤ 1000000; decide), fun B4 nB4 => ?_⟩
    have ne4 : B4 ≠ M1 := Ne.symm (ne_of_none eM nB4)
    have st := (L2.Same.refl H14).new (o := .lst [.ref a6, .ref a7, .ref a8, .ref a9]) nB4
    replace sm := sm.trans st
    replace ep := st _ _ ep
    replace eW := st _ _ eW
    replace P0 := P0.same st
    replace P1 := P1.same st
    replace P2 := P2.same st
    replace P3 := P3.same st
    replace eM := st _ _ eM
    replace ea6 := st _ _ ea6
    replace ea7 := st _ _ ea7
    replace ea8 := st _ _ ea8
    replace ea9 := st _ _ ea9
    have P4 : Parts (L2.upd H14 B4 (.lst [.ref a6, .ref a7, .ref a8, .ref a9])) B4 [(a6, t0, 0), (a7, t1, 2), (a8, t2, 0), (a9, t3, 2)] := ⟨upd_same, by
      intro z hz
      simp only [List.mem_cons, List.not_mem_nil, or_false] at hz
      rcases hz with rfl | rfl | rfl | rfl
      · exact ea6
      · exact ea7
      · exact ea8
      · exact ea9⟩
    clear st nB4
    revert sm ep eW P0 P1 P2 P3 eM ea6 ea7 ea8 ea9 P4
    generalize L2.upd H14 B4 (.lst [.ref a6, .ref a7, .ref a8, .ref a9]) = H15
    intro sm ep eW P0 P1 P2 P3 eM ea6 ea7 ea8 ea9 P4
    refine ⟨M1, _, _, rfl, rfl, eM, sz (by show 5 ≤ 1000000; decide), ?_⟩
    replace sm : Same H (L2.upd H15 M1 (.lst ([.ref B0, .ref B1, .ref B2, .ref B3] ++ [.ref B4]))) := fun b o z => by
      rw [upd_ne (fun y => by rw [y, hM0] at z; cases z)]
      exact sm b o z
    replace ep : (L2.upd H15 M1 (.lst ([.ref B0, .ref B1, .ref B2, .ref B3] ++ [.ref B4]))) p = some (.tup [.int x, .int y]) := by rw [upd_ne nep]; exact ep
    replace eW : (L2.upd H15 M1 (.lst ([.ref B0, .ref B1, .ref B2, .ref B3] ++ [.ref B4]))) W = some (.lst [.str t0, .str t1, .str t2, .str t3]) := by rw [upd_ne neW]; exact eW
    replace P0 := P0.upd (ys := [.ref B0, .ref B1, .ref B2, .ref B3] ++ [.ref B4]) eM ne0
    replace P1 := P1.upd (ys := [.ref B0, .ref B1, .ref B2, .ref B3] ++ [.ref B4]) eM ne1
    replace P2 := P2.upd (ys := [.ref B0, .ref B1, .ref B2, .ref B3] ++ [.ref B4]) eM ne2
    replace P3 := P3.upd (ys := [.ref B0, .ref B1, .ref B2, .ref B3] ++ [.ref B4]) eM ne3
    replace P4 := P4.upd (ys := [.ref B0, .ref B1, .ref B2, .ref B3] ++ [.ref B4]) eM ne4
    replace eM : (L2.upd H15 M1 (.lst ([.ref B0, .ref B1, .ref B2, .ref B3] ++ [.ref B4]))) M1 = some (.lst [.ref B0, .ref B1, .ref B2, .ref B3, .ref B4]) := upd_same
    revert sm ep eW P0 P1 P2 P3 P4 eM
    generalize L2.upd H15 M1 (.lst ([.ref B0, .ref B1, .ref B2, .ref B3] ++ [.ref B4])) = H16
    intro sm ep eW P0 P1 P2 P3 P4 eM
    refine ⟨_, rfl, _, rfl, W, _, _, _, rfl, rfl, SqL.of eW, rfl, sz (by show 2 ≤ 1000000; decide), fun a10 na10 => ?_⟩
    have st := (L2.Same.refl H16).new (o := .tup [.str t0, .int 0]) na10
    replace sm := sm.trans st
    replace ep := st _ _ ep
    replace eW := st _ _ eW
    replace P0 := P0.same st
    replace P1 := P1.same st
    replace P2 := P2.same st
    replace P3 := P3.same st
    replace P4 := P4.same st
    replace eM := st _ _ eM
    have ea10 : (L2.upd H16 a10 (.tup [.str t0, .int 0])) a10 = some (.tup [.str t0, .int 0]) := upd_same
    clear st na10
    revert sm ep eW P0 P1 P2 P3 P4 eM ea10
    generalize L2.upd H16 a10 (.tup [.str t0, .int 0]) = H17
    intro sm ep eW P0 P1 P2 P3 P4 eM ea10
    refine ⟨_, rfl, W, _, _, _, rfl, rfl, SqL.of eW, rfl, sz (by show 2 ≤ 1000000; decide), fun a11 na11 => ?_⟩
    have st := (L2.Same.refl H17).new (o := .tup [.str t1, .int 1]) na11
    replace sm := sm.trans st
    replace ep := st _ _ ep
    replace eW := st _ _ eW
    replace P0 := P0.same st
    replace P1 := P1.same st
    replace P2 := P2.same st
    replace P3 := P3.same st
    replace P4 := P4.same st
    replace eM := st _ _ eM
    replace ea10 := st _ _ ea10
    have ea11 : (L2.upd H17 a11 (.tup [.str t1, .int 1])) a11 = some (.tup [.str t1, .int 1]) := upd_same
    clear st na11
    revert sm ep eW P0 P1 P2 P3 P4 eM ea10 ea11
    generalize L2.upd H17 a11 (.tup [.str t1, .int 1]) = H18
    intro sm ep eW P0 P1 P2 P3 P4 eM ea10 ea11
    refine ⟨sz (by show 2 ≤ 1000000; decide), fun B5 nB5 => ?_⟩
    have st := (L2.Same.refl H18).new (o := .lst [.ref a10, .ref a11]) nB5
    replace sm := sm.trans st
    replace ep := st _ _ ep
    replace eW := st _ _ eW
    replace P0 := P0.same st
    replace P1 := P1.same st
    replace P2 := P2.same st
    replace P3 := P3.same st
    replace P4 := P4.same st
    replace eM := st _ _ eM
    replace ea10 := st _ _ ea10
    replace ea11 := st _ _ ea11
    have P5 : Parts (L2.upd H18 B5 (.lst [.ref a10, .ref a11])) B5 [(a10, t0, 0), (a11, t1, 1)] := ⟨upd_same, by
      intro z hz
      simp only [List.mem_cons, List.not_mem_nil, or_false] at hz
      rcases hz with rfl | rfl
      · exact ea10
      · exact ea11⟩
    clear st nB5
    revert sm ep eW P0 P1 P2 P3 P4 eM ea10 ea11 P5
    generalize L2.upd H18 B5 (.lst [.ref a10, .ref a11]) = H19
    intro sm ep eW P0 P1 P2 P3 P4 eM ea10 ea11 P5
    refine ⟨_, rfl, W, _, _, _, rfl, rfl, SqL.of eW, rfl, sz (by show 2 ≤ 1000000; decide), fun a12 na12 => ?_⟩
    have st := (L2.Same.refl H19).new (o := .tup [.str t0, .int 0]) na12
    replace sm := sm.trans st
    replace ep := st _ _ ep
    replace eW := st _ _ eW
    replace P0 := P0.same st
    replace P1 := P1.same st
    replace P2 := P2.same st
    replace P3 := P3.same st
    replace P4 := P4.same st
    replace eM := st _ _ eM
    replace P5 := P5.same st
    have ea12 : (L2.upd H19 a12 (.tup [.str t0, .int 0])) a12 = some (.tup [.str t0, .int 0]) := upd_same
    clear st na12
    revert sm ep eW P0 P1 P2 P3 P4 eM P5 ea12
    generalize L2.upd H19 a12 (.tup [.str t0, .int 0]) = H20
    intro sm ep eW P0 P1 P2 P3 P4 eM P5 ea12
    refine ⟨_, rfl, W, _, _, _, rfl, rfl, SqL.of eW, rfl, sz (by show 2 ≤ 1000000; decide), fun a13 na13 => ?_⟩
    have st := (L2.Same.refl H20).new (o := .tup [.str t1, .int 2]) na13
    replace sm := sm.trans st
    replace ep := st _ _ ep
    replace eW := st _ _ eW
    replace P0 := P0.same st
    replace P1 := P1.same st
    replace P2 := P2.same st
    replace P3 := P3.same st
    replace P4 := P4.same st
    replace eM := st _ _ eM
    replace P5 := P5.same st
    replace ea12 := st _ _ ea12
    have ea13 : (L2.upd H20 a13 (.tup [.str t1, .int 2])) a13 = some (.tup [.str t1, .int 2]) := upd_same
    clear st na13
    revert sm ep eW P0 P1 P2 P3 P4 eM P5 ea12 ea13
    generalize L2.upd H20 a13 (.tup [.str t1, .int 2]) = H21
    intro sm ep eW P0 P1 P2 P3 P4 eM P5 ea12 ea13
    refine ⟨sz (by show 2 ≤ 1000000; decide), fun B6 nB6 => ?_⟩
    have st := (L2.Same.refl H21).new (o := .lst [.ref a12, .ref a13]) nB6
    replace sm := sm.trans st
    replace ep := st _ _ ep
    replace eW := st _ _ eW
    replace P0 := P0.same st
    replace P1 := P1.same st
    replace P2 := P2.same st
    replace P3 := P3.same st
    replace P4 := P4.same st
    replace eM := st _ _ eM
    replace P5 := P5.same st
    replace ea12 := st _ _ ea12
    replace ea13 := st _ _ ea13
    have P6 : Parts (L2.upd H21 B6 (.lst [.ref a12, .ref a13])) B6 [(a12, t0, 0), (a13, t1, 2)] := ⟨upd_same, by
      intro z hz
      simp only [List.mem_cons, List.not_mem_nil, or_false] at hz
      rcases hz with rfl | rfl
      · exact ea12
      · exact ea13⟩
    clear st nB6
    revert sm ep eW P0 P1 P2 P3 P4 eM P5 ea12 ea13 P6
    generalize L2.upd H21 B6 (.lst [.ref a12, .ref a13]) = H22
    intro sm ep eW P0 P1 P2 P3 P4 eM P5 ea12 ea13 P6
    refine ⟨sz (by show 2 ≤ 1000000; decide), fun M2 nM2 => ?_⟩
    have st := (L2.Same.refl H22).new (o := .lst [.ref B5, .ref B6]) nM2
    replace sm := sm.trans st
    replace ep := st _ _ ep
    replace eW := st _ _ eW
    replace P0 := P0.same st
    replace P1 := P1.same st
    replace P2 := P2.same st
    replace P3 := P3.same st
    replace P4 := P4.same st
    replace eM := st _ _ eM
    replace P5 := P5.same st
    replace P6 := P6.same st
    have eM2 : (L2.upd H22 M2 (.lst [.ref B5, .ref B6])) M2 = some (.lst [.ref B5, .ref B6]) := upd_same
    clear st nM2
    revert sm ep eW P0 P1 P2 P3 P4 eM P5 P6 eM2
    generalize L2.upd H22 M2 (.lst [.ref B5, .ref B6]) = H23
    intro sm ep eW P0 P1 P2 P3 P4 eM P5 P6 eM2
    refine ⟨M1, M2, _, _, rfl, rfl, eM, eM2, sz (by show 5 + 2 ≤ 1000000; decide), fun M3 nM3 => ?_⟩
    have st := (L2.Same.refl H23).new (o := .lst ([.ref B0, .ref B1, .ref B2, .ref B3, .ref B4] ++ [.ref B5, .ref B6])) nM3
    replace sm := sm.trans st
    replace ep := st _ _ ep
    replace eW := st _ _ eW
    replace P0 := P0.same st
    replace P1 := P1.same st
    replace P2 := P2.same st
    replace P3 := P3.same st
    replace P4 := P4.same st
    replace eM := st _ _ eM
    replace P5 := P5.same st
    replace P6 := P6.same st
    replace eM2 := st _ _ eM2
    have eM3 : (L2.upd H23 M3 (.lst ([.ref B0, .ref B1, .ref B2, .ref B3, .ref B4] ++ [.ref B5, .ref B6]))) M3 = some (.lst [.ref B0, .ref B1, .ref B2, .ref B3, .ref B4, .ref B5, .ref B6]) := upd_same
    clear st nM3
    revert sm ep eW P0 P1 P2 P3 P4 eM P5 P6 eM2 eM3
    generalize L2.upd H23 M3 (.lst ([.ref B0, .ref B1, .ref B2, .ref B3, .ref B4] ++ [.ref B5, .ref B6])) = H24
    intro sm ep eW P0 P1 P2 P3 P4 eM P5 P6 eM2 eM3
    obtain ⟨L, ps, eat, P, eps, lps⟩ : ∃ (L : Addr) (ps : List (Addr × Str × Nat)), atI [V.ref B0, .ref B1, .ref B2, .ref B3, .ref B4, .ref B5, .ref B6] (way : Int) = some (.ref L) ∧ Parts H24 L ps ∧ ps.map (·.2) = itemsV way t0 t1 t2 t3 ∧ ps.length ≤ 10 := by
      match way, hway with
      | 0, _ => exact ⟨B0, _, rfl, P0, rfl, by show 1 ≤ 10; decide⟩
      | 1, _ => exact ⟨B1, _, rfl, P1, rfl, by show 0 ≤ 10; decide⟩
      | 2, _ => exact ⟨B2, _, rfl, P2, rfl, by show 2 ≤ 10; decide⟩
      | 3, _ => exact ⟨B3, _, rfl, P3, rfl, by show 2 ≤ 10; decide⟩
      | 4, _ => exact ⟨B4, _, rfl, P4, rfl, by show 4 ≤ 10; decide⟩
      | 5, _ => exact ⟨B5, _, rfl, P5, rfl, by show 2 ≤ 10; decide⟩
      | 6, _ => exact ⟨B6, _, rfl, P6, rfl, by show 2 ≤ 10; decide⟩
      | (n + 7), z => exact absurd z (by omega)
    have hmem : ∀ z ∈ itemsV way t0 t1 t2 t3, z.1 ∈ [t0, t1, t2, t3] := by
      match way, hway with
      | 0, _ | 1, _ | 2, _ | 3, _ | 4, _ | 5, _ | 6, _ => simp [itemsV]
      | (n + 7), z => exact absurd z (by omega)
    have hok : ∀ z ∈ ps, z.2.1.length ≤ 10000 ∧ Sok z.2.1 := fun z hz => ht _ (hmem _ (by rw [← eps]; exact List.mem_map_of_mem hz))
    clear P0 P1 P2 P3 P4 P5 P6 eM eM2
    refine ⟨_, rfl, _, rfl, M3, _, _, _, rfl, rfl, SqL.of eM3, eat, L, ps, rfl, P, lps, hok, fun H' r s2 nr er => ?_⟩
    rw [eps] at er
    have sm2 := sm.trans s2
    have ep2 := s2 _ _ ep
    have nrH := sm.free nr
    unfold dueV at q
    cases hF : Fo (itemsV way t0 t1 t2 t3) with
    | some t =>
      rw [hF] at er q
      have er : H' r = some (.lst [.str t]) := er
      obtain ⟨z, hz, rfl⟩ := fo_mem hF
      have hk := (ht _ (hmem z hz)).2
      refine ⟨_, rfl, sz (by show 0 ≤ 1000000; decide), fun E0 nE0 => ?_⟩
      have s3 := (L2.Same.refl H').new (o := .lst []) nE0
      have er3 := s3 _ _ er
      refine ⟨.list [.str z.1], .list [], .lst (SqL.of er3) (.cons (.str _) .nil), .lst (SqL.of upd_same) .nil, str_shaped hk, rfl, _, rfl, iteT ?_⟩
      refine ⟨_, rfl, r, _, _, _, rfl, rfl, SqL.of er3, rfl, sz (by show 2 ≤ 1000000; decide), fun u nu => ?_⟩
      exact q _ u ((sm2.trans s3).new nu) ((sm2.trans s3).free nu) upd_same
    | none =>
      rw [hF] at er q
      have er : H' r = some (.lst []) := er
      refine ⟨_, rfl, sz (by show 0 ≤ 1000000; decide), fun E0 nE0 => ?_⟩
      have s3 := (L2.Same.refl H').new (o := .lst []) nE0
      have er3 := s3 _ _ er
      have ep3 := s3 _ _ ep2
      have sm3 := sm2.trans s3
      refine ⟨.list [], .list [], .lst (SqL.of er3) .nil, .lst (SqL.of upd_same) .nil, rfl, rfl, _, rfl, iteF ?_⟩
      revert er3 ep3 sm3
      generalize L2.upd H' E0 (.lst []) = H3
      intro er3 ep3 sm3
      have wi : ∀ k : Nat, decide (V.int (way : Int) = V.int (k : Int)) = decide (way = k) := fun k => decide_eq_decide.mpr ⟨fun z => by injection z with z; omega, fun z => by rw [z]⟩
      have rest : ¬ (way = 1 ∧ ¬ FracP x y) → ∀ H4, Same H H4 → ∀ r4, H r4 = none → (way = 5 ∧ many < 0 → H4 r4 = some (.lst [.int 5, .int many])) → (¬ (way = 5 ∧ many < 0) → H4 r4 = some (.lst [])) → Q (.ref r4) H4 := fun n1 H4 sm4 r4 nr4 e1 e2 => by
        refine q H4 r4 sm4 nr4 ?_
        rw [if_neg n1]
        by_cases c : way = 5 ∧ many < 0
        · rw [if_pos c]
          exact e1 c
        · rw [if_neg c]
          exact e2 c
      have tail : ¬ (way = 1 ∧ ¬ FracP x y) → (tRet (tIf (tAnd (tTest (tOp rEq (tVar 0) (tC (V.int 5)))) (tTest (tOp (rI0 fun i j => V.bl (decide (i < j))) (tVar 3) (tC (V.int 0))))) (tLst (tCons (tC (V.int 5)) (tCons (tVar 3) tNil))) (tLst tNil))) { nx := fun x H' => Q V.non H', rt := Q } [some (.int way), some (.ref W), some (.ref p), some (.int many), some (.ref M3), some (.ref r)] H3 := fun n1 => by
        refine ⟨_, rfl, rfl, _, rfl, ?_⟩
        have e5 := wi 5
        by_cases c5 : way = 5
        · subst c5
          refine iteT ⟨_, rfl, _, _, rfl, rfl, _, rfl, bl2 (fun c => ?_) (fun c => ?_)⟩
          · have c := of_decide_eq_true c
            refine ⟨_, rfl, sz (by show 2 ≤ 1000000; decide), fun u nu => ?_⟩
            exact rest n1 _ (sm3.new nu) u (sm3.free nu) (fun _ => upd_same) (fun z => absurd ⟨rfl, c⟩ z)
          · have c := of_decide_eq_false c
            refine ⟨sz (by show 0 ≤ 1000000; decide), fun u nu => ?_⟩
            exact rest n1 _ (sm3.new nu) u (sm3.free nu) (fun z => absurd z.2 c) (fun _ => upd_same)
        · have e : decide (V.int (way : Int) = V.int 5) = false := e5.trans (decide_eq_false c5)
          rw [e]
          refine iteF (iteF ⟨sz (by show 0 ≤ 1000000; decide), fun u nu => ?_⟩)
          exact rest n1 _ (sm3.new nu) u (sm3.free nu) (fun z => absurd z.1 c5) (fun _ => upd_same)
      refine ⟨_, rfl, rfl, _, rfl, ?_⟩
      have e1 := wi 1
      by_cases c1 : way = 1
      · subst c1
        refine iteT ⟨_, rfl, p, x, y, rfl, SqT.of ep3, fun b hb => ⟨b, rfl, ?_⟩⟩
        cases b with
        | true => exact iteF (tail fun z => z.2 (hb.1 rfl))
        | false =>
          have nf : ¬ FracP x y := fun z => by
            have := hb.2 z
            cases this
          refine iteT ⟨_, rfl, sz (by show 2 ≤ 1000000; decide), fun u nu => ?_⟩
          refine q _ u (sm3.new nu) (sm3.free nu) ?_
          rw [if_pos ⟨rfl, nf⟩]
          exact upd_same
      · have e : decide (V.int (way : Int) = V.int 1) = false := e1.trans (decide_eq_false c1)
        rw [e]
        exact iteF (iteF (tail fun z => c1 z.1))

/-! _law_coin -/
def sp__law_coin (K : PySem.W.Frag) : Sp := fun vs H Q _ => ∃ (a : Addr) (many : Int) (n : Nat), vs = [.ref a, .int many] ∧ 1 ≤ many ∧ many < 1073741824 ∧ n < 1000000000 ∧ Pu H a n ∧
  ∀ (r : Int) H', 0 ≤ r → r < many → Pu H' a (n + 1) → Kp a H H' → Q (.int r) H'
theorem ok__law_coin (T : Tx K mg) : FnOk P w K mg base CX0 1 T.a__law_coin T.fd__law_coin ["purse", "many"] (sp__law_coin K) := by
  refine T.F__law_coin.ok sc__law_coin (fun vs H Q E h => ?_) (fun cdv A outer s H vs Q E hr h => ?_)
  · obtain ⟨a, many, n, rfl, _⟩ := h
    rfl
  · obtain ⟨a, many, n, rfl, m1, m2, hn, ⟨p0, p1, p2, hp, g0, g1, g2, g3, g4⟩, q⟩ := h
    refine ⟨_, (pss_cons (ps_if (pt_cmpR op_gt (pe_ix ix_list (pv 0) pe_int (fun _ _ => rfl)) pe_int (nomark _)) (pss_cons (ps_set (i := 2) sc__law_coin.nd rfl (Or.inl rfl) (pe_op op_modN (pe_callTy call_int1 (by rfl) T.z_int (by decide +kernel) (pa_cons (pe_ix ix_list (pv 0) pe_int (fun _ _ => rfl)) pa_nil)) (pv 1)))
  (pss_cons (ps_asg (pe_op op_fdivL (pe_ix ix_list (pv 0) pe_int (fun _ _ => rfl)) (pv 1)) (pg_sub (pv 0) pe_int set_list))
  (pss_one (ps_ret (pv 2))))) pss_nil)
  (pss_cons (ps_asg (pe_op op_add (pe_ix ix_list (pv 0) pe_int (fun _ _ => rfl)) pe_int) (pg_sub (pv 0) pe_int set_list))
  (pss_cons (ps_set (i := 3) sc__law_coin.nd rfl (Or.inl rfl) (pe_op op_modN (pe_op op_powL (pe_callTy call_int1 (by rfl) T.z_int (by decide +kernel) (pa_cons (pe_op op_add (pe_ix ix_list (pv 0) pe_int (fun _ _ => rfl)) (pe_op op_mulL pe_int (pe_ix ix_list (pv 0) pe_int (fun _ _ => rfl)))) pa_nil)) pe_int) (pe_op op_add (pe_op op_powL pe_int pe_int) pe_int)))
  (pss_cons (ps_set (i := 3) sc__law_coin.nd rfl (Or.inl rfl) (pe_op op_modN (pe_op op_powL (pe_callTy call_int1 (by rfl) T.z_int (by decide +kernel) (pa_cons (pe_op op_add (pv 3) (pe_op op_mulL pe_int (pe_ix ix_list (pv 0) pe_int (fun _ _ => rfl)))) pa_nil)) pe_int) (pe_op op_add (pe_op op_powL pe_int pe_int) pe_int)))
  (pss_one (ps_ret (pe_op op_modN (pe_callTy call_int1 (by rfl) T.z_int (by decide +kernel) (pa_cons (pe_op op_fdivL (pv 3) pe_int) pa_nil)) (pv 1)))))))), ?_⟩
    have at0 {x y z : V} : atI [x, y, z] 0 = some x := rfl
    have at1 {x y z : V} : atI [x, y, z] 1 = some y := rfl
    have at2 {x y z : V} : atI [x, y, z] 2 = some z := rfl
    have mod_lo (x : Int) : 0 ≤ x.fmod many := by
      rw [Int.fmod_eq_emod_of_nonneg _ (by omega)]
      exact Int.emod_nonneg _ (by omega)
    have mod_hi (x : Int) : x.fmod many < many := by
      rw [Int.fmod_eq_emod_of_nonneg _ (by omega)]
      exact Int.emod_lt_of_pos _ (by omega)
    refine ⟨_, rfl, a, _, _, _, rfl, rfl, SqL.of hp, at0, _, _, rfl, rfl, _, rfl, ite2 (fun e => ?_) (fun e => ?_)⟩
    · refine ⟨_, rfl, a, _, _, _, rfl, rfl, SqL.of hp, at0, .inl ⟨_, rfl, _, rfl, _, _, rfl, rfl, (by show many ≠ 0; omega), ?_⟩⟩
      refine ⟨_, rfl, a, _, _, _, rfl, rfl, SqL.of hp, at0, _, rfl, _, _, rfl, rfl, .inl ⟨by omega, by omega⟩, _, rfl, a, _, _, 0, rfl, rfl, hp, rfl, ?_⟩
      refine ⟨_, rfl, q _ _ (mod_lo _) (mod_hi _) ⟨_, _, _, upd_same, ?_, g1, g2, g3, by omega⟩ (Kp.upd a H _)⟩
      rw [Int.fdiv_eq_ediv_of_nonneg _ (by omega)]
      exact Int.ediv_nonneg g0 (by omega)
    · -- purse[2] grows by one; what is stirred of it lies below 10 ** 24 + 7
      refine ⟨_, rfl, a, _, _, _, rfl, rfl, SqL.of hp, at2, _, _, rfl, rfl, _, rfl, a, _, _, 2, rfl, rfl, hp, rfl, ?_⟩
      have hp' : (upd H a (.lst [.int p0, .int p1, .int (p2 + 1)])) a = some (.lst [.int p0, .int p1, .int (p2 + 1)]) := upd_same
      have e25 : (10 : Int) ^ (25 : Int).toNat + 13 = 10000000000000000000000013 := by decide
      have e24 : (10 : Int) ^ (24 : Int).toNat + 7 = 1000000000000000000000007 := by decide
      have b1 : (p1 + 2038074743 * (p2 + 1)).natAbs < 2 ^ 100 := by
        have : (2 : Nat) ^ 100 = 1267650600228229401496703205376 := by decide
        have : (2 : Int) ^ 80 = 1208925819614629174706176 := by decide
        omega
      refine ⟨_, rfl, a, _, _, _, rfl, rfl, SqL.of hp', at1, _, rfl, a, _, _, _, rfl, rfl, SqL.of hp', at2, _, _, rfl, rfl, cml_l (by decide), _, _, rfl, rfl, .inl ⟨_, rfl, ?_⟩⟩
      refine ⟨_, _, rfl, rfl, cpw 100 b1 (by decide) (by decide), _, _, rfl, rfl, cpw 4 (by decide) (by decide) (by decide), _, _, rfl, rfl, _, _, rfl, rfl, (by show ((10 : Int) ^ (25 : Int).toNat + 13) ≠ 0; decide), ?_⟩
      have bs (x : Int) : (x.fmod (10 ^ (25 : Int).toNat + 13) + 982451653 * (p2 + 1)).natAbs < 2 ^ 100 := by
        rw [e25, Int.fmod_eq_emod_of_nonneg _ (by decide)]
        have h1 := Int.emod_nonneg x (show (10000000000000000000000013 : Int) ≠ 0 by decide)
        have h2 := Int.emod_lt_of_pos x (show (0 : Int) < 10000000000000000000000013 by decide)
        have : (2 : Nat) ^ 100 = 1267650600228229401496703205376 := by decide
        omega
      refine ⟨_, rfl, _, rfl, a, _, _, _, rfl, rfl, SqL.of hp', at2, _, _, rfl, rfl, cml_l (by decide), _, _, rfl, rfl, .inl ⟨_, rfl, ?_⟩⟩
      refine ⟨_, _, rfl, rfl, cpw 100 (bs _) (by decide) (by decide), _, _, rfl, rfl, cpw 4 (by decide) (by decide) (by decide), _, _, rfl, rfl, _, _, rfl, rfl, (by show ((10 : Int) ^ (24 : Int).toNat + 7) ≠ 0; decide), ?_⟩
      refine ⟨_, rfl, _, _, rfl, rfl, .inl ⟨by decide, by decide⟩, .inl ⟨_, rfl, _, rfl, _, _, rfl, rfl, (by show many ≠ 0; omega), ?_⟩⟩
      exact q _ _ (mod_lo _) (mod_hi _) ⟨_, _, _, hp', g0, g1, g2, by omega, by omega⟩ (Kp.upd a H _)

/-! _law_rt_odd_way -/
def sp__law_rt_odd_way (K : PySem.W.Frag) : Sp := fun vs H Q _ => ∃ (a : Addr) (w : List Bool) (n : Nat), vs = [.ref a, .str (rd w)] ∧ w.length ≤ 1000 ∧ n < 800000000 ∧ Pu H a n ∧
  ∀ (t : Str) H', t.length ≤ w.length + 1 → Sok t → Pu H' a (n + 3) → Kp a H H' → Q (.str t) H'
theorem at_str {W : Str} {r : Int} (hk : (W.cps.toList.all fun x => decide (x < 1114112)) = true) (h0 : 0 ≤ r) (h1 : r < (W.length : Int)) : ∃ c, atI W.cps.toList r = some c ∧ c < 1114112 := by
  obtain ⟨j, rfl⟩ := nat_of h0
  have h1 : j < W.cps.size := by
    have : j < W.length := by omega
    exact this
  have h2 : j < W.cps.toList.length := by simpa using h1
  exact ⟨W.cps.toList[j], atI_nat (List.getElem?_eq_getElem _), of_decide_eq_true (List.all_eq_true.mp hk _ (List.getElem_mem h2))⟩
theorem app_len (x y : Str) : (x ++ y).length = x.length + y.length := by
  show (x.cps ++ y.cps).size = x.cps.size + y.cps.size
  simp
theorem ok__law_rt_odd_way (T : Tx K mg) : FnOk P w K mg base CX0 2 T.a__law_rt_odd_way T.fd__law_rt_odd_way ["purse", "wording"] (sp__law_rt_odd_way K) := by
  have G__law_coin := ok__law_coin (P := P) (w := w) (base := base) T
  refine T.F__law_rt_odd_way.ok sc__law_rt_odd_way (fun vs H Q E h => ?_) (fun cdv A outer s H vs Q E hr h => ?_)
  · obtain ⟨a, w, n, rfl, _⟩ := h
    rfl
  · obtain ⟨a, w, n, rfl, hw, hn, hp, q⟩ := h
    refine ⟨_, (pss_cons (ps_set (i := 2) sc__law_rt_odd_way.nd rfl (Or.inl rfl) pe_str)
  (pss_cons (ps_par (i := 3) (j := 4) (by rfl) sc__law_rt_odd_way.nd rfl rfl (by decide) rfl rfl (pa_cons (pe_call G__law_coin (hr.mono (by decide)) (by rfl) T.g__law_coin T.F__law_coin.kp (b__law_coin T.F__law_coin) .nil pass0 (pa_cons (pv 0) (pa_cons (pe_op op_add (pe_callB call_len_str (by rfl) T.z_len (by decide +kernel) (pa_cons (pv 1) pa_nil)) pe_int) pa_nil))) (pa_cons (pe_ix ix_str (pv 2) (pe_call G__law_coin (hr.mono (by decide)) (by rfl) T.g__law_coin T.F__law_coin.kp (b__law_coin T.F__law_coin) .nil pass0 (pa_cons (pv 0) (pa_cons (pe_callB call_len_str (by rfl) T.z_len (by decide +kernel) (pa_cons (pv 2) pa_nil)) pa_nil))) (fun _ _ => rfl)) pa_nil)) (by rfl))
  (pss_cons (ps_if (pt_cmpR op_gt (pe_call G__law_coin (hr.mono (by decide)) (by rfl) T.g__law_coin T.F__law_coin.kp (b__law_coin T.F__law_coin) .nil pass0 (pa_cons (pv 0) (pa_cons pe_int pa_nil))) pe_int (nomark _)) (pss_one (ps_ret (pv 1))) pss_nil)
  (pss_one (ps_ret (pe_op op_add_str (pe_op op_add_str (pe_slice sl_str (pv 1) po_none (po_some (pv 3))) (pv 4)) (pe_slice sl_str (pv 1) (po_some (pv 3)) po_none))))))), ?_⟩
    refine ⟨_, rfl, _, rfl, rd w, rfl, by rw [rd_len]; exact sz (by omega), _, _, rfl, rfl, a, _, n, rfl, by omega, by rw [rd_len]; omega, by omega, hp, fun r H1 r0 r1 hp1 k1 => ?_⟩
    refine ⟨_, rfl, _, rfl, _, rfl, _, rfl, sz (by decide +kernel), a, _, n + 1, rfl, by decide +kernel, by decide +kernel, by omega, hp1, fun r' H2 r0' r1' hp2 k2 => ?_⟩
    obtain ⟨c, ec, ck⟩ := at_str (by decide +kernel) r0' r1'
    refine ⟨_, _, _, rfl, rfl, sz (by decide +kernel), ec, _, _, rfl, ?_⟩
    refine ⟨_, rfl, a, 3, n + 2, rfl, by decide, by decide, by omega, hp2, fun r2 H3 _ _ hp3 k3 => ?_⟩
    have k03 := (k1.trans k2).trans k3
    refine ⟨_, _, rfl, rfl, _, rfl, bl2 (fun _ => ?_) (fun _ => ?_)⟩
    · exact ⟨_, rfl, q (rd w) H3 (by rw [rd_len]; omega) (rd_sok w) hp3 k03⟩
    · obtain ⟨j, rfl⟩ := nat_of r0
      refine ⟨_, rfl, _, rfl, _, rfl, rd w, rfl, by rw [rd_len]; exact sz (by omega), ?_⟩
      rw [cut_take]
      have l1 : (rd (w.take j)).length ≤ 1000 := by rw [rd_len, List.length_take]; omega
      have l2 : (⟨#[c]⟩ : Str).length = 1 := rfl
      have l3 : (rd (w.drop j)).length ≤ 1000 := by rw [rd_len, List.length_drop]; omega
      refine ⟨_, rfl, _, _, rfl, rfl, by rw [l2]; exact Nat.le_trans (Nat.add_le_add_right l1 1) (by decide), ?_⟩
      refine ⟨_, rfl, _, rfl, _, rfl, rd w, rfl, by rw [rd_len]; exact sz (by omega), ?_⟩
      rw [cut_drop]
      refine ⟨_, _, rfl, rfl, ?_, ?_⟩
      · rw [app_len, l2]
        exact Nat.le_trans (Nat.add_le_add (Nat.add_le_add_right l1 1) l3) (by decide)
      · refine q _ H3 ?_ (app_sok (app_sok (rd_sok _) (fun x hx => ?_)) (rd_sok _)) hp3 k03
        · rw [app_len, app_len, l2, rd_len, rd_len, List.length_take, List.length_drop]
          omega
        · have e : x = c := by simpa using hx
          rw [e]
          exact ck

/-! _law_rt_ends -/
def sp__law_rt_ends (K : PySem.W.Frag) : Sp := fun vs H Q _ => ∃ (w : List Bool), vs = [.str (rd w)] ∧
  ∀ H' p l h, Same H H' → H p = none → H' p = some (.tup [.ref l, .ref h]) → H' l = some (.tup [.int (mat w).b, .int (mat w).d]) → H' h = some (.tup [.int (mat w).a, .int (mat w).c]) → Q (.ref p) H'
theorem ok__law_rt_ends (T : Tx K mg) : FnOk P w K mg base CX0 1 T.a__law_rt_ends T.fd__law_rt_ends ["wording"] (sp__law_rt_ends K) := by
  refine T.F__law_rt_ends.ok sc__law_rt_ends (fun vs H Q E h => ?_) (fun cdv A outer s H vs Q E hr h => ?_)
  · obtain ⟨w, rfl, _⟩ := h
    rfl
  · obtain ⟨w, rfl, q⟩ := h
    refine ⟨_, (pss_cons (ps_asg (pe_tup (pa_cons (pe_tup (pa_cons pe_int (pa_cons pe_int pa_nil))) (pa_cons (pe_tup (pa_cons pe_int (pa_cons pe_int pa_nil))) pa_nil))) (pg_tup (by rfl) (pgs_cons (pg_name (i := 1) sc__law_rt_ends.nd rfl (Or.inl rfl)) (pgs_cons (pg_name (i := 2) sc__law_rt_ends.nd rfl (Or.inl rfl)) pgs_nil))))
  (pss_cons (ps_for PassesOwn.never rfl (pi_str (pv 0)) (pg_name (i := 3) sc__law_rt_ends.nd rfl (Or.inl rfl))
    (pss_cons (ps_set (i := 4) sc__law_rt_ends.nd rfl (Or.inl rfl) (pe_tup (pa_cons (pe_op op_add (pe_ix ix_tup (pv 1) pe_int (fun _ _ => rfl)) (pe_ix ix_tup (pv 2) pe_int (fun _ _ => rfl))) (pa_cons (pe_op op_add (pe_ix ix_tup (pv 1) pe_int (fun _ _ => rfl)) (pe_ix ix_tup (pv 2) pe_int (fun _ _ => rfl))) pa_nil))))
  (pss_one (ps_if (pt_cmpR op_eq (pv 3) pe_str (nomark _)) (pss_one (ps_set (i := 1) sc__law_rt_ends.nd rfl (Or.inl rfl) (pv 4))) (pss_one (ps_set (i := 2) sc__law_rt_ends.nd rfl (Or.inl rfl) (pv 4)))))))
  (pss_one (ps_ret (pe_tup (pa_cons (pv 1) (pa_cons (pv 2) pa_nil))))))), ?_⟩
    have z2 : ([.int 0, .int 1] : List V).length ≤ sizeLine := sz (by show 2 ≤ 1000000; decide)
    refine ⟨z2, fun l nl => ⟨z2, fun g ng => ⟨sz (by show 2 ≤ 1000000; decide), fun e ne => ⟨e, _, rfl, .inl (.inl upd_same), rfl, _, _, rfl, _, _, rfl, rfl, ?_⟩⟩⟩⟩
    have nlg : l ≠ g := ne_of_none upd_same ng
    have nge : g ≠ e := ne_of_none upd_same ne
    have nle : l ≠ e := ne_of_none (by rw [upd_ne nlg]; exact upd_same) ne
    refine ⟨_, rfl, rd w, rfl, for_rd (fun pre σ H2 => ∃ (l g : Addr) (x y : Option V), σ = [some (.str (rd w)), some (.ref l), some (.ref g), x, y] ∧ Same H H2 ∧ H2 l = some (.tup [.int (mat pre).b, .int (mat pre).d]) ∧ H2 g = some (.tup [.int (mat pre).a, .int (mat pre).c]))
      ⟨l, g, none, none, rfl, (((L2.Same.refl H).new nl).new ng).new ne, by rw [upd_ne nle, upd_ne nlg, upd_same]; rfl, by rw [upd_ne nge, upd_same]; rfl⟩ ?_ ?_⟩
    · rintro pre t post σ H2 ew ⟨l, g, x, y, rfl, sm, hl, hg⟩
      refine ⟨_, rfl, l, _, _, _, rfl, rfl, SqT.of hl, rfl, _, rfl, g, _, _, _, rfl, rfl, SqT.of hg, rfl, _, _, rfl, rfl, ?_⟩
      refine ⟨_, rfl, l, _, _, _, rfl, rfl, SqT.of hl, rfl, _, rfl, g, _, _, _, rfl, rfl, SqT.of hg, rfl, _, _, rfl, rfl, sz (by show 2 ≤ 1000000; decide), fun m nm => ?_⟩
      have lm : l ≠ m := ne_of_none hl nm
      have gm : g ≠ m := ne_of_none hg nm
      refine ⟨_, rfl, rfl, _, rfl, ?_⟩
      rw [eq_R]
      cases t
      · refine iteF ⟨_, rfl, l, m, _, _, rfl, sm.new nm, by rw [upd_ne lm, hl, mat_snoc]; rfl, ?_⟩
        rw [upd_same, mat_snoc]
        show some (HO.tup [V.int ((mat pre).b + (mat pre).a), V.int ((mat pre).d + (mat pre).c)]) = some (HO.tup [V.int ((mat pre).a + (mat pre).b), V.int ((mat pre).c + (mat pre).d)])
        rw [Int.add_comm (mat pre).b, Int.add_comm (mat pre).d]
      · refine iteT ⟨_, rfl, m, g, _, _, rfl, sm.new nm, ?_, by rw [upd_ne gm, hg, mat_snoc]; rfl⟩
        rw [upd_same, mat_snoc]
        show some (HO.tup [V.int ((mat pre).b + (mat pre).a), V.int ((mat pre).d + (mat pre).c)]) = some (HO.tup [V.int ((mat pre).a + (mat pre).b), V.int ((mat pre).c + (mat pre).d)])
        rw [Int.add_comm (mat pre).b, Int.add_comm (mat pre).d]
    · rintro σ H2 ⟨l, g, x, y, rfl, sm, hl, hg⟩
      refine ⟨_, rfl, _, rfl, sz (by show 2 ≤ 1000000; decide), fun p np => ?_⟩
      exact q _ p l g (sm.new np) (sm.free np) upd_same (by rw [upd_ne (ne_of_none hl np)]; exact hl) (by rw [upd_ne (ne_of_none hg np)]; exact hg)

/-! _law_rt_worth -/
def sp__law_rt_worth (K : PySem.W.Frag) : Sp := fun vs H Q _ => ∃ (w : List Bool), vs = [.str (rd w)] ∧
  ∀ H' p, Same H H' → H p = none → H' p = some (.tup [.int (wa w), .int (wb w)]) → Q (.ref p) H'
theorem ok__law_rt_worth (T : Tx K mg) : FnOk P w K mg base CX0 2 T.a__law_rt_worth T.fd__law_rt_worth ["wording"] (sp__law_rt_worth K) := by
  have G__law_rt_ends := ok__law_rt_ends (P := P) (w := w) (base := base) T
  refine T.F__law_rt_worth.ok sc__law_rt_worth (fun vs H Q E h => ?_) (fun cdv A outer s H vs Q E hr h => ?_)
  · obtain ⟨w, rfl, _⟩ := h
    rfl
  · obtain ⟨w, rfl, q⟩ := h
    refine ⟨_, (pss_cons (ps_asg (pe_call G__law_rt_ends (hr.mono (by decide)) (by rfl) T.g__law_rt_ends T.F__law_rt_ends.kp (b__law_rt_ends T.F__law_rt_ends) .nil pass0 (pa_cons (pv 0) pa_nil)) (pg_tup (by rfl) (pgs_cons (pg_name (i := 1) sc__law_rt_worth.nd rfl (Or.inl rfl)) (pgs_cons (pg_name (i := 2) sc__law_rt_worth.nd rfl (Or.inl rfl)) pgs_nil))))
  (pss_one (ps_ret (pe_tup (pa_cons (pe_op op_add (pe_ix ix_tup (pv 1) pe_int (fun _ _ => rfl)) (pe_ix ix_tup (pv 2) pe_int (fun _ _ => rfl))) (pa_cons (pe_op op_add (pe_ix ix_tup (pv 1) pe_int (fun _ _ => rfl)) (pe_ix ix_tup (pv 2) pe_int (fun _ _ => rfl))) pa_nil)))))), ?_⟩
    refine ⟨_, rfl, w, rfl, fun H1 e l g sm ne he hl hg => ?_⟩
    refine ⟨e, _, rfl, .inl (.inl he), rfl, _, _, rfl, _, _, rfl, rfl, ?_⟩
    refine ⟨_, rfl, l, _, _, _, rfl, rfl, SqT.of hl, rfl, _, rfl, g, _, _, _, rfl, rfl, SqT.of hg, rfl, _, _, rfl, rfl, ?_⟩
    refine ⟨_, rfl, l, _, _, _, rfl, rfl, SqT.of hl, rfl, _, rfl, g, _, _, _, rfl, rfl, SqT.of hg, rfl, _, _, rfl, rfl, sz (by show 2 ≤ 1000000; decide), fun p np => ?_⟩
    refine q _ p (sm.new np) (sm.free np) ?_
    rw [upd_same]
    show some (HO.tup [V.int ((mat w).b + (mat w).a), V.int ((mat w).d + (mat w).c)]) = some (HO.tup [V.int ((mat w).a + (mat w).b), V.int ((mat w).c + (mat w).d)])
    rw [Int.add_comm (mat w).b, Int.add_comm (mat w).d]

/-! _law_rt_fraction -/
def sp__law_rt_fraction (K : PySem.W.Frag) : Sp := fun vs H Q _ => ∃ (a : Addr) (top : Int) (n : Nat), vs = [.ref a, .int top] ∧ 1 ≤ top ∧ top ≤ 400 ∧ n < 900000000 ∧ Pu H a n ∧
  ∀ (w : List Bool) H' p, (w.length : Int) ≤ top → wa w ≤ 1000000000 → wb w ≤ 1000000000 → Pu H' a (n + 100) → Kp a H H' → H p = none → H' p = some (.tup [.int (wa w), .int (wb w)]) → Q (.ref p) H'
theorem ok__law_rt_fraction (T : Tx K mg) : FnOk P w K mg base CX0 3 T.a__law_rt_fraction T.fd__law_rt_fraction ["purse", "top"] (sp__law_rt_fraction K) := by
  have G__law_rt_worth := ok__law_rt_worth (P := P) (w := w) (base := base) T
  have G__law_coin := ok__law_coin (P := P) (w := w) (base := base) T
  refine T.F__law_rt_fraction.ok sc__law_rt_fraction (fun vs H Q E h => ?_) (fun cdv A outer s H vs Q E hr h => ?_)
  · obtain ⟨a, top, n, rfl, _⟩ := h
    rfl
  · obtain ⟨a, top, n, rfl, t0, t1, hn, hp, q⟩ := h
    refine ⟨_, (pss_cons (ps_set (i := 2) sc__law_rt_fraction.nd rfl (Or.inl rfl) pe_str)
  (pss_cons (ps_for PassesOwn.never rfl (pi_range1 (by rfl) T.z_range (pa_cons (pe_call G__law_coin (hr.mono (by decide)) (by rfl) T.g__law_coin T.F__law_coin.kp (b__law_coin T.F__law_coin) .nil pass0 (pa_cons (pv 0) (pa_cons pe_int pa_nil))) pa_nil)) (pg_name (i := 3) sc__law_rt_fraction.nd rfl (Or.inl rfl))
    (pss_cons (ps_set (i := 4) sc__law_rt_fraction.nd rfl (Or.inl rfl) (pe_ix ix_list (pe_lst (pa_cons pe_str (pa_cons pe_str pa_nil))) (pe_call G__law_coin (hr.mono (by decide)) (by rfl) T.g__law_coin T.F__law_coin.kp (b__law_coin T.F__law_coin) .nil pass0 (pa_cons (pv 0) (pa_cons pe_int pa_nil))) (fun _ _ => rfl)))
  (pss_cons (ps_set (i := 5) sc__law_rt_fraction.nd rfl (Or.inl rfl) (pe_op op_add_str (pv 2) (pe_op op_mulS (pv 4) (pe_op op_add pe_int (pe_call G__law_coin (hr.mono (by decide)) (by rfl) T.g__law_coin T.F__law_coin.kp (b__law_coin T.F__law_coin) .nil pass0 (pa_cons (pv 0) (pa_cons (pe_ix ix_list (pe_lst (pa_cons pe_int (pa_cons pe_int (pa_cons (pv 1) pa_nil)))) (pe_call G__law_coin (hr.mono (by decide)) (by rfl) T.g__law_coin T.F__law_coin.kp (b__law_coin T.F__law_coin) .nil pass0 (pa_cons (pv 0) (pa_cons pe_int pa_nil))) (fun _ _ => rfl)) pa_nil)))))))
  (pss_one (ps_if (PW.pt (pw_and (pt_cmpR op_le (pe_callB call_len_str (by rfl) T.z_len (by decide +kernel) (pa_cons (pv 5) pa_nil)) (pv 1) (nomark _)) (pw_and1 (pt_cmpR op_le (pe_callB (cr_maxT hr) (by rfl) T.z_max (by decide +kernel) (pa_cons (pe_call G__law_rt_worth (hr.mono (by decide)) (by rfl) T.g__law_rt_worth T.F__law_rt_worth.kp (b__law_rt_worth T.F__law_rt_worth) .nil pass0 (pa_cons (pv 5) pa_nil)) pa_nil)) (pe_op op_powL pe_int pe_int) (nomark _))))) (pss_one (ps_set (i := 2) sc__law_rt_fraction.nd rfl (Or.inl rfl) (pv 5))) pss_nil)))))
  (pss_one (ps_ret (pe_call G__law_rt_worth (hr.mono (by decide)) (by rfl) T.g__law_rt_worth T.F__law_rt_worth.kp (b__law_rt_worth T.F__law_rt_worth) .nil pass0 (pa_cons (pv 2) pa_nil)))))), ?_⟩
    refine ⟨_, rfl, a, _, n, rfl, by decide, by decide, by omega, hp, fun r H1 r0 r1 hp1 k1 => ?_⟩
    refine ⟨r, rfl, by omega, by omega, for_range (lo := 0) (n := r.toNat)
      (fun i σ H2 => ∃ (w : List Bool) (x y z : Option V), σ = [some (.ref a), some (.int top), some (.str (rd w)), x, y, z] ∧ (w.length : Int) ≤ top ∧ wa w ≤ 1000000000 ∧ wb w ≤ 1000000000 ∧ Pu H2 a (n + 1 + 3 * i) ∧ Kp a H H2)
      ⟨[], none, none, none, rfl, by show (0 : Int) ≤ top; omega, by decide, by decide, hp1, k1⟩ ?_ ?_⟩
    · rintro i σ H2 hi ⟨w, x, y, z, rfl, hw, ha, hb, hp2, k2⟩
      -- sign
      refine ⟨sz (by show 2 ≤ 1000000; decide), fun p np => ⟨_, rfl, a, _, n + 1 + 3 * i, rfl, by decide, by decide, by omega, hp2.new np, fun s H3 s0 s1 hp3 k3 => ?_⟩⟩
      have e3 : H3 p = some (.lst [.str "L", .str "R"]) := k3 p _ (hp2.ne np).symm upd_same
      obtain ⟨t, et⟩ : ∃ t : Bool, atI [V.str "L", .str "R"] s = some (.str (rd [t])) := by
        have c : s = 0 ∨ s = 1 := by omega
        rcases c with rfl | rfl
        · exact ⟨false, by decide +kernel⟩
        · exact ⟨true, by decide +kernel⟩
      refine ⟨p, _, s, _, rfl, rfl, SqL.of e3, et, ?_⟩
      -- longer
      refine ⟨_, rfl, _, rfl, _, rfl, _, rfl, sz (by show 3 ≤ 1000000; decide), fun p2 np2 => ⟨_, rfl, a, _, n + 2 + 3 * i, rfl, by decide, by decide, by omega, (hp3.le (by omega)).new np2, fun m H4 m0 m1 hp4 k4 => ?_⟩⟩
      have e4 : H4 p2 = some (.lst ([2, 9, top].map V.int)) := k4 p2 _ (hp3.ne np2).symm upd_same
      obtain ⟨c, hc, ec⟩ := menu_at (l := [2, 9, top]) m0 m1
      have hc : 1 ≤ c ∧ c ≤ 400 := by
        simp at hc
        omega
      refine ⟨p2, _, m, _, rfl, rfl, SqL.of e4, ec, a, c, n + 3 + 3 * i, rfl, by omega, by omega, by omega, hp4.le (by omega), fun d H5 d0 d1 hp5 k5 => ?_⟩
      refine ⟨_, _, rfl, rfl, _, _, rfl, rfl, by rw [rd_len]; show 1 ≤ 10000; decide, by omega, by omega, ?_⟩
      have er : repT (rd [t]) (1 + d) = rd (repR [t] (1 + d).toNat) := rep_rd _ _
      refine ⟨_, _, rfl, rfl, ?_, ?_⟩
      · rw [er]
        exact rd_app_len (by rw [repR_len]; show w.length + (1 + d).toNat * 1 ≤ 1000000; omega)
      · rw [er, rd_app]
        have k5' : Kp a H H5 := ((((k2.new np).trans k3).new np2).trans k4).trans k5
        generalize hv : w ++ repR [t] (1 + d).toNat = v
        have lv : v.length ≤ 1000 := by
          rw [← hv, List.length_append, repR_len]
          show w.length + (1 + d).toNat * 1 ≤ 1000
          omega
        -- the test
        refine ⟨_, rfl, _, rfl, (by rw [rd_len]; exact sz (by omega)), _, rfl, _, _, rfl, rfl, _, rfl, ?_⟩
        refine bl2 (fun e1 => ?_) (fun e1 => ?_)
        · have e1 := of_decide_eq_true e1
          rw [rd_len] at e1
          refine ⟨_, rfl, v, rfl, fun H6 q6 sm6 nq6 hq6 => ⟨q6, _, [wb v], rfl, SqT.of hq6, by show 1 ≤ 100; decide, fun m _ hm => ?_⟩⟩
          have m1 := hm (wa v) List.mem_cons_self
          have m2 := hm (wb v) (List.mem_cons_of_mem _ List.mem_cons_self)
          refine ⟨_, _, rfl, rfl, cpw 4 (by decide) (by decide) (by decide), _, _, rfl, rfl, _, rfl, ite2 (fun e2 => ?_) (fun e2 => ?_)⟩
          · have e2 : m ≤ 10 ^ (9 : Int).toNat := of_decide_eq_true e2
            have e9 : (10 : Int) ^ (9 : Int).toNat = 1000000000 := by decide
            rw [e9] at e2
            exact ⟨_, rfl, v, _, _, _, rfl, e1, by omega, by omega, (hp5.le (by omega)).same sm6, k5'.trans (Kp.of sm6)⟩
          · exact ⟨w, _, _, _, rfl, hw, ha, hb, (hp5.le (by omega)).same sm6, k5'.trans (Kp.of sm6)⟩
        · exact iteF ⟨w, _, _, _, rfl, hw, ha, hb, hp5.le (by omega), k5'⟩
    · rintro σ H2 ⟨w, x, y, z, rfl, hw, ha, hb, hp2, k2⟩
      refine ⟨_, rfl, w, rfl, fun H3 p sm np hq => ?_⟩
      exact q w H3 p hw ha hb ((hp2.le (by omega)).same sm) (k2.trans (Kp.of sm)) (k2.free hp2 np) hq

/-! _law_rt_odd_pair -/
theorem not_frac_mul {x y m : Int} (hm : 2 ≤ m) : ¬ FracP (x * m) (y * m) := fun h => by
  have e := h.2.2
  rw [Int.natAbs_mul, Int.natAbs_mul, Nat.gcd_mul_right] at e
  have := Nat.eq_one_of_mul_eq_one_left e
  omega
def sp__law_rt_odd_pair (K : PySem.W.Frag) : Sp := fun vs H Q _ => ∃ (a : Addr) (n : Nat), vs = [.ref a] ∧ n < 800000000 ∧ Pu H a n ∧
  ∀ (x y : Int) H' p, Bd 100 x → Bd 100 y → (FracP x y → ∃ w, x = wa w ∧ y = wb w ∧ w.length ≤ 400) → Pu H' a (n + 110) → Kp a H H' → H' p = some (.tup [.int x, .int y]) → Q (.ref p) H'
theorem ok__law_rt_odd_pair (T : Tx K mg) : FnOk P w K mg base CX0 4 T.a__law_rt_odd_pair T.fd__law_rt_odd_pair ["purse"] (sp__law_rt_odd_pair K) := by
  have G__law_rt_fraction := ok__law_rt_fraction (P := P) (w := w) (base := base) T
  have G__law_coin := ok__law_coin (P := P) (w := w) (base := base) T
  refine T.F__law_rt_odd_pair.ok sc__law_rt_odd_pair (fun vs H Q E h => ?_) (fun cdv A outer s H vs Q E hr h => ?_)
  · obtain ⟨a, n, rfl, _⟩ := h
    rfl
  · obtain ⟨a, n, rfl, hn, hp, q⟩ := h
    refine ⟨_, (pss_cons (ps_set (i := 1) sc__law_rt_odd_pair.nd rfl (Or.inl rfl) (pe_lst (pa_cons (pe_tup (pa_cons pe_int (pa_cons pe_int pa_nil))) (pa_cons (pe_tup (pa_cons pe_int (pa_cons pe_int pa_nil))) (pa_cons (pe_tup (pa_cons pe_int (pa_cons pe_int pa_nil))) (pa_cons (pe_tup (pa_cons (pe_un un_neg pe_int) (pa_cons pe_int pa_nil))) (pa_cons (pe_tup (pa_cons pe_int (pa_cons (pe_un un_neg pe_int) pa_nil))) (pa_cons (pe_tup (pa_cons (pe_un un_neg pe_int) (pa_cons (pe_un un_neg pe_int) pa_nil))) (pa_cons (pe_tup (pa_cons pe_int (pa_cons pe_int pa_nil))) (pa_cons (pe_tup (pa_cons pe_int (pa_cons pe_int pa_nil))) (pa_cons (pe_tup (pa_cons pe_int (pa_cons pe_int pa_nil))) (pa_cons (pe_tup (pa_cons pe_int (pa_cons pe_int pa_nil))) (pa_cons (pe_tup (pa_cons (pe_op op_powL pe_int pe_int) (pa_cons (pe_op op_powL pe_int pe_int) pa_nil))) pa_nil)))))))))))))
  (pss_cons (ps_set (i := 2) sc__law_rt_odd_pair.nd rfl (Or.inl rfl) (pe_call G__law_rt_fraction (hr.mono (by decide)) (by rfl) T.g__law_rt_fraction T.F__law_rt_fraction.kp (b__law_rt_fraction T.F__law_rt_fraction) .nil pass0 (pa_cons (pv 0) (pa_cons pe_int pa_nil))))
  (pss_cons (ps_par (i := 3) (j := 4) (by rfl) sc__law_rt_odd_pair.nd rfl rfl (by decide) rfl rfl (pa_cons (pe_op op_add pe_int (pe_call G__law_coin (hr.mono (by decide)) (by rfl) T.g__law_coin T.F__law_coin.kp (b__law_coin T.F__law_coin) .nil pass0 (pa_cons (pv 0) (pa_cons pe_int pa_nil)))) (pa_cons (pe_call G__law_coin (hr.mono (by decide)) (by rfl) T.g__law_coin T.F__law_coin.kp (b__law_coin T.F__law_coin) .nil pass0 (pa_cons (pv 0) (pa_cons pe_int pa_nil))) pa_nil)) (by rfl))
  (pss_cons (ps_if (pt_cmpR op_eq (pv 4) pe_int (nomark _)) (pss_one (ps_ret (pe_ix ix_list (pv 1) (pe_call G__law_coin (hr.mono (by decide)) (by rfl) T.g__law_coin T.F__law_coin.kp (b__law_coin T.F__law_coin) .nil pass0 (pa_cons (pv 0) (pa_cons (pe_callB call_len_seq (by rfl) T.z_len (by decide +kernel) (pa_cons (pv 1) pa_nil)) pa_nil))) (fun _ _ => rfl)))) pss_nil)
  (pss_cons (ps_if (PW.pt (pw_and (pt_cmpR op_eq (pv 4) pe_int (nomark _)) (pw_and1 (pt_cmpR op_lt (pe_callB (cr_maxT hr) (by rfl) T.z_max (by decide +kernel) (pa_cons (pv 2) pa_nil)) (pe_op op_powL pe_int pe_int) (nomark _))))) (pss_one (ps_ret (pe_tup (pa_cons (pe_op op_mulL (pe_ix ix_tup (pv 2) pe_int (fun _ _ => rfl)) (pv 3)) (pa_cons (pe_op op_mulL (pe_ix ix_tup (pv 2) pe_int (fun _ _ => rfl)) (pv 3)) pa_nil))))) pss_nil)
  (pss_cons (ps_if (pt_cmpR op_eq (pv 4) pe_int (nomark _)) (pss_one (ps_ret (pe_ix ix_list (pe_lst (pa_cons (pe_tup (pa_cons (pe_un un_neg (pe_ix ix_tup (pv 2) pe_int (fun _ _ => rfl))) (pa_cons (pe_ix ix_tup (pv 2) pe_int (fun _ _ => rfl)) pa_nil))) (pa_cons (pe_tup (pa_cons (pe_ix ix_tup (pv 2) pe_int (fun _ _ => rfl)) (pa_cons (pe_un un_neg (pe_ix ix_tup (pv 2) pe_int (fun _ _ => rfl))) pa_nil))) (pa_cons (pe_tup (pa_cons pe_int (pa_cons (pe_ix ix_tup (pv 2) pe_int (fun _ _ => rfl)) pa_nil))) (pa_cons (pe_tup (pa_cons (pe_ix ix_tup (pv 2) pe_int (fun _ _ => rfl)) (pa_cons pe_int pa_nil))) pa_nil))))) (pe_call G__law_coin (hr.mono (by decide)) (by rfl) T.g__law_coin T.F__law_coin.kp (b__law_coin T.F__law_coin) .nil pass0 (pa_cons (pv 0) (pa_cons pe_int pa_nil))) (fun _ _ => rfl)))) pss_nil)
  (pss_one (ps_ret (pv 2))))))))), ?_⟩
    have k0 := Kp.refl a H
    have hp0 := hp
    refine ⟨sz (by show 2 ≤ 1000000; decide), fun p0 np0 => ?_⟩
    have s0 := (L2.Same.refl H).new (o := .tup [.int (0), .int (1)]) np0
    have e0 : L2.upd H p0 (.tup [.int (0), .int (1)]) p0 = some (.tup [.int (0), .int (1)]) := upd_same
    have hp1 := hp0.same s0
    have k1 := k0.trans (Kp.of s0)
    revert e0 hp1 k1
    generalize L2.upd H p0 (.tup [.int (0), .int (1)]) = H1
    intro e0 hp1 k1
    clear s0 hp0 k0 np0
    refine ⟨sz (by show 2 ≤ 1000000; decide), fun p1 np1 => ?_⟩
    have s1 := (L2.Same.refl H1).new (o := .tup [.int (1), .int (0)]) np1
    have e1 : L2.upd H1 p1 (.tup [.int (1), .int (0)]) p1 = some (.tup [.int (1), .int (0)]) := upd_same
    replace e0 := s1 _ _ e0
    have hp2 := hp1.same s1
    have k2 := k1.trans (Kp.of s1)
    revert e0 e1 hp2 k2
    generalize L2.upd H1 p1 (.tup [.int (1), .int (0)]) = H2
    intro e0 e1 hp2 k2
    clear s1 hp1 k1 np1
    refine ⟨sz (by show 2 ≤ 1000000; decide), fun p2 np2 => ?_⟩
    have s2 := (L2.Same.refl H2).new (o := .tup [.int (0), .int (0)]) np2
    have e2 : L2.upd H2 p2 (.tup [.int (0), .int (0)]) p2 = some (.tup [.int (0), .int (0)]) := upd_same
    replace e0 := s2 _ _ e0
    replace e1 := s2 _ _ e1
    have hp3 := hp2.same s2
    have k3 := k2.trans (Kp.of s2)
    revert e0 e1 e2 hp3 k3
    generalize L2.upd H2 p2 (.tup [.int (0), .int (0)]) = H3
    intro e0 e1 e2 hp3 k3
    clear s2 hp2 k2 np2
    refine ⟨_, rfl, sz (by show 2 ≤ 1000000; decide), fun p3 np3 => ?_⟩
    have s3 := (L2.Same.refl H3).new (o := .tup [.int (-3), .int (2)]) np3
    have e3 : L2.upd H3 p3 (.tup [.int (-3), .int (2)]) p3 = some (.tup [.int (-3), .int (2)]) := upd_same
    replace e0 := s3 _ _ e0
    replace e1 := s3 _ _ e1
    replace e2 := s3 _ _ e2
    have hp4 := hp3.same s3
    have k4 := k3.trans (Kp.of s3)
    revert e0 e1 e2 e3 hp4 k4
    generalize L2.upd H3 p3 (.tup [.int (-3), .int (2)]) = H4
    intro e0 e1 e2 e3 hp4 k4
    clear s3 hp3 k3 np3
    refine ⟨_, rfl, sz (by show 2 ≤ 1000000; decide), fun p4 np4 => ?_⟩
    have s4 := (L2.Same.refl H4).new (o := .tup [.int (3), .int (-2)]) np4
    have e4 : L2.upd H4 p4 (.tup [.int (3), .int (-2)]) p4 = some (.tup [.int (3), .int (-2)]) := upd_same
    replace e0 := s4 _ _ e0
    replace e1 := s4 _ _ e1
    replace e2 := s4 _ _ e2
    replace e3 := s4 _ _ e3
    have hp5 := hp4.same s4
    have k5 := k4.trans (Kp.of s4)
    revert e0 e1 e2 e3 e4 hp5 k5
    generalize L2.upd H4 p4 (.tup [.int (3), .int (-2)]) = H5
    intro e0 e1 e2 e3 e4 hp5 k5
    clear s4 hp4 k4 np4
    refine ⟨_, rfl, _, rfl, sz (by show 2 ≤ 1000000; decide), fun p5 np5 => ?_⟩
    have s5 := (L2.Same.refl H5).new (o := .tup [.int (-1), .int (-1)]) np5
    have e5 : L2.upd H5 p5 (.tup [.int (-1), .int (-1)]) p5 = some (.tup [.int (-1), .int (-1)]) := upd_same
    replace e0 := s5 _ _ e0
    replace e1 := s5 _ _ e1
    replace e2 := s5 _ _ e2
    replace e3 := s5 _ _ e3
    replace e4 := s5 _ _ e4
    have hp6 := hp5.same s5
    have k6 := k5.trans (Kp.of s5)
    revert e0 e1 e2 e3 e4 e5 hp6 k6
    generalize L2.upd H5 p5 (.tup [.int (-1), .int (-1)]) = H6
    intro e0 e1 e2 e3 e4 e5 hp6 k6
    clear s5 hp5 k5 np5
    refine ⟨sz (by show 2 ≤ 1000000; decide), fun p6 np6 => ?_⟩
    have s6 := (L2.Same.refl H6).new (o := .tup [.int (2), .int (4)]) np6
    have e6 : L2.upd H6 p6 (.tup [.int (2), .int (4)]) p6 = some (.tup [.int (2), .int (4)]) := upd_same
    replace e0 := s6 _ _ e0
    replace e1 := s6 _ _ e1
    replace e2 := s6 _ _ e2
    replace e3 := s6 _ _ e3
    replace e4 := s6 _ _ e4
    replace e5 := s6 _ _ e5
    have hp7 := hp6.same s6
    have k7 := k6.trans (Kp.of s6)
    revert e0 e1 e2 e3 e4 e5 e6 hp7 k7
    generalize L2.upd H6 p6 (.tup [.int (2), .int (4)]) = H7
    intro e0 e1 e2 e3 e4 e5 e6 hp7 k7
    clear s6 hp6 k6 np6
    refine ⟨sz (by show 2 ≤ 1000000; decide), fun p7 np7 => ?_⟩
    have s7 := (L2.Same.refl H7).new (o := .tup [.int (6), .int (9)]) np7
    have e7 : L2.upd H7 p7 (.tup [.int (6), .int (9)]) p7 = some (.tup [.int (6), .int (9)]) := upd_same
    replace e0 := s7 _ _ e0
    replace e1 := s7 _ _ e1
    replace e2 := s7 _ _ e2
    replace e3 := s7 _ _ e3
    replace e4 := s7 _ _ e4
    replace e5 := s7 _ _ e5
    replace e6 := s7 _ _ e6
    have hp8 := hp7.same s7
    have k8 := k7.trans (Kp.of s7)
    revert e0 e1 e2 e3 e4 e5 e6 e7 hp8 k8
    generalize L2.upd H7 p7 (.tup [.int (6), .int (9)]) = H8
    intro e0 e1 e2 e3 e4 e5 e6 e7 hp8 k8
    clear s7 hp7 k7 np7
    refine ⟨sz (by show 2 ≤ 1000000; decide), fun p8 np8 => ?_⟩
    have s8 := (L2.Same.refl H8).new (o := .tup [.int (5), .int (5)]) np8
    have e8 : L2.upd H8 p8 (.tup [.int (5), .int (5)]) p8 = some (.tup [.int (5), .int (5)]) := upd_same
    replace e0 := s8 _ _ e0
    replace e1 := s8 _ _ e1
    replace e2 := s8 _ _ e2
    replace e3 := s8 _ _ e3
    replace e4 := s8 _ _ e4
    replace e5 := s8 _ _ e5
    replace e6 := s8 _ _ e6
    replace e7 := s8 _ _ e7
    have hp9 := hp8.same s8
    have k9 := k8.trans (Kp.of s8)
    revert e0 e1 e2 e3 e4 e5 e6 e7 e8 hp9 k9
    generalize L2.upd H8 p8 (.tup [.int (5), .int (5)]) = H9
    intro e0 e1 e2 e3 e4 e5 e6 e7 e8 hp9 k9
    clear s8 hp8 k8 np8
    refine ⟨sz (by show 2 ≤ 1000000; decide), fun p9 np9 => ?_⟩
    have s9 := (L2.Same.refl H9).new (o := .tup [.int (0), .int (7)]) np9
    have e9 : L2.upd H9 p9 (.tup [.int (0), .int (7)]) p9 = some (.tup [.int (0), .int (7)]) := upd_same
    replace e0 := s9 _ _ e0
    replace e1 := s9 _ _ e1
    replace e2 := s9 _ _ e2
    replace e3 := s9 _ _ e3
    replace e4 := s9 _ _ e4
    replace e5 := s9 _ _ e5
    replace e6 := s9 _ _ e6
    replace e7 := s9 _ _ e7
    replace e8 := s9 _ _ e8
    have hp10 := hp9.same s9
    have k10 := k9.trans (Kp.of s9)
    revert e0 e1 e2 e3 e4 e5 e6 e7 e8 e9 hp10 k10
    generalize L2.upd H9 p9 (.tup [.int (0), .int (7)]) = H10
    intro e0 e1 e2 e3 e4 e5 e6 e7 e8 e9 hp10 k10
    clear s9 hp9 k9 np9
    refine ⟨_, _, rfl, rfl, cpw 4 (by decide) (by decide) (by decide), _, _, rfl, rfl, cpw 4 (by decide) (by decide) (by decide), sz (by show 2 ≤ 1000000; decide), fun p10 np10 => ?_⟩
    have s10 := (L2.Same.refl H10).new (o := .tup [.int (10 ^ (9 : Int).toNat), .int (10 ^ (9 : Int).toNat)]) np10
    have e10 : L2.upd H10 p10 (.tup [.int (10 ^ (9 : Int).toNat), .int (10 ^ (9 : Int).toNat)]) p10 = some (.tup [.int (10 ^ (9 : Int).toNat), .int (10 ^ (9 : Int).toNat)]) := upd_same
    refine ⟨sz (by show 11 ≤ 1000000; decide), fun M nM => ?_⟩
    have s11 := s10.new (o := .lst [.ref p0, .ref p1, .ref p2, .ref p3, .ref p4, .ref p5, .ref p6, .ref p7, .ref p8, .ref p9, .ref p10]) nM
    have tb : ∀ (b : Addr) (x y : Int), H10 b = some (.tup [.int x, .int y]) → (L2.upd (L2.upd H10 p10 (.tup [.int (10 ^ (9 : Int).toNat), .int (10 ^ (9 : Int).toNat)])) M (.lst [.ref p0, .ref p1, .ref p2, .ref p3, .ref p4, .ref p5, .ref p6, .ref p7, .ref p8, .ref p9, .ref p10])) b = some (.tup [.int x, .int y]) := fun b x y z => s11 _ _ z
    have t10 := ((L2.Same.refl _).new (o := .lst [.ref p0, .ref p1, .ref p2, .ref p3, .ref p4, .ref p5, .ref p6, .ref p7, .ref p8, .ref p9, .ref p10]) nM) _ _ e10
    have eM : (L2.upd (L2.upd H10 p10 (.tup [.int (10 ^ (9 : Int).toNat), .int (10 ^ (9 : Int).toNat)])) M (.lst [.ref p0, .ref p1, .ref p2, .ref p3, .ref p4, .ref p5, .ref p6, .ref p7, .ref p8, .ref p9, .ref p10])) M = some (.lst [.ref p0, .ref p1, .ref p2, .ref p3, .ref p4, .ref p5, .ref p6, .ref p7, .ref p8, .ref p9, .ref p10]) := upd_same
    have hp12 := hp10.same s11
    have k12 := k10.trans (Kp.of s11)
    have t0 := tb p0 (0) (1) (by assumption)
    have t1 := tb p1 (1) (0) (by assumption)
    have t2 := tb p2 (0) (0) (by assumption)
    have t3 := tb p3 (-3) (2) (by assumption)
    have t4 := tb p4 (3) (-2) (by assumption)
    have t5 := tb p5 (-1) (-1) (by assumption)
    have t6 := tb p6 (2) (4) (by assumption)
    have t7 := tb p7 (6) (9) (by assumption)
    have t8 := tb p8 (5) (5) (by assumption)
    have t9 := tb p9 (0) (7) (by assumption)
    clear tb s11 s10 e10 np10 nM
    revert eM hp12 k12 t0 t1 t2 t3 t4 t5 t6 t7 t8 t9 t10
    generalize (L2.upd (L2.upd H10 p10 (.tup [.int (10 ^ (9 : Int).toNat), .int (10 ^ (9 : Int).toNat)])) M (.lst [.ref p0, .ref p1, .ref p2, .ref p3, .ref p4, .ref p5, .ref p6, .ref p7, .ref p8, .ref p9, .ref p10])) = H12
    intro t10' eM hp12 k12 t0 t1 t2 t3 t4 t5 t6 t7 t8 t9
    refine ⟨_, rfl, a, 40, n, rfl, by decide, by decide, by omega, hp12, fun w H13 p hw wa9 wb9 hp13 k13 np ep => ?_⟩
    have Ma : M ≠ a := by
      rintro rfl
      obtain ⟨_, _, _, h1, _⟩ := hp12
      rw [eM] at h1
      cases h1
    refine ⟨_, rfl, a, 5, n + 100, rfl, by decide, by decide, by omega, hp13, fun r1 H14 r10 r11 hp14 k14 => ?_⟩
    refine ⟨_, _, rfl, rfl, _, rfl, a, 8, n + 101, rfl, by decide, by decide, by omega, hp14, fun r2 H15 r20 r21 hp15 k15 => ⟨_, _, rfl, ?_⟩⟩
    have k35 := k14.trans k15
    have k15' := (k12.trans k13).trans k35
    have ep15 := k35 _ _ (tup_nea hp13 ep) ep
    obtain ⟨q1, q2⟩ := up_pos w
    have gw := road_gcd w
    have fw : ∃ v, wa w = wa v ∧ wb w = wb v ∧ v.length ≤ 400 := ⟨w, rfl, rfl, by omega⟩
    have b1 : Bd 30 (wa w) := bd_le (by omega) (by omega)
    have b2 : Bd 30 (wb w) := bd_le (by omega) (by omega)
    have eM15 := k35 _ _ Ma (k13 _ _ Ma eM)
    have keep : ∀ {b : Addr} {xs : List V} {H16 : Hp}, H12 b = some (.tup xs) → Kp a H15 H16 → H16 b = some (.tup xs) := fun z k => k _ _ (tup_nea hp12 z) (k35 _ _ (tup_nea hp12 z) (k13 _ _ (tup_nea hp12 z) z))
    refine ⟨_, rfl, rfl, _, rfl, bl2 (fun _ => ?_) (fun _ => ?_)⟩
    · refine ⟨_, rfl, _, rfl, _, rfl, M, _, rfl, .inl (SqL.of eM15), a, 11, n + 102, rfl, by decide, by decide, by omega, hp15, fun r3 H16 r30 r31 hp16 k16 => ?_⟩
      have eM16 := k16 _ _ Ma eM15
      have k16' := k15'.trans k16
      obtain ⟨j, rfl⟩ := nat_of r30
      have hj : j < 11 := by omega
      match j, hj with
      | 0, _ => exact ⟨M, _, _, _, rfl, rfl, SqL.of eM16, rfl, q (0) (1) _ p0 (by unfold Bd; decide +kernel) (by unfold Bd; decide +kernel) (fun z => absurd z (by unfold FracP; decide +kernel)) (hp16.le (by omega)) k16' (keep t0 k16)⟩
      | 1, _ => exact ⟨M, _, _, _, rfl, rfl, SqL.of eM16, rfl, q (1) (0) _ p1 (by unfold Bd; decide +kernel) (by unfold Bd; decide +kernel) (fun z => absurd z (by unfold FracP; decide +kernel)) (hp16.le (by omega)) k16' (keep t1 k16)⟩
      | 2, _ => exact ⟨M, _, _, _, rfl, rfl, SqL.of eM16, rfl, q (0) (0) _ p2 (by unfold Bd; decide +kernel) (by unfold Bd; decide +kernel) (fun z => absurd z (by unfold FracP; decide +kernel)) (hp16.le (by omega)) k16' (keep t2 k16)⟩
      | 3, _ => exact ⟨M, _, _, _, rfl, rfl, SqL.of eM16, rfl, q (-3) (2) _ p3 (by unfold Bd; decide +kernel) (by unfold Bd; decide +kernel) (fun z => absurd z (by unfold FracP; decide +kernel)) (hp16.le (by omega)) k16' (keep t3 k16)⟩
      | 4, _ => exact ⟨M, _, _, _, rfl, rfl, SqL.of eM16, rfl, q (3) (-2) _ p4 (by unfold Bd; decide +kernel) (by unfold Bd; decide +kernel) (fun z => absurd z (by unfold FracP; decide +kernel)) (hp16.le (by omega)) k16' (keep t4 k16)⟩
      | 5, _ => exact ⟨M, _, _, _, rfl, rfl, SqL.of eM16, rfl, q (-1) (-1) _ p5 (by unfold Bd; decide +kernel) (by unfold Bd; decide +kernel) (fun z => absurd z (by unfold FracP; decide +kernel)) (hp16.le (by omega)) k16' (keep t5 k16)⟩
      | 6, _ => exact ⟨M, _, _, _, rfl, rfl, SqL.of eM16, rfl, q (2) (4) _ p6 (by unfold Bd; decide +kernel) (by unfold Bd; decide +kernel) (fun z => absurd z (by unfold FracP; decide +kernel)) (hp16.le (by omega)) k16' (keep t6 k16)⟩
      | 7, _ => exact ⟨M, _, _, _, rfl, rfl, SqL.of eM16, rfl, q (6) (9) _ p7 (by unfold Bd; decide +kernel) (by unfold Bd; decide +kernel) (fun z => absurd z (by unfold FracP; decide +kernel)) (hp16.le (by omega)) k16' (keep t7 k16)⟩
      | 8, _ => exact ⟨M, _, _, _, rfl, rfl, SqL.of eM16, rfl, q (5) (5) _ p8 (by unfold Bd; decide +kernel) (by unfold Bd; decide +kernel) (fun z => absurd z (by unfold FracP; decide +kernel)) (hp16.le (by omega)) k16' (keep t8 k16)⟩
      | 9, _ => exact ⟨M, _, _, _, rfl, rfl, SqL.of eM16, rfl, q (0) (7) _ p9 (by unfold Bd; decide +kernel) (by unfold Bd; decide +kernel) (fun z => absurd z (by unfold FracP; decide +kernel)) (hp16.le (by omega)) k16' (keep t9 k16)⟩
      | 10, _ => exact ⟨M, _, _, _, rfl, rfl, SqL.of eM16, rfl, q (10 ^ (9 : Int).toNat) (10 ^ (9 : Int).toNat) _ p10 (by unfold Bd; decide +kernel) (by unfold Bd; decide +kernel) (fun z => absurd z (by unfold FracP; decide +kernel)) (hp16.le (by omega)) k16' (keep t10' k16)⟩
    · have bm1 : 2 ≤ 2 + r1 := by omega
      have c1 : ∀ i : Int, Cml i (2 + r1) := fun i => cml_r (by omega)
      have bmul : ∀ {i : Int}, Bd 30 i → Bd 100 (i * (2 + r1)) := fun {i} h => ((h.mul (show Bd 4 (2 + r1) from Nat.lt_of_le_of_lt (show (2 + r1).natAbs ≤ 6 by omega) (by decide))).up (by decide))
      dsimp only [tNext, tSeq]
      refine meetS (fun σ' H' => σ' = [some (.ref a), some (.ref M), some (.ref p), some (.int (2 + r1)), some (.int r2)] ∧ H' = H15) (fun N hN => ?_) (fun σ' H' z => ?_)
      · refine ⟨_, rfl, rfl, _, rfl, bl2 (fun _ => ?_) (fun _ => iteF (hN _ _ ⟨rfl, rfl⟩))⟩
        refine ⟨_, rfl, p, wa w, [wb w], rfl, SqT.of ep15, by show 1 ≤ 100; decide, fun mx _ _ => ?_⟩
        refine ⟨_, _, rfl, rfl, cpw 4 (by decide) (by decide) (by decide), _, _, rfl, rfl, _, rfl, bl2 (fun _ => ?_) (fun _ => hN _ _ ⟨rfl, rfl⟩)⟩
        refine ⟨_, rfl, p, _, _, _, rfl, rfl, SqT.of ep15, rfl, _, rfl, _, _, rfl, rfl, c1 _, ?_⟩
        refine ⟨_, rfl, p, _, _, _, rfl, rfl, SqT.of ep15, rfl, _, rfl, _, _, rfl, rfl, c1 _, sz (by show 2 ≤ 1000000; decide), fun u nu => ?_⟩
        exact q _ _ _ u (bmul b1) (bmul b2) (fun z => absurd z (not_frac_mul bm1)) ((hp15.le (by omega)).new nu) (k15'.new nu) upd_same
      · obtain ⟨rfl, rfl⟩ := z
        refine ⟨_, rfl, rfl, _, rfl, bl2 (fun _ => ?_) (fun _ => ?_)⟩
        · have bn1 : Bd 100 (-(wa w)) := by unfold Bd; rw [Int.natAbs_neg]; exact b1.up (by decide)
          have bn2 : Bd 100 (-(wb w)) := by unfold Bd; rw [Int.natAbs_neg]; exact b2.up (by decide)
          refine ⟨_, rfl, p, _, _, _, rfl, rfl, SqT.of ep15, rfl, _, rfl, _, rfl, p, _, _, _, rfl, rfl, SqT.of ep15, rfl, sz (by show 2 ≤ 1000000; decide), fun u1 nu1 => ?_⟩
          have y1 := (L2.Same.refl H').new (o := .tup [.int (-(wa w)), .int (wb w)]) nu1
          have ey1 := y1 _ _ ep15
          refine ⟨_, rfl, p, _, _, _, rfl, rfl, SqT.of ey1, rfl, _, rfl, p, _, _, _, rfl, rfl, SqT.of ey1, rfl, _, rfl, sz (by show 2 ≤ 1000000; decide), fun u2 nu2 => ?_⟩
          have y2 := y1.new (o := .tup [.int (wa w), .int (-(wb w))]) nu2
          have ey2 := y2 _ _ ep15
          refine ⟨_, rfl, p, _, _, _, rfl, rfl, SqT.of ey2, rfl, sz (by show 2 ≤ 1000000; decide), fun u3 nu3 => ?_⟩
          have y3 := y2.new (o := .tup [.int 0, .int (wb w)]) nu3
          have ey3 := y3 _ _ ep15
          refine ⟨_, rfl, p, _, _, _, rfl, rfl, SqT.of ey3, rfl, sz (by show 2 ≤ 1000000; decide), fun u4 nu4 => ?_⟩
          refine ⟨sz (by show 4 ≤ 1000000; decide), fun LL nLL => ?_⟩
          obtain ⟨sN, hLL, hq1, hq2, hq3, hq4⟩ := four_new (o5 := .lst [.ref u1, .ref u2, .ref u3, .ref u4]) nu1 nu2 nu3 nu4 nLL
          have hpN := hp15.same sN
          have kN := k15'.trans (Kp.of sN)
          have LLa : LL ≠ a := by
            rintro rfl
            obtain ⟨_, _, _, h1, _⟩ := hpN
            rw [hLL] at h1
            cases h1
          revert hLL hq1 hq2 hq3 hq4 hpN kN
          generalize (L2.upd (L2.upd (L2.upd (L2.upd (L2.upd H' u1 _) u2 _) u3 _) u4 _) LL _) = HN
          intro hLL hq1 hq2 hq3 hq4 hpN kN
          refine ⟨_, rfl, a, 4, n + 102, rfl, by decide, by decide, by omega, hpN, fun r3 H16 r30 r31 hp16 k16 => ?_⟩
          have eL16 := k16 _ _ LLa hLL
          have kk := kN.trans k16
          have tk : ∀ {b : Addr} {xs : List V}, HN b = some (.tup xs) → H16 b = some (.tup xs) := fun z => k16 _ _ (tup_nea hpN z) z
          obtain ⟨j, rfl⟩ := nat_of r30
          have hj : j < 4 := by omega
          have z0 : Bd 100 0 := by unfold Bd; decide +kernel
          match j, hj with
          | 0, _ => exact ⟨LL, _, _, _, rfl, rfl, SqL.of eL16, rfl, q _ _ _ u1 bn1 (b2.up (by decide)) (fun z => by have := z.1; omega) (hp16.le (by omega)) kk (tk hq1)⟩
          | 1, _ => exact ⟨LL, _, _, _, rfl, rfl, SqL.of eL16, rfl, q _ _ _ u2 (b1.up (by decide)) bn2 (fun z => by have := z.2.1; omega) (hp16.le (by omega)) kk (tk hq2)⟩
          | 2, _ => exact ⟨LL, _, _, _, rfl, rfl, SqL.of eL16, rfl, q _ _ _ u3 z0 (b2.up (by decide)) (fun z => by have := z.1; omega) (hp16.le (by omega)) kk (tk hq3)⟩
          | 3, _ => exact ⟨LL, _, _, _, rfl, rfl, SqL.of eL16, rfl, q _ _ _ u4 (b1.up (by decide)) z0 (fun z => by have := z.2.1; omega) (hp16.le (by omega)) kk (tk hq4)⟩
        · exact ⟨_, rfl, q _ _ _ p (b1.up (by decide)) (b2.up (by decide)) (fun _ => fw) (hp15.le (by omega)) k15' ep15⟩

/-! _law_rt_kind -/
def sp__law_rt_kind (K : PySem.W.Frag) : Sp := fun vs H Q _ => ∃ (e C d : Addr) (r : Nat) (v v' : V) (dat : PyData), vs = [.ref e, .int (r : Nat), v] ∧ r < 11 ∧ Fx K C r ∧ H e = some (ExV C d e) ∧ H d = some (.xd [("value", v')]) ∧
  (∀ H', Same H H' → Dp K H' v dat ∧ Dp K H' v' dat) ∧ Shw dat ∧ ∀ H', Same H H' → Q (.bl true) H'
/-- the ranks of a class -/
def rks (r : Nat) : List Bool := (List.range 11).map fun i => decide (i = r)
theorem ok__law_rt_kind (T : Tx K mg) : FnG P w K mg base CX0 1 T.a__law_rt_kind T.fd__law_rt_kind ["caught", "rank", "worth"] (sp__law_rt_kind K) := by
  refine okG T.F__law_rt_kind sc__law_rt_kind (fun vs H Q E h => ?_) (fun cdv A outer s H vs Q E hG hr h => ?_)
  · obtain ⟨e, C, d, r, v, v', dat, rfl, _⟩ := h
    rfl
  · obtain ⟨e, C, d, r, v, v', dat, rfl, hr11, F, he, hd, hdp, hsh, q⟩ := h
    refine ⟨_, (pss_cons (ps_if (PW.pt (pw_or (pt_not (pt_val (pe_callB call_isK (by rfl) T.z_isinstance (by decide +kernel) (pa_cons (pv 0) (pa_cons (pe_glob (v := .ref T.c_RoadError) (by rfl) T.g_RoadError rfl) pa_nil))))) (pw_or1 (pt_not (pt_val (pe_callB call_isK (by rfl) T.z_isinstance (by decide +kernel) (pa_cons (pv 0) (pa_cons (pe_bltn (v := .ty "ValueError") (u := .type "ValueError") (by rfl) T.z_ValueError (by decide +kernel) rfl) pa_nil)))))))) (pss_one (ps_ret pe_bl)) pss_nil)
  (pss_cons (ps_set (i := 3) sc__law_rt_kind.nd rfl (Or.inl rfl) (pe_lst (pa_cons (pe_callB call_isK (by rfl) T.z_isinstance (by decide +kernel) (pa_cons (pv 0) (pa_cons (pe_glob (v := .ref T.c_InvalidRoad) (by rfl) T.g_InvalidRoad rfl) pa_nil))) (pa_cons (pe_callB call_isK (by rfl) T.z_isinstance (by decide +kernel) (pa_cons (pv 0) (pa_cons (pe_glob (v := .ref T.c_InvalidFraction) (by rfl) T.g_InvalidFraction rfl) pa_nil))) (pa_cons (pe_callB call_isK (by rfl) T.z_isinstance (by decide +kernel) (pa_cons (pv 0) (pa_cons (pe_glob (v := .ref T.c_InvalidMap) (by rfl) T.g_InvalidMap rfl) pa_nil))) pa_nil)))))
  (pss_cons (ps_set (i := 3) sc__law_rt_kind.nd rfl (Or.inl rfl) (pe_op op_cat (pv 3) (pe_lst (pa_cons (pe_callB call_isK (by rfl) T.z_isinstance (by decide +kernel) (pa_cons (pv 0) (pa_cons (pe_glob (v := .ref T.c_InvalidMachine) (by rfl) T.g_InvalidMachine rfl) pa_nil))) (pa_cons (pe_callB call_isK (by rfl) T.z_isinstance (by decide +kernel) (pa_cons (pv 0) (pa_cons (pe_glob (v := .ref T.c_InvalidSquare) (by rfl) T.g_InvalidSquare rfl) pa_nil))) pa_nil)))))
  (pss_cons (ps_set (i := 3) sc__law_rt_kind.nd rfl (Or.inl rfl) (pe_op op_cat (pv 3) (pe_lst (pa_cons (pe_callB call_isK (by rfl) T.z_isinstance (by decide +kernel) (pa_cons (pv 0) (pa_cons (pe_glob (v := .ref T.c_InvalidNumber) (by rfl) T.g_InvalidNumber rfl) pa_nil))) (pa_cons (pe_callB call_isK (by rfl) T.z_isinstance (by decide +kernel) (pa_cons (pv 0) (pa_cons (pe_glob (v := .ref T.c_InvalidTurn) (by rfl) T.g_InvalidTurn rfl) pa_nil))) pa_nil)))))
  (pss_cons (ps_set (i := 3) sc__law_rt_kind.nd rfl (Or.inl rfl) (pe_op op_cat (pv 3) (pe_lst (pa_cons (pe_callB call_isK (by rfl) T.z_isinstance (by decide +kernel) (pa_cons (pv 0) (pa_cons (pe_glob (v := .ref T.c_HasEnded) (by rfl) T.g_HasEnded rfl) pa_nil))) (pa_cons (pe_callB call_isK (by rfl) T.z_isinstance (by decide +kernel) (pa_cons (pv 0) (pa_cons (pe_glob (v := .ref T.c_NothingToUndo) (by rfl) T.g_NothingToUndo rfl) pa_nil))) (pa_cons (pe_callB call_isK (by rfl) T.z_isinstance (by decide +kernel) (pa_cons (pv 0) (pa_cons (pe_glob (v := .ref T.c_Unreadable) (by rfl) T.g_Unreadable rfl) pa_nil))) pa_nil))))))
  (pss_cons (ps_expr (pe_bm PySem.F.plainAttrs_list PySem.F.slot_list_append PySem.F.type_list_append mt_append (pv 3) (pa_cons (pe_callB call_isK (by rfl) T.z_isinstance (by decide +kernel) (pa_cons (pv 0) (pa_cons (pe_glob (v := .ref T.c_InvalidBook) (by rfl) T.g_InvalidBook rfl) pa_nil))) pa_nil)))
  (pss_one (ps_ret (pe_and (pe_cmpR (op_eqD hr.units) (pv 3) (pe_lc (own := [("spot", 4)]) (g := (gName 4)) (by rfl) sc__law_rt_kind.nd (pi_range1 (by rfl) T.z_range (pa_cons pe_int pa_nil)) (blkOk_by (own := [("spot", 4)]) (N := n__law_rt_kind) (sc := defScope s__law_rt_kind) (by decide +kernel)) (fun _ _ _ _ _ => (pg_name (i := 4) sc__law_rt_kind.nd rfl (Or.inl rfl))) (fun _ _ _ _ _ => pts_nil) (fun _ _ _ _ _ => (pe_cmpR op_eq (pv 4) (pv 1) (nomark _)))) (nomark _)) (pe_one (pe_cmpR op_eq (pe_callB (call_repr hG hr) (by rfl) T.z_repr (by decide +kernel) (pa_cons (pe_xv (pv 0)) pa_nil)) (pe_callB (call_repr hG hr) (by rfl) T.z_repr (by decide +kernel) (pa_cons (pv 2) pa_nil)) (nomark _)))))))))))), ?_⟩
    have s0 := L2.Same.refl H
    refine ⟨_, rfl, e, C, d, _, _, _, _, rfl, s0 _ _ he, s0 _ _ hd, F.k, (.own _), (F.re _ T.n_RoadError), ⟨_, rfl, iteF ⟨_, rfl, e, C, d, _, _, _, _, rfl, s0 _ _ he, s0 _ _ hd, F.k, (.ty _), F.ve, ⟨_, rfl, iteF ?_⟩⟩⟩⟩
    refine ⟨_, rfl, e, C, d, _, _, _, _, rfl, s0 _ _ he, s0 _ _ hd, F.k, (.own _), (F.y0 _ T.n_InvalidRoad), ?_⟩
    refine ⟨_, rfl, e, C, d, _, _, _, _, rfl, s0 _ _ he, s0 _ _ hd, F.k, (.own _), (F.y1 _ T.n_InvalidFraction), ?_⟩
    refine ⟨_, rfl, e, C, d, _, _, _, _, rfl, s0 _ _ he, s0 _ _ hd, F.k, (.own _), (F.y2 _ T.n_InvalidMap), ?_⟩
    refine ⟨sz (by show 3 ≤ 1000000; decide), fun p1 n1 => ?_⟩
    have s1 := s0.new (o := .lst [.bl (decide (0 = r)), .bl (decide (1 = r)), .bl (decide (2 = r))]) n1
    refine ⟨_, rfl, _, rfl, e, C, d, _, _, _, _, rfl, s1 _ _ he, s1 _ _ hd, F.k, (.own _), (F.y3 _ T.n_InvalidMachine), ?_⟩
    refine ⟨_, rfl, e, C, d, _, _, _, _, rfl, s1 _ _ he, s1 _ _ hd, F.k, (.own _), (F.y4 _ T.n_InvalidSquare), ?_⟩
    refine ⟨sz (by show 2 ≤ 1000000; decide), fun p2 n2 => ?_⟩
    have e21 : p1 ≠ p2 := ne_of_none upd_same n2
    refine ⟨p1, p2, _, _, rfl, rfl, by rw [upd_ne e21]; exact upd_same, upd_same, sz (by show 3 + 2 ≤ 1000000; decide), fun p3 n3 => ?_⟩
    have s3 := (s1.new (o := .lst [.bl (decide (3 = r)), .bl (decide (4 = r))]) n2).new (o := .lst ([.bl (decide (0 = r)), .bl (decide (1 = r)), .bl (decide (2 = r))] ++ [.bl (decide (3 = r)), .bl (decide (4 = r))])) n3
    refine ⟨_, rfl, _, rfl, e, C, d, _, _, _, _, rfl, s3 _ _ he, s3 _ _ hd, F.k, (.own _), (F.y5 _ T.n_InvalidNumber), ?_⟩
    refine ⟨_, rfl, e, C, d, _, _, _, _, rfl, s3 _ _ he, s3 _ _ hd, F.k, (.own _), (F.y6 _ T.n_InvalidTurn), ?_⟩
    refine ⟨sz (by show 2 ≤ 1000000; decide), fun p4 n4 => ?_⟩
    have e43 : p3 ≠ p4 := ne_of_none upd_same n4
    refine ⟨p3, p4, _, _, rfl, rfl, by rw [upd_ne e43]; exact upd_same, upd_same, sz (by show 5 + 2 ≤ 1000000; decide), fun p5 n5 => ?_⟩
    have s5 := (s3.new (o := .lst [.bl (decide (5 = r)), .bl (decide (6 = r))]) n4).new (o := .lst (([.bl (decide (0 = r)), .bl (decide (1 = r)), .bl (decide (2 = r))] ++ [.bl (decide (3 = r)), .bl (decide (4 = r))]) ++ [.bl (decide (5 = r)), .bl (decide (6 = r))])) n5
    refine ⟨_, rfl, _, rfl, e, C, d, _, _, _, _, rfl, s5 _ _ he, s5 _ _ hd, F.k, (.own _), (F.y7 _ T.n_HasEnded), ?_⟩
    refine ⟨_, rfl, e, C, d, _, _, _, _, rfl, s5 _ _ he, s5 _ _ hd, F.k, (.own _), (F.y8 _ T.n_NothingToUndo), ?_⟩
    refine ⟨_, rfl, e, C, d, _, _, _, _, rfl, s5 _ _ he, s5 _ _ hd, F.k, (.own _), (F.y9 _ T.n_Unreadable), ?_⟩
    refine ⟨sz (by show 3 ≤ 1000000; decide), fun p6 n6 => ?_⟩
    have e65 : p5 ≠ p6 := ne_of_none upd_same n6
    refine ⟨p5, p6, _, _, rfl, rfl, by rw [upd_ne e65]; exact upd_same, upd_same, sz (by show 7 + 3 ≤ 1000000; decide), fun p7 n7 => ?_⟩
    have s6 := s5.new (o := .lst [.bl (decide (7 = r)), .bl (decide (8 = r)), .bl (decide (9 = r))]) n6
    have s7 := s6.new (o := .lst ((([.bl (decide (0 = r)), .bl (decide (1 = r)), .bl (decide (2 = r))] ++ [.bl (decide (3 = r)), .bl (decide (4 = r))]) ++ [.bl (decide (5 = r)), .bl (decide (6 = r))]) ++ [.bl (decide (7 = r)), .bl (decide (8 = r)), .bl (decide (9 = r))])) n7
    refine ⟨_, rfl, .inl ⟨rfl, _, SqL.of upd_same⟩, _, rfl, e, C, d, _, _, _, _, rfl, s7 _ _ he, s7 _ _ hd, F.k, .own _, F.y10 _ T.n_InvalidBook, p7, _, _, rfl, rfl, upd_same, sz (by show 11 ≤ 1000000; decide), ?_⟩
    rw [upd_upd]
    have s8 := fun o => s6.new (o := o) n7
    generalize hH : L2.upd _ p7 _ = H8
    have e8 : H8 p7 = some (.lst ((rks r).map V.bl)) := by
      rw [← hH]
      exact upd_same
    replace s8 : Same H H8 := by
      rw [← hH]
      exact s8 _
    clear hH
    refine ⟨_, rfl, 11, rfl, by decide, by decide, fun D hD => lc_range (lo := 0) (n := 11) (fun j H9 => Same H8 H9 ∧ H9 D = some (.lst (((rks r).take j).map V.bl))) ⟨(L2.Same.refl H8).new hD, upd_same⟩ ?_ ?_⟩
    · rintro j H9 hj ⟨sm, eD⟩
      refine ⟨rfl, ?_⟩
      refine iteT (B := Same H8 H9 ∧ H9 D = some (HO.lst (List.map V.bl (List.take (j + 1) (rks r))))) ?_
      refine ⟨_, rfl, _, rfl, rfl, _, eD, ?_, ?_, ?_⟩
      · rw [List.length_map, List.length_take]
        exact Nat.lt_of_le_of_lt (Nat.min_le_left _ _) (Nat.lt_trans hj (by decide))
      · exact fun b o z => by rw [upd_ne (ne_of_none z hD)]; exact sm b o z
      · have ej : (rks r)[j]? = some (decide (j = r)) := by
          unfold rks
          rw [List.getElem?_map, List.getElem?_range hj]
          rfl
        have ed : decide (V.int (0 + (j : Int)) = V.int (r : Int)) = decide (j = r) := by
          refine decide_eq_decide.mpr ⟨fun z => ?_, fun z => ?_⟩
          · injection z with z
            omega
          · rw [z]
            congr 1
            omega
        rw [upd_same, List.take_add_one, ej, List.map_append]
        show some (HO.lst (_ ++ [V.bl (decide (V.int (0 + (j : Int)) = V.int (r : Int)))])) = _
        rw [ed]
        rfl
    · rintro H9 ⟨sm, eD⟩
      have l11 : (rks r).take 11 = rks r := by
        have : (rks r).length = 11 := by simp [rks]
        rw [List.take_of_length_le (by omega)]
      rw [l11] at eD
      obtain ⟨w1, w2⟩ := hdp H9 (s8.trans sm)
      refine ⟨_, _, .lst (SqL.of (sm _ _ e8)) (dp_bs (rks r)), .lst (SqL.of eD) (dp_bs (rks r)), ?_, ?_, ?_⟩
      · rfl
      · rfl
      · refine ⟨true, ?_, ?_⟩
        · show V.bl (PyData.eqvAll _ _) = _
          rw [bs_eqv]
        · refine iteT ⟨_, rfl, e, C, d, _, v', rfl, (s8.trans sm) _ _ he, (s8.trans sm) _ _ hd, rfl, F.k.xf, F.k.no, ?_⟩
          refine ⟨_, _, rfl, w2, hsh, _, rfl, _, _, rfl, w1, hsh, rfl, ?_⟩
          have e : decide (V.str dat.shown = V.str dat.shown) = true := decide_eq_true rfl
          show Q (.bl (decide (V.str dat.shown = V.str dat.shown))) H9
          rw [e]
          exact q H9 (s8.trans sm)

/-! _law_rt_way -/
def sp__law_rt_way (K : PySem.W.Frag) : Sp := fun vs H Q _ => ∃ (a : Addr) (top : Int) (n : Nat), vs = [.ref a, .int top] ∧ 0 ≤ top ∧ top ≤ 1000 ∧ n < 900000000 ∧ Pu H a n ∧
  ∀ (w : List Bool) H', (w.length : Int) ≤ top → Pu H' a (n + 1002) → Kp a H H' → Q (.str (rd w)) H'
theorem ok__law_rt_way (T : Tx K mg) : FnOk P w K mg base CX0 2 T.a__law_rt_way T.fd__law_rt_way ["purse", "top"] (sp__law_rt_way K) := by
  have G__law_coin := ok__law_coin (P := P) (w := w) (base := base) T
  refine T.F__law_rt_way.ok sc__law_rt_way (fun vs H Q E h => ?_) (fun cdv A outer s H vs Q E hr h => ?_)
  · obtain ⟨a, top, n, rfl, _⟩ := h
    rfl
  · obtain ⟨a, top, n, rfl, t0, t1, hn, hp, q⟩ := h
    obtain ⟨t, rfl⟩ := nat_of t0
    refine ⟨_, (pss_cons (ps_set (i := 2) sc__law_rt_way.nd rfl (Or.inl rfl) pe_str)
  (pss_cons (ps_for PassesOwn.never rfl (pi_range1 (by rfl) T.z_range (pa_cons (pe_call G__law_coin (hr.mono (by decide)) (by rfl) T.g__law_coin T.F__law_coin.kp (b__law_coin T.F__law_coin) .nil pass0 (pa_cons (pv 0) (pa_cons (pe_op op_add (pv 1) pe_int) pa_nil))) pa_nil)) (pg_name (i := 3) sc__law_rt_way.nd rfl (Or.inl rfl))
    (pss_one (ps_set (i := 2) sc__law_rt_way.nd rfl (Or.inl rfl) (pe_op op_add_str (pv 2) (pe_ix ix_list (pe_lst (pa_cons pe_str (pa_cons pe_str (pa_cons pe_str (pa_cons pe_str (pa_cons pe_str (pa_cons pe_str (pa_cons pe_str pa_nil)))))))) (pe_call G__law_coin (hr.mono (by decide)) (by rfl) T.g__law_coin T.F__law_coin.kp (b__law_coin T.F__law_coin) .nil pass0 (pa_cons (pv 0) (pa_cons pe_int pa_nil))) (fun _ _ => rfl))))))
  (pss_one (ps_ret (pe_slice sl_str (pv 2) po_none (po_some (pv 1))))))), ?_⟩
    refine ⟨_, rfl, _, rfl, _, _, rfl, rfl, a, _, n, rfl, by omega, by omega, by omega, hp, fun r H1 r0 r1 hp1 k1 => ?_⟩
    refine ⟨r, rfl, by omega, by omega, for_range (lo := 0) (n := r.toNat)
      (fun i σ H2 => ∃ (w : List Bool) (x : Option V), σ = [some (.ref a), some (.int t), some (.str (rd w)), x] ∧ w.length ≤ 7 * i ∧ Pu H2 a (n + 1 + i) ∧ Kp a H H2) ⟨[], none, rfl, Nat.zero_le _, hp1, k1⟩ ?_ ?_⟩
    · rintro i σ H2 hi ⟨w, x, rfl, hw, hp2, k2⟩
      refine ⟨_, rfl, sz (by show 7 ≤ 1000000; decide), fun p np => ?_⟩
      refine ⟨_, rfl, a, _, n + 1 + i, rfl, by decide, by decide, by omega, hp2.new np, fun r' H3 r0' r1' hp3 k3 => ?_⟩
      obtain ⟨u, hu, eu⟩ := wayMenu_at r0' r1'
      have e3 : H3 p = some (.lst wayMenu) := k3 p _ (hp2.ne np).symm upd_same
      refine ⟨p, wayMenu, r', _, rfl, rfl, SqL.of e3, eu, _, _, rfl, rfl, rd_app_len (by omega), ?_⟩
      rw [rd_app]
      refine ⟨w ++ u, _, rfl, ?_, hp3, (k2.new np).trans k3⟩
      rw [List.length_append]
      omega
    · rintro σ H2 ⟨w, x, rfl, hw, hp2, k2⟩
      refine ⟨_, rfl, _, rfl, _, rfl, rd w, rfl, (by rw [rd_len]; exact sz (by omega)), ?_⟩
      show Q (.str (cutS (rd w) none (some (t : Int)))) H2
      rw [cut_take]
      exact q _ _ (by rw [List.length_take]; omega) (hp2.le (by omega)) k2

/-! is_road -/
def sp_is_road (K : PySem.W.Frag) : Sp := fun vs H Q _ => ∃ t : Str, vs = [.str t] ∧ t.length ≤ 1000000 ∧ ∀ b : Bool, (b = true ↔ ∃ w, t = rd w) → Q (.bl b) H
theorem lr_cnt : ∀ l : List Nat, cnt 76 l + cnt 82 l ≤ (l.length : Int) ∧ (cnt 76 l + cnt 82 l = (l.length : Int) ↔ ∀ x ∈ l, x = 76 ∨ x = 82)
  | [] => ⟨Int.le_refl _, (fun _ x h => nomatch h), fun _ => rfl⟩
  | c :: l => by
    obtain ⟨h1, h2⟩ := lr_cnt l
    rw [cnt_cons, cnt_cons, List.length_cons]
    by_cases e : c = 76
    · subst e
      have e1 : ((if (76 : Nat) = 76 then 1 else 0 : Int)) = 1 := rfl
      have e2 : ((if (76 : Nat) = 82 then 1 else 0 : Int)) = 0 := rfl
      rw [e1, e2]
      refine ⟨by omega, fun z x hx => ?_, fun z => ?_⟩
      · rcases List.mem_cons.mp hx with rfl | hx
        · exact .inl rfl
        · exact h2.mp (by omega) x hx
      · have := h2.mpr fun x hx => z x (List.mem_cons_of_mem _ hx)
        omega
    · by_cases e2 : c = 82
      · subst e2
        have e1 : ((if (82 : Nat) = 76 then 1 else 0 : Int)) = 0 := rfl
        have e2 : ((if (82 : Nat) = 82 then 1 else 0 : Int)) = 1 := rfl
        rw [e1, e2]
        refine ⟨by omega, fun z x hx => ?_, fun z => ?_⟩
        · rcases List.mem_cons.mp hx with rfl | hx
          · exact .inr rfl
          · exact h2.mp (by omega) x hx
        · have := h2.mpr fun x hx => z x (List.mem_cons_of_mem _ hx)
          omega
      · rw [if_neg e, if_neg e2]
        refine ⟨by omega, fun z => by omega, fun z => ?_⟩
        rcases z c List.mem_cons_self with y | y
        · exact absurd y e
        · exact absurd y e2
theorem rd_of {t : Str} (h : ∀ x ∈ t.cps.toList, x = 76 ∨ x = 82) : ∃ w, t = rd w := by
  refine ⟨t.cps.toList.map fun x => decide (x = 82), str_ext ?_⟩
  rw [rd_cps, List.map_map]
  refine (List.map_id _).symm.trans (List.map_congr_left fun x hx => ?_)
  rcases h x hx with rfl | rfl <;> rfl
theorem ok_is_road (T : Tx K mg) : FnOk P w K mg base CX0 1 T.a_is_road T.fd_is_road ["text"] (sp_is_road K) := by
  refine T.F_is_road.ok sc_is_road (fun vs H Q E h => ?_) (fun cdv A outer s H vs Q E hr h => ?_)
  · obtain ⟨t, rfl, _⟩ := h
    rfl
  · obtain ⟨t, rfl, hw, q⟩ := h
    refine ⟨_, (pss_one (ps_ret (pe_cmpR op_eq (pe_op op_add (pe_m1 PySem.F.slot_str_count PySem.F.type_str_count mt_count (pv 0) pe_str) (pe_m1 PySem.F.slot_str_count PySem.F.type_str_count mt_count (pv 0) pe_str)) (pe_callB call_len_str (by rfl) T.z_len (by decide +kernel) (pa_cons (pv 0) pa_nil)) (nomark _)))), ?_⟩
    refine ⟨_, rfl, ⟨_, rfl⟩, _, _, rfl, rfl, _, rfl, ⟨_, rfl⟩, _, _, rfl, rfl, _, _, rfl, rfl, _, rfl, _, rfl, sz hw, rfl, ?_⟩
    refine q _ ?_
    have eL : ("L" : Str) = ⟨#[76]⟩ := by decide +kernel
    have eR : ("R" : Str) = ⟨#[82]⟩ := by decide +kernel
    rw [eL, eR, count_cnt, count_cnt]
    have el : (t.length : Int) = (t.cps.toList.length : Int) := by
      show (t.cps.size : Int) = _
      simp
    rw [el]
    obtain ⟨_, h2⟩ := lr_cnt t.cps.toList
    refine ⟨fun z => rd_of (h2.mp ?_), fun z => ?_⟩
    · have z : V.int _ = V.int _ := of_decide_eq_true z
      injection z
    · obtain ⟨w, rfl⟩ := z
      refine decide_eq_true (congrArg V.int (h2.mpr ?_))
      intro x hx
      rw [rd_cps] at hx
      obtain ⟨b, _, rfl⟩ := List.mem_map.mp hx
      cases b
      · exact .inl rfl
      · exact .inr rfl

/-! check_road -/
def sp_check_road (K : PySem.W.Frag) : Sp := fun vs H Q E => ∃ t : Str, vs = [.str t] ∧ t.length ≤ 1000000 ∧ (IsRd t → Q .non H) ∧ (¬ IsRd t → Rs K H E "InvalidRoad" (.str t))
theorem ok_check_road (T : Tx K mg) : FnOk P w K mg base (L2.CX P w) 3 T.a_check_road T.fd_check_road ["road"] (sp_check_road K) := by
  have G_is_road := ok_is_road (P := P) (w := w) (base := base) T
  refine T.F_check_road.okX sc_check_road (fun vs H Q E h => ?_) (fun cdv A outer s H vs Q E hr h => ?_)
  · obtain ⟨t, rfl, _⟩ := h
    rfl
  · obtain ⟨t, rfl, hl, q, qe⟩ := h
    refine ⟨_, (pss_one (ps_if (pt_not (pt_val (pe_call G_is_road (hr.mono (by decide)) (by rfl) T.g_is_road T.F_is_road.kp (b_is_road T.F_is_road) .nil pass0 (pa_cons (pv 0) pa_nil)))) (pss_one (ps_raise (by rfl) (takes_of rfl rfl rfl rfl) (pmk_V T.E_InvalidRoad (ok_reinit T) (hr.mono (by decide)) (b_reinit T.F_reinit) (by rfl) (pa_cons (pv 0) pa_nil)))) pss_nil)), ?_⟩
    refine ⟨_, rfl, t, rfl, hl, fun b hb => ?_⟩
    cases b with
    | true => exact ⟨true, rfl, iteF (q (hb.1 rfl))⟩
    | false =>
      refine ⟨false, rfl, iteT ⟨_, rfl, _, rfl, fun d nd => (qe fun z => ?_).now T.E_InvalidRoad.ni nd⟩⟩
      have := hb.2 z
      cases this

/-! check_course -/
def sp_check_course (K : PySem.W.Frag) : Sp := fun vs H Q E => ∃ (p : Addr) (t u : Str), vs = [.ref p] ∧ SqT K H p [.str t, .str u] ∧ t.length ≤ 100000 ∧ u.length ≤ 100000 ∧ (Fo [(t, 0), (u, 1)] = none → Q .non H) ∧ (∀ x, Fo [(t, 0), (u, 1)] = some x → Rs K H E "InvalidRoad" (.str x))
theorem ok_check_course (T : Tx K mg) : FnOk P w K mg base (L2.CX P w) 4 T.a_check_course T.fd_check_course ["told"] (sp_check_course K) := by
  have G_check_road := ok_check_road (P := P) (w := w) (base := base) T
  refine T.F_check_course.okX sc_check_course (fun vs H Q E h => ?_) (fun cdv A outer s H vs Q E hr h => ?_)
  · obtain ⟨p, t, u, rfl, _⟩ := h
    rfl
  · obtain ⟨p, t, u, rfl, hp, hf, hw, q, qe⟩ := h
    refine ⟨_, (pss_cons (ps_asg (pv 0) (pg_tup (by rfl) (pgs_cons (pg_name (i := 1) sc_check_course.nd rfl (Or.inl rfl)) (pgs_cons (pg_name (i := 2) sc_check_course.nd rfl (Or.inl rfl)) pgs_nil))))
  (pss_cons (ps_expr (pe_call G_check_road (hr.mono (by decide)) (by rfl) T.g_check_road T.F_check_road.kp (b_check_road T.F_check_road) .nil (passes_call (takes_of rfl rfl rfl rfl) (fun _ _ _ _ h => h)) (pa_cons (pv 1) pa_nil)))
  (pss_cons (ps_expr (pe_call G_check_road (hr.mono (by decide)) (by rfl) T.g_check_road T.F_check_road.kp (b_check_road T.F_check_road) .nil (passes_call (takes_of rfl rfl rfl rfl) (fun _ _ _ _ h => h)) (pa_cons (pv 2) pa_nil)))
  (pss_one (ps_if (pt_cmpR op_eq (pv 2) pe_str (nomark _)) (pss_one (ps_raise (by rfl) (takes_of rfl rfl rfl rfl) (pmk_V T.E_InvalidRoad (ok_reinit T) (hr.mono (by decide)) (b_reinit T.F_reinit) (by rfl) (pa_cons (pv 2) pa_nil)))) pss_nil))))), ?_⟩
    refine ⟨_, rfl, p, _, rfl, hp, rfl, _, _, rfl, _, _, rfl, rfl, ?_⟩
    refine ⟨_, rfl, t, rfl, by omega, fun ht => ?_, fun ht => qe t (fo_yes (odd_0.mpr ht))⟩
    rw [fo_no (fun z => odd_0.mp z ht)] at q qe
    refine ⟨_, rfl, u, rfl, by omega, fun hu => ?_, fun hu => qe u (fo_yes (.inl hu))⟩
    obtain ⟨w, rfl⟩ := hu
    refine ⟨_, rfl, rfl, _, rfl, ifNil (fun z => ?_) (fun z => ?_)⟩
    · exact ⟨_, rfl, _, rfl, fun d nd => (qe (rd w) (fo_yes (odd_1.mpr z))).now T.E_InvalidRoad.ni nd⟩
    · rw [fo_no (fun y => z (odd_1.mp y))] at q
      exact q rfl

/-! check_turning_course -/
def sp_check_turning_course (K : PySem.W.Frag) : Sp := fun vs H Q E => ∃ (p : Addr) (t u : Str), vs = [.ref p] ∧ SqT K H p [.str t, .str u] ∧ t.length ≤ 100000 ∧ u.length ≤ 100000 ∧ (Fo [(t, 0), (u, 2)] = none → Q .non H) ∧ (∀ x, Fo [(t, 0), (u, 2)] = some x → Rs K H E "InvalidRoad" (.str x))
theorem fo_12 {t u : Str} {x : Str} (h : Fo [(t, 0), (u, 1)] = some x) : Fo [(t, 0), (u, 2)] = some x := by
  by_cases c : OddT (t, 0)
  · rw [fo_yes c] at h ⊢
    exact h
  · rw [fo_no c] at h ⊢
    by_cases c2 : OddT (u, 1)
    · rw [fo_yes c2] at h
      rw [fo_yes (show OddT (u, 2) from ?_)]
      · exact h
      · rcases c2 with y | y | y
        · exact .inl y
        · exact .inr (.inl ⟨by show 0 < 2; decide, y.2⟩)
        · exact absurd y.1 (by show ¬ 1 < 1; decide)
    · rw [fo_no c2] at h
      cases h
theorem ok_check_turning_course (T : Tx K mg) : FnOk P w K mg base (L2.CX P w) 5 T.a_check_turning_course T.fd_check_turning_course ["told"] (sp_check_turning_course K) := by
  have G_check_course := ok_check_course (P := P) (w := w) (base := base) T
  refine T.F_check_turning_course.okX sc_check_turning_course (fun vs H Q E h => ?_) (fun cdv A outer s H vs Q E hr h => ?_)
  · obtain ⟨p, t, u, rfl, _⟩ := h
    rfl
  · obtain ⟨p, t, u, rfl, hp, hf, hw, q, qe⟩ := h
    refine ⟨_, (pss_cons (ps_expr (pe_call G_check_course (hr.mono (by decide)) (by rfl) T.g_check_course T.F_check_course.kp (b_check_course T.F_check_course) .nil (passes_call (takes_of rfl rfl rfl rfl) (fun _ _ _ _ h => h)) (pa_cons (pv 0) pa_nil)))
  (pss_cons (ps_set (i := 1) sc_check_turning_course.nd rfl (Or.inl rfl) (pe_ix ix_tup (pv 0) pe_int (fun _ _ => rfl)))
  (pss_one (ps_if (PW.pt (pw_or (pt_cmpR op_notIn_sign pe_str (pv 1) rfl) (pw_or1 (pt_cmpR op_notIn_sign pe_str (pv 1) rfl)))) (pss_one (ps_raise (by rfl) (takes_of rfl rfl rfl rfl) (pmk_V T.E_InvalidRoad (ok_reinit T) (hr.mono (by decide)) (b_reinit T.F_reinit) (by rfl) (pa_cons (pv 1) pa_nil)))) pss_nil)))), ?_⟩
    refine ⟨_, rfl, p, t, u, rfl, hp, hf, hw, fun h0 => ?_, fun x hx => qe x (fo_12 hx)⟩
    obtain ⟨n1, h1⟩ := fo_none h0
    obtain ⟨n2, _⟩ := fo_none h1
    rw [fo_no n1] at q qe
    have hu : IsRd u := Classical.byContradiction fun z => n2 (.inl z)
    obtain ⟨w, rfl⟩ := hu
    refine ⟨_, rfl, p, _, _, _, rfl, rfl, hp, rfl, ?_⟩
    have er : ∀ _ : ¬ Both w, Rs K H E "InvalidRoad" (.str (rd w)) := fun nb => qe _ (fo_yes (odd_2.mpr nb))
    refine ⟨_, rfl, sg false, rd w, congrArg V.str str_L, rfl, _, rfl, bl2 (fun c => ?_) (fun c => ?_)⟩
    · refine ⟨_, rfl, _, rfl, fun d nd => (er fun b => ?_).now T.E_InvalidRoad.ni nd⟩
      have := in_rd.mpr b.1
      simp [this] at c
    · have c1 : (sg false ∈ (rd w).cps.toList) := by simpa using c
      refine ⟨_, rfl, sg true, rd w, congrArg V.str str_R, rfl, _, rfl, bl2 (fun c => ?_) (fun c => ?_)⟩
      · refine ⟨_, rfl, _, rfl, fun d nd => (er fun b => ?_).now T.E_InvalidRoad.ni nd⟩
        have := in_rd.mpr b.2
        simp [this] at c
      · have c2 : (sg true ∈ (rd w).cps.toList) := by simpa using c
        rw [fo_no (fun y => (odd_2.mp y) (both_rd.mp ⟨c1, c2⟩))] at q
        exact q rfl

/-! matrix_of -/
def sp_matrix_of (K : PySem.W.Frag) : Sp := fun vs H Q _ => ∃ (w : List Bool), vs = [.str (rd w)] ∧
  ∀ H' p, Same H H' → H p = none → H' p = some (.tup [.int (mat w).a, .int (mat w).b, .int (mat w).c, .int (mat w).d]) → Q (.ref p) H'
theorem ok_matrix_of (T : Tx K mg) : FnOk P w K mg base CX0 1 T.a_matrix_of T.fd_matrix_of ["road"] (sp_matrix_of K) := by
  refine T.F_matrix_of.ok sc_matrix_of (fun vs H Q E h => ?_) (fun cdv A outer s H vs Q E hr h => ?_)
  · obtain ⟨w, rfl, _⟩ := h
    rfl
  · obtain ⟨w, rfl, q⟩ := h
    refine ⟨_, (pss_cons (ps_asg (pe_tup (pa_cons pe_int (pa_cons pe_int (pa_cons pe_int (pa_cons pe_int pa_nil))))) (pg_tup (by rfl) (pgs_cons (pg_name (i := 1) sc_matrix_of.nd rfl (Or.inl rfl)) (pgs_cons (pg_name (i := 2) sc_matrix_of.nd rfl (Or.inl rfl)) (pgs_cons (pg_name (i := 3) sc_matrix_of.nd rfl (Or.inl rfl)) (pgs_cons (pg_name (i := 4) sc_matrix_of.nd rfl (Or.inl rfl)) pgs_nil))))))
  (pss_cons (ps_for PassesOwn.never rfl (pi_str (pv 0)) (pg_name (i := 5) sc_matrix_of.nd rfl (Or.inl rfl))
    (pss_one (ps_if (pt_cmpR op_eq (pv 5) pe_str (nomark _)) (pss_one (ps_par (i := 1) (j := 3) (by rfl) sc_matrix_of.nd rfl rfl (by decide) rfl rfl (pa_cons (pe_op op_add (pv 1) (pv 2)) (pa_cons (pe_op op_add (pv 3) (pv 4)) pa_nil)) (by rfl))) (pss_one (ps_par (i := 2) (j := 4) (by rfl) sc_matrix_of.nd rfl rfl (by decide) rfl rfl (pa_cons (pe_op op_add (pv 1) (pv 2)) (pa_cons (pe_op op_add (pv 3) (pv 4)) pa_nil)) (by rfl))))))
  (pss_one (ps_ret (pe_tup (pa_cons (pv 1) (pa_cons (pv 2) (pa_cons (pv 3) (pa_cons (pv 4) pa_nil))))))))), ?_⟩
    have z4 : ([.int 1, .int 0, .int 0, .int 1] : List V).length ≤ sizeLine := sz (by show 4 ≤ 1000000; decide)
    refine ⟨z4, fun p np => ⟨p, _, rfl, .inl (.inl upd_same), rfl, ?_⟩⟩
    refine ⟨_, _, rfl, _, _, rfl, _, _, rfl, _, _, rfl, rfl, ?_⟩
    refine ⟨_, rfl, rd w, rfl, for_rd (fun pre σ H2 => ∃ x, σ = [some (.str (rd w)), some (.int (mat pre).a), some (.int (mat pre).b), some (.int (mat pre).c), some (.int (mat pre).d), x] ∧ Same H H2) ⟨none, rfl, (L2.Same.refl H).new np⟩ ?_ ?_⟩
    · rintro pre t post σ H2 ew ⟨x, rfl, sm⟩
      refine ⟨_, rfl, rfl, _, rfl, ?_⟩
      rw [eq_L]
      cases t
      · refine iteT ⟨_, rfl, _, rfl, _, _, rfl, rfl, _, rfl, _, rfl, _, _, rfl, rfl, _, _, rfl, some (.str (rd [false])), ?_, sm⟩
        rw [mat_snoc]
        rfl
      · refine iteF ⟨_, rfl, _, rfl, _, _, rfl, rfl, _, rfl, _, rfl, _, _, rfl, rfl, _, _, rfl, some (.str (rd [true])), ?_, sm⟩
        rw [mat_snoc]
        rfl
    · rintro σ H2 ⟨x, rfl, sm⟩
      refine ⟨_, rfl, _, rfl, _, rfl, _, rfl, sz (by show 4 ≤ 1000000; decide), fun p np => ?_⟩
      exact q _ p (sm.new np) (sm.free np) upd_same

/-! times -/
def sp_times (K : PySem.W.Frag) : Sp := fun vs H Q _ => ∃ (x y : Addr) (m n : M4) (k : Nat), vs = [.ref x, .ref y] ∧ SqT K H x (m.l.map V.int) ∧ SqT K H y (n.l.map V.int) ∧ k ≤ 1900 ∧ (∀ i ∈ m.l, Bd k i) ∧ (∀ i ∈ n.l, Bd k i) ∧
  ∀ H' p, Same H H' → H p = none → H' p = some (.tup ((m.mul n).l.map V.int)) → Q (.ref p) H'
theorem ok_times (T : Tx K mg) : FnOk P w K mg base CX0 1 T.a_times T.fd_times ["one", "other"] (sp_times K) := by
  refine T.F_times.ok sc_times (fun vs H Q E h => ?_) (fun cdv A outer s H vs Q E hr h => ?_)
  · obtain ⟨x, y, m, n, k, rfl, _⟩ := h
    rfl
  · obtain ⟨x, y, m, n, k, rfl, hx, hy, hk, bm, bn, q⟩ := h
    refine ⟨_, (pss_cons (ps_asg (pv 0) (pg_tup (by rfl) (pgs_cons (pg_name (i := 2) sc_times.nd rfl (Or.inl rfl)) (pgs_cons (pg_name (i := 3) sc_times.nd rfl (Or.inl rfl)) (pgs_cons (pg_name (i := 4) sc_times.nd rfl (Or.inl rfl)) (pgs_cons (pg_name (i := 5) sc_times.nd rfl (Or.inl rfl)) pgs_nil))))))
  (pss_cons (ps_asg (pv 1) (pg_tup (by rfl) (pgs_cons (pg_name (i := 6) sc_times.nd rfl (Or.inl rfl)) (pgs_cons (pg_name (i := 7) sc_times.nd rfl (Or.inl rfl)) (pgs_cons (pg_name (i := 8) sc_times.nd rfl (Or.inl rfl)) (pgs_cons (pg_name (i := 9) sc_times.nd rfl (Or.inl rfl)) pgs_nil))))))
  (pss_one (ps_ret (pe_tup (pa_cons (pe_op op_add (pe_op op_mulL (pv 2) (pv 6)) (pe_op op_mulL (pv 3) (pv 8))) (pa_cons (pe_op op_add (pe_op op_mulL (pv 2) (pv 7)) (pe_op op_mulL (pv 3) (pv 9))) (pa_cons (pe_op op_add (pe_op op_mulL (pv 4) (pv 6)) (pe_op op_mulL (pv 5) (pv 8))) (pa_cons (pe_op op_add (pe_op op_mulL (pv 4) (pv 7)) (pe_op op_mulL (pv 5) (pv 9))) pa_nil))))))))), ?_⟩
    have ba := bm m.a (by simp [M4.l])
    have bb := bm m.b (by simp [M4.l])
    have bc := bm m.c (by simp [M4.l])
    have bd := bm m.d (by simp [M4.l])
    have ca := bn n.a (by simp [M4.l])
    have cb := bn n.b (by simp [M4.l])
    have cc := bn n.c (by simp [M4.l])
    have cd := bn n.d (by simp [M4.l])
    refine ⟨_, rfl, x, _, rfl, hx, rfl, _, _, rfl, _, _, rfl, _, _, rfl, _, _, rfl, rfl, ?_⟩
    refine ⟨_, rfl, y, _, rfl, hy, rfl, _, _, rfl, _, _, rfl, _, _, rfl, _, _, rfl, rfl, ?_⟩
    refine ⟨_, rfl, _, rfl, _, _, rfl, rfl, ba.ml ca hk hk, _, rfl, _, rfl, _, _, rfl, rfl, bb.ml cc hk hk, _, _, rfl, rfl, ?_⟩
    refine ⟨_, rfl, _, rfl, _, _, rfl, rfl, ba.ml cb hk hk, _, rfl, _, rfl, _, _, rfl, rfl, bb.ml cd hk hk, _, _, rfl, rfl, ?_⟩
    refine ⟨_, rfl, _, rfl, _, _, rfl, rfl, bc.ml ca hk hk, _, rfl, _, rfl, _, _, rfl, rfl, bd.ml cc hk hk, _, _, rfl, rfl, ?_⟩
    refine ⟨_, rfl, _, rfl, _, _, rfl, rfl, bc.ml cb hk hk, _, rfl, _, rfl, _, _, rfl, rfl, bd.ml cd hk hk, _, _, rfl, rfl, sz (by show 4 ≤ 1000000; decide), fun p np => ?_⟩
    exact q _ p ((L2.Same.refl H).new np) np upd_same

/-! square_of -/
def sp_square_of (K : PySem.W.Frag) : Sp := fun vs H Q E => ∃ (p : Addr) (t u : Str), vs = [.ref p] ∧ SqT K H p [.str t, .str u] ∧ t.length ≤ 70 ∧ u.length ≤ 20 ∧ (∀ x, Fo [(t, 0), (u, 2)] = some x → Rs K H E "InvalidRoad" (.str x)) ∧
  (Fo [(t, 0), (u, 2)] = none → ∀ f w, t = rd f → u = rd w → Both w → ∀ d, Nsq (arnd f w).tr3 d → ∀ H' p, Same H H' → H p = none → H' p = some (.tup (d.l.map V.int)) → Q (.ref p) H')
theorem ok_square_of (T : Tx K mg) : FnOk P w K mg base (L2.CX P w) 6 T.a_square_of T.fd_square_of ["told"] (sp_square_of K) := by
  have G_check_turning_course := ok_check_turning_course (P := P) (w := w) (base := base) T
  have G_matrix_of := ok_matrix_of (P := P) (w := w) (base := base) T
  have G_times := ok_times (P := P) (w := w) (base := base) T
  refine T.F_square_of.okX sc_square_of (fun vs H Q E h => ?_) (fun cdv A outer s H vs Q E hr h => ?_)
  · obtain ⟨p, t, u, rfl, _⟩ := h
    rfl
  · obtain ⟨p, t, u, rfl, hp, ht, hu, qe, q⟩ := h
    refine ⟨_, (pss_cons (ps_expr (pe_call G_check_turning_course (hr.mono (by decide)) (by rfl) T.g_check_turning_course T.F_check_turning_course.kp (b_check_turning_course T.F_check_turning_course) .nil (passes_call (takes_of rfl rfl rfl rfl) (fun _ _ _ _ h => h)) (pa_cons (pv 0) pa_nil)))
  (pss_cons (ps_asg (pv 0) (pg_tup (by rfl) (pgs_cons (pg_name (i := 1) sc_square_of.nd rfl (Or.inl rfl)) (pgs_cons (pg_name (i := 2) sc_square_of.nd rfl (Or.inl rfl)) pgs_nil))))
  (pss_cons (ps_asg (pe_call G_matrix_of (hr.mono (by decide)) (by rfl) T.g_matrix_of T.F_matrix_of.kp (b_matrix_of T.F_matrix_of) .nil pass0 (pa_cons (pv 1) pa_nil)) (pg_tup (by rfl) (pgs_cons (pg_name (i := 3) sc_square_of.nd rfl (Or.inl rfl)) (pgs_cons (pg_name (i := 4) sc_square_of.nd rfl (Or.inl rfl)) (pgs_cons (pg_name (i := 5) sc_square_of.nd rfl (Or.inl rfl)) (pgs_cons (pg_name (i := 6) sc_square_of.nd rfl (Or.inl rfl)) pgs_nil))))))
  (pss_cons (ps_set (i := 7) sc_square_of.nd rfl (Or.inl rfl) (pe_call G_times (hr.mono (by decide)) (by rfl) T.g_times T.F_times.kp (b_times T.F_times) .nil pass0 (pa_cons (pe_call G_times (hr.mono (by decide)) (by rfl) T.g_times T.F_times.kp (b_times T.F_times) .nil pass0 (pa_cons (pe_tup (pa_cons (pv 3) (pa_cons (pv 4) (pa_cons (pv 5) (pa_cons (pv 6) pa_nil))))) (pa_cons (pe_call G_matrix_of (hr.mono (by decide)) (by rfl) T.g_matrix_of T.F_matrix_of.kp (b_matrix_of T.F_matrix_of) .nil pass0 (pa_cons (pv 2) pa_nil)) pa_nil))) (pa_cons (pe_tup (pa_cons (pv 6) (pa_cons (pe_un un_neg (pv 4)) (pa_cons (pe_un un_neg (pv 5)) (pa_cons (pv 3) pa_nil))))) pa_nil))))
  (pss_cons (ps_asg (pv 7) (pg_tup (by rfl) (pgs_cons (pg_name (i := 8) sc_square_of.nd rfl (Or.inl rfl)) (pgs_cons (pg_name (i := 9) sc_square_of.nd rfl (Or.inl rfl)) (pgs_cons (pg_name (i := 10) sc_square_of.nd rfl (Or.inl rfl)) (pgs_cons (pg_name (i := 11) sc_square_of.nd rfl (Or.inl rfl)) pgs_nil))))))
  (pss_cons (ps_set (i := 12) sc_square_of.nd rfl (Or.inl rfl) (pe_callBfun cr_gcdN (by rfl) T.m_gcd (pa_cons (pv 10) (pa_cons (pe_op op_sub (pv 11) (pv 8)) (pa_cons (pv 9) pa_nil)))))
  (pss_cons (ps_if (pt_cmpR op_lt (pv 10) pe_int (nomark _)) (pss_one (ps_set (i := 12) sc_square_of.nd rfl (Or.inl rfl) (pe_un un_neg (pv 12)))) pss_nil)
  (pss_one (ps_ret (pe_tup (pa_cons (pe_op op_fdivL (pv 10) (pv 12)) (pa_cons (pe_op op_fdivL (pe_op op_sub (pv 11) (pv 8)) (pv 12)) (pa_cons (pe_op op_fdivL (pe_un un_neg (pv 9)) (pv 12)) pa_nil))))))))))))), ?_⟩
    refine ⟨_, rfl, p, t, u, rfl, hp, by omega, by omega, fun h0 => ?_, qe⟩
    replace q := q h0
    obtain ⟨n1, h1⟩ := fo_none h0
    obtain ⟨n2, _⟩ := fo_none h1
    obtain ⟨f, rfl⟩ : IsRd t := Classical.byContradiction fun z => n1 (odd_0.mpr z)
    obtain ⟨w, rfl⟩ : IsRd u := Classical.byContradiction fun z => n2 (.inl z)
    have bw : Both w := Classical.byContradiction fun z => n2 (odd_2.mpr z)
    rw [rd_len] at ht hu
    have hf := ht
    have hw := hu
    replace q := q f w rfl rfl bw
    obtain ⟨b1, b2, b3, b4, b5⟩ := arnd_bd hf hw
    refine ⟨_, rfl, p, _, rfl, hp, rfl, _, _, rfl, _, _, rfl, rfl, ?_⟩
    refine ⟨_, rfl, f, rfl, fun H1 p1 sm1 np1 e1 => ?_⟩
    refine ⟨p1, _, rfl, .inl (.inl e1), rfl, _, _, rfl, _, _, rfl, _, _, rfl, _, _, rfl, rfl, ?_⟩
    refine ⟨_, rfl, _, rfl, _, rfl, _, rfl, sz (by show 4 ≤ 1000000; decide), fun t1 nt1 => ?_⟩
    have s1 := sm1.new (o := .tup ((mat f).l.map V.int)) nt1
    refine ⟨_, rfl, w, rfl, fun H2 p2 sm2 np2 e2 => ?_⟩
    refine ⟨t1, p2, mat f, mat w, 200, rfl, SqT.of (sm2 _ _ upd_same), SqT.of e2, by decide, b1, b2, fun H3 p3 sm3 np3 e3 => ?_⟩
    refine ⟨_, rfl, _, rfl, _, rfl, _, rfl, _, rfl, _, rfl, sz (by show 4 ≤ 1000000; decide), fun t4 nt4 => ?_⟩
    have s3 := (s1.trans sm2).trans sm3
    have s4 := s3.new (o := .tup ((mat f).adj.l.map V.int)) nt4
    refine ⟨p3, t4, (mat f).mul (mat w), (mat f).adj, 200, rfl, SqT.of (((L2.Same.refl H3).new nt4) _ _ e3), SqT.of upd_same, by decide, b3, b4, fun H5 p5 sm5 np5 e5 => ?_⟩
    have s5 := s4.trans sm5
    have e5 : H5 p5 = some (.tup ((arnd f w).l.map V.int)) := e5
    have x0 : (arnd f w).tr3.x ≠ 0 := arnd_ne bw
    have gs := arnd_gl_lt (f := f) hw bw
    generalize hB : arnd f w = B at *
    refine ⟨_, rfl, p5, _, rfl, SqT.of e5, rfl, _, _, rfl, _, _, rfl, _, _, rfl, _, _, rfl, rfl, ?_⟩
    have gp : 0 < gl B.tr3.l := gl_pos (x := B.tr3.x) (by simp [T3.l]) x0
    have eg : Nat.gcd (Nat.gcd B.c.natAbs (B.d - B.a).natAbs) B.b.natAbs = gl B.tr3.l := by
      show _ = Nat.gcd (Nat.gcd (Nat.gcd 0 B.c.natAbs) (B.d - B.a).natAbs) (-B.b).natAbs
      rw [Nat.gcd_zero_left, Int.natAbs_neg]
    refine ⟨_, rfl, _, rfl, _, rfl, _, _, rfl, rfl, _, rfl, .inr (.inl ⟨B.c, B.d - B.a, B.b, rfl, ?_⟩)⟩
    rw [eg]
    have g1 := gl_dvd B.tr3.l B.tr3.x (by simp [T3.l])
    have g2 := gl_dvd B.tr3.l B.tr3.y (by simp [T3.l])
    have g3 := gl_dvd B.tr3.l B.tr3.z (by simp [T3.l])
    have N := fun s hs => nsq_div (t := B.tr3) (s := s) x0 hs
    refine ⟨_, rfl, _, _, rfl, rfl, _, rfl, bl2 (fun c => ?_) (fun c => ?_)⟩
    · have c : B.tr3.x < 0 := of_decide_eq_true c
      have n1 := N (-1) (.inr ⟨rfl, c⟩)
      have cd : ∀ i : Int, Cfd i (-(gl B.tr3.l : Nat)) := fun i => .inl ⟨by omega, by omega⟩
      refine ⟨_, rfl, _, rfl, ?_⟩
      refine ⟨_, rfl, _, rfl, _, _, rfl, rfl, cd _, _, rfl, _, rfl, _, _, rfl, rfl, _, rfl, _, _, rfl, rfl, cd _, _, rfl, _, rfl, _, rfl, _, _, rfl, rfl, cd _, sz (by show 3 ≤ 1000000; decide), fun t nt => ?_⟩
      refine q _ n1 _ t (s5.new nt) (s5.free nt) ?_
      rw [upd_same]
      show some (HO.tup [V.int (Int.fdiv B.tr3.x (-(gl B.tr3.l : Int))), V.int (Int.fdiv B.tr3.y (-(gl B.tr3.l : Int))), V.int (Int.fdiv B.tr3.z (-(gl B.tr3.l : Int)))]) = _
      rw [fdiv_neg_of g1, fdiv_neg_of g2, fdiv_neg_of g3]
      rfl
    · have c : ¬ B.tr3.x < 0 := of_decide_eq_false c
      have n1 := N 1 (.inl ⟨rfl, by omega⟩)
      simp only [Int.one_mul] at n1
      have cd : ∀ i : Int, Cfd i (gl B.tr3.l : Nat) := fun i => .inl ⟨by omega, by omega⟩
      refine ⟨_, rfl, _, rfl, _, _, rfl, rfl, cd _, _, rfl, _, rfl, _, _, rfl, rfl, _, rfl, _, _, rfl, rfl, cd _, _, rfl, _, rfl, _, rfl, _, _, rfl, rfl, cd _, sz (by show 3 ≤ 1000000; decide), fun t nt => ?_⟩
      refine q _ n1 _ t (s5.new nt) (s5.free nt) ?_
      rw [upd_same]
      show some (HO.tup [V.int (Int.fdiv B.tr3.x (gl B.tr3.l : Int)), V.int (Int.fdiv B.tr3.y (gl B.tr3.l : Int)), V.int (Int.fdiv B.tr3.z (gl B.tr3.l : Int))]) = _
      rw [Int.fdiv_eq_ediv_of_nonneg _ (by omega), Int.fdiv_eq_ediv_of_nonneg _ (by omega), Int.fdiv_eq_ediv_of_nonneg _ (by omega)]
      rfl

/-! number_of -/
def sp_number_of (K : PySem.W.Frag) : Sp := fun vs H Q E => ∃ (t : Str), vs = [.str t] ∧ t.length ≤ 1000000 ∧ (¬ IsRd t → Rs K H E "InvalidRoad" (.str t)) ∧
  ∀ w, t = rd w → ∀ H' p, Same H H' → H p = none → H' p = some (.tup [.int (wa w), .int (wb w)]) → Q (.ref p) H'
theorem ok_number_of (T : Tx K mg) : FnOk P w K mg base (L2.CX P w) 4 T.a_number_of T.fd_number_of ["road"] (sp_number_of K) := by
  have G_check_road := ok_check_road (P := P) (w := w) (base := base) T
  have G_matrix_of := ok_matrix_of (P := P) (w := w) (base := base) T
  refine T.F_number_of.okX sc_number_of (fun vs H Q E h => ?_) (fun cdv A outer s H vs Q E hr h => ?_)
  · obtain ⟨t, rfl, _⟩ := h
    rfl
  · obtain ⟨t, rfl, hl, qe, q⟩ := h
    refine ⟨_, (pss_cons (ps_expr (pe_call G_check_road (hr.mono (by decide)) (by rfl) T.g_check_road T.F_check_road.kp (b_check_road T.F_check_road) .nil (passes_call (takes_of rfl rfl rfl rfl) (fun _ _ _ _ h => h)) (pa_cons (pv 0) pa_nil)))
  (pss_cons (ps_asg (pe_call G_matrix_of (hr.mono (by decide)) (by rfl) T.g_matrix_of T.F_matrix_of.kp (b_matrix_of T.F_matrix_of) .nil pass0 (pa_cons (pv 0) pa_nil)) (pg_tup (by rfl) (pgs_cons (pg_name (i := 1) sc_number_of.nd rfl (Or.inl rfl)) (pgs_cons (pg_name (i := 2) sc_number_of.nd rfl (Or.inl rfl)) (pgs_cons (pg_name (i := 3) sc_number_of.nd rfl (Or.inl rfl)) (pgs_cons (pg_name (i := 4) sc_number_of.nd rfl (Or.inl rfl)) pgs_nil))))))
  (pss_one (ps_ret (pe_tup (pa_cons (pe_op op_add (pv 1) (pv 2)) (pa_cons (pe_op op_add (pv 3) (pv 4)) pa_nil))))))), ?_⟩
    refine ⟨_, rfl, t, rfl, hl, fun ht => ?_, qe⟩
    obtain ⟨w, rfl⟩ := ht
    replace q := q w rfl
    refine ⟨_, rfl, w, rfl, fun H1 m sm nm hm => ?_⟩
    refine ⟨m, _, rfl, .inl (.inl hm), rfl, _, _, rfl, _, _, rfl, _, _, rfl, _, _, rfl, rfl, ?_⟩
    refine ⟨_, rfl, _, rfl, _, _, rfl, rfl, _, rfl, _, rfl, _, _, rfl, rfl, sz (by show 2 ≤ 1000000; decide), fun p np => ?_⟩
    exact q _ p (sm.new np) (sm.free np) upd_same

/-! is_fraction -/
def sp_is_fraction (K : PySem.W.Frag) : Sp := fun vs H Q _ => ∃ (p : Addr) (x y : Int), vs = [.ref p] ∧ SqT K H p [.int x, .int y] ∧ ∀ b : Bool, (b = true ↔ (1 ≤ x ∧ 1 ≤ y ∧ Nat.gcd x.natAbs y.natAbs = 1)) → Q (.bl b) H
theorem ok_is_fraction (T : Tx K mg) : FnOk P w K mg base CX0 1 T.a_is_fraction T.fd_is_fraction ["fraction"] (sp_is_fraction K) := by
  refine T.F_is_fraction.ok sc_is_fraction (fun vs H Q E h => ?_) (fun cdv A outer s H vs Q E hr h => ?_)
  · obtain ⟨p, x, y, rfl, _⟩ := h
    rfl
  · obtain ⟨p, x, y, rfl, hp, q⟩ := h
    refine ⟨_, (pss_cons (ps_asg (pv 0) (pg_tup (by rfl) (pgs_cons (pg_name (i := 1) sc_is_fraction.nd rfl (Or.inl rfl)) (pgs_cons (pg_name (i := 2) sc_is_fraction.nd rfl (Or.inl rfl)) pgs_nil))))
  (pss_one (ps_ret (pe_and (pe_cmpR op_gt (pv 1) pe_int (nomark _)) (pe_and (pe_cmpR op_gt (pv 2) pe_int (nomark _)) (pe_one (pe_cmpR op_eq (pe_callBfun cr_gcdN (by rfl) T.m_gcd (pa_cons (pv 1) (pa_cons (pv 2) pa_nil))) pe_int (nomark _)))))))), ?_⟩
    refine ⟨_, rfl, p, _, rfl, hp, rfl, _, _, rfl, _, _, rfl, rfl, ?_⟩
    refine ⟨_, rfl, _, _, rfl, rfl, _, rfl, bl2 (fun c1 => ?_) (fun c1 => ?_)⟩
    · have c1 := of_decide_eq_true c1
      refine ⟨_, rfl, _, _, rfl, rfl, _, rfl, bl2 (fun c2 => ?_) (fun c2 => ?_)⟩
      · have c2 := of_decide_eq_true c2
        refine ⟨_, rfl, _, rfl, .inl ⟨x, y, rfl, rfl, q _ ?_⟩⟩
        refine ⟨fun z => ?_, fun z => ?_⟩
        · have z : V.int (Nat.gcd x.natAbs y.natAbs : Nat) = V.int 1 := by simpa using z
          injection z with z
          exact ⟨by omega, by omega, by omega⟩
        · rw [z.2.2]
          rfl
      · have c2 := of_decide_eq_false c2
        exact q _ ⟨(fun z => nomatch z), fun z => by omega⟩
    · have c1 := of_decide_eq_false c1
      exact q _ ⟨(fun z => nomatch z), fun z => by omega⟩

/-! check_fraction -/
def sp_check_fraction (K : PySem.W.Frag) : Sp := fun vs H Q E => ∃ (p : Addr) (x y : Int), vs = [.ref p] ∧ SqT K H p [.int x, .int y] ∧ ((1 ≤ x ∧ 1 ≤ y ∧ Nat.gcd x.natAbs y.natAbs = 1) → Q .non H) ∧ (¬ (1 ≤ x ∧ 1 ≤ y ∧ Nat.gcd x.natAbs y.natAbs = 1) → Rs K H E "InvalidFraction" (.ref p))
theorem ok_check_fraction (T : Tx K mg) : FnOk P w K mg base (L2.CX P w) 3 T.a_check_fraction T.fd_check_fraction ["fraction"] (sp_check_fraction K) := by
  have G_is_fraction := ok_is_fraction (P := P) (w := w) (base := base) T
  refine T.F_check_fraction.okX sc_check_fraction (fun vs H Q E h => ?_) (fun cdv A outer s H vs Q E hr h => ?_)
  · obtain ⟨p, x, y, rfl, _⟩ := h
    rfl
  · obtain ⟨p, x, y, rfl, hp, q, qe⟩ := h
    refine ⟨_, (pss_one (ps_if (pt_not (pt_val (pe_call G_is_fraction (hr.mono (by decide)) (by rfl) T.g_is_fraction T.F_is_fraction.kp (b_is_fraction T.F_is_fraction) .nil pass0 (pa_cons (pv 0) pa_nil)))) (pss_one (ps_raise (by rfl) (takes_of rfl rfl rfl rfl) (pmk_V T.E_InvalidFraction (ok_reinit T) (hr.mono (by decide)) (b_reinit T.F_reinit) (by rfl) (pa_cons (pv 0) pa_nil)))) pss_nil)), ?_⟩
    refine ⟨_, rfl, p, x, y, rfl, hp, fun b hb => ⟨_, rfl, bl2 (fun c => ?_) (fun c => ?_)⟩⟩
    · have c : ¬ (b = true) := by simpa using c
      exact ⟨_, rfl, _, rfl, fun d nd => (qe fun z => c (hb.mpr z)).now T.E_InvalidFraction.ni nd⟩
    · have c : b = true := by simpa using c
      exact q (hb.mp c)

/-! road_of -/
def sp_road_of (K : PySem.W.Frag) : Sp := fun vs H Q E => ∃ (p : Addr) (x y : Int), vs = [.ref p] ∧ SqT K H p [.int x, .int y] ∧ (¬ (1 ≤ x ∧ 1 ≤ y ∧ Nat.gcd x.natAbs y.natAbs = 1) → Rs K H E "InvalidFraction" (.ref p)) ∧
  ((1 ≤ x ∧ 1 ≤ y ∧ Nat.gcd x.natAbs y.natAbs = 1) → ∃ w, x = wa w ∧ y = wb w ∧ w.length ≤ 1000 ∧ ∀ H', Same H H' → Q (.str (rd w)) H')
theorem ok_road_of (T : Tx K mg) : FnOk P w K mg base (L2.CX P w) 4 T.a_road_of T.fd_road_of ["fraction"] (sp_road_of K) := by
  have G_check_fraction := ok_check_fraction (P := P) (w := w) (base := base) T
  refine T.F_road_of.okX sc_road_of (fun vs H Q E h => ?_) (fun cdv A outer s H vs Q E hr h => ?_)
  · obtain ⟨p, x, y, rfl, _⟩ := h
    rfl
  · obtain ⟨p, x, y, rfl, hp, qe, q⟩ := h
    refine ⟨_, (pss_cons (ps_expr (pe_call G_check_fraction (hr.mono (by decide)) (by rfl) T.g_check_fraction T.F_check_fraction.kp (b_check_fraction T.F_check_fraction) .nil (passes_call (takes_of rfl rfl rfl rfl) (fun _ _ _ _ h => h)) (pa_cons (pv 0) pa_nil)))
  (pss_cons (ps_asg (pv 0) (pg_tup (by rfl) (pgs_cons (pg_name (i := 1) sc_road_of.nd rfl (Or.inl rfl)) (pgs_cons (pg_name (i := 2) sc_road_of.nd rfl (Or.inl rfl)) pgs_nil))))
  (pss_cons (ps_set (i := 3) sc_road_of.nd rfl (Or.inl rfl) (pe_lst pa_nil))
  (pss_cons (ps_while (passes_of rfl) (pt_cmpR op_ne (pv 1) (pv 2) (nomark _))
    (pss_one (ps_if (pt_cmpR op_gt (pv 1) (pv 2) (nomark _)) (pss_cons (ps_set (i := 4) sc_road_of.nd rfl (Or.inl rfl) (pe_op op_fdivL (pe_op op_sub (pv 1) pe_int) (pv 2)))
  (pss_cons (ps_expr (pe_bm PySem.F.plainAttrs_list PySem.F.slot_list_append PySem.F.type_list_append mt_append (pv 3) (pa_cons (pe_op op_mulS pe_str (pv 4)) pa_nil)))
  (pss_one (ps_set (i := 1) sc_road_of.nd rfl (Or.inl rfl) (pe_op op_sub (pv 1) (pe_op op_mulL (pv 4) (pv 2))))))) (pss_cons (ps_set (i := 4) sc_road_of.nd rfl (Or.inl rfl) (pe_op op_fdivL (pe_op op_sub (pv 2) pe_int) (pv 1)))
  (pss_cons (ps_expr (pe_bm PySem.F.plainAttrs_list PySem.F.slot_list_append PySem.F.type_list_append mt_append (pv 3) (pa_cons (pe_op op_mulS pe_str (pv 4)) pa_nil)))
  (pss_one (ps_set (i := 2) sc_road_of.nd rfl (Or.inl rfl) (pe_op op_sub (pv 2) (pe_op op_mulL (pv 4) (pv 1))))))))))
  (pss_one (ps_ret (pe_join pe_str (pv 3)))))))), ?_⟩
    refine ⟨_, rfl, p, x, y, rfl, hp, fun g => ?_, qe⟩
    obtain ⟨w, rfl, rfl, hw, q⟩ := q g
    obtain ⟨p1, p2⟩ := up_pos w
    refine ⟨_, rfl, p, _, rfl, hp, rfl, _, _, rfl, _, _, rfl, rfl, sz (by show 0 ≤ 1000000; decide), fun r nr => ?_⟩
    refine ⟨fun m σ H2 => ∃ (ls : List (List Bool)) (v : List Bool) (x : Option V), σ = [some (.ref p), some (.int (wa v)), some (.int (wb v)), some (.ref r), x] ∧ m = v.length ∧ ls.flatten ++ v = w ∧ ls.length + v.length ≤ w.length ∧ Same H H2 ∧ H2 r = some (.lst ((ls.map rd).map V.str)),
      ⟨w.length, [], w, none, rfl, rfl, rfl, Nat.le_of_eq (Nat.zero_add _), (L2.Same.refl H).new nr, upd_same⟩, ?_⟩
    rintro m σ H2 ⟨ls, v, x, rfl, rfl, ev, hl, sm, hr2⟩
    have lw : v.length ≤ 1000 := by omega
    obtain ⟨v1, v2⟩ := up_pos v
    obtain ⟨sa, sb⟩ := up_sml (w := v) (by omega)
    have room : (List.map V.str (List.map rd ls)).length < sizeLine := by
      rw [List.length_map, List.length_map]
      exact Nat.lt_of_le_of_lt (show ls.length ≤ 1000 by omega) (by decide)
    refine ⟨_, rfl, _, rfl, rfl, _, rfl, ?_⟩
    by_cases e : wa v = wb v
    · -- the end
      have ev0 := rest_nil.mp e
      subst ev0
      rw [List.append_nil] at ev
      refine iteNS (by rw [e]) ?_
      refine ⟨⟨_, rfl⟩, _, rfl, ("" : Str), r, ls.map rd, rfl, rfl, .inl (SqL.of hr2), join_room (by rw [ev]; omega), ?_⟩
      rw [join_rd, ev]
      exact q _ sm
    · have en : (!decide (V.int (wa v) = V.int (wb v))) = true := by
        rw [decide_eq_false (fun z => e (V.int.inj z))]
        rfl
      rw [en]
      refine iteT ⟨fun σ' H' => ∃ (ls' : List (List Bool)) (v' : List Bool) (x : Option V), σ' = [some (.ref p), some (.int (wa v')), some (.int (wb v')), some (.ref r), x] ∧ v'.length < v.length ∧ ls'.flatten ++ v' = w ∧ ls'.length + v'.length ≤ w.length ∧ Same H H' ∧ H' r = some (.lst ((ls'.map rd).map V.str)), ?_, ?_⟩
      · rintro σ' H' ⟨ls', v', x, rfl, lt, e1, e2, e3, e4⟩
        exact ⟨v'.length, lt, ls', v', x, rfl, rfl, e1, e2, e3, e4⟩
      · refine ⟨_, rfl, _, rfl, _, _, rfl, rfl, _, rfl, ite2 (fun e2 => ?_) (fun e2 => ?_)⟩
        · have gt : wa v > wb v := of_decide_eq_true e2
          obtain ⟨v', e3, e4, e5⟩ := runs_R v
          have many : 1 ≤ (wa v - 1) / wb v := (Int.le_ediv_iff_mul_le (by omega)).mpr (by omega)
          have ef : (wa v - 1).fdiv (wb v) = (wa v - 1) / wb v := Int.fdiv_eq_ediv_of_nonneg _ (by omega)
          have el : ((wa v - 1) / wb v).toNat + v'.length = v.length := by
            have := congrArg List.length e3
            rw [List.length_append, List.length_replicate] at this
            omega
          refine ⟨_, rfl, _, _, rfl, rfl, _, rfl, _, _, rfl, rfl, .inr ⟨by omega, Nat.lt_trans sb.lg (by decide)⟩, ?_⟩
          refine ⟨_, rfl, .inl ⟨rfl, _, SqL.of hr2⟩, _, rfl, ("R" : Str), _, rfl, rfl, by decide +kernel, ?_, ?_, r, _, _, rfl, rfl, hr2, room, ?_⟩
          · show (-1000 : Int) ≤ (wa v - 1).fdiv (wb v)
            rw [ef]
            omega
          · show (wa v - 1).fdiv (wb v) ≤ 1000
            rw [ef]
            omega
          · have e6 : repT ("R" : Str) ((wa v - 1).fdiv (wb v)) = rd (List.replicate ((wa v - 1) / wb v).toNat true) := by
              rw [← rd_R, ef, rep_rd]
              congr 1
              unfold repR
              rw [List.flatten_replicate_singleton]
            rw [e6]
            refine ⟨_, rfl, _, rfl, _, rfl, _, _, rfl, rfl, cml_s ?_ sb, _, _, rfl, rfl, ls ++ [List.replicate ((wa v - 1) / wb v).toNat true], v', some (.int ((wa v - 1).fdiv (wb v))), ?_, by omega, ?_, ?_, ?_, ?_⟩
            · rw [ef]
              have : (((wa v - 1) / wb v).natAbs) ≤ 1000 := by omega
              exact Nat.lt_of_le_of_lt this (by decide)
            · show [some (V.ref p), some (V.int (wa v - (wa v - 1).fdiv (wb v) * wb v)), some (V.int (wb v)), some (V.ref r), some (V.int ((wa v - 1).fdiv (wb v)))] = _
              rw [e4, e5, ef]
            · rw [List.flatten_append, List.append_assoc, ← ev]
              show ls.flatten ++ ((List.replicate ((wa v - 1) / wb v).toNat true ++ []) ++ v') = _
              rw [List.append_nil, ← e3]
            · rw [List.length_append]
              show ls.length + 1 + v'.length ≤ w.length
              omega
            · exact fun b o z => by rw [upd_ne (ne_of_none z nr)]; exact sm b o z
            · rw [upd_same]
              simp
        · have lt : wa v < wb v := by
            have : ¬ wa v > wb v := fun z => e2 (decide_eq_true z)
            omega
          obtain ⟨v', e3, e4, e5⟩ := runs_L v
          have many : 1 ≤ (wb v - 1) / wa v := (Int.le_ediv_iff_mul_le (by omega)).mpr (by omega)
          have ef : (wb v - 1).fdiv (wa v) = (wb v - 1) / wa v := Int.fdiv_eq_ediv_of_nonneg _ (by omega)
          have el : ((wb v - 1) / wa v).toNat + v'.length = v.length := by
            have := congrArg List.length e3
            rw [List.length_append, List.length_replicate] at this
            omega
          refine ⟨_, rfl, _, _, rfl, rfl, _, rfl, _, _, rfl, rfl, .inr ⟨by omega, Nat.lt_trans sa.lg (by decide)⟩, ?_⟩
          refine ⟨_, rfl, .inl ⟨rfl, _, SqL.of hr2⟩, _, rfl, ("L" : Str), _, rfl, rfl, by decide +kernel, ?_, ?_, r, _, _, rfl, rfl, hr2, room, ?_⟩
          · show (-1000 : Int) ≤ (wb v - 1).fdiv (wa v)
            rw [ef]
            omega
          · show (wb v - 1).fdiv (wa v) ≤ 1000
            rw [ef]
            omega
          · have e6 : repT ("L" : Str) ((wb v - 1).fdiv (wa v)) = rd (List.replicate ((wb v - 1) / wa v).toNat false) := by
              rw [← rd_L, ef, rep_rd]
              congr 1
              unfold repR
              rw [List.flatten_replicate_singleton]
            rw [e6]
            refine ⟨_, rfl, _, rfl, _, rfl, _, _, rfl, rfl, cml_s ?_ sa, _, _, rfl, rfl, ls ++ [List.replicate ((wb v - 1) / wa v).toNat false], v', some (.int ((wb v - 1).fdiv (wa v))), ?_, by omega, ?_, ?_, ?_, ?_⟩
            · rw [ef]
              have : (((wb v - 1) / wa v).natAbs) ≤ 1000 := by omega
              exact Nat.lt_of_le_of_lt this (by decide)
            · show [some (V.ref p), some (V.int (wa v)), some (V.int (wb v - (wb v - 1).fdiv (wa v) * wa v)), some (V.ref r), some (V.int ((wb v - 1).fdiv (wa v)))] = _
              rw [e4, e5, ef]
            · rw [List.flatten_append, List.append_assoc, ← ev]
              show ls.flatten ++ ((List.replicate ((wb v - 1) / wa v).toNat false ++ []) ++ v') = _
              rw [List.append_nil, ← e3]
            · rw [List.length_append]
              show ls.length + 1 + v'.length ≤ w.length
              omega
            · exact fun b o z => by rw [upd_ne (ne_of_none z nr)]; exact sm b o z
            · rw [upd_same]
              simp

/-! order_of -/
def sp_order_of (K : PySem.W.Frag) : Sp := fun vs H Q _ => (∃ (x y : Int), vs = [.int x, .int y] ∧ ∀ v, Q v H) ∨ (∃ (u v : List Bool), vs = [.str (rd u), .str (rd v)] ∧ ∀ v, Q v H)
theorem ok_order_of (T : Tx K mg) : FnOk P w K mg base CX0 1 T.a_order_of T.fd_order_of ["one", "other"] (sp_order_of K) := by
  refine T.F_order_of.ok sc_order_of (fun vs H Q E h => ?_) (fun cdv A outer s H vs Q E hr h => ?_)
  · rcases h with ⟨x, y, rfl, _⟩ | ⟨x, y, rfl, _⟩
    · rfl
    · rfl
  · rcases h with ⟨x, y, rfl, q⟩ | ⟨u, v, rfl, q⟩
    · refine ⟨_, (pss_cons (ps_if (pt_cmpR op_lt (pv 0) (pv 1) (nomark _)) (pss_one (ps_ret (pe_un un_neg pe_int))) pss_nil)
  (pss_cons (ps_if (pt_cmpR op_gt (pv 0) (pv 1) (nomark _)) (pss_one (ps_ret pe_int)) pss_nil)
  (pss_one (ps_ret pe_int)))), ?_⟩
      refine ⟨_, rfl, _, rfl, _, _, rfl, rfl, _, rfl, ite2 (fun e => ⟨_, rfl, q _⟩) (fun e => ?_)⟩
      exact ⟨_, rfl, _, rfl, _, _, rfl, rfl, _, rfl, ite2 (fun e2 => q _) (fun e2 => q _)⟩
    · refine ⟨_, (pss_cons (ps_if (pt_cmpR op_lt_str (pv 0) (pv 1) (nomark _)) (pss_one (ps_ret (pe_un un_neg pe_int))) pss_nil)
  (pss_cons (ps_if (pt_cmpR op_gt_str (pv 0) (pv 1) (nomark _)) (pss_one (ps_ret pe_int)) pss_nil)
  (pss_one (ps_ret pe_int)))), ?_⟩
      refine ⟨_, rfl, _, rfl, _, _, rfl, rfl, _, rfl, bl2 (fun z => ⟨_, rfl, q _⟩) (fun z => ?_)⟩
      exact ⟨_, rfl, _, rfl, _, _, rfl, rfl, _, rfl, bl2 (fun z => q _) (fun z => q _)⟩

/-! compare -/
def sp_compare (K : PySem.W.Frag) : Sp := fun vs H Q E => ∃ (t u : Str), vs = [.str t, .str u] ∧ t.length ≤ 1800 ∧ u.length ≤ 1800 ∧ (∀ x, Fo [(t, 0), (u, 0)] = some x → Rs K H E "InvalidRoad" (.str x)) ∧ (Fo [(t, 0), (u, 0)] = none → ∀ v H', Same H H' → Q v H')
theorem ok_compare (T : Tx K mg) : FnOk P w K mg base (L2.CX P w) 5 T.a_compare T.fd_compare ["one", "other"] (sp_compare K) := by
  have G_number_of := ok_number_of (P := P) (w := w) (base := base) T
  have G_order_of := ok_order_of (P := P) (w := w) (base := base) T
  refine T.F_compare.okX sc_compare (fun vs H Q E h => ?_) (fun cdv A outer s H vs Q E hr h => ?_)
  · obtain ⟨t, u, rfl, _⟩ := h
    rfl
  · obtain ⟨t, u, rfl, ht, hu, qe, q⟩ := h
    refine ⟨_, (pss_cons (ps_asg (pe_call G_number_of (hr.mono (by decide)) (by rfl) T.g_number_of T.F_number_of.kp (b_number_of T.F_number_of) .nil (passes_call (takes_of rfl rfl rfl rfl) (fun _ _ _ _ h => h)) (pa_cons (pv 0) pa_nil)) (pg_tup (by rfl) (pgs_cons (pg_name (i := 2) sc_compare.nd rfl (Or.inl rfl)) (pgs_cons (pg_name (i := 3) sc_compare.nd rfl (Or.inl rfl)) pgs_nil))))
  (pss_cons (ps_asg (pe_call G_number_of (hr.mono (by decide)) (by rfl) T.g_number_of T.F_number_of.kp (b_number_of T.F_number_of) .nil (passes_call (takes_of rfl rfl rfl rfl) (fun _ _ _ _ h => h)) (pa_cons (pv 1) pa_nil)) (pg_tup (by rfl) (pgs_cons (pg_name (i := 4) sc_compare.nd rfl (Or.inl rfl)) (pgs_cons (pg_name (i := 5) sc_compare.nd rfl (Or.inl rfl)) pgs_nil))))
  (pss_one (ps_ret (pe_call G_order_of (hr.mono (by decide)) (by rfl) T.g_order_of T.F_order_of.kp (b_order_of T.F_order_of) .nil pass0 (pa_cons (pe_op op_mulL (pv 2) (pv 5)) (pa_cons (pe_op op_mulL (pv 4) (pv 3)) pa_nil))))))), ?_⟩
    refine ⟨_, rfl, t, rfl, by omega, fun z => qe t (fo_yes (odd_0.mpr z)), fun w ew H1 p sm np hp => ⟨p, _, rfl, .inl (.inl hp), rfl, _, _, rfl, _, _, rfl, rfl, ?_⟩⟩
    rw [fo_no (fun z => odd_0.mp z ⟨w, ew⟩)] at qe q
    refine ⟨_, rfl, u, rfl, by omega, fun z => (qe u (fo_yes (odd_0.mpr z))).same sm, fun w2 ew2 H2 p2 sm2 np2 hp2 => ⟨p2, _, rfl, .inl (.inl hp2), rfl, _, _, rfl, _, _, rfl, rfl, ?_⟩⟩
    rw [fo_no (fun z => odd_0.mp z ⟨w2, ew2⟩)] at q
    subst ew ew2
    rw [rd_len] at ht hu
    refine ⟨_, rfl, _, rfl, _, _, rfl, rfl, cml_s (up_sml ht).1 (up_sml hu).2, _, rfl, _, rfl, _, _, rfl, rfl, cml_s (up_sml hu).1 (up_sml ht).2, .inl ⟨_, _, rfl, fun v => q rfl v _ (sm.trans sm2)⟩⟩

/-! course -/
def sp_course (K : PySem.W.Frag) : Sp := fun vs H Q E => ∃ (t u : Str), vs = [.str t, .str u] ∧ t.length ≤ 100000 ∧ u.length ≤ 100000 ∧ (∀ x, Fo [(t, 0), (u, 1)] = some x → Rs K H E "InvalidRoad" (.str x)) ∧ (Fo [(t, 0), (u, 1)] = none → ∀ v H', Same H H' → Q v H')
theorem ok_course (T : Tx K mg) : FnOk P w K mg base (L2.CX P w) 5 T.a_course T.fd_course ["ahead", "ring"] (sp_course K) := by
  have G_check_course := ok_check_course (P := P) (w := w) (base := base) T
  refine T.F_course.okX sc_course (fun vs H Q E h => ?_) (fun cdv A outer s H vs Q E hr h => ?_)
  · obtain ⟨t, u, rfl, _⟩ := h
    rfl
  · obtain ⟨t, u, rfl, ht, hu, qe, q⟩ := h
    refine ⟨_, (pss_cons (ps_expr (pe_call G_check_course (hr.mono (by decide)) (by rfl) T.g_check_course T.F_check_course.kp (b_check_course T.F_check_course) .nil (passes_call (takes_of rfl rfl rfl rfl) (fun _ _ _ _ h => h)) (pa_cons (pe_tup (pa_cons (pv 0) (pa_cons (pv 1) pa_nil))) pa_nil)))
  (pss_cons (ps_set (i := 1) sc_course.nd rfl (Or.inl rfl) (pe_slice sl_str (pv 1) po_none (po_some (pe_bm PySem.F.plainAttrs_str PySem.F.slot_str_find PySem.F.type_str_find mt_find3 (pe_op op_add_str (pv 1) (pv 1)) (pa_cons (pv 1) (pa_cons pe_int pa_nil))))))
  (pss_cons (ps_while (passes_of rfl) (PW.pt (pw_and (pt_cmpR op_ne (pv 0) pe_str (nomark _)) (pw_and1 (pt_cmpR op_eq (pe_ix ix_str (pv 0) (pe_un un_neg pe_int) (fun _ _ => rfl)) (pe_ix ix_str (pv 1) (pe_un un_neg pe_int) (fun _ _ => rfl)) (nomark _)))))
    (pss_cons (ps_set (i := 0) sc_course.nd rfl (Or.inl rfl) (pe_slice sl_str (pv 0) po_none (po_some (pe_un un_neg pe_int))))
  (pss_one (ps_set (i := 1) sc_course.nd rfl (Or.inl rfl) (pe_op op_add_str (pe_ix ix_str (pv 1) (pe_un un_neg pe_int) (fun _ _ => rfl)) (pe_slice sl_str (pv 1) po_none (po_some (pe_un un_neg pe_int))))))))
  (pss_one (ps_ret (pe_tup (pa_cons (pv 0) (pa_cons (pv 1) pa_nil)))))))), ?_⟩
    refine ⟨_, rfl, _, rfl, sz (by show 2 ≤ 1000000; decide), fun p0 np0 => ?_⟩
    refine ⟨p0, t, u, rfl, SqT.of upd_same, ht, hu, fun h0 => ?_, fun x hx => (qe x hx).same ((L2.Same.refl H).new np0)⟩
    obtain ⟨n1, h1⟩ := fo_none h0
    obtain ⟨n2, _⟩ := fo_none h1
    rw [h0] at q
    obtain ⟨f, rfl⟩ : IsRd t := Classical.byContradiction fun z => n1 (odd_0.mpr z)
    obtain ⟨w, rfl⟩ : IsRd u := Classical.byContradiction fun z => n2 (.inl z)
    have h0 : w ≠ [] := fun z => n2 (odd_1.mpr z)
    rw [rd_len] at ht hu
    have hf := ht
    have hw := hu
    refine ⟨_, rfl, _, rfl, _, rfl, _, _, rfl, rfl, rd_app_len (by omega), ?_⟩
    rw [rd_app]
    obtain ⟨p, ep, lp⟩ := find_ring h0
    refine ⟨rfl, _, rfl, _, _, 1, rfl, rfl, ?_⟩
    rw [ep]
    refine ⟨_, rfl, rd w, rfl, by rw [rd_len]; exact sz (by omega), ?_⟩
    rw [cut_take]
    have pn := lp.2.1
    have hp0 : w.take p ≠ [] := lp.prim.1
    refine ⟨fun m σ H' => ∃ (i : Nat) (c : List Bool × List Bool), c = its i (f, w.take p) ∧ i + c.1.length = f.length ∧ σ = [some (.str (rd c.1)), some (.str (rd c.2))] ∧ m = c.1.length ∧ H' = L2.upd H p0 (.tup [.str (rd f), .str (rd w)]), ⟨f.length, 0, (f, w.take p), rfl, by show 0 + f.length = f.length; omega, rfl, rfl, rfl⟩, ?_⟩
    rintro m σ H' ⟨i, c, hc, hi, rfl, rfl, rfl⟩
    have c2 : c.2 ≠ [] := by rw [hc]; exact its_ring hp0 i
    have fin : stp c = c → c = its f.length (f, w.take p) := fun z => by
      rw [hc] at z ⊢
      exact (its_fix z f.length (by omega)).symm
    obtain ⟨l1, l2⟩ := its_le (f, w.take p) i
    rw [← hc] at l1 l2
    have l1 : c.1.length ≤ f.length := l1
    have l2 : c.2.length ≤ w.length := by rw [l2]; show (w.take p).length ≤ _; rw [List.length_take]; omega
    obtain ⟨t2, e2⟩ : ∃ t, c.2.getLast? = some t := by
      cases h : c.2.getLast? with
      | none => exact absurd (List.getLast?_eq_none_iff.mp h) c2
      | some t => exact ⟨t, rfl⟩
    refine ⟨_, rfl, rfl, _, rfl, ifNilN (fun c1 => ?_) (fun c1 => ?_)⟩
    · obtain ⟨t1, e1⟩ : ∃ t, c.1.getLast? = some t := by
        cases h : c.1.getLast? with
        | none => exact absurd (List.getLast?_eq_none_iff.mp h) c1
        | some t => exact ⟨t, rfl⟩
      refine ⟨_, rfl, _, rfl, _, _, _, rfl, rfl, by rw [rd_len]; exact sz (by omega), at_last e1, ?_⟩
      refine ⟨_, rfl, _, rfl, _, _, _, rfl, rfl, by rw [rd_len]; exact sz (by omega), at_last e2, ?_⟩
      refine ⟨rfl, _, rfl, ifRd (u := [t1]) (v := [t2]) (fun z => ?_) (fun z => ?_)⟩
      · have et : c.1.getLast? = c.2.getLast? := by rw [e1, e2, List.cons.inj z |>.1]
        have es : stp c = (c.1.dropLast, rr c.2) := by
          unfold stp
          rw [if_pos et]
        have er : rr c.2 = [t2] ++ c.2.dropLast := by
          rw [rr_last c2]
          unfold last1
          rw [e2]
        have c1l := last_len e1
        refine ⟨_, fun σ' H' hn => hn, ?_⟩
        refine ⟨_, rfl, _, rfl, _, rfl, rd c.1, rfl, by rw [rd_len]; exact sz (by omega), ?_⟩
        rw [show (-(1 : Int)) = -1 from rfl, cut_most]
        refine ⟨_, rfl, _, rfl, _, _, _, rfl, rfl, by rw [rd_len]; exact sz (by omega), at_last e2, ?_⟩
        refine ⟨_, rfl, _, rfl, _, rfl, rd c.2, rfl, by rw [rd_len]; exact sz (by omega), ?_⟩
        rw [show (-(1 : Int)) = -1 from rfl, cut_most]
        refine ⟨rd [t2], _, rfl, rfl, rd_app_len (by rw [List.length_dropLast]; show 1 + _ ≤ 1000000; omega), ?_⟩
        rw [rd_app, ← er]
        refine ⟨c.1.length - 1, by omega, i + 1, stp c, by rw [hc]; rfl, ?_, ?_, ?_, rfl⟩
        · rw [es]
          show i + 1 + c.1.dropLast.length = f.length
          rw [List.length_dropLast]
          omega
        · rw [es]
          rfl
        · rw [es]
          show _ = c.1.dropLast.length
          rw [List.length_dropLast]
      · have z' : stp c = c := stp_ne (by rw [e1, e2]; intro k; exact z (by rw [Option.some.inj k]))
        refine ⟨_, rfl, _, rfl, sz (by show 2 ≤ 1000000; decide), fun q1 nq1 => ?_⟩
        exact q rfl _ _ (((L2.Same.refl H).new np0).new nq1)
    · have z' : stp c = c := stp_ne (by rw [c1, e2]; intro k; cases k)
      refine iteF ⟨_, rfl, _, rfl, sz (by show 2 ≤ 1000000; decide), fun q1 nq1 => ?_⟩
      exact q rfl _ _ (((L2.Same.refl H).new np0).new nq1)

/-! check_from_zero -/
def sp_check_from_zero (K : PySem.W.Frag) : Sp := fun vs H Q E => ∃ n : Int, vs = [.int n] ∧ (0 ≤ n → Q .non H) ∧ (n < 0 → Rs K H E "InvalidNumber" (.int n))
theorem ok_check_from_zero (T : Tx K mg) : FnOk P w K mg base (L2.CX P w) 3 T.a_check_from_zero T.fd_check_from_zero ["number"] (sp_check_from_zero K) := by
  refine T.F_check_from_zero.okX sc_check_from_zero (fun vs H Q E h => ?_) (fun cdv A outer s H vs Q E hr h => ?_)
  · obtain ⟨n, rfl, _⟩ := h
    rfl
  · obtain ⟨n, rfl, q, qe⟩ := h
    refine ⟨_, (pss_one (ps_if (pt_cmpR op_lt (pv 0) pe_int (nomark _)) (pss_one (ps_raise (by rfl) (takes_of rfl rfl rfl rfl) (pmk_V T.E_InvalidNumber (ok_reinit T) (hr.mono (by decide)) (b_reinit T.F_reinit) (by rfl) (pa_cons (pv 0) pa_nil)))) pss_nil)), ?_⟩
    refine ⟨_, rfl, _, _, rfl, rfl, _, rfl, bl2 (fun z => ?_) (fun z => q (by have := of_decide_eq_false z; omega))⟩
    exact ⟨_, rfl, _, rfl, fun d nd => (qe (of_decide_eq_true z)).now T.E_InvalidNumber.ni nd⟩

/-! turns_of -/
def sp_turns_of (K : PySem.W.Frag) : Sp := fun vs H Q E => ∃ (p : Addr) (t u : Str) (m : Int), vs = [.ref p, .int m] ∧ SqT K H p [.str t, .str u] ∧ t.length ≤ 9000 ∧ u.length ≤ 900 ∧ m ≤ 900 ∧ (∀ x, Fo [(t, 0), (u, 1)] = some x → Rs K H E "InvalidRoad" (.str x)) ∧
  (Fo [(t, 0), (u, 1)] = none → m < 0 → Rs K H E "InvalidNumber" (.int m)) ∧ (Fo [(t, 0), (u, 1)] = none → 0 ≤ m → ∀ f w (n : Nat), t = rd f → u = rd w → m = n → w ≠ [] → Q (.str (rd (ft f w n))) H)
theorem ok_turns_of (T : Tx K mg) : FnOk P w K mg base (L2.CX P w) 5 T.a_turns_of T.fd_turns_of ["told", "number"] (sp_turns_of K) := by
  have G_check_course := ok_check_course (P := P) (w := w) (base := base) T
  have G_check_from_zero := ok_check_from_zero (P := P) (w := w) (base := base) T
  refine T.F_turns_of.okX sc_turns_of (fun vs H Q E h => ?_) (fun cdv A outer s H vs Q E hr h => ?_)
  · obtain ⟨p, t, u, m, rfl, _⟩ := h
    rfl
  · obtain ⟨p, t, u, m, rfl, hp, ht, hu, hm, qe, qn, q⟩ := h
    refine ⟨_, (pss_cons (ps_expr (pe_call G_check_course (hr.mono (by decide)) (by rfl) T.g_check_course T.F_check_course.kp (b_check_course T.F_check_course) .nil (passes_call (takes_of rfl rfl rfl rfl) (fun _ _ _ _ h => h)) (pa_cons (pv 0) pa_nil)))
  (pss_cons (ps_expr (pe_call G_check_from_zero (hr.mono (by decide)) (by rfl) T.g_check_from_zero T.F_check_from_zero.kp (b_check_from_zero T.F_check_from_zero) .nil (passes_call (takes_of rfl rfl rfl rfl) (fun _ _ _ _ h => h)) (pa_cons (pv 1) pa_nil)))
  (pss_cons (ps_asg (pv 0) (pg_tup (by rfl) (pgs_cons (pg_name (i := 2) sc_turns_of.nd rfl (Or.inl rfl)) (pgs_cons (pg_name (i := 3) sc_turns_of.nd rfl (Or.inl rfl)) pgs_nil))))
  (pss_cons (ps_set (i := 4) sc_turns_of.nd rfl (Or.inl rfl) (pe_op op_add (pe_op op_fdivL (pv 1) (pe_callB call_len_str (by rfl) T.z_len (by decide +kernel) (pa_cons (pv 3) pa_nil))) pe_int))
  (pss_one (ps_ret (pe_slice sl_str (pe_op op_add_str (pv 2) (pe_op op_mulS (pv 3) (pv 4))) po_none (po_some (pv 1))))))))), ?_⟩
    refine ⟨_, rfl, p, t, u, rfl, hp, by omega, by omega, fun h0 => ?_, qe⟩
    refine ⟨_, rfl, m, rfl, fun m0 => ?_, qn h0⟩
    obtain ⟨n1, h1⟩ := fo_none h0
    obtain ⟨n2, _⟩ := fo_none h1
    obtain ⟨f, rfl⟩ : IsRd t := Classical.byContradiction fun z => n1 (odd_0.mpr z)
    obtain ⟨w, rfl⟩ : IsRd u := Classical.byContradiction fun z => n2 (.inl z)
    have w0 : w ≠ [] := fun z => n2 (odd_1.mpr z)
    obtain ⟨n, rfl⟩ := nat_of m0
    have w1 := List.length_pos_iff.mpr w0
    replace q := q h0 m0 f w n rfl rfl rfl w0
    rw [rd_len] at ht hu
    have hf := ht
    have hw := hu
    have hn : n ≤ 900 := by omega
    refine ⟨_, rfl, p, _, rfl, hp, rfl, _, _, rfl, _, _, rfl, rfl, ?_⟩
    have ed : (n : Int).fdiv (((rd w).length : Nat) : Int) = ((n / w.length : Nat) : Int) := by
      rw [rd_len, Int.fdiv_eq_ediv_of_nonneg _ (by omega)]
      rfl
    have dl : n / w.length ≤ n := Nat.div_le_self _ _
    have dm := Nat.div_add_mod n w.length
    have dr := Nat.mod_lt n w1
    refine ⟨_, rfl, _, rfl, rd w, rfl, by rw [rd_len]; exact sz (by omega), _, _, rfl, rfl, .inl ⟨by rw [rd_len]; omega, by rw [rd_len]; omega⟩, _, _, rfl, rfl, ?_⟩
    rw [ed]
    generalize n / w.length = k at *
    refine ⟨_, rfl, _, rfl, _, rfl, _, _, rfl, rfl, by rw [rd_len]; omega, by omega, by omega, ?_⟩
    rw [rep_rd, show ((k : Int) + 1).toNat = k + 1 by omega]
    have rl : (repR w (k + 1)).length ≤ 901 * 900 := by rw [repR_len]; exact Nat.mul_le_mul (by omega) hw
    refine ⟨_, _, rfl, rfl, rd_app_len (by omega), ?_⟩
    rw [rd_app]
    refine ⟨_, rfl, _, rfl, rd _, rfl, by rw [rd_len, List.length_append]; exact sz (by omega), ?_⟩
    rw [cut_take, ft_any w0]
    · exact q
    · rw [Nat.succ_mul, Nat.mul_comm]
      omega

/-! compare_courses -/
def sp_compare_courses (K : PySem.W.Frag) : Sp := fun vs H Q E => ∃ (p r : Addr) (t u t' u' : Str), vs = [.ref p, .ref r] ∧ SqT K H p [.str t, .str u] ∧ SqT K H r [.str t', .str u'] ∧ t.length ≤ 100 ∧ u.length ≤ 50 ∧ t'.length ≤ 100 ∧ u'.length ≤ 50 ∧
  (∀ x, Fo [(t, 0), (u, 2), (t', 0), (u', 2)] = some x → Rs K H E "InvalidRoad" (.str x)) ∧ (Fo [(t, 0), (u, 2), (t', 0), (u', 2)] = none → ∀ v H', Same H H' → Q v H')
theorem fo_two {t u : Str} {l : List (Str × Nat)} {x : Str} (h : Fo [(t, 0), (u, 2)] = some x) : Fo ((t, 0) :: (u, 2) :: l) = some x := by
  by_cases c : OddT (t, 0)
  · rw [fo_yes c] at h ⊢
    exact h
  · rw [fo_no c] at h ⊢
    by_cases c2 : OddT (u, 2)
    · rw [fo_yes c2] at h ⊢
      exact h
    · rw [fo_no c2] at h
      cases h
theorem ok_compare_courses (T : Tx K mg) : FnOk P w K mg base (L2.CX P w) 6 T.a_compare_courses T.fd_compare_courses ["one", "other"] (sp_compare_courses K) := by
  have G_check_turning_course := ok_check_turning_course (P := P) (w := w) (base := base) T
  have G_order_of := ok_order_of (P := P) (w := w) (base := base) T
  have G_turns_of := ok_turns_of (P := P) (w := w) (base := base) T
  refine T.F_compare_courses.okX sc_compare_courses (fun vs H Q E h => ?_) (fun cdv A outer s H vs Q E hr h => ?_)
  · obtain ⟨p, r, t, u, t', u', rfl, _⟩ := h
    rfl
  · obtain ⟨p, r, t, u, t', u', rfl, hp, hr', ht, hu, ht', hu', qe, q⟩ := h
    refine ⟨_, (pss_cons (ps_expr (pe_call G_check_turning_course (hr.mono (by decide)) (by rfl) T.g_check_turning_course T.F_check_turning_course.kp (b_check_turning_course T.F_check_turning_course) .nil (passes_call (takes_of rfl rfl rfl rfl) (fun _ _ _ _ h => h)) (pa_cons (pv 0) pa_nil)))
  (pss_cons (ps_expr (pe_call G_check_turning_course (hr.mono (by decide)) (by rfl) T.g_check_turning_course T.F_check_turning_course.kp (b_check_turning_course T.F_check_turning_course) .nil (passes_call (takes_of rfl rfl rfl rfl) (fun _ _ _ _ h => h)) (pa_cons (pv 1) pa_nil)))
  (pss_cons (ps_set (i := 2) sc_compare_courses.nd rfl (Or.inl rfl) (pe_op op_add (pe_op op_add (pe_callB (call_max2 rfl) (by rfl) T.z_max (by decide +kernel) (pa_cons (pe_callB call_len_str (by rfl) T.z_len (by decide +kernel) (pa_cons (pe_ix ix_tup (pv 0) pe_int (fun _ _ => rfl)) pa_nil)) (pa_cons (pe_callB call_len_str (by rfl) T.z_len (by decide +kernel) (pa_cons (pe_ix ix_tup (pv 1) pe_int (fun _ _ => rfl)) pa_nil)) pa_nil))) (pe_callB call_len_str (by rfl) T.z_len (by decide +kernel) (pa_cons (pe_ix ix_tup (pv 0) pe_int (fun _ _ => rfl)) pa_nil))) (pe_callB call_len_str (by rfl) T.z_len (by decide +kernel) (pa_cons (pe_ix ix_tup (pv 1) pe_int (fun _ _ => rfl)) pa_nil))))
  (pss_one (ps_ret (pe_call G_order_of (hr.mono (by decide)) (by rfl) T.g_order_of T.F_order_of.kp (b_order_of T.F_order_of) .nil pass0 (pa_cons (pe_call G_turns_of (hr.mono (by decide)) (by rfl) T.g_turns_of T.F_turns_of.kp (b_turns_of T.F_turns_of) .nil (passes_call (takes_of rfl rfl rfl rfl) (fun _ _ _ _ h => h)) (pa_cons (pv 0) (pa_cons (pv 2) pa_nil))) (pa_cons (pe_call G_turns_of (hr.mono (by decide)) (by rfl) T.g_turns_of T.F_turns_of.kp (b_turns_of T.F_turns_of) .nil (passes_call (takes_of rfl rfl rfl rfl) (fun _ _ _ _ h => h)) (pa_cons (pv 1) (pa_cons (pv 2) pa_nil))) pa_nil)))))))), ?_⟩
    refine ⟨_, rfl, p, t, u, rfl, hp, by omega, by omega, fun h0 => ?_, fun x hx => qe x (fo_two hx)⟩
    obtain ⟨n1, h1⟩ := fo_none h0
    obtain ⟨n2, _⟩ := fo_none h1
    rw [fo_no n1, fo_no n2] at qe q
    obtain ⟨f, rfl⟩ : IsRd t := Classical.byContradiction fun z => n1 (odd_0.mpr z)
    obtain ⟨l, rfl⟩ : IsRd u := Classical.byContradiction fun z => n2 (.inl z)
    have bl : Both l := Classical.byContradiction fun z => n2 (odd_2.mpr z)
    refine ⟨_, rfl, r, t', u', rfl, hr', by omega, by omega, fun h0 => ?_, qe⟩
    rw [h0] at q
    obtain ⟨n1, h1⟩ := fo_none h0
    obtain ⟨n2, _⟩ := fo_none h1
    obtain ⟨g, rfl⟩ : IsRd t' := Classical.byContradiction fun z => n1 (odd_0.mpr z)
    obtain ⟨m, rfl⟩ : IsRd u' := Classical.byContradiction fun z => n2 (.inl z)
    have bm : Both m := Classical.byContradiction fun z => n2 (odd_2.mpr z)
    rw [rd_len] at ht hu ht' hu'
    have hf := ht
    have hl := hu
    have hg := ht'
    have hm := hu'
    refine ⟨_, rfl, p, _, _, _, rfl, rfl, hp, rfl, rd f, rfl, by rw [rd_len]; exact sz (by omega), _, rfl, r, _, _, _, rfl, rfl, hr', rfl, rd g, rfl, by rw [rd_len]; exact sz (by omega), _, _, rfl, ?_⟩
    obtain ⟨M, hM, M1, M2, M3⟩ : ∃ M : Nat, (if ((rd g).length : Int) > ((rd f).length : Int) then ((rd g).length : Int) else ((rd f).length : Int)) = (M : Int) ∧ f.length ≤ M ∧ g.length ≤ M ∧ M ≤ 100 := by
      refine ⟨max f.length g.length, ?_, Nat.le_max_left _ _, Nat.le_max_right _ _, Nat.max_le.mpr ⟨hf, hg⟩⟩
      rw [rd_len, rd_len]
      split <;> omega
    rw [hM]
    refine ⟨_, rfl, p, _, _, _, rfl, rfl, hp, rfl, rd l, rfl, by rw [rd_len]; exact sz (by omega), _, _, rfl, rfl, ?_⟩
    refine ⟨_, rfl, r, _, _, _, rfl, rfl, hr', rfl, rd m, rfl, by rw [rd_len]; exact sz (by omega), _, _, rfl, rfl, ?_⟩
    have eN : (fun i j => V.int (i + j)) ((M : Int) + (((rd l).length : Nat) : Int)) (((rd m).length : Nat) : Int) = .int ((M + l.length + m.length : Nat) : Int) := by
      show V.int (_ + _) = _
      rw [rd_len, rd_len]
      congr 1
    rw [eN]
    refine ⟨_, rfl, _, rfl, p, rd f, rd l, _, rfl, hp, by rw [rd_len]; omega, by rw [rd_len]; omega, by omega, (fun x hx => absurd hx (by rw [fo_no (fun z => odd_0.mp z ⟨f, rfl⟩), fo_no (fun z => bl.ne (odd_1.mp z))]; exact fun z => nomatch z)), (fun _ z => by omega), fun _ _ f' w' n' ef ew en _ => ?_⟩
    refine ⟨_, rfl, _, rfl, r, rd g, rd m, _, rfl, hr', by rw [rd_len]; omega, by rw [rd_len]; omega, by omega, (fun x hx => absurd hx (by rw [fo_no (fun z => odd_0.mp z ⟨g, rfl⟩), fo_no (fun z => bm.ne (odd_1.mp z))]; exact fun z => nomatch z)), (fun _ z => by omega), fun _ _ f' w' n' ef ew en _ => .inr ⟨_, _, rfl, fun v => q rfl v _ (L2.Same.refl H)⟩⟩

/-! _law_ask_named -/
def sp__law_ask_named (K : PySem.W.Frag) : Sp := fun vs H Q E => ∃ (way : Nat) (W p : Addr) (t0 t1 t2 t3 : Str) (x y many : Int), vs = [.int (way : Nat), .ref W, .ref p, .int many] ∧ way < 7 ∧ H W = some (.lst [.str t0, .str t1, .str t2, .str t3]) ∧ H p = some (.tup [.int x, .int y]) ∧
  t0.length ≤ 410 ∧ (way ≠ 0 → t0.length ≤ 62) ∧ t1.length ≤ 12 ∧ t2.length ≤ 12 ∧ t3.length ≤ 12 ∧ many ≤ 100 ∧ (FracP x y → ∃ w, x = wa w ∧ y = wb w ∧ w.length ≤ 400) ∧
  (∀ k v, dueV way t0 t1 t2 t3 p x y many = some (k, v) → Rs K H E (errN k) v) ∧ (dueV way t0 t1 t2 t3 p x y many = none → ∀ v H', Same H H' → Q v H')
theorem ok__law_ask_named (T : Tx K mg) : FnOk P w K mg base (L2.CX P w) 7 T.a__law_ask_named T.fd__law_ask_named ["way", "words", "pair", "many"] (sp__law_ask_named K) := by
  have G_square_of := ok_square_of (P := P) (w := w) (base := base) T
  have G_number_of := ok_number_of (P := P) (w := w) (base := base) T
  have G_road_of := ok_road_of (P := P) (w := w) (base := base) T
  have G_compare := ok_compare (P := P) (w := w) (base := base) T
  have G_course := ok_course (P := P) (w := w) (base := base) T
  have G_compare_courses := ok_compare_courses (P := P) (w := w) (base := base) T
  have G_turns_of := ok_turns_of (P := P) (w := w) (base := base) T
  refine T.F__law_ask_named.okX sc__law_ask_named (fun vs H Q E h => ?_) (fun cdv A outer s H vs Q E hr h => ?_)
  · obtain ⟨way, W, p, t0, t1, t2, t3, x, y, many, rfl, _⟩ := h
    rfl
  · obtain ⟨way, W, p, t0, t1, t2, t3, x, y, many, rfl, hway, eW, ep, l0, l0', l1, l2, l3, lm, hfr, qe, q⟩ := h
    refine ⟨_, (pss_cons (ps_if (pt_cmpR op_eq (pv 0) pe_int (nomark _)) (pss_one (ps_ret (pe_callK0 G_number_of (hr.mono (by decide)) (by rfl) T.g_number_of T.F_number_of.kp (kb_number_of_0 T.F_number_of) (passes_call (takes_of rfl rfl rfl rfl) (fun _ _ _ _ h => h)) (pk_cons (pe_ix ix_list (pv 1) pe_int (fun _ _ => rfl)) pk_nil)))) pss_nil)
  (pss_cons (ps_if (pt_cmpR op_eq (pv 0) pe_int (nomark _)) (pss_one (ps_ret (pe_callK0 G_road_of (hr.mono (by decide)) (by rfl) T.g_road_of T.F_road_of.kp (kb_road_of_0 T.F_road_of) (passes_call (takes_of rfl rfl rfl rfl) (fun _ _ _ _ h => h)) (pk_cons (pv 2) pk_nil)))) pss_nil)
  (pss_cons (ps_if (pt_cmpR op_eq (pv 0) pe_int (nomark _)) (pss_one (ps_ret (pe_callK0 G_compare (hr.mono (by decide)) (by rfl) T.g_compare T.F_compare.kp (kb_compare_10 T.F_compare) (passes_call (takes_of rfl rfl rfl rfl) (fun _ _ _ _ h => h)) (pk_cons (pe_ix ix_list (pv 1) pe_int (fun _ _ => rfl)) (pk_cons (pe_ix ix_list (pv 1) pe_int (fun _ _ => rfl)) pk_nil))))) pss_nil)
  (pss_cons (ps_if (pt_cmpR op_eq (pv 0) pe_int (nomark _)) (pss_one (ps_ret (pe_callK0 G_course (hr.mono (by decide)) (by rfl) T.g_course T.F_course.kp (kb_course_10 T.F_course) (passes_call (takes_of rfl rfl rfl rfl) (fun _ _ _ _ h => h)) (pk_cons (pe_ix ix_list (pv 1) pe_int (fun _ _ => rfl)) (pk_cons (pe_ix ix_list (pv 1) pe_int (fun _ _ => rfl)) pk_nil))))) pss_nil)
  (pss_cons (ps_if (pt_cmpR op_eq (pv 0) pe_int (nomark _)) (pss_one (ps_ret (pe_callK0 G_compare_courses (hr.mono (by decide)) (by rfl) T.g_compare_courses T.F_compare_courses.kp (kb_compare_courses_10 T.F_compare_courses) (passes_call (takes_of rfl rfl rfl rfl) (fun _ _ _ _ h => h)) (pk_cons (pe_tup (pa_cons (pe_ix ix_list (pv 1) pe_int (fun _ _ => rfl)) (pa_cons (pe_ix ix_list (pv 1) pe_int (fun _ _ => rfl)) pa_nil))) (pk_cons (pe_tup (pa_cons (pe_ix ix_list (pv 1) pe_int (fun _ _ => rfl)) (pa_cons (pe_ix ix_list (pv 1) pe_int (fun _ _ => rfl)) pa_nil))) pk_nil))))) pss_nil)
  (pss_cons (ps_if (pt_cmpR op_eq (pv 0) pe_int (nomark _)) (pss_one (ps_ret (pe_callK0 G_turns_of (hr.mono (by decide)) (by rfl) T.g_turns_of T.F_turns_of.kp (kb_turns_of_10 T.F_turns_of) (passes_call (takes_of rfl rfl rfl rfl) (fun _ _ _ _ h => h)) (pk_cons (pv 3) (pk_cons (pe_tup (pa_cons (pe_ix ix_list (pv 1) pe_int (fun _ _ => rfl)) (pa_cons (pe_ix ix_list (pv 1) pe_int (fun _ _ => rfl)) pa_nil))) pk_nil))))) pss_nil)
  (pss_one (ps_ret (pe_callK0 G_square_of (hr.mono (by decide)) (by rfl) T.g_square_of T.F_square_of.kp (kb_square_of_0 T.F_square_of) (passes_call (takes_of rfl rfl rfl rfl) (fun _ _ _ _ h => h)) (pk_cons (pe_tup (pa_cons (pe_ix ix_list (pv 1) pe_int (fun _ _ => rfl)) (pa_cons (pe_ix ix_list (pv 1) pe_int (fun _ _ => rfl)) pa_nil))) pk_nil)))))))))), ?_⟩
    have bad : ∀ t, Fo (itemsV way t0 t1 t2 t3) = some t → Rs K H E "InvalidRoad" (.str t) := fun t h => qe 0 _ (due_odd h)
    have good : Fo (itemsV way t0 t1 t2 t3) = none → ¬ (way = 1 ∧ ¬ FracP x y) → ¬ (way = 5 ∧ many < 0) → ∀ v H', Same H H' → Q v H' := fun h1 h2 h3 => q (due_none h1 h2 h3)
    have ni : ∀ {a b : Nat} {A B : Prop}, a ≠ b → B → if decide (V.int (a : Int) = V.int (b : Int)) = true then A else B := fun {a b A B} n h => by
      rw [decide_eq_false fun z => n (by injection z with z; omega)]
      exact iteF h
    have yi : ∀ {a : Nat} {A B : Prop}, A → if decide (V.int (a : Int) = V.int (a : Int)) = true then A else B := fun {a A B} h => by
      rw [decide_eq_true rfl]
      exact iteT h
    match way, hway with
    | 0, _ =>
      refine ⟨_, rfl, rfl, _, rfl, yi (a := 0) ?_⟩
      refine ⟨_, rfl, W, _, _, _, rfl, rfl, SqL.of eW, rfl, t0, rfl, by omega, fun z => bad t0 (fo_yes (odd_0.mpr z)), fun w ew H' r s nr er => ?_⟩
      exact good (fo_no (fun z => odd_0.mp z ⟨w, ew⟩)) (by omega) (by omega) _ _ s
    | 1, _ =>
      refine ⟨_, rfl, rfl, _, rfl, ni (a := 1) (b := 0) (by decide) ?_⟩
      refine ⟨_, rfl, rfl, _, rfl, yi (a := 1) ?_⟩
      refine ⟨_, rfl, p, x, y, rfl, SqT.of ep, fun z => qe 1 _ (due_frac z), fun z => ?_⟩
      obtain ⟨w, e1, e2, lw⟩ := hfr z
      exact ⟨w, e1, e2, by omega, fun H' s => good rfl (fun n => n.2 z) (by omega) _ _ s⟩
    | 2, _ =>
      refine ⟨_, rfl, rfl, _, rfl, ni (a := 2) (b := 0) (by decide) ?_⟩
      refine ⟨_, rfl, rfl, _, rfl, ni (a := 2) (b := 1) (by decide) ?_⟩
      refine ⟨_, rfl, rfl, _, rfl, yi (a := 2) ?_⟩
      exact ⟨_, rfl, W, _, _, _, rfl, rfl, SqL.of eW, rfl, _, rfl, W, _, _, _, rfl, rfl, SqL.of eW, rfl, t0, t1, rfl, by omega, by omega, bad, fun z v H' s => good z (by omega) (by omega) v H' s⟩
    | 3, _ =>
      refine ⟨_, rfl, rfl, _, rfl, ni (a := 3) (b := 0) (by decide) ?_⟩
      refine ⟨_, rfl, rfl, _, rfl, ni (a := 3) (b := 1) (by decide) ?_⟩
      refine ⟨_, rfl, rfl, _, rfl, ni (a := 3) (b := 2) (by decide) ?_⟩
      refine ⟨_, rfl, rfl, _, rfl, yi (a := 3) ?_⟩
      exact ⟨_, rfl, W, _, _, _, rfl, rfl, SqL.of eW, rfl, _, rfl, W, _, _, _, rfl, rfl, SqL.of eW, rfl, t0, t1, rfl, by omega, by omega, bad, fun z v H' s => good z (by omega) (by omega) v H' s⟩
    | 4, _ =>
      refine ⟨_, rfl, rfl, _, rfl, ni (a := 4) (b := 0) (by decide) ?_⟩
      refine ⟨_, rfl, rfl, _, rfl, ni (a := 4) (b := 1) (by decide) ?_⟩
      refine ⟨_, rfl, rfl, _, rfl, ni (a := 4) (b := 2) (by decide) ?_⟩
      refine ⟨_, rfl, rfl, _, rfl, ni (a := 4) (b := 3) (by decide) ?_⟩
      refine ⟨_, rfl, rfl, _, rfl, yi (a := 4) ?_⟩
      refine ⟨_, rfl, W, _, _, _, rfl, rfl, SqL.of eW, rfl, _, rfl, W, _, _, _, rfl, rfl, SqL.of eW, rfl, sz (by show 2 ≤ 1000000; decide), fun u1 nu1 => ?_⟩
      have s1 := (L2.Same.refl H).new (o := .tup [.str t2, .str t3]) nu1
      have e1 : L2.upd H u1 (.tup [.str t2, .str t3]) u1 = some (.tup [.str t2, .str t3]) := upd_same
      refine ⟨_, rfl, W, _, _, _, rfl, rfl, SqL.of (s1 _ _ eW), rfl, _, rfl, W, _, _, _, rfl, rfl, SqL.of (s1 _ _ eW), rfl, sz (by show 2 ≤ 1000000; decide), fun u2 nu2 => ?_⟩
      have s2 := s1.new (o := .tup [.str t0, .str t1]) nu2
      exact ⟨u2, u1, t0, t1, t2, t3, rfl, SqT.of upd_same, SqT.of (((L2.Same.refl _).new nu2) _ _ e1), by omega, by omega, by omega, by omega, fun t z => (bad t z).same s2, fun z v H' s => good z (by omega) (by omega) v H' (s2.trans s)⟩
    | 5, _ =>
      refine ⟨_, rfl, rfl, _, rfl, ni (a := 5) (b := 0) (by decide) ?_⟩
      refine ⟨_, rfl, rfl, _, rfl, ni (a := 5) (b := 1) (by decide) ?_⟩
      refine ⟨_, rfl, rfl, _, rfl, ni (a := 5) (b := 2) (by decide) ?_⟩
      refine ⟨_, rfl, rfl, _, rfl, ni (a := 5) (b := 3) (by decide) ?_⟩
      refine ⟨_, rfl, rfl, _, rfl, ni (a := 5) (b := 4) (by decide) ?_⟩
      refine ⟨_, rfl, rfl, _, rfl, yi (a := 5) ?_⟩
      refine ⟨_, rfl, _, rfl, W, _, _, _, rfl, rfl, SqL.of eW, rfl, _, rfl, W, _, _, _, rfl, rfl, SqL.of eW, rfl, sz (by show 2 ≤ 1000000; decide), fun u1 nu1 => ?_⟩
      have s1 := (L2.Same.refl H).new (o := .tup [.str t0, .str t1]) nu1
      refine ⟨u1, t0, t1, many, rfl, SqT.of upd_same, by omega, by omega, by omega, fun t z => (bad t z).same s1, fun z m0 => (qe 5 _ (due_num z m0)).same s1, fun z m0 f w n _ _ _ _ => good z (by omega) (by omega) _ _ s1⟩
    | 6, _ =>
      refine ⟨_, rfl, rfl, _, rfl, ni (a := 6) (b := 0) (by decide) ?_⟩
      refine ⟨_, rfl, rfl, _, rfl, ni (a := 6) (b := 1) (by decide) ?_⟩
      refine ⟨_, rfl, rfl, _, rfl, ni (a := 6) (b := 2) (by decide) ?_⟩
      refine ⟨_, rfl, rfl, _, rfl, ni (a := 6) (b := 3) (by decide) ?_⟩
      refine ⟨_, rfl, rfl, _, rfl, ni (a := 6) (b := 4) (by decide) ?_⟩
      refine ⟨_, rfl, rfl, _, rfl, ni (a := 6) (b := 5) (by decide) ?_⟩
      refine ⟨_, rfl, W, _, _, _, rfl, rfl, SqL.of eW, rfl, _, rfl, W, _, _, _, rfl, rfl, SqL.of eW, rfl, sz (by show 2 ≤ 1000000; decide), fun u1 nu1 => ?_⟩
      have s1 := (L2.Same.refl H).new (o := .tup [.str t0, .str t1]) nu1
      exact ⟨u1, t0, t1, rfl, SqT.of upd_same, by omega, by omega, fun t z => (bad t z).same s1, fun z f w _ _ _ d _ H' r s nr er => good z (by omega) (by omega) _ _ (s1.trans s)⟩
    | (n + 7), z => exact absurd z (by omega)

/-! _law_ask -/
def sp__law_ask (K : PySem.W.Frag) : Sp := fun vs H Q E => ∃ (way : Nat) (W p : Addr) (t0 t1 t2 t3 : Str) (x y many : Int), vs = [.int (way : Nat), .ref W, .ref p, .int many] ∧ way < 7 ∧ H W = some (.lst [.str t0, .str t1, .str t2, .str t3]) ∧ H p = some (.tup [.int x, .int y]) ∧
  t0.length ≤ 410 ∧ (way ≠ 0 → t0.length ≤ 62) ∧ t1.length ≤ 12 ∧ t2.length ≤ 12 ∧ t3.length ≤ 12 ∧ many ≤ 100 ∧ (FracP x y → ∃ w, x = wa w ∧ y = wb w ∧ w.length ≤ 400) ∧
  (∀ k v, dueV way t0 t1 t2 t3 p x y many = some (k, v) → Rs K H E (errN k) v) ∧ (dueV way t0 t1 t2 t3 p x y many = none → ∀ v H', Same H H' → Q v H')
theorem ok__law_ask (T : Tx K mg) : FnOk P w K mg base (L2.CX P w) 7 T.a__law_ask T.fd__law_ask ["way", "words", "pair", "many"] (sp__law_ask K) := by
  have G_square_of := ok_square_of (P := P) (w := w) (base := base) T
  have G_number_of := ok_number_of (P := P) (w := w) (base := base) T
  have G_road_of := ok_road_of (P := P) (w := w) (base := base) T
  have G_compare := ok_compare (P := P) (w := w) (base := base) T
  have G_course := ok_course (P := P) (w := w) (base := base) T
  have G_compare_courses := ok_compare_courses (P := P) (w := w) (base := base) T
  have G_turns_of := ok_turns_of (P := P) (w := w) (base := base) T
  refine T.F__law_ask.okX sc__law_ask (fun vs H Q E h => ?_) (fun cdv A outer s H vs Q E hr h => ?_)
  · obtain ⟨way, W, p, t0, t1, t2, t3, x, y, many, rfl, _⟩ := h
    rfl
  · obtain ⟨way, W, p, t0, t1, t2, t3, x, y, many, rfl, hway, eW, ep, l0, l0', l1, l2, l3, lm, hfr, qe, q⟩ := h
    refine ⟨_, (pss_cons (ps_if (pt_cmpR op_eq (pv 0) pe_int (nomark _)) (pss_one (ps_ret (pe_call G_number_of (hr.mono (by decide)) (by rfl) T.g_number_of T.F_number_of.kp (b_number_of T.F_number_of) .nil (passes_call (takes_of rfl rfl rfl rfl) (fun _ _ _ _ h => h)) (pa_cons (pe_ix ix_list (pv 1) pe_int (fun _ _ => rfl)) pa_nil)))) pss_nil)
  (pss_cons (ps_if (pt_cmpR op_eq (pv 0) pe_int (nomark _)) (pss_one (ps_ret (pe_call G_road_of (hr.mono (by decide)) (by rfl) T.g_road_of T.F_road_of.kp (b_road_of T.F_road_of) .nil (passes_call (takes_of rfl rfl rfl rfl) (fun _ _ _ _ h => h)) (pa_cons (pv 2) pa_nil)))) pss_nil)
  (pss_cons (ps_if (pt_cmpR op_eq (pv 0) pe_int (nomark _)) (pss_one (ps_ret (pe_call G_compare (hr.mono (by decide)) (by rfl) T.g_compare T.F_compare.kp (b_compare T.F_compare) .nil (passes_call (takes_of rfl rfl rfl rfl) (fun _ _ _ _ h => h)) (pa_cons (pe_ix ix_list (pv 1) pe_int (fun _ _ => rfl)) (pa_cons (pe_ix ix_list (pv 1) pe_int (fun _ _ => rfl)) pa_nil))))) pss_nil)
  (pss_cons (ps_if (pt_cmpR op_eq (pv 0) pe_int (nomark _)) (pss_one (ps_ret (pe_call G_course (hr.mono (by decide)) (by rfl) T.g_course T.F_course.kp (b_course T.F_course) .nil (passes_call (takes_of rfl rfl rfl rfl) (fun _ _ _ _ h => h)) (pa_cons (pe_ix ix_list (pv 1) pe_int (fun _ _ => rfl)) (pa_cons (pe_ix ix_list (pv 1) pe_int (fun _ _ => rfl)) pa_nil))))) pss_nil)
  (pss_cons (ps_if (pt_cmpR op_eq (pv 0) pe_int (nomark _)) (pss_one (ps_ret (pe_call G_compare_courses (hr.mono (by decide)) (by rfl) T.g_compare_courses T.F_compare_courses.kp (b_compare_courses T.F_compare_courses) .nil (passes_call (takes_of rfl rfl rfl rfl) (fun _ _ _ _ h => h)) (pa_cons (pe_tup (pa_cons (pe_ix ix_list (pv 1) pe_int (fun _ _ => rfl)) (pa_cons (pe_ix ix_list (pv 1) pe_int (fun _ _ => rfl)) pa_nil))) (pa_cons (pe_tup (pa_cons (pe_ix ix_list (pv 1) pe_int (fun _ _ => rfl)) (pa_cons (pe_ix ix_list (pv 1) pe_int (fun _ _ => rfl)) pa_nil))) pa_nil))))) pss_nil)
  (pss_cons (ps_if (pt_cmpR op_eq (pv 0) pe_int (nomark _)) (pss_one (ps_ret (pe_call G_turns_of (hr.mono (by decide)) (by rfl) T.g_turns_of T.F_turns_of.kp (b_turns_of T.F_turns_of) .nil (passes_call (takes_of rfl rfl rfl rfl) (fun _ _ _ _ h => h)) (pa_cons (pe_tup (pa_cons (pe_ix ix_list (pv 1) pe_int (fun _ _ => rfl)) (pa_cons (pe_ix ix_list (pv 1) pe_int (fun _ _ => rfl)) pa_nil))) (pa_cons (pv 3) pa_nil))))) pss_nil)
  (pss_one (ps_ret (pe_call G_square_of (hr.mono (by decide)) (by rfl) T.g_square_of T.F_square_of.kp (b_square_of T.F_square_of) .nil (passes_call (takes_of rfl rfl rfl rfl) (fun _ _ _ _ h => h)) (pa_cons (pe_tup (pa_cons (pe_ix ix_list (pv 1) pe_int (fun _ _ => rfl)) (pa_cons (pe_ix ix_list (pv 1) pe_int (fun _ _ => rfl)) pa_nil))) pa_nil)))))))))), ?_⟩
    have bad : ∀ t, Fo (itemsV way t0 t1 t2 t3) = some t → Rs K H E "InvalidRoad" (.str t) := fun t h => qe 0 _ (due_odd h)
    have good : Fo (itemsV way t0 t1 t2 t3) = none → ¬ (way = 1 ∧ ¬ FracP x y) → ¬ (way = 5 ∧ many < 0) → ∀ v H', Same H H' → Q v H' := fun h1 h2 h3 => q (due_none h1 h2 h3)
    have ni : ∀ {a b : Nat} {A B : Prop}, a ≠ b → B → if decide (V.int (a : Int) = V.int (b : Int)) = true then A else B := fun {a b A B} n h => by
      rw [decide_eq_false fun z => n (by injection z with z; omega)]
      exact iteF h
    have yi : ∀ {a : Nat} {A B : Prop}, A → if decide (V.int (a : Int) = V.int (a : Int)) = true then A else B := fun {a A B} h => by
      rw [decide_eq_true rfl]
      exact iteT h
    match way, hway with
    | 0, _ =>
      refine ⟨_, rfl, rfl, _, rfl, yi (a := 0) ?_⟩
      refine ⟨_, rfl, W, _, _, _, rfl, rfl, SqL.of eW, rfl, t0, rfl, by omega, fun z => bad t0 (fo_yes (odd_0.mpr z)), fun w ew H' r s nr er => ?_⟩
      exact good (fo_no (fun z => odd_0.mp z ⟨w, ew⟩)) (by omega) (by omega) _ _ s
    | 1, _ =>
      refine ⟨_, rfl, rfl, _, rfl, ni (a := 1) (b := 0) (by decide) ?_⟩
      refine ⟨_, rfl, rfl, _, rfl, yi (a := 1) ?_⟩
      refine ⟨_, rfl, p, x, y, rfl, SqT.of ep, fun z => qe 1 _ (due_frac z), fun z => ?_⟩
      obtain ⟨w, e1, e2, lw⟩ := hfr z
      exact ⟨w, e1, e2, by omega, fun H' s => good rfl (fun n => n.2 z) (by omega) _ _ s⟩
    | 2, _ =>
      refine ⟨_, rfl, rfl, _, rfl, ni (a := 2) (b := 0) (by decide) ?_⟩
      refine ⟨_, rfl, rfl, _, rfl, ni (a := 2) (b := 1) (by decide) ?_⟩
      refine ⟨_, rfl, rfl, _, rfl, yi (a := 2) ?_⟩
      exact ⟨_, rfl, W, _, _, _, rfl, rfl, SqL.of eW, rfl, _, rfl, W, _, _, _, rfl, rfl, SqL.of eW, rfl, t0, t1, rfl, by omega, by omega, bad, fun z v H' s => good z (by omega) (by omega) v H' s⟩
    | 3, _ =>
      refine ⟨_, rfl, rfl, _, rfl, ni (a := 3) (b := 0) (by decide) ?_⟩
      refine ⟨_, rfl, rfl, _, rfl, ni (a := 3) (b := 1) (by decide) ?_⟩
      refine ⟨_, rfl, rfl, _, rfl, ni (a := 3) (b := 2) (by decide) ?_⟩
      refine ⟨_, rfl, rfl, _, rfl, yi (a := 3) ?_⟩
      exact ⟨_, rfl, W, _, _, _, rfl, rfl, SqL.of eW, rfl, _, rfl, W, _, _, _, rfl, rfl, SqL.of eW, rfl, t0, t1, rfl, by omega, by omega, bad, fun z v H' s => good z (by omega) (by omega) v H' s⟩
    | 4, _ =>
      refine ⟨_, rfl, rfl, _, rfl, ni (a := 4) (b := 0) (by decide) ?_⟩
      refine ⟨_, rfl, rfl, _, rfl, ni (a := 4) (b := 1) (by decide) ?_⟩
      refine ⟨_, rfl, rfl, _, rfl, ni (a := 4) (b := 2) (by decide) ?_⟩
      refine ⟨_, rfl, rfl, _, rfl, ni (a := 4) (b := 3) (by decide) ?_⟩
      refine ⟨_, rfl, rfl, _, rfl, yi (a := 4) ?_⟩
      refine ⟨_, rfl, W, _, _, _, rfl, rfl, SqL.of eW, rfl, _, rfl, W, _, _, _, rfl, rfl, SqL.of eW, rfl, sz (by show 2 ≤ 1000000; decide), fun u1 nu1 => ?_⟩
      have s1 := (L2.Same.refl H).new (o := .tup [.str t0, .str t1]) nu1
      have e1 : L2.upd H u1 (.tup [.str t0, .str t1]) u1 = some (.tup [.str t0, .str t1]) := upd_same
      refine ⟨_, rfl, W, _, _, _, rfl, rfl, SqL.of (s1 _ _ eW), rfl, _, rfl, W, _, _, _, rfl, rfl, SqL.of (s1 _ _ eW), rfl, sz (by show 2 ≤ 1000000; decide), fun u2 nu2 => ?_⟩
      have s2 := s1.new (o := .tup [.str t2, .str t3]) nu2
      exact ⟨u1, u2, t0, t1, t2, t3, rfl, SqT.of (((L2.Same.refl _).new nu2) _ _ e1), SqT.of upd_same, by omega, by omega, by omega, by omega, fun t z => (bad t z).same s2, fun z v H' s => good z (by omega) (by omega) v H' (s2.trans s)⟩
    | 5, _ =>
      refine ⟨_, rfl, rfl, _, rfl, ni (a := 5) (b := 0) (by decide) ?_⟩
      refine ⟨_, rfl, rfl, _, rfl, ni (a := 5) (b := 1) (by decide) ?_⟩
      refine ⟨_, rfl, rfl, _, rfl, ni (a := 5) (b := 2) (by decide) ?_⟩
      refine ⟨_, rfl, rfl, _, rfl, ni (a := 5) (b := 3) (by decide) ?_⟩
      refine ⟨_, rfl, rfl, _, rfl, ni (a := 5) (b := 4) (by decide) ?_⟩
      refine ⟨_, rfl, rfl, _, rfl, yi (a := 5) ?_⟩
      refine ⟨_, rfl, W, _, _, _, rfl, rfl, SqL.of eW, rfl, _, rfl, W, _, _, _, rfl, rfl, SqL.of eW, rfl, sz (by show 2 ≤ 1000000; decide), fun u1 nu1 => ?_⟩
      have s1 := (L2.Same.refl H).new (o := .tup [.str t0, .str t1]) nu1
      refine ⟨_, rfl, u1, t0, t1, many, rfl, SqT.of upd_same, by omega, by omega, by omega, fun t z => (bad t z).same s1, fun z m0 => (qe 5 _ (due_num z m0)).same s1, fun z m0 f w n _ _ _ _ => good z (by omega) (by omega) _ _ s1⟩
    | 6, _ =>
      refine ⟨_, rfl, rfl, _, rfl, ni (a := 6) (b := 0) (by decide) ?_⟩
      refine ⟨_, rfl, rfl, _, rfl, ni (a := 6) (b := 1) (by decide) ?_⟩
      refine ⟨_, rfl, rfl, _, rfl, ni (a := 6) (b := 2) (by decide) ?_⟩
      refine ⟨_, rfl, rfl, _, rfl, ni (a := 6) (b := 3) (by decide) ?_⟩
      refine ⟨_, rfl, rfl, _, rfl, ni (a := 6) (b := 4) (by decide) ?_⟩
      refine ⟨_, rfl, rfl, _, rfl, ni (a := 6) (b := 5) (by decide) ?_⟩
      refine ⟨_, rfl, W, _, _, _, rfl, rfl, SqL.of eW, rfl, _, rfl, W, _, _, _, rfl, rfl, SqL.of eW, rfl, sz (by show 2 ≤ 1000000; decide), fun u1 nu1 => ?_⟩
      have s1 := (L2.Same.refl H).new (o := .tup [.str t0, .str t1]) nu1
      exact ⟨u1, t0, t1, rfl, SqT.of upd_same, by omega, by omega, fun t z => (bad t z).same s1, fun z f w _ _ _ d _ H' r s nr er => good z (by omega) (by omega) _ _ (s1.trans s)⟩
    | (n + 7), z => exact absurd z (by omega)

/-! _law_rt_ring -/
def sp__law_rt_ring (K : PySem.W.Frag) : Sp := fun vs H Q _ => ∃ (a : Addr) (n : Nat), vs = [.ref a] ∧ n < 800000000 ∧ Pu H a n ∧
  ∀ (w : List Bool) H', Both w → w.length ≤ 6 → Pu H' a (n + 1004) → Kp a H H' → Q (.str (rd w)) H'
theorem both_mid (u v : List Bool) (t : Bool) : Both (u ++ [t, !t] ++ v) := by
  cases t <;> exact ⟨by simp, by simp⟩
theorem ok__law_rt_ring (T : Tx K mg) : FnOk P w K mg base CX0 3 T.a__law_rt_ring T.fd__law_rt_ring ["purse"] (sp__law_rt_ring K) := by
  have G__law_rt_way := ok__law_rt_way (P := P) (w := w) (base := base) T
  have G__law_coin := ok__law_coin (P := P) (w := w) (base := base) T
  refine T.F__law_rt_ring.ok sc__law_rt_ring (fun vs H Q E h => ?_) (fun cdv A outer s H vs Q E hr h => ?_)
  · obtain ⟨a, n, rfl, _⟩ := h
    rfl
  · obtain ⟨a, n, rfl, hn, hp, q⟩ := h
    refine ⟨_, (pss_cons (ps_set (i := 1) sc__law_rt_ring.nd rfl (Or.inl rfl) (pe_call G__law_rt_way (hr.mono (by decide)) (by rfl) T.g__law_rt_way T.F__law_rt_way.kp (b__law_rt_way T.F__law_rt_way) .nil pass0 (pa_cons (pv 0) (pa_cons pe_int pa_nil))))
  (pss_cons (ps_set (i := 2) sc__law_rt_ring.nd rfl (Or.inl rfl) (pe_call G__law_coin (hr.mono (by decide)) (by rfl) T.g__law_coin T.F__law_coin.kp (b__law_coin T.F__law_coin) .nil pass0 (pa_cons (pv 0) (pa_cons (pe_op op_add (pe_callB call_len_str (by rfl) T.z_len (by decide +kernel) (pa_cons (pv 1) pa_nil)) pe_int) pa_nil))))
  (pss_one (ps_ret (pe_op op_add_str (pe_op op_add_str (pe_slice sl_str (pv 1) po_none (po_some (pv 2))) (pe_ix ix_list (pe_lst (pa_cons pe_str (pa_cons pe_str pa_nil))) (pe_call G__law_coin (hr.mono (by decide)) (by rfl) T.g__law_coin T.F__law_coin.kp (b__law_coin T.F__law_coin) .nil pass0 (pa_cons (pv 0) (pa_cons pe_int pa_nil))) (fun _ _ => rfl))) (pe_slice sl_str (pv 1) (po_some (pv 2)) po_none)))))), ?_⟩
    refine ⟨_, rfl, a, 4, n, rfl, by decide, by decide, by omega, hp, fun w H1 hw hp1 k1 => ?_⟩
    refine ⟨_, rfl, _, rfl, rd w, rfl, by rw [rd_len]; exact sz (by omega), _, _, rfl, rfl, a, _, n + 1002, rfl, by omega, by rw [rd_len]; omega, by omega, hp1, fun sp H2 s0 s1 hp2 k2 => ?_⟩
    obtain ⟨j, rfl⟩ := nat_of s0
    rw [rd_len] at s1
    refine ⟨_, rfl, _, rfl, _, rfl, rd w, rfl, by rw [rd_len]; exact sz (by omega), ?_⟩
    rw [cut_take]
    refine ⟨sz (by show 2 ≤ 1000000; decide), fun M nM => ?_⟩
    refine ⟨_, rfl, a, 2, n + 1003, rfl, by decide, by decide, by omega, hp2.new nM, fun r H3 r0 r1 hp3 k3 => ?_⟩
    have eM : H3 M = some (.lst [.str "LR", .str "RL"]) := k3 M _ (hp2.ne nM).symm upd_same
    obtain ⟨t, et⟩ : ∃ t : Bool, atI [V.str "LR", .str "RL"] r = some (.str (rd [t, !t])) := by
      have c : r = 0 ∨ r = 1 := by omega
      rcases c with rfl | rfl
      · exact ⟨false, by decide +kernel⟩
      · exact ⟨true, by decide +kernel⟩
    refine ⟨M, _, r, _, rfl, rfl, SqL.of eM, et, _, _, rfl, rfl, rd_app_len (by rw [List.length_take]; show _ + 2 ≤ 1000000; omega), ?_⟩
    rw [rd_app]
    refine ⟨_, rfl, _, rfl, _, rfl, rd w, rfl, by rw [rd_len]; exact sz (by omega), ?_⟩
    rw [cut_drop]
    refine ⟨_, _, rfl, rfl, rd_app_len (by rw [List.length_append, List.length_take, List.length_drop]; show _ + 2 + _ ≤ 1000000; omega), ?_⟩
    rw [rd_app]
    refine q _ H3 (both_mid _ _ t) ?_ hp3 ((k1.trans k2).trans (((Kp.refl a _).new nM).trans k3))
    rw [List.length_append, List.length_append, List.length_take, List.length_drop]
    show min j w.length + 2 + _ ≤ 6
    omega

/-! _law_right -/
def sp__law_right (K : PySem.W.Frag) : Sp := fun vs H Q _ => ∃ (a : Addr) (n : Nat), vs = [.ref a] ∧ n < 600000000 ∧ Pu H a n ∧ ∀ H', Pu H' a (n + 11000) → Kp a H H' → Q (.bl true) H'
theorem ok__law_right (T : Tx K mg) : FnG P w K mg base CX0 8 T.a__law_right T.fd__law_right ["purse"] (sp__law_right K) := by
  have G__law_due := ok__law_due (P := P) (w := w) (base := base) T
  have G__law_coin := ok__law_coin (P := P) (w := w) (base := base) T
  have G__law_rt_odd_way := ok__law_rt_odd_way (P := P) (w := w) (base := base) T
  have G__law_rt_odd_pair := ok__law_rt_odd_pair (P := P) (w := w) (base := base) T
  have G__law_rt_kind := ok__law_rt_kind (P := P) (w := w) (base := base) T
  have G__law_rt_way := ok__law_rt_way (P := P) (w := w) (base := base) T
  have G__law_ask_named := ok__law_ask_named (P := P) (w := w) (base := base) T
  have G__law_ask := ok__law_ask (P := P) (w := w) (base := base) T
  have G__law_rt_ring := ok__law_rt_ring (P := P) (w := w) (base := base) T
  refine okG T.F__law_right sc__law_right (fun vs H Q E h => ?_) (fun cdv A outer s H vs Q E hG hr h => ?_)
  · obtain ⟨a, n, rfl, _⟩ := h
    rfl
  · obtain ⟨a, n, rfl, hn, hp, q⟩ := h
    refine ⟨_, (pss_cons (ps_par (i := 1) (j := 2) (by rfl) sc__law_right.nd rfl rfl (by decide) rfl rfl (pa_cons (pe_call G__law_coin (hr.mono (by decide)) (by rfl) T.g__law_coin T.F__law_coin.kp (b__law_coin T.F__law_coin) .nil pass0 (pa_cons (pv 0) (pa_cons pe_int pa_nil))) (pa_cons (pe_call G__law_coin (hr.mono (by decide)) (by rfl) T.g__law_coin T.F__law_coin.kp (b__law_coin T.F__law_coin) .nil pass0 (pa_cons (pv 0) (pa_cons pe_int pa_nil))) pa_nil)) (by rfl))
  (pss_cons (ps_set (i := 3) sc__law_right.nd rfl (Or.inl rfl) (pe_lst (pa_cons (pe_call G__law_rt_odd_way (hr.mono (by decide)) (by rfl) T.g__law_rt_odd_way T.F__law_rt_odd_way.kp (b__law_rt_odd_way T.F__law_rt_odd_way) .nil pass0 (pa_cons (pv 0) (pa_cons (pe_call G__law_rt_way (hr.mono (by decide)) (by rfl) T.g__law_rt_way T.F__law_rt_way.kp (b__law_rt_way T.F__law_rt_way) .nil pass0 (pa_cons (pv 0) (pa_cons (pe_ix ix_list (pe_lst (pa_cons pe_int (pa_cons pe_int (pa_cons (pe_op op_add pe_int (pe_op op_mulL pe_int (pe_callTy call_int1 (by rfl) T.z_int (by decide +kernel) (pa_cons (pe_cmpR op_eq (pv 1) pe_int (nomark _)) pa_nil)))) pa_nil)))) (pe_call G__law_coin (hr.mono (by decide)) (by rfl) T.g__law_coin T.F__law_coin.kp (b__law_coin T.F__law_coin) .nil pass0 (pa_cons (pv 0) (pa_cons pe_int pa_nil))) (fun _ _ => rfl)) pa_nil))) pa_nil))) pa_nil)))
  (pss_cons (ps_for PassesOwn.never rfl (pi_range1 (by rfl) T.z_range (pa_cons pe_int pa_nil)) (pg_name (i := 4) sc__law_right.nd rfl (Or.inl rfl))
    (pss_cons (ps_set (i := 5) sc__law_right.nd rfl (Or.inl rfl) (pe_call G__law_coin (hr.mono (by decide)) (by rfl) T.g__law_coin T.F__law_coin.kp (b__law_coin T.F__law_coin) .nil pass0 (pa_cons (pv 0) (pa_cons pe_int pa_nil))))
  (pss_cons (ps_set (i := 6) sc__law_right.nd rfl (Or.inl rfl) (pe_ix ix_list (pe_lst (pa_cons pe_str (pa_cons (pe_call G__law_rt_way (hr.mono (by decide)) (by rfl) T.g__law_rt_way T.F__law_rt_way.kp (b__law_rt_way T.F__law_rt_way) .nil pass0 (pa_cons (pv 0) (pa_cons pe_int pa_nil))) (pa_cons (pe_call G__law_rt_ring (hr.mono (by decide)) (by rfl) T.g__law_rt_ring T.F__law_rt_ring.kp (b__law_rt_ring T.F__law_rt_ring) .nil pass0 (pa_cons (pv 0) pa_nil)) (pa_cons (pe_call G__law_rt_ring (hr.mono (by decide)) (by rfl) T.g__law_rt_ring T.F__law_rt_ring.kp (b__law_rt_ring T.F__law_rt_ring) .nil pass0 (pa_cons (pv 0) pa_nil)) pa_nil))))) (pv 5) (fun _ _ => rfl)))
  (pss_one (ps_expr (pe_bm PySem.F.plainAttrs_list PySem.F.slot_list_append PySem.F.type_list_append mt_append (pv 3) (pa_cons (pe_call G__law_rt_odd_way (hr.mono (by decide)) (by rfl) T.g__law_rt_odd_way T.F__law_rt_odd_way.kp (b__law_rt_odd_way T.F__law_rt_odd_way) .nil pass0 (pa_cons (pv 0) (pa_cons (pv 6) pa_nil))) pa_nil)))))))
  (pss_cons (ps_par (i := 7) (j := 8) (by rfl) sc__law_right.nd rfl rfl (by decide) rfl rfl (pa_cons (pe_call G__law_rt_odd_pair (hr.mono (by decide)) (by rfl) T.g__law_rt_odd_pair T.F__law_rt_odd_pair.kp (b__law_rt_odd_pair T.F__law_rt_odd_pair) .nil pass0 (pa_cons (pv 0) pa_nil)) (pa_cons (pe_op op_sub (pe_call G__law_coin (hr.mono (by decide)) (by rfl) T.g__law_coin T.F__law_coin.kp (b__law_coin T.F__law_coin) .nil pass0 (pa_cons (pv 0) (pa_cons pe_int pa_nil))) pe_int) pa_nil)) (by rfl))
  (pss_cons (ps_set (i := 9) sc__law_right.nd rfl (Or.inl rfl) (pe_call G__law_due (hr.mono (by decide)) (by rfl) T.g__law_due T.F__law_due.kp (b__law_due T.F__law_due) .nil pass0 (pa_cons (pv 1) (pa_cons (pv 3) (pa_cons (pv 7) (pa_cons (pv 8) pa_nil))))))
  (pss_cons (ps_set (i := 10) sc__law_right.nd rfl (Or.inl rfl) pe_non)
  (pss_cons (ps_tryK (i := 11) rfl rfl rfl sc__law_right.nd rfl rfl ⟨rfl, by decide, Or.inl T.g_RoadError⟩ (fun W pn xe tk po => (pss_one (ps_if (pt_cmpR op_eq (pv 2) pe_int (nomark _)) (pss_one (ps_expr (pe_callS G__law_ask_named (hr.mono (by decide)) (by rfl) T.g__law_ask_named T.F__law_ask_named.kp (b__law_ask_named T.F__law_ask_named) (fun σ => passAt tk σ) (pa_cons (pv 1) (pa_cons (pv 3) (pa_cons (pv 7) (pa_cons (pv 8) pa_nil))))))) (pss_one (ps_expr (pe_callS G__law_ask (hr.mono (by decide)) (by rfl) T.g__law_ask T.F__law_ask.kp (b__law_ask T.F__law_ask) (fun σ => passAt tk σ) (pa_cons (pv 1) (pa_cons (pv 3) (pa_cons (pv 7) (pa_cons (pv 8) pa_nil)))))))))) (fun a oe cls d pn hz hf => (pss_one (ps_set (i := 10) sc__law_right.nd rfl (Or.inl rfl) (pv 11)))))
  (pss_cons (ps_if (pt_cmpR (op_eqD hr.units) (pv 9) (pe_lst pa_nil) (nomark _)) (pss_one (ps_ret (pe_cmpR op_isN (pv 10) pe_non (nomark _)))) pss_nil)
  (pss_one (ps_ret (pe_and (pe_cmpR op_notN (pv 10) pe_non (nomark _)) (pe_one (pe_callG G__law_rt_kind hG (hr.mono (by decide)) (by rfl) T.g__law_rt_kind T.F__law_rt_kind.kp (b__law_rt_kind T.F__law_rt_kind) pass0 (pa_cons (pv 10) (pa_cons (pe_ix ix_list (pv 9) pe_int (fun _ _ => rfl)) (pa_cons (pe_ix ix_list (pv 9) pe_int (fun _ _ => rfl)) pa_nil)))))))))))))))), ?_⟩
    refine ⟨_, rfl, a, 7, n, rfl, by decide, by decide, by omega, hp, fun way H1 w0 w1 hp1 k1 => ?_⟩
    refine ⟨_, rfl, a, 3, n + 1, rfl, by decide, by decide, by omega, hp1, fun named H2 n0 n1 hp2 k2 => ⟨_, _, rfl, ?_⟩⟩
    obtain ⟨way, rfl⟩ := nat_of w0
    have hway : way < 7 := by omega
    have k02 := k1.trans k2
    obtain ⟨X, hX, hX0⟩ : ∃ X : Int, X = (if decide (V.int (way : Int) = V.int 0) = true then 1 else 0) ∧ (X = 0 ∨ X = 1 ∧ way = 0) := by
      refine ⟨_, rfl, ?_⟩
      split
      · rename_i h
        have h : V.int (way : Int) = V.int 0 := of_decide_eq_true h
        injection h with h
        exact .inr ⟨rfl, by omega⟩
      · exact .inl rfl
    refine ⟨_, rfl, _, rfl, _, rfl, rfl, .inr ⟨_, rfl, _, _, rfl, rfl, cml_l (by decide), _, _, rfl, rfl, sz (by show 3 ≤ 1000000; decide), fun p0 np0 => ?_⟩⟩
    refine ⟨_, rfl, a, 3, n + 2, rfl, by decide, by decide, by omega, hp2.new np0, fun r H3 r0 r1 hp3 k3 => ?_⟩
    have e3 : H3 p0 = some (.lst ([6, 6, 59 + 340 * X].map V.int)) := by
      rw [hX]
      exact k3 p0 _ (hp2.ne np0).symm upd_same
    obtain ⟨c, hc, ec⟩ := menu_at (l := [6, 6, 59 + 340 * X]) r0 r1
    have hc1 : 0 ≤ c ∧ c ≤ 399 ∧ (way ≠ 0 → c ≤ 59) := by
      simp only [List.mem_cons, List.not_mem_nil, or_false] at hc
      rcases hX0 with z | z
      · rcases hc with rfl | rfl | rfl <;> omega
      · rcases hc with rfl | rfl | rfl <;> omega
    have k03 := k02.trans (((Kp.refl a H2).new np0).trans k3)
    refine ⟨p0, _, r, _, rfl, rfl, SqL.of e3, ec, a, c, n + 3, rfl, by omega, by omega, by omega, hp3, fun w H4 hw hp4 k4 => ?_⟩
    refine ⟨a, w, n + 1005, rfl, by omega, by omega, hp4, fun t0 H5 lt0 st0 hp5 k5 => ?_⟩
    have k05 := (k03.trans k4).trans k5
    refine ⟨sz (by show 1 ≤ 1000000; decide), fun W nW => ?_⟩
    have hp6 := hp5.new (o := .lst [.str t0]) nW
    have k06 := k05.new (o := .lst [.str t0]) nW
    have nWH : H W = none := k05.free hp5 nW
    have Wa : W ≠ a := fun z => (hp5.ne nW) z.symm
    have eW : L2.upd H5 W (.lst [.str t0]) W = some (.lst [.str t0]) := upd_same
    show tSeq _ _ _ [some (.ref a), some (.int (way : Int)), some (.int named), some (.ref W), none, none, none, none, none, none, none, none] (L2.upd H5 W (.lst [.str t0]))
    revert hp6 k06 eW
    generalize L2.upd H5 W (.lst [.str t0]) = H6
    intro hp6 k06 eW
    refine ⟨3, rfl, by decide, by decide, for_range (lo := 0) (n := 3) (fun i σ H' => ∃ (ts : List Str) (x4 x5 x6 : Option V), σ = [some (.ref a), some (.int (way : Int)), some (.int named), some (.ref W), x4, x5, x6, none, none, none, none, none] ∧ ts.length = i ∧ H' W = some (.lst ((t0 :: ts).map V.str)) ∧ (∀ t ∈ ts, t.length ≤ 12 ∧ Sok t) ∧ Pu H' a (n + 1008 + 3014 * i) ∧ Kp a H H') ⟨[], none, none, none, rfl, rfl, eW, (fun _ h => nomatch h), hp6, k06⟩ ?_ ?_⟩
    · rintro i σ H7 hi ⟨ts, x4, x5, x6, rfl, li, eW7, hts, hp7, k7⟩
      refine ⟨_, rfl, a, 4, n + 1008 + 3014 * i, rfl, by decide, by decide, by omega, hp7, fun st H8 s0 s1 hp8 k8 => ?_⟩
      refine ⟨_, rfl, a, 3, n + 1009 + 3014 * i, rfl, by decide, by decide, by omega, hp8.le (by omega), fun u H9 hu hp9 k9 => ?_⟩
      refine ⟨_, rfl, a, n + 2011 + 3014 * i, rfl, by omega, hp9.le (by omega), fun v1 H10 bv1 lv1 hp10 k10 => ?_⟩
      refine ⟨_, rfl, a, n + 3015 + 3014 * i, rfl, by omega, hp10.le (by omega), fun v2 H11 bv2 lv2 hp11 k11 => ?_⟩
      refine ⟨sz (by show 4 ≤ 1000000; decide), fun M nM => ?_⟩
      have eM : L2.upd H11 M (.lst [.str (rd []), .str (rd u), .str (rd v1), .str (rd v2)]) M = some (.lst [.str (rd []), .str (rd u), .str (rd v1), .str (rd v2)]) := upd_same
      have k711 := ((k8.trans k9).trans k10).trans k11
      have hp12 := hp11.new (o := .lst [.str (rd []), .str (rd u), .str (rd v1), .str (rd v2)]) nM
      have k12 := (k711.new (o := .lst [.str (rd []), .str (rd u), .str (rd v1), .str (rd v2)]) nM)
      rw [rd_empty]
      revert eM hp12 k12
      generalize L2.upd H11 M (.lst [.str (rd []), .str (rd u), .str (rd v1), .str (rd v2)]) = H12
      intro eM hp12 k12
      obtain ⟨v, ev, lv⟩ : ∃ v : List Bool, atI [V.str (rd []), .str (rd u), .str (rd v1), .str (rd v2)] st = some (.str (rd v)) ∧ v.length ≤ 6 := by
        obtain ⟨j, rfl⟩ := nat_of s0
        have hj : j < 4 := by omega
        match j, hj with
        | 0, _ => exact ⟨[], rfl, Nat.zero_le _⟩
        | 1, _ => exact ⟨u, rfl, by omega⟩
        | 2, _ => exact ⟨v1, rfl, lv1⟩
        | 3, _ => exact ⟨v2, rfl, lv2⟩
      refine ⟨_, rfl, M, _, _, _, rfl, rfl, SqL.of eM, ev, ?_⟩
      have eW12 := k12 _ _ Wa eW7
      refine ⟨_, rfl, .inl ⟨rfl, _, SqL.of eW12⟩, _, rfl, _, rfl, a, v, n + 4019 + 3014 * i, rfl, by omega, by omega, hp12.le (by omega), fun t H13 lt stt hp13 k13 => ?_⟩
      have eW13 := k13 _ _ Wa eW12
      refine ⟨W, _, _, rfl, rfl, eW13, ?_, ?_⟩
      · rw [List.length_map, List.length_cons]
        exact Nat.lt_of_le_of_lt (show ts.length + 1 ≤ 100 by omega) (by decide)
      · refine ⟨ts ++ [t], _, _, _, rfl, ?_, ?_, ?_, ?_, ?_⟩
        · rw [List.length_append, li]
          rfl
        · rw [upd_same, ← List.cons_append, List.map_append]
          rfl
        · intro z hz
          rcases List.mem_append.mp hz with h | h
          · exact hts z h
          · cases List.mem_singleton.mp h
            exact ⟨by omega, stt⟩
        · exact (hp13.upd (Ne.symm Wa)).le (by omega)
        · exact ((k7.trans k12).trans k13).upd' nWH
    · rintro σ H7 ⟨ts, x4, x5, x6, rfl, li, eW7, hts, hp7, k7⟩
      obtain ⟨t1, t2, t3, rfl⟩ : ∃ t1 t2 t3, ts = [t1, t2, t3] := by
        match ts, li with
        | [t1, t2, t3], _ => exact ⟨t1, t2, t3, rfl⟩
      have h1 := hts t1 (by simp)
      have h2 := hts t2 (by simp)
      have h3 := hts t3 (by simp)
      refine ⟨_, rfl, a, n + 10050, rfl, by omega, hp7.le (by omega), fun x y H8 p bx by' hfr hp8 k8 ep => ?_⟩
      refine ⟨_, rfl, a, 60, n + 10160, rfl, by decide, by decide, by omega, hp8, fun m H9 m0 m1 hp9 k9 => ?_⟩
      refine ⟨_, _, rfl, rfl, _, _, rfl, ?_⟩
      have ep9 := k9 _ _ (tup_nea hp8 ep) ep
      have eW9 := k9 _ _ Wa (k8 _ _ Wa eW7)
      have k09 := (k7.trans k8).trans k9
      have hall : ∀ t ∈ [t0, t1, t2, t3], t.length ≤ 10000 ∧ Sok t := fun t ht => by
        simp only [List.mem_cons, List.not_mem_nil, or_false] at ht
        rcases ht with rfl | rfl | rfl | rfl
        · exact ⟨by omega, st0⟩
        · exact ⟨by omega, h1.2⟩
        · exact ⟨by omega, h2.2⟩
        · exact ⟨by omega, h3.2⟩
      refine ⟨_, rfl, _, rfl, _, rfl, _, rfl, way, W, p, t0, t1, t2, t3, x, y, m - 20, rfl, hway, eW9, ep9, hall, fun H10 D s10 nD eD => ?_⟩
      have k10 := k09.trans (Kp.of s10)
      have hp10 := hp9.same s10
      have ep10 := s10 _ _ ep9
      have eW10 := s10 _ _ eW9
      show tSeq _ _ _ [some (.ref a), some (.int (way : Int)), some (.int named), some (.ref W), x4, x5, x6, some (.ref p), some (.int (m - 20)), some (.ref D), none, none] H10
      refine asgSeq ?_
      -- an error that is due is caught
      have cl : ∀ k v, dueV way t0 t1 t2 t3 p x y (m - 20) = some (k, v) → k < 11 ∧ (∃ C, PySem.W.nsIn K mainGlobals (errN k) = some (some (.ref C)) ∧ Fx K C k ∧ PySem.W.exmOne K (.ref C) (.ref T.c_RoadError) = some true) ∧
          ∃ dat, (∀ H', Same H10 H' → Dp K H' v dat) ∧ Shw dat ∧ (PyData.canLay0 dat = true ∧ dat.depth ≤ 60) := fun k v h => by
        unfold dueV at h
        cases hF : Fo (itemsV way t0 t1 t2 t3) with
        | some t =>
          rw [hF] at h
          cases Option.some.inj h
          obtain ⟨z, hz, ez⟩ := fo_mem hF
          have ht : t ∈ [t0, t1, t2, t3] := by
            rw [← ez]
            match way, hway with
            | 0, _ | 1, _ | 2, _ | 3, _ | 4, _ | 5, _ | 6, _ => simp only [itemsV, List.mem_cons, List.not_mem_nil, or_false] at hz <;> (first | (rcases hz with rfl | rfl | rfl | rfl <;> simp) | (rcases hz with rfl | rfl <;> simp) | (subst hz; simp) | exact hz.elim)
            | (n + 7), z => exact absurd z (by omega)
          refine ⟨by decide, ⟨_, T.n_InvalidRoad, fx_InvalidRoad T, T.x_InvalidRoad_RoadError⟩, .str t, fun _ _ => .str _, shw_txt (hall t ht).2 ?_, str_ok (hall t ht).2, by show 0 ≤ 60; decide⟩
          simp only [List.mem_cons, List.not_mem_nil, or_false] at ht
          rcases ht with rfl | rfl | rfl | rfl <;> omega
        | none =>
          rw [hF] at h
          by_cases c1 : way = 1 ∧ ¬ FracP x y
          · have h := (if_pos c1).symm.trans h
            cases Option.some.inj h
            exact ⟨by decide, ⟨_, T.n_InvalidFraction, fx_InvalidFraction T, T.x_InvalidFraction_RoadError⟩, tupD [x, y], fun H' s => dp_tup (SqT.of (s _ _ ep10)), shw2 bx.sml by'.sml, rfl, by show 1 ≤ 60; decide⟩
          · have h := (if_neg c1).symm.trans h
            by_cases c5 : way = 5 ∧ (m - 20) < 0
            · have h := (if_pos c5).symm.trans h
              cases Option.some.inj h
              exact ⟨by decide, ⟨_, T.n_InvalidNumber, fx_InvalidNumber T, T.x_InvalidNumber_RoadError⟩, .int _, fun _ _ => .int _, shw_int (Nat.lt_of_le_of_lt (show (m - 20).natAbs ≤ 100 by omega) (by decide)), rfl, by show 0 ≤ 60; decide⟩
            · have h := (if_neg c5).symm.trans h
              cases h
      obtain ⟨PP, hPP⟩ : ∃ PP : L2.St → Hp → Prop, PP = (fun σ' H' => ∃ cv : V, σ' = [some (.ref a), some (.int (way : Int)), some (.int named), some (.ref W), x4, x5, x6, some (.ref p), some (.int (m - 20)), some (.ref D), some cv, none] ∧ Same H10 H' ∧
        ((dueV way t0 t1 t2 t3 p x y (m - 20) = none ∧ cv = .non) ∨ ∃ (k : Nat) (v : V) (e C d : Addr) (dat : PyData), dueV way t0 t1 t2 t3 p x y (m - 20) = some (k, v) ∧ cv = .ref e ∧ k < 11 ∧ Fx K C k ∧ H' e = some (ExV C d e) ∧ H' d = some (.xd [("value", v)]) ∧ (∀ H', Same H10 H' → Dp K H' v dat) ∧ Shw dat ∧ (PyData.canLay0 dat = true ∧ dat.depth ≤ 60))) := ⟨_, rfl⟩
      have tail : ∀ σ' H', PP σ' H' → tSeq (tIfS (tTest (tOp (rEqD K) (tVar 9) (tLst tNil))) (tRet (tOp (fun x y H Q => y = V.non ∧ Q (V.bl (decide (x = V.non))) H) (tVar 10) (tC V.non))) tNext) (tRet (tAndV (tOp (fun x y H Q => y = V.non ∧ Q (V.bl (!decide (x = V.non))) H) (tVar 10) (tC V.non)) (tCall (sp__law_rt_kind K) [] E0 (tCons (tVar 10) (tCons (tOp (rIxL K) (tVar 9) (tC (V.int 0))) (tCons (tOp (rIxL K) (tVar 9) (tC (V.int 1))) tNil)))))) { nx := fun x H' => Q V.non H', rt := Q } σ' H' := fun σ' H' z => by
        rw [hPP] at z
        obtain ⟨cv, rfl, s11, z⟩ := z
        have hp11 := hp10.same s11
        have k11 := k10.trans (Kp.of s11)
        refine ⟨_, rfl, sz (by show 0 ≤ 1000000; decide), fun E0 nE0 => ?_⟩
        have s12 := (L2.Same.refl H').new (o := .lst []) nE0
        have eE : L2.upd H' E0 (.lst []) E0 = some (.lst []) := upd_same
        revert s12 eE
        generalize L2.upd H' E0 (.lst []) = H12
        intro s12 eE
        rcases z with ⟨hd, rfl⟩ | ⟨k, v, e, C, d, dat, hd, rfl, kl, fx, ee, ed, dp, sh, lay⟩
        · rw [hd] at eD
          have eD12 := s12 _ _ (s11 _ _ (show H10 D = some (.lst []) from eD))
          refine ⟨.list [], .list [], .lst (SqL.of eD12) .nil, .lst (SqL.of eE) .nil, rfl, rfl, _, rfl, iteT ⟨_, rfl, rfl, ?_⟩⟩
          exact q H12 ((hp11.same s12).le (by omega)) (k11.trans (Kp.of s12))
        · rw [hd] at eD
          have eD12 := s12 _ _ (s11 _ _ (show H10 D = some (.lst [.int (k : Nat), v]) from eD))
          refine ⟨.list [.int k, dat], .list [], .lst (SqL.of eD12) (.cons (.int _) (.cons (dp _ (s11.trans s12)) .nil)), .lst (SqL.of eE) .nil, ?_, rfl, _, rfl, iteF ?_⟩
          · exact due_shaped lay
          refine ⟨_, rfl, rfl, _, rfl, iteT ?_⟩
          refine ⟨_, rfl, _, rfl, D, _, _, _, rfl, rfl, SqL.of eD12, rfl, _, rfl, D, _, _, _, rfl, rfl, SqL.of eD12, rfl, ?_⟩
          refine ⟨e, C, d, k, v, v, dat, rfl, kl, fx, s12 _ _ ee, s12 _ _ ed, fun H3 s3 => ⟨dp _ ((s11.trans s12).trans s3), dp _ ((s11.trans s12).trans s3)⟩, sh, fun H3 s3 => ?_⟩
          exact q H3 (((hp11.same s12).same s3).le (by omega)) ((k11.trans (Kp.of s12)).trans (Kp.of s3))
      have raised : ∀ Dx : Ends, (∀ σ' H', PP σ' H' → Dx.nx σ' H') → ∀ k v, dueV way t0 t1 t2 t3 p x y (m - 20) = some (k, v) → Rs K H10 (fun cls d H' => wAsK K (.ref T.c_RoadError) 11 (fun a cls d => tAsg (tVar 11) (gName 10)) Dx cls d [some (.ref a), some (.int (way : Int)), some (.int named), some (.ref W), x4, x5, x6, some (.ref p), some (.int (m - 20)), some (.ref D), some .non, none] H') (errN k) v := fun Dx hx k v hd H1 s1 C d hC nd => by
        obtain ⟨k11, ⟨C', hC', fx, xm⟩, dat, dp, sh, lay⟩ := cl k v hd
        cases ns_one hC hC'
        refine ⟨xm, C, d, rfl, rfl, fun e ne => ⟨_, rfl, ?_⟩⟩
        have dne : d ≠ e := ne_of_none upd_same ne
        refine hx _ _ ?_
        rw [hPP]
        exact ⟨.ref e, rfl, (s1.new nd).new ne, .inr ⟨k, v, e, C, d, dat, hd, rfl, k11, fx, upd_same, by rw [upd_ne dne]; exact upd_same, dp, sh, lay⟩⟩
      have fine : dueV way t0 t1 t2 t3 p x y (m - 20) = none → ∀ H', Same H10 H' → PP [some (.ref a), some (.int (way : Int)), some (.int named), some (.ref W), x4, x5, x6, some (.ref p), some (.int (m - 20)), some (.ref D), some .non, none] H' := fun hd H' s => by
        rw [hPP]
        exact ⟨.non, rfl, s, .inl ⟨hd, rfl⟩⟩
      refine ⟨_, rfl, rfl, _, rfl, bl2 (fun _ => ?_) (fun _ => ?_)⟩
      · exact ⟨_, rfl, _, rfl, _, rfl, _, rfl, way, W, p, t0, t1, t2, t3, x, y, m - 20, rfl, hway, eW10, ep10, by omega, (fun n => by have := hc1.2.2 n; omega), h1.1, h2.1, h3.1, by omega, hfr, raised _ tail, fun hd v H' s => tail _ _ (fine hd H' s)⟩
      · exact ⟨_, rfl, _, rfl, _, rfl, _, rfl, way, W, p, t0, t1, t2, t3, x, y, m - 20, rfl, hway, eW10, ep10, by omega, (fun n => by have := hc1.2.2 n; omega), h1.1, h2.1, h3.1, by omega, hfr, raised _ tail, fun hd v H' s => tail _ _ (fine hd H' s)⟩

/-! law -/
def sp_law (K : PySem.W.Frag) : Sp := fun vs H Q _ => ∃ (a : Addr) (ns : List Int), vs = [.ref a] ∧ SqL K H a (ns.map V.int) ∧ ns.length ≤ 63 ∧ ∀ H', Q (.bl true) H'
theorem ok_law (T : Tx K mg) : FnG P w K mg base CX0 9 T.a_law T.fd_law ["script"] (sp_law K) := by
  have G__law_purse := ok__law_purse (P := P) (w := w) (base := base) T
  have G__law_right := ok__law_right (P := P) (w := w) (base := base) T
  refine okG T.F_law sc_law (fun vs H Q E h => ?_) (fun cdv A outer s H vs Q E hG hr h => ?_)
  · obtain ⟨a, ns, rfl, _⟩ := h
    rfl
  · obtain ⟨a, ns, rfl, hS, hl, q⟩ := h
    refine ⟨_, (pss_cons (ps_for PassesOwn.never rfl (pi_range1 (by rfl) T.z_range (pa_cons (pe_callB (call_max2 rfl) (by rfl) T.z_max (by decide +kernel) (pa_cons pe_int (pa_cons (pe_callB (call_min2 rfl) (by rfl) T.z_min (by decide +kernel) (pa_cons pe_int (pa_cons (pe_callB call_len_seq (by rfl) T.z_len (by decide +kernel) (pa_cons (pv 0) pa_nil)) pa_nil))) pa_nil))) pa_nil)) (pg_name (i := 1) sc_law.nd rfl (Or.inl rfl))
    (pss_cons (ps_set (i := 2) sc_law.nd rfl (Or.inl rfl) (pe_call G__law_purse (hr.mono (by decide)) (by rfl) T.g__law_purse T.F__law_purse.kp (b__law_purse T.F__law_purse) .nil pass0 (pa_cons (pv 0) (pa_cons (pv 1) pa_nil))))
  (pss_one (ps_for PassesOwn.never rfl (pi_range1 (by rfl) T.z_range (pa_cons pe_int pa_nil)) (pg_name (i := 3) sc_law.nd rfl (Or.inl rfl))
    (pss_one (ps_if (pt_not (pt_val (pe_callG G__law_right hG (hr.mono (by decide)) (by rfl) T.g__law_right T.F__law_right.kp (b__law_right T.F__law_right) pass0 (pa_cons (pv 2) pa_nil)))) (pss_one (ps_ret pe_bl)) pss_nil))))))
  (pss_one (ps_ret pe_bl))), ?_⟩
    refine ⟨_, rfl, a, _, rfl, .inl hS, _, _, rfl, _, _, rfl, ?_⟩
    have hn : (((ns.map V.int).length : Nat) : Int) ≤ 63 := by rw [List.length_map]; omega
    generalize (((ns.map V.int).length : Nat) : Int) = m at hn
    refine ⟨_, rfl, ?_, ?_, for_range (lo := 0) (fun i σ H2 => ∃ x y z, σ = [some (.ref a), x, y, z] ∧ SqL K H2 a (ns.map V.int)) ⟨none, none, none, rfl, hS⟩ ?_ ?_⟩
    · split <;> split <;> omega
    · split <;> split <;> omega
    · rintro i σ H2 hi ⟨x, y, z, rfl, hS2⟩
      have hi : i < 63 := law_i hi (by decide) (by decide)
      refine ⟨_, rfl, _, rfl, a, ns, _, rfl, hS2, hl, by omega, by omega, fun H3 p sm np hp => ?_⟩
      refine ⟨4, rfl, by decide, by decide, for_range (lo := 0) (n := 4) (fun j σ H4 => ∃ x, σ = [some (.ref a), some (.int (0 + (i : Int))), some (.ref p), x] ∧ Pu H4 p (11000 * j) ∧ Kp p H3 H4) ⟨_, rfl, hp, Kp.refl p H3⟩ ?_ ?_⟩
      · rintro j σ H4 hj ⟨x, rfl, hp4, k4⟩
        exact ⟨_, rfl, p, 11000 * j, rfl, by omega, hp4, fun H5 hp5 k5 => ⟨true, rfl, iteF ⟨_, rfl, hp5.le (by omega), k4.trans k5⟩⟩⟩
      · rintro σ H4 ⟨x, rfl, hp4, k4⟩
        exact ⟨_, _, _, rfl, (same_kp sm np k4).seq hS2⟩
    · rintro σ H2 ⟨x, y, z, rfl, hS2⟩
      exact q _
theorem law_in {K : PySem.W.Frag} {n : Nat} {H : Hp} {a : Addr} {ns : List Int} (hl : ns.length ≤ 63) (hb : ∀ z ∈ ns, Builtin.Int.intBits z ≤ 1048576) (hS : SqL K H a (ns.map V.int)) (ho : ∀ b, b ≠ a → H b = none) : sp_law K [.ref a] H (fun v _ => v = .bl true) fun _ _ _ => False :=
  ⟨a, ns, rfl, hS, hl, fun _ => rfl⟩

end
/-! what the top has left -/
theorem mk_tx {K : PySem.W.Frag} {h : Heap} {mg : Str → Option Value} {f0 f1 f2 f3 f4 f5 f6 f7 f8 f9 f10 f11 f12 f13 f14 f15 f16 f17 f18 f19 f20 f21 f22 f23 f24 f25 f26 f27 f28 f29 f30 f31 f32 f33 f34 : Addr} (X : K.In h) (G : h.Ns mainGlobals mg)
    {od0 an0 od1 an1 od2 an2 od3 an3 od4 an4 od5 an5 od6 an6 od7 an7 od8 an8 od9 an9 od10 an10 od11 an11 od12 an12 od13 an13 od14 an14 od15 an15 od16 an16 od17 an17 od18 an18 od19 an19 od20 an20 od21 an21 od22 an22 od23 an23 od24 an24 od25 an25 od26 an26 od27 an27 od28 an28 od29 an29 od30 an30 od31 an31 od32 an32 od33 an33 od34 an34 : Option Addr} {sl0 sl1 sl2 sl3 sl4 sl5 sl6 sl7 sl8 sl9 sl10 sl11 sl12 sl13 sl14 sl15 sl16 sl17 sl18 sl19 sl20 sl21 sl22 sl23 sl24 sl25 sl26 sl27 sl28 sl29 sl30 sl31 sl32 sl33 sl34 : Array (Option Value)} {oc0 kV0 dc0 pm0 cd0 ct0 oc1 kV1 dc1 pm1 cd1 ct1 oc2 kV2 dc2 pm2 cd2 ct2 oc3 kV3 dc3 pm3 cd3 ct3 oc4 kV4 dc4 pm4 cd4 ct4 oc5 kV5 dc5 pm5 cd5 ct5 oc6 kV6 dc6 pm6 cd6 ct6 oc7 kV7 dc7 pm7 cd7 ct7 oc8 kV8 dc8 pm8 cd8 ct8 oc9 kV9 dc9 pm9 cd9 ct9 oc10 kV10 dc10 pm10 cd10 ct10 oc11 kV11 dc11 pm11 cd11 ct11 oc12 kV12 dc12 pm12 cd12 ct12 oc13 kV13 dc13 pm13 cd13 ct13 oc14 kV14 dc14 pm14 cd14 ct14 oc15 kV15 dc15 pm15 cd15 ct15 oc16 kV16 dc16 pm16 cd16 ct16 oc17 kV17 dc17 pm17 cd17 ct17 oc18 kV18 dc18 pm18 cd18 ct18 oc19 kV19 dc19 pm19 cd19 ct19 oc20 kV20 dc20 pm20 cd20 ct20 oc21 kV21 dc21 pm21 cd21 ct21 oc22 kV22 dc22 pm22 cd22 ct22 oc23 kV23 dc23 pm23 cd23 ct23 oc24 kV24 dc24 pm24 cd24 ct24 oc25 kV25 dc25 pm25 cd25 ct25 oc26 kV26 dc26 pm26 cd26 ct26 oc27 kV27 dc27 pm27 cd27 ct27 oc28 kV28 dc28 pm28 cd28 ct28 oc29 kV29 dc29 pm29 cd29 ct29 oc30 kV30 dc30 pm30 cd30 ct30 oc31 kV31 dc31 pm31 cd31 ct31 oc32 kV32 dc32 pm32 cd32 ct32 oc33 kV33 dc33 pm33 cd33 ct33 oc34 kV34 dc34 pm34 cd34 ct34 : Value}
    (a0 : PySem.W.nsIn K mainGlobals "_law_purse" = some (some (.ref f0))) (l0 : K.lookup f0 = some ⟨oc0, od0, .func (PySem.W.fnOf "_law_purse" "_law_purse" (defArgs s__law_purse) (defBody s__law_purse) (defScope s__law_purse) .none kV0 dc0 pm0 an0 cd0 ct0), sl0⟩) (c0 : PySem.W.codeIn K cd0 "_law_purse" = true) (k0 : PySem.W.keepIn K (.ref f0) = true)
    (a1 : PySem.W.nsIn K mainGlobals "_law_rt_first_odd" = some (some (.ref f1))) (l1 : K.lookup f1 = some ⟨oc1, od1, .func (PySem.W.fnOf "_law_rt_first_odd" "_law_rt_first_odd" (defArgs s__law_rt_first_odd) (defBody s__law_rt_first_odd) (defScope s__law_rt_first_odd) .none kV1 dc1 pm1 an1 cd1 ct1), sl1⟩) (c1 : PySem.W.codeIn K cd1 "_law_rt_first_odd" = true) (k1 : PySem.W.keepIn K (.ref f1) = true)
    (a2 : PySem.W.nsIn K mainGlobals "_law_rt_shared" = some (some (.ref f2))) (l2 : K.lookup f2 = some ⟨oc2, od2, .func (PySem.W.fnOf "_law_rt_shared" "_law_rt_shared" (defArgs s__law_rt_shared) (defBody s__law_rt_shared) (defScope s__law_rt_shared) .none kV2 dc2 pm2 an2 cd2 ct2), sl2⟩) (c2 : PySem.W.codeIn K cd2 "_law_rt_shared" = true) (k2 : PySem.W.keepIn K (.ref f2) = true)
    (a3 : PySem.W.nsIn K mainGlobals "_law_rt_is_pair" = some (some (.ref f3))) (l3 : K.lookup f3 = some ⟨oc3, od3, .func (PySem.W.fnOf "_law_rt_is_pair" "_law_rt_is_pair" (defArgs s__law_rt_is_pair) (defBody s__law_rt_is_pair) (defScope s__law_rt_is_pair) .none kV3 dc3 pm3 an3 cd3 ct3), sl3⟩) (c3 : PySem.W.codeIn K cd3 "_law_rt_is_pair" = true) (k3 : PySem.W.keepIn K (.ref f3) = true)
    (a4 : PySem.W.nsIn K mainGlobals "_law_due" = some (some (.ref f4))) (l4 : K.lookup f4 = some ⟨oc4, od4, .func (PySem.W.fnOf "_law_due" "_law_due" (defArgs s__law_due) (defBody s__law_due) (defScope s__law_due) .none kV4 dc4 pm4 an4 cd4 ct4), sl4⟩) (c4 : PySem.W.codeIn K cd4 "_law_due" = true) (k4 : PySem.W.keepIn K (.ref f4) = true)
    (a5 : PySem.W.nsIn K mainGlobals "_law_coin" = some (some (.ref f5))) (l5 : K.lookup f5 = some ⟨oc5, od5, .func (PySem.W.fnOf "_law_coin" "_law_coin" (defArgs s__law_coin) (defBody s__law_coin) (defScope s__law_coin) .none kV5 dc5 pm5 an5 cd5 ct5), sl5⟩) (c5 : PySem.W.codeIn K cd5 "_law_coin" = true) (k5 : PySem.W.keepIn K (.ref f5) = true)
    (a6 : PySem.W.nsIn K mainGlobals "_law_rt_odd_way" = some (some (.ref f6))) (l6 : K.lookup f6 = some ⟨oc6, od6, .func (PySem.W.fnOf "_law_rt_odd_way" "_law_rt_odd_way" (defArgs s__law_rt_odd_way) (defBody s__law_rt_odd_way) (defScope s__law_rt_odd_way) .none kV6 dc6 pm6 an6 cd6 ct6), sl6⟩) (c6 : PySem.W.codeIn K cd6 "_law_rt_odd_way" = true) (k6 : PySem.W.keepIn K (.ref f6) = true)
    (a7 : PySem.W.nsIn K mainGlobals "_law_rt_ends" = some (some (.ref f7))) (l7 : K.lookup f7 = some ⟨oc7, od7, .func (PySem.W.fnOf "_law_rt_ends" "_law_rt_ends" (defArgs s__law_rt_ends) (defBody s__law_rt_ends) (defScope s__law_rt_ends) .none kV7 dc7 pm7 an7 cd7 ct7), sl7⟩) (c7 : PySem.W.codeIn K cd7 "_law_rt_ends" = true) (k7 : PySem.W.keepIn K (.ref f7) = true)
    (a8 : PySem.W.nsIn K mainGlobals "_law_rt_worth" = some (some (.ref f8))) (l8 : K.lookup f8 = some ⟨oc8, od8, .func (PySem.W.fnOf "_law_rt_worth" "_law_rt_worth" (defArgs s__law_rt_worth) (defBody s__law_rt_worth) (defScope s__law_rt_worth) .none kV8 dc8 pm8 an8 cd8 ct8), sl8⟩) (c8 : PySem.W.codeIn K cd8 "_law_rt_worth" = true) (k8 : PySem.W.keepIn K (.ref f8) = true)
    (a9 : PySem.W.nsIn K mainGlobals "_law_rt_fraction" = some (some (.ref f9))) (l9 : K.lookup f9 = some ⟨oc9, od9, .func (PySem.W.fnOf "_law_rt_fraction" "_law_rt_fraction" (defArgs s__law_rt_fraction) (defBody s__law_rt_fraction) (defScope s__law_rt_fraction) .none kV9 dc9 pm9 an9 cd9 ct9), sl9⟩) (c9 : PySem.W.codeIn K cd9 "_law_rt_fraction" = true) (k9 : PySem.W.keepIn K (.ref f9) = true)
    (a10 : PySem.W.nsIn K mainGlobals "_law_rt_odd_pair" = some (some (.ref f10))) (l10 : K.lookup f10 = some ⟨oc10, od10, .func (PySem.W.fnOf "_law_rt_odd_pair" "_law_rt_odd_pair" (defArgs s__law_rt_odd_pair) (defBody s__law_rt_odd_pair) (defScope s__law_rt_odd_pair) .none kV10 dc10 pm10 an10 cd10 ct10), sl10⟩) (c10 : PySem.W.codeIn K cd10 "_law_rt_odd_pair" = true) (k10 : PySem.W.keepIn K (.ref f10) = true)
    (a11 : PySem.W.nsIn K mainGlobals "_law_rt_kind" = some (some (.ref f11))) (l11 : K.lookup f11 = some ⟨oc11, od11, .func (PySem.W.fnOf "_law_rt_kind" "_law_rt_kind" (defArgs s__law_rt_kind) (defBody s__law_rt_kind) (defScope s__law_rt_kind) .none kV11 dc11 pm11 an11 cd11 ct11), sl11⟩) (c11 : PySem.W.codeIn K cd11 "_law_rt_kind" = true) (k11 : PySem.W.keepIn K (.ref f11) = true)
    (a12 : PySem.W.nsIn K mainGlobals "_law_rt_way" = some (some (.ref f12))) (l12 : K.lookup f12 = some ⟨oc12, od12, .func (PySem.W.fnOf "_law_rt_way" "_law_rt_way" (defArgs s__law_rt_way) (defBody s__law_rt_way) (defScope s__law_rt_way) .none kV12 dc12 pm12 an12 cd12 ct12), sl12⟩) (c12 : PySem.W.codeIn K cd12 "_law_rt_way" = true) (k12 : PySem.W.keepIn K (.ref f12) = true)
    (a13 : PySem.W.nsIn K mainGlobals "is_road" = some (some (.ref f13))) (l13 : K.lookup f13 = some ⟨oc13, od13, .func (PySem.W.fnOf "is_road" "is_road" (defArgs s_is_road) (defBody s_is_road) (defScope s_is_road) .none kV13 dc13 pm13 an13 cd13 ct13), sl13⟩) (c13 : PySem.W.codeIn K cd13 "is_road" = true) (k13 : PySem.W.keepIn K (.ref f13) = true)
    (a14 : PySem.W.nsIn K mainGlobals "check_road" = some (some (.ref f14))) (l14 : K.lookup f14 = some ⟨oc14, od14, .func (PySem.W.fnOf "check_road" "check_road" (defArgs s_check_road) (defBody s_check_road) (defScope s_check_road) .none kV14 dc14 pm14 an14 cd14 ct14), sl14⟩) (c14 : PySem.W.codeIn K cd14 "check_road" = true) (k14 : PySem.W.keepIn K (.ref f14) = true)
    (a15 : PySem.W.nsIn K mainGlobals "check_course" = some (some (.ref f15))) (l15 : K.lookup f15 = some ⟨oc15, od15, .func (PySem.W.fnOf "check_course" "check_course" (defArgs s_check_course) (defBody s_check_course) (defScope s_check_course) .none kV15 dc15 pm15 an15 cd15 ct15), sl15⟩) (c15 : PySem.W.codeIn K cd15 "check_course" = true) (k15 : PySem.W.keepIn K (.ref f15) = true)
    (a16 : PySem.W.nsIn K mainGlobals "check_turning_course" = some (some (.ref f16))) (l16 : K.lookup f16 = some ⟨oc16, od16, .func (PySem.W.fnOf "check_turning_course" "check_turning_course" (defArgs s_check_turning_course) (defBody s_check_turning_course) (defScope s_check_turning_course) .none kV16 dc16 pm16 an16 cd16 ct16), sl16⟩) (c16 : PySem.W.codeIn K cd16 "check_turning_course" = true) (k16 : PySem.W.keepIn K (.ref f16) = true)
    (a17 : PySem.W.nsIn K mainGlobals "matrix_of" = some (some (.ref f17))) (l17 : K.lookup f17 = some ⟨oc17, od17, .func (PySem.W.fnOf "matrix_of" "matrix_of" (defArgs s_matrix_of) (defBody s_matrix_of) (defScope s_matrix_of) .none kV17 dc17 pm17 an17 cd17 ct17), sl17⟩) (c17 : PySem.W.codeIn K cd17 "matrix_of" = true) (k17 : PySem.W.keepIn K (.ref f17) = true)
    (a18 : PySem.W.nsIn K mainGlobals "times" = some (some (.ref f18))) (l18 : K.lookup f18 = some ⟨oc18, od18, .func (PySem.W.fnOf "times" "times" (defArgs s_times) (defBody s_times) (defScope s_times) .none kV18 dc18 pm18 an18 cd18 ct18), sl18⟩) (c18 : PySem.W.codeIn K cd18 "times" = true) (k18 : PySem.W.keepIn K (.ref f18) = true)
    (a19 : PySem.W.nsIn K mainGlobals "square_of" = some (some (.ref f19))) (l19 : K.lookup f19 = some ⟨oc19, od19, .func (PySem.W.fnOf "square_of" "square_of" (defArgs s_square_of) (defBody s_square_of) (defScope s_square_of) .none kV19 dc19 pm19 an19 cd19 ct19), sl19⟩) (c19 : PySem.W.codeIn K cd19 "square_of" = true) (k19 : PySem.W.keepIn K (.ref f19) = true)
    (a20 : PySem.W.nsIn K mainGlobals "number_of" = some (some (.ref f20))) (l20 : K.lookup f20 = some ⟨oc20, od20, .func (PySem.W.fnOf "number_of" "number_of" (defArgs s_number_of) (defBody s_number_of) (defScope s_number_of) .none kV20 dc20 pm20 an20 cd20 ct20), sl20⟩) (c20 : PySem.W.codeIn K cd20 "number_of" = true) (k20 : PySem.W.keepIn K (.ref f20) = true)
    (a21 : PySem.W.nsIn K mainGlobals "is_fraction" = some (some (.ref f21))) (l21 : K.lookup f21 = some ⟨oc21, od21, .func (PySem.W.fnOf "is_fraction" "is_fraction" (defArgs s_is_fraction) (defBody s_is_fraction) (defScope s_is_fraction) .none kV21 dc21 pm21 an21 cd21 ct21), sl21⟩) (c21 : PySem.W.codeIn K cd21 "is_fraction" = true) (k21 : PySem.W.keepIn K (.ref f21) = true)
    (a22 : PySem.W.nsIn K mainGlobals "check_fraction" = some (some (.ref f22))) (l22 : K.lookup f22 = some ⟨oc22, od22, .func (PySem.W.fnOf "check_fraction" "check_fraction" (defArgs s_check_fraction) (defBody s_check_fraction) (defScope s_check_fraction) .none kV22 dc22 pm22 an22 cd22 ct22), sl22⟩) (c22 : PySem.W.codeIn K cd22 "check_fraction" = true) (k22 : PySem.W.keepIn K (.ref f22) = true)
    (a23 : PySem.W.nsIn K mainGlobals "road_of" = some (some (.ref f23))) (l23 : K.lookup f23 = some ⟨oc23, od23, .func (PySem.W.fnOf "road_of" "road_of" (defArgs s_road_of) (defBody s_road_of) (defScope s_road_of) .none kV23 dc23 pm23 an23 cd23 ct23), sl23⟩) (c23 : PySem.W.codeIn K cd23 "road_of" = true) (k23 : PySem.W.keepIn K (.ref f23) = true)
    (a24 : PySem.W.nsIn K mainGlobals "order_of" = some (some (.ref f24))) (l24 : K.lookup f24 = some ⟨oc24, od24, .func (PySem.W.fnOf "order_of" "order_of" (defArgs s_order_of) (defBody s_order_of) (defScope s_order_of) .none kV24 dc24 pm24 an24 cd24 ct24), sl24⟩) (c24 : PySem.W.codeIn K cd24 "order_of" = true) (k24 : PySem.W.keepIn K (.ref f24) = true)
    (a25 : PySem.W.nsIn K mainGlobals "compare" = some (some (.ref f25))) (l25 : K.lookup f25 = some ⟨oc25, od25, .func (PySem.W.fnOf "compare" "compare" (defArgs s_compare) (defBody s_compare) (defScope s_compare) .none kV25 dc25 pm25 an25 cd25 ct25), sl25⟩) (c25 : PySem.W.codeIn K cd25 "compare" = true) (k25 : PySem.W.keepIn K (.ref f25) = true)
    (a26 : PySem.W.nsIn K mainGlobals "course" = some (some (.ref f26))) (l26 : K.lookup f26 = some ⟨oc26, od26, .func (PySem.W.fnOf "course" "course" (defArgs s_course) (defBody s_course) (defScope s_course) .none kV26 dc26 pm26 an26 cd26 ct26), sl26⟩) (c26 : PySem.W.codeIn K cd26 "course" = true) (k26 : PySem.W.keepIn K (.ref f26) = true)
    (a27 : PySem.W.nsIn K mainGlobals "check_from_zero" = some (some (.ref f27))) (l27 : K.lookup f27 = some ⟨oc27, od27, .func (PySem.W.fnOf "check_from_zero" "check_from_zero" (defArgs s_check_from_zero) (defBody s_check_from_zero) (defScope s_check_from_zero) .none kV27 dc27 pm27 an27 cd27 ct27), sl27⟩) (c27 : PySem.W.codeIn K cd27 "check_from_zero" = true) (k27 : PySem.W.keepIn K (.ref f27) = true)
    (a28 : PySem.W.nsIn K mainGlobals "turns_of" = some (some (.ref f28))) (l28 : K.lookup f28 = some ⟨oc28, od28, .func (PySem.W.fnOf "turns_of" "turns_of" (defArgs s_turns_of) (defBody s_turns_of) (defScope s_turns_of) .none kV28 dc28 pm28 an28 cd28 ct28), sl28⟩) (c28 : PySem.W.codeIn K cd28 "turns_of" = true) (k28 : PySem.W.keepIn K (.ref f28) = true)
    (a29 : PySem.W.nsIn K mainGlobals "compare_courses" = some (some (.ref f29))) (l29 : K.lookup f29 = some ⟨oc29, od29, .func (PySem.W.fnOf "compare_courses" "compare_courses" (defArgs s_compare_courses) (defBody s_compare_courses) (defScope s_compare_courses) .none kV29 dc29 pm29 an29 cd29 ct29), sl29⟩) (c29 : PySem.W.codeIn K cd29 "compare_courses" = true) (k29 : PySem.W.keepIn K (.ref f29) = true)
    (a30 : PySem.W.nsIn K mainGlobals "_law_ask_named" = some (some (.ref f30))) (l30 : K.lookup f30 = some ⟨oc30, od30, .func (PySem.W.fnOf "_law_ask_named" "_law_ask_named" (defArgs s__law_ask_named) (defBody s__law_ask_named) (defScope s__law_ask_named) .none kV30 dc30 pm30 an30 cd30 ct30), sl30⟩) (c30 : PySem.W.codeIn K cd30 "_law_ask_named" = true) (k30 : PySem.W.keepIn K (.ref f30) = true)
    (a31 : PySem.W.nsIn K mainGlobals "_law_ask" = some (some (.ref f31))) (l31 : K.lookup f31 = some ⟨oc31, od31, .func (PySem.W.fnOf "_law_ask" "_law_ask" (defArgs s__law_ask) (defBody s__law_ask) (defScope s__law_ask) .none kV31 dc31 pm31 an31 cd31 ct31), sl31⟩) (c31 : PySem.W.codeIn K cd31 "_law_ask" = true) (k31 : PySem.W.keepIn K (.ref f31) = true)
    (a32 : PySem.W.nsIn K mainGlobals "_law_rt_ring" = some (some (.ref f32))) (l32 : K.lookup f32 = some ⟨oc32, od32, .func (PySem.W.fnOf "_law_rt_ring" "_law_rt_ring" (defArgs s__law_rt_ring) (defBody s__law_rt_ring) (defScope s__law_rt_ring) .none kV32 dc32 pm32 an32 cd32 ct32), sl32⟩) (c32 : PySem.W.codeIn K cd32 "_law_rt_ring" = true) (k32 : PySem.W.keepIn K (.ref f32) = true)
    (a33 : PySem.W.nsIn K mainGlobals "_law_right" = some (some (.ref f33))) (l33 : K.lookup f33 = some ⟨oc33, od33, .func (PySem.W.fnOf "_law_right" "_law_right" (defArgs s__law_right) (defBody s__law_right) (defScope s__law_right) .none kV33 dc33 pm33 an33 cd33 ct33), sl33⟩) (c33 : PySem.W.codeIn K cd33 "_law_right" = true) (k33 : PySem.W.keepIn K (.ref f33) = true)
    (a34 : PySem.W.nsIn K mainGlobals "law" = some (some (.ref f34))) (l34 : K.lookup f34 = some ⟨oc34, od34, .func (PySem.W.fnOf "law" "law" (defArgs s_law) (defBody s_law) (defScope s_law) .none kV34 dc34 pm34 an34 cd34 ct34), sl34⟩) (c34 : PySem.W.codeIn K cd34 "law" = true) (k34 : PySem.W.keepIn K (.ref f34) = true)
    {qInvalidRoad qInvalidFraction qInvalidNumber qRoadError qInvalidMap qInvalidBook qInvalidMachine qInvalidSquare qInvalidTurn qHasEnded qNothingToUndo qUnreadable fR : Addr}
    {odR anR : Option Addr} {slR : Array (Option Value)} {ocR kVR dcR pmR cdR ctR : Value}
    (aCInvalidRoad : PySem.W.nsIn K mainGlobals "InvalidRoad" = some (some (.ref qInvalidRoad)))
    (aCInvalidFraction : PySem.W.nsIn K mainGlobals "InvalidFraction" = some (some (.ref qInvalidFraction)))
    (aCInvalidNumber : PySem.W.nsIn K mainGlobals "InvalidNumber" = some (some (.ref qInvalidNumber)))
    (aCRoadError : PySem.W.nsIn K mainGlobals "RoadError" = some (some (.ref qRoadError)))
    (aCInvalidMap : PySem.W.nsIn K mainGlobals "InvalidMap" = some (some (.ref qInvalidMap)))
    (aCInvalidBook : PySem.W.nsIn K mainGlobals "InvalidBook" = some (some (.ref qInvalidBook)))
    (aCInvalidMachine : PySem.W.nsIn K mainGlobals "InvalidMachine" = some (some (.ref qInvalidMachine)))
    (aCInvalidSquare : PySem.W.nsIn K mainGlobals "InvalidSquare" = some (some (.ref qInvalidSquare)))
    (aCInvalidTurn : PySem.W.nsIn K mainGlobals "InvalidTurn" = some (some (.ref qInvalidTurn)))
    (aCHasEnded : PySem.W.nsIn K mainGlobals "HasEnded" = some (some (.ref qHasEnded)))
    (aCNothingToUndo : PySem.W.nsIn K mainGlobals "NothingToUndo" = some (some (.ref qNothingToUndo)))
    (aCUnreadable : PySem.W.nsIn K mainGlobals "Unreadable" = some (some (.ref qUnreadable)))
    {nmInvalidRoad q0InvalidRoad : Str} {NInvalidRoad : Addr} {bsInvalidRoad : List Value} {snInvalidRoad : List Str} {subInvalidRoad : List Value} {abInvalidRoad : Bool} {colInvalidRoad : Option Bool} {ddInvalidRoad : Option Addr} {m0InvalidRoad m1InvalidRoad m2InvalidRoad m3InvalidRoad m5InvalidRoad : Option Value}
    (xLInvalidRoad : K.lookup qInvalidRoad = some (excClassObj nmInvalidRoad q0InvalidRoad qInvalidRoad NInvalidRoad bsInvalidRoad [.ref qRoadError, .type "ValueError", .type "Exception", .type "BaseException", .type "object"] true snInvalidRoad subInvalidRoad abInvalidRoad colInvalidRoad ddInvalidRoad m0InvalidRoad m1InvalidRoad m2InvalidRoad m3InvalidRoad m5InvalidRoad "ValueError.__new__"))
    (saInvalidRoad : PySem.W.findIn K (.ref qInvalidRoad) "__setattr__" = some (some (.builtin "object.__setattr__")))
    (gaInvalidRoad : PySem.W.findIn K (.ref qInvalidRoad) "__getattribute__" = some (some (.builtin "BaseException.__getattribute__")))
    (ggInvalidRoad : PySem.W.findIn K (.ref qInvalidRoad) "__getattr__" = some none)
    (nvInvalidRoad : PySem.W.findIn K (.ref qInvalidRoad) "value" = some none)
    (icInvalidRoad : PySem.W.findIn K (.ref qInvalidRoad) "__init__" = some (some (.ref fR)))
    (kcInvalidRoad : PySem.W.keepIn K (.ref qInvalidRoad) = true)
    (ecInvalidRoad : PySem.W.subIn K (.ref qInvalidRoad) (.type "BaseException") = some true)
    (tcInvalidRoad : PySem.W.typeIn K (.ref qInvalidRoad) = some (.type "type"))
    (hdInvalidRoad : PySem.W.hasDictIn K qInvalidRoad = true)
    (clInvalidRoad : PySem.W.isClsIn K qInvalidRoad = true)
    (haInvalidRoad : PySem.W.findIn K (.ref qInvalidRoad) "__class__" = some (some (.builtin "object.__class__")))
    (hmInvalidRoad : PySem.W.mroIn K qInvalidRoad (.type "object") = some true)
    (tR : PySem.W.typeIn K (.ref fR) = some (.type "function"))
    (lR : K.lookup fR = some ⟨ocR, odR, .func (PySem.W.fnOf "__init__" "RoadError.__init__" (defArgs s_reinit) (defBody s_reinit) (defScope s_reinit) .none kVR dcR pmR anR cdR ctR), slR⟩)
    (cR : PySem.W.codeIn K cdR "RoadError.__init__" = true)
    (kR : PySem.W.keepIn K (.ref fR) = true)
    (hn : PySem.W.specialIn K (.builtin "object.__class__") "__get__" = some (some (.builtin "getset_descriptor.__get__")))
    (ht : PySem.W.takesIn K (.builtin "object.__class__") = some true)
    {nmInvalidFraction q0InvalidFraction : Str} {NInvalidFraction : Addr} {bsInvalidFraction : List Value} {snInvalidFraction : List Str} {subInvalidFraction : List Value} {abInvalidFraction : Bool} {colInvalidFraction : Option Bool} {ddInvalidFraction : Option Addr} {m0InvalidFraction m1InvalidFraction m2InvalidFraction m3InvalidFraction m5InvalidFraction : Option Value}
    (xLInvalidFraction : K.lookup qInvalidFraction = some (excClassObj nmInvalidFraction q0InvalidFraction qInvalidFraction NInvalidFraction bsInvalidFraction [.ref qRoadError, .type "ValueError", .type "Exception", .type "BaseException", .type "object"] true snInvalidFraction subInvalidFraction abInvalidFraction colInvalidFraction ddInvalidFraction m0InvalidFraction m1InvalidFraction m2InvalidFraction m3InvalidFraction m5InvalidFraction "ValueError.__new__"))
    (saInvalidFraction : PySem.W.findIn K (.ref qInvalidFraction) "__setattr__" = some (some (.builtin "object.__setattr__")))
    (gaInvalidFraction : PySem.W.findIn K (.ref qInvalidFraction) "__getattribute__" = some (some (.builtin "BaseException.__getattribute__")))
    (ggInvalidFraction : PySem.W.findIn K (.ref qInvalidFraction) "__getattr__" = some none)
    (nvInvalidFraction : PySem.W.findIn K (.ref qInvalidFraction) "value" = some none)
    (icInvalidFraction : PySem.W.findIn K (.ref qInvalidFraction) "__init__" = some (some (.ref fR)))
    (kcInvalidFraction : PySem.W.keepIn K (.ref qInvalidFraction) = true)
    (ecInvalidFraction : PySem.W.subIn K (.ref qInvalidFraction) (.type "BaseException") = some true)
    (tcInvalidFraction : PySem.W.typeIn K (.ref qInvalidFraction) = some (.type "type"))
    (hdInvalidFraction : PySem.W.hasDictIn K qInvalidFraction = true)
    (clInvalidFraction : PySem.W.isClsIn K qInvalidFraction = true)
    (haInvalidFraction : PySem.W.findIn K (.ref qInvalidFraction) "__class__" = some (some (.builtin "object.__class__")))
    (hmInvalidFraction : PySem.W.mroIn K qInvalidFraction (.type "object") = some true)
    {nmInvalidNumber q0InvalidNumber : Str} {NInvalidNumber : Addr} {bsInvalidNumber : List Value} {snInvalidNumber : List Str} {subInvalidNumber : List Value} {abInvalidNumber : Bool} {colInvalidNumber : Option Bool} {ddInvalidNumber : Option Addr} {m0InvalidNumber m1InvalidNumber m2InvalidNumber m3InvalidNumber m5InvalidNumber : Option Value}
    (xLInvalidNumber : K.lookup qInvalidNumber = some (excClassObj nmInvalidNumber q0InvalidNumber qInvalidNumber NInvalidNumber bsInvalidNumber [.ref qRoadError, .type "ValueError", .type "Exception", .type "BaseException", .type "object"] true snInvalidNumber subInvalidNumber abInvalidNumber colInvalidNumber ddInvalidNumber m0InvalidNumber m1InvalidNumber m2InvalidNumber m3InvalidNumber m5InvalidNumber "ValueError.__new__"))
    (saInvalidNumber : PySem.W.findIn K (.ref qInvalidNumber) "__setattr__" = some (some (.builtin "object.__setattr__")))
    (gaInvalidNumber : PySem.W.findIn K (.ref qInvalidNumber) "__getattribute__" = some (some (.builtin "BaseException.__getattribute__")))
    (ggInvalidNumber : PySem.W.findIn K (.ref qInvalidNumber) "__getattr__" = some none)
    (nvInvalidNumber : PySem.W.findIn K (.ref qInvalidNumber) "value" = some none)
    (icInvalidNumber : PySem.W.findIn K (.ref qInvalidNumber) "__init__" = some (some (.ref fR)))
    (kcInvalidNumber : PySem.W.keepIn K (.ref qInvalidNumber) = true)
    (ecInvalidNumber : PySem.W.subIn K (.ref qInvalidNumber) (.type "BaseException") = some true)
    (tcInvalidNumber : PySem.W.typeIn K (.ref qInvalidNumber) = some (.type "type"))
    (hdInvalidNumber : PySem.W.hasDictIn K qInvalidNumber = true)
    (clInvalidNumber : PySem.W.isClsIn K qInvalidNumber = true)
    (haInvalidNumber : PySem.W.findIn K (.ref qInvalidNumber) "__class__" = some (some (.builtin "object.__class__")))
    (hmInvalidNumber : PySem.W.mroIn K qInvalidNumber (.type "object") = some true)
    (iaInvalidRoad : PySem.W.isClsIn K qInvalidRoad = true) (taInvalidRoad : PySem.W.typeIn K (.ref qInvalidRoad) = some (.type "type"))
    (iaInvalidFraction : PySem.W.isClsIn K qInvalidFraction = true) (taInvalidFraction : PySem.W.typeIn K (.ref qInvalidFraction) = some (.type "type"))
    (iaInvalidMap : PySem.W.isClsIn K qInvalidMap = true) (taInvalidMap : PySem.W.typeIn K (.ref qInvalidMap) = some (.type "type"))
    (iaInvalidBook : PySem.W.isClsIn K qInvalidBook = true) (taInvalidBook : PySem.W.typeIn K (.ref qInvalidBook) = some (.type "type"))
    (iaRoadError : PySem.W.isClsIn K qRoadError = true) (taRoadError : PySem.W.typeIn K (.ref qRoadError) = some (.type "type"))
    (iaInvalidMachine : PySem.W.isClsIn K qInvalidMachine = true) (taInvalidMachine : PySem.W.typeIn K (.ref qInvalidMachine) = some (.type "type"))
    (iaInvalidSquare : PySem.W.isClsIn K qInvalidSquare = true) (taInvalidSquare : PySem.W.typeIn K (.ref qInvalidSquare) = some (.type "type"))
    (iaInvalidNumber : PySem.W.isClsIn K qInvalidNumber = true) (taInvalidNumber : PySem.W.typeIn K (.ref qInvalidNumber) = some (.type "type"))
    (iaInvalidTurn : PySem.W.isClsIn K qInvalidTurn = true) (taInvalidTurn : PySem.W.typeIn K (.ref qInvalidTurn) = some (.type "type"))
    (iaHasEnded : PySem.W.isClsIn K qHasEnded = true) (taHasEnded : PySem.W.typeIn K (.ref qHasEnded) = some (.type "type"))
    (iaNothingToUndo : PySem.W.isClsIn K qNothingToUndo = true) (taNothingToUndo : PySem.W.typeIn K (.ref qNothingToUndo) = some (.type "type"))
    (iaUnreadable : PySem.W.isClsIn K qUnreadable = true) (taUnreadable : PySem.W.typeIn K (.ref qUnreadable) = some (.type "type"))
    (beRoadError : PySem.W.subIn K (.ref qRoadError) (.type "BaseException") = some true)
    (ssInvalidRoad : PySem.W.subIn K (.ref qInvalidRoad) (.ref qInvalidRoad) = some true)
    (sInvalidRoad_InvalidFraction : PySem.W.subIn K (.ref qInvalidRoad) (.ref qInvalidFraction) = some false)
    (sInvalidRoad_InvalidMap : PySem.W.subIn K (.ref qInvalidRoad) (.ref qInvalidMap) = some false)
    (sInvalidRoad_InvalidBook : PySem.W.subIn K (.ref qInvalidRoad) (.ref qInvalidBook) = some false)
    (sInvalidRoad_RoadError : PySem.W.subIn K (.ref qInvalidRoad) (.ref qRoadError) = some true)
    (sInvalidRoad_ValueError : PySem.W.subIn K (.ref qInvalidRoad) (.type "ValueError") = some true)
    (sInvalidRoad_InvalidMachine : PySem.W.subIn K (.ref qInvalidRoad) (.ref qInvalidMachine) = some false)
    (sInvalidRoad_InvalidSquare : PySem.W.subIn K (.ref qInvalidRoad) (.ref qInvalidSquare) = some false)
    (sInvalidRoad_InvalidNumber : PySem.W.subIn K (.ref qInvalidRoad) (.ref qInvalidNumber) = some false)
    (sInvalidRoad_InvalidTurn : PySem.W.subIn K (.ref qInvalidRoad) (.ref qInvalidTurn) = some false)
    (sInvalidRoad_HasEnded : PySem.W.subIn K (.ref qInvalidRoad) (.ref qHasEnded) = some false)
    (sInvalidRoad_NothingToUndo : PySem.W.subIn K (.ref qInvalidRoad) (.ref qNothingToUndo) = some false)
    (sInvalidRoad_Unreadable : PySem.W.subIn K (.ref qInvalidRoad) (.ref qUnreadable) = some false)
    (ssInvalidFraction : PySem.W.subIn K (.ref qInvalidFraction) (.ref qInvalidFraction) = some true)
    (sInvalidFraction_InvalidRoad : PySem.W.subIn K (.ref qInvalidFraction) (.ref qInvalidRoad) = some false)
    (sInvalidFraction_InvalidMap : PySem.W.subIn K (.ref qInvalidFraction) (.ref qInvalidMap) = some false)
    (sInvalidFraction_InvalidBook : PySem.W.subIn K (.ref qInvalidFraction) (.ref qInvalidBook) = some false)
    (sInvalidFraction_RoadError : PySem.W.subIn K (.ref qInvalidFraction) (.ref qRoadError) = some true)
    (sInvalidFraction_ValueError : PySem.W.subIn K (.ref qInvalidFraction) (.type "ValueError") = some true)
    (sInvalidFraction_InvalidMachine : PySem.W.subIn K (.ref qInvalidFraction) (.ref qInvalidMachine) = some false)
    (sInvalidFraction_InvalidSquare : PySem.W.subIn K (.ref qInvalidFraction) (.ref qInvalidSquare) = some false)
    (sInvalidFraction_InvalidNumber : PySem.W.subIn K (.ref qInvalidFraction) (.ref qInvalidNumber) = some false)
    (sInvalidFraction_InvalidTurn : PySem.W.subIn K (.ref qInvalidFraction) (.ref qInvalidTurn) = some false)
    (sInvalidFraction_HasEnded : PySem.W.subIn K (.ref qInvalidFraction) (.ref qHasEnded) = some false)
    (sInvalidFraction_NothingToUndo : PySem.W.subIn K (.ref qInvalidFraction) (.ref qNothingToUndo) = some false)
    (sInvalidFraction_Unreadable : PySem.W.subIn K (.ref qInvalidFraction) (.ref qUnreadable) = some false)
    (ssInvalidNumber : PySem.W.subIn K (.ref qInvalidNumber) (.ref qInvalidNumber) = some true)
    (sInvalidNumber_InvalidRoad : PySem.W.subIn K (.ref qInvalidNumber) (.ref qInvalidRoad) = some false)
    (sInvalidNumber_InvalidFraction : PySem.W.subIn K (.ref qInvalidNumber) (.ref qInvalidFraction) = some false)
    (sInvalidNumber_InvalidMap : PySem.W.subIn K (.ref qInvalidNumber) (.ref qInvalidMap) = some false)
    (sInvalidNumber_InvalidBook : PySem.W.subIn K (.ref qInvalidNumber) (.ref qInvalidBook) = some false)
    (sInvalidNumber_RoadError : PySem.W.subIn K (.ref qInvalidNumber) (.ref qRoadError) = some true)
    (sInvalidNumber_ValueError : PySem.W.subIn K (.ref qInvalidNumber) (.type "ValueError") = some true)
    (sInvalidNumber_InvalidMachine : PySem.W.subIn K (.ref qInvalidNumber) (.ref qInvalidMachine) = some false)
    (sInvalidNumber_InvalidSquare : PySem.W.subIn K (.ref qInvalidNumber) (.ref qInvalidSquare) = some false)
    (sInvalidNumber_InvalidTurn : PySem.W.subIn K (.ref qInvalidNumber) (.ref qInvalidTurn) = some false)
    (sInvalidNumber_HasEnded : PySem.W.subIn K (.ref qInvalidNumber) (.ref qHasEnded) = some false)
    (sInvalidNumber_NothingToUndo : PySem.W.subIn K (.ref qInvalidNumber) (.ref qNothingToUndo) = some false)
    (sInvalidNumber_Unreadable : PySem.W.subIn K (.ref qInvalidNumber) (.ref qUnreadable) = some false)
    (z0 : PySem.W.nsIn K mainGlobals "max" = some none)
    (z1 : PySem.W.nsIn K mainGlobals "len" = some none)
    (z2 : PySem.W.nsIn K mainGlobals "int" = some none)
    (z3 : PySem.W.nsIn K mainGlobals "abs" = some none)
    (z4 : PySem.W.nsIn K mainGlobals "min" = some none)
    (z5 : PySem.W.nsIn K mainGlobals "range" = some none)
    (z6 : PySem.W.nsIn K mainGlobals "isinstance" = some none)
    (z7 : PySem.W.nsIn K mainGlobals "ValueError" = some none)
    (z8 : PySem.W.nsIn K mainGlobals "repr" = some none)
    (m0 : PySem.W.nsIn K mainGlobals "gcd" = some (some (.builtin "math.gcd")))
    : ∃ (T : Tx K mg) (kV dc pm cd ct : Value) (an : Option Addr), T.fd_law = PySem.W.fnOf "law" "law" (defArgs s_law) (defBody s_law) (defScope s_law) .none kV dc pm an cd ct := by
  refine ⟨{
    a__law_purse := f0, fd__law_purse := _, F__law_purse := fun_mk (st := s__law_purse) l0 c0 k0, g__law_purse := PySem.W.mg_of X G a0,
    a__law_rt_first_odd := f1, fd__law_rt_first_odd := _, F__law_rt_first_odd := fun_mk (st := s__law_rt_first_odd) l1 c1 k1, g__law_rt_first_odd := PySem.W.mg_of X G a1,
    a__law_rt_shared := f2, fd__law_rt_shared := _, F__law_rt_shared := fun_mk (st := s__law_rt_shared) l2 c2 k2, g__law_rt_shared := PySem.W.mg_of X G a2,
    a__law_rt_is_pair := f3, fd__law_rt_is_pair := _, F__law_rt_is_pair := fun_mk (st := s__law_rt_is_pair) l3 c3 k3, g__law_rt_is_pair := PySem.W.mg_of X G a3,
    a__law_due := f4, fd__law_due := _, F__law_due := fun_mk (st := s__law_due) l4 c4 k4, g__law_due := PySem.W.mg_of X G a4,
    a__law_coin := f5, fd__law_coin := _, F__law_coin := fun_mk (st := s__law_coin) l5 c5 k5, g__law_coin := PySem.W.mg_of X G a5,
    a__law_rt_odd_way := f6, fd__law_rt_odd_way := _, F__law_rt_odd_way := fun_mk (st := s__law_rt_odd_way) l6 c6 k6, g__law_rt_odd_way := PySem.W.mg_of X G a6,
    a__law_rt_ends := f7, fd__law_rt_ends := _, F__law_rt_ends := fun_mk (st := s__law_rt_ends) l7 c7 k7, g__law_rt_ends := PySem.W.mg_of X G a7,
    a__law_rt_worth := f8, fd__law_rt_worth := _, F__law_rt_worth := fun_mk (st := s__law_rt_worth) l8 c8 k8, g__law_rt_worth := PySem.W.mg_of X G a8,
    a__law_rt_fraction := f9, fd__law_rt_fraction := _, F__law_rt_fraction := fun_mk (st := s__law_rt_fraction) l9 c9 k9, g__law_rt_fraction := PySem.W.mg_of X G a9,
    a__law_rt_odd_pair := f10, fd__law_rt_odd_pair := _, F__law_rt_odd_pair := fun_mk (st := s__law_rt_odd_pair) l10 c10 k10, g__law_rt_odd_pair := PySem.W.mg_of X G a10,
    a__law_rt_kind := f11, fd__law_rt_kind := _, F__law_rt_kind := fun_mk (st := s__law_rt_kind) l11 c11 k11, g__law_rt_kind := PySem.W.mg_of X G a11,
    a__law_rt_way := f12, fd__law_rt_way := _, F__law_rt_way := fun_mk (st := s__law_rt_way) l12 c12 k12, g__law_rt_way := PySem.W.mg_of X G a12,
    a_is_road := f13, fd_is_road := _, F_is_road := fun_mk (st := s_is_road) l13 c13 k13, g_is_road := PySem.W.mg_of X G a13,
    a_check_road := f14, fd_check_road := _, F_check_road := fun_mk (st := s_check_road) l14 c14 k14, g_check_road := PySem.W.mg_of X G a14,
    a_check_course := f15, fd_check_course := _, F_check_course := fun_mk (st := s_check_course) l15 c15 k15, g_check_course := PySem.W.mg_of X G a15,
    a_check_turning_course := f16, fd_check_turning_course := _, F_check_turning_course := fun_mk (st := s_check_turning_course) l16 c16 k16, g_check_turning_course := PySem.W.mg_of X G a16,
    a_matrix_of := f17, fd_matrix_of := _, F_matrix_of := fun_mk (st := s_matrix_of) l17 c17 k17, g_matrix_of := PySem.W.mg_of X G a17,
    a_times := f18, fd_times := _, F_times := fun_mk (st := s_times) l18 c18 k18, g_times := PySem.W.mg_of X G a18,
    a_square_of := f19, fd_square_of := _, F_square_of := fun_mk (st := s_square_of) l19 c19 k19, g_square_of := PySem.W.mg_of X G a19,
    a_number_of := f20, fd_number_of := _, F_number_of := fun_mk (st := s_number_of) l20 c20 k20, g_number_of := PySem.W.mg_of X G a20,
    a_is_fraction := f21, fd_is_fraction := _, F_is_fraction := fun_mk (st := s_is_fraction) l21 c21 k21, g_is_fraction := PySem.W.mg_of X G a21,
    a_check_fraction := f22, fd_check_fraction := _, F_check_fraction := fun_mk (st := s_check_fraction) l22 c22 k22, g_check_fraction := PySem.W.mg_of X G a22,
    a_road_of := f23, fd_road_of := _, F_road_of := fun_mk (st := s_road_of) l23 c23 k23, g_road_of := PySem.W.mg_of X G a23,
    a_order_of := f24, fd_order_of := _, F_order_of := fun_mk (st := s_order_of) l24 c24 k24, g_order_of := PySem.W.mg_of X G a24,
    a_compare := f25, fd_compare := _, F_compare := fun_mk (st := s_compare) l25 c25 k25, g_compare := PySem.W.mg_of X G a25,
    a_course := f26, fd_course := _, F_course := fun_mk (st := s_course) l26 c26 k26, g_course := PySem.W.mg_of X G a26,
    a_check_from_zero := f27, fd_check_from_zero := _, F_check_from_zero := fun_mk (st := s_check_from_zero) l27 c27 k27, g_check_from_zero := PySem.W.mg_of X G a27,
    a_turns_of := f28, fd_turns_of := _, F_turns_of := fun_mk (st := s_turns_of) l28 c28 k28, g_turns_of := PySem.W.mg_of X G a28,
    a_compare_courses := f29, fd_compare_courses := _, F_compare_courses := fun_mk (st := s_compare_courses) l29 c29 k29, g_compare_courses := PySem.W.mg_of X G a29,
    a__law_ask_named := f30, fd__law_ask_named := _, F__law_ask_named := fun_mk (st := s__law_ask_named) l30 c30 k30, g__law_ask_named := PySem.W.mg_of X G a30,
    a__law_ask := f31, fd__law_ask := _, F__law_ask := fun_mk (st := s__law_ask) l31 c31 k31, g__law_ask := PySem.W.mg_of X G a31,
    a__law_rt_ring := f32, fd__law_rt_ring := _, F__law_rt_ring := fun_mk (st := s__law_rt_ring) l32 c32 k32, g__law_rt_ring := PySem.W.mg_of X G a32,
    a__law_right := f33, fd__law_right := _, F__law_right := fun_mk (st := s__law_right) l33 c33 k33, g__law_right := PySem.W.mg_of X G a33,
    a_law := f34, fd_law := _, F_law := fun_mk (st := s_law) l34 c34 k34, g_law := PySem.W.mg_of X G a34,
    c_InvalidRoad := qInvalidRoad, g_InvalidRoad := PySem.W.mg_of X G aCInvalidRoad, n_InvalidRoad := aCInvalidRoad,
    c_InvalidFraction := qInvalidFraction, g_InvalidFraction := PySem.W.mg_of X G aCInvalidFraction, n_InvalidFraction := aCInvalidFraction,
    c_InvalidNumber := qInvalidNumber, g_InvalidNumber := PySem.W.mg_of X G aCInvalidNumber, n_InvalidNumber := aCInvalidNumber,
    c_RoadError := qRoadError, g_RoadError := PySem.W.mg_of X G aCRoadError, n_RoadError := aCRoadError,
    c_InvalidMap := qInvalidMap, g_InvalidMap := PySem.W.mg_of X G aCInvalidMap, n_InvalidMap := aCInvalidMap,
    c_InvalidBook := qInvalidBook, g_InvalidBook := PySem.W.mg_of X G aCInvalidBook, n_InvalidBook := aCInvalidBook,
    c_InvalidMachine := qInvalidMachine, g_InvalidMachine := PySem.W.mg_of X G aCInvalidMachine, n_InvalidMachine := aCInvalidMachine,
    c_InvalidSquare := qInvalidSquare, g_InvalidSquare := PySem.W.mg_of X G aCInvalidSquare, n_InvalidSquare := aCInvalidSquare,
    c_InvalidTurn := qInvalidTurn, g_InvalidTurn := PySem.W.mg_of X G aCInvalidTurn, n_InvalidTurn := aCInvalidTurn,
    c_HasEnded := qHasEnded, g_HasEnded := PySem.W.mg_of X G aCHasEnded, n_HasEnded := aCHasEnded,
    c_NothingToUndo := qNothingToUndo, g_NothingToUndo := PySem.W.mg_of X G aCNothingToUndo, n_NothingToUndo := aCNothingToUndo,
    c_Unreadable := qUnreadable, g_Unreadable := PySem.W.mg_of X G aCUnreadable, n_Unreadable := aCUnreadable,
    a_reinit := fR, fd_reinit := _, F_reinit := fun_mk (st := s_reinit) lR cR kR,
    E_InvalidRoad := { g := PySem.W.mg_of X G aCInvalidRoad, ni := aCInvalidRoad, ox := { cls := ⟨_, _, _, _, _, _, _, _, _, _, _, _, _, _, _, xLInvalidRoad, by exact (show PySem.HandSPX.refsVE [.type "ValueError", .type "Exception", .type "BaseException", .type "object"] = true by decide +kernel)⟩, sa := saInvalidRoad, exC := ecInvalidRoad, tyC := tcInvalidRoad, kC := kcInvalidRoad }, ic := icInvalidRoad, ti := tR, no := nvInvalidRoad, xf := ⟨gaInvalidRoad, ggInvalidRoad, ecInvalidRoad, hdInvalidRoad⟩, cl := clInvalidRoad, ha := haInvalidRoad, hn := hn, ht := ht, hm := hmInvalidRoad },
    E_InvalidFraction := { g := PySem.W.mg_of X G aCInvalidFraction, ni := aCInvalidFraction, ox := { cls := ⟨_, _, _, _, _, _, _, _, _, _, _, _, _, _, _, xLInvalidFraction, by exact (show PySem.HandSPX.refsVE [.type "ValueError", .type "Exception", .type "BaseException", .type "object"] = true by decide +kernel)⟩, sa := saInvalidFraction, exC := ecInvalidFraction, tyC := tcInvalidFraction, kC := kcInvalidFraction }, ic := icInvalidFraction, ti := tR, no := nvInvalidFraction, xf := ⟨gaInvalidFraction, ggInvalidFraction, ecInvalidFraction, hdInvalidFraction⟩, cl := clInvalidFraction, ha := haInvalidFraction, hn := hn, ht := ht, hm := hmInvalidFraction },
    E_InvalidNumber := { g := PySem.W.mg_of X G aCInvalidNumber, ni := aCInvalidNumber, ox := { cls := ⟨_, _, _, _, _, _, _, _, _, _, _, _, _, _, _, xLInvalidNumber, by exact (show PySem.HandSPX.refsVE [.type "ValueError", .type "Exception", .type "BaseException", .type "object"] = true by decide +kernel)⟩, sa := saInvalidNumber, exC := ecInvalidNumber, tyC := tcInvalidNumber, kC := kcInvalidNumber }, ic := icInvalidNumber, ti := tR, no := nvInvalidNumber, xf := ⟨gaInvalidNumber, ggInvalidNumber, ecInvalidNumber, hdInvalidNumber⟩, cl := clInvalidNumber, ha := haInvalidNumber, hn := hn, ht := ht, hm := hmInvalidNumber },
    k_InvalidRoad_InvalidRoad := kit_self _ _,
    k_InvalidRoad_InvalidFraction := kit_not iaInvalidFraction taInvalidFraction sInvalidRoad_InvalidFraction ssInvalidRoad,
    k_InvalidRoad_InvalidMap := kit_not iaInvalidMap taInvalidMap sInvalidRoad_InvalidMap ssInvalidRoad,
    k_InvalidRoad_InvalidBook := kit_not iaInvalidBook taInvalidBook sInvalidRoad_InvalidBook ssInvalidRoad,
    k_InvalidRoad_RoadError := kit_yes iaRoadError taRoadError sInvalidRoad_RoadError,
    k_InvalidRoad_ValueError := kit_typ sInvalidRoad_ValueError (by decide +kernel),
    k_InvalidRoad_InvalidMachine := kit_not iaInvalidMachine taInvalidMachine sInvalidRoad_InvalidMachine ssInvalidRoad,
    k_InvalidRoad_InvalidSquare := kit_not iaInvalidSquare taInvalidSquare sInvalidRoad_InvalidSquare ssInvalidRoad,
    k_InvalidRoad_InvalidNumber := kit_not iaInvalidNumber taInvalidNumber sInvalidRoad_InvalidNumber ssInvalidRoad,
    k_InvalidRoad_InvalidTurn := kit_not iaInvalidTurn taInvalidTurn sInvalidRoad_InvalidTurn ssInvalidRoad,
    k_InvalidRoad_HasEnded := kit_not iaHasEnded taHasEnded sInvalidRoad_HasEnded ssInvalidRoad,
    k_InvalidRoad_NothingToUndo := kit_not iaNothingToUndo taNothingToUndo sInvalidRoad_NothingToUndo ssInvalidRoad,
    k_InvalidRoad_Unreadable := kit_not iaUnreadable taUnreadable sInvalidRoad_Unreadable ssInvalidRoad,
    x_InvalidRoad_RoadError := exm_yes beRoadError iaRoadError taRoadError sInvalidRoad_RoadError,
    k_InvalidFraction_InvalidRoad := kit_not iaInvalidRoad taInvalidRoad sInvalidFraction_InvalidRoad ssInvalidFraction,
    k_InvalidFraction_InvalidFraction := kit_self _ _,
    k_InvalidFraction_InvalidMap := kit_not iaInvalidMap taInvalidMap sInvalidFraction_InvalidMap ssInvalidFraction,
    k_InvalidFraction_InvalidBook := kit_not iaInvalidBook taInvalidBook sInvalidFraction_InvalidBook ssInvalidFraction,
    k_InvalidFraction_RoadError := kit_yes iaRoadError taRoadError sInvalidFraction_RoadError,
    k_InvalidFraction_ValueError := kit_typ sInvalidFraction_ValueError (by decide +kernel),
    k_InvalidFraction_InvalidMachine := kit_not iaInvalidMachine taInvalidMachine sInvalidFraction_InvalidMachine ssInvalidFraction,
    k_InvalidFraction_InvalidSquare := kit_not iaInvalidSquare taInvalidSquare sInvalidFraction_InvalidSquare ssInvalidFraction,
    k_InvalidFraction_InvalidNumber := kit_not iaInvalidNumber taInvalidNumber sInvalidFraction_InvalidNumber ssInvalidFraction,
    k_InvalidFraction_InvalidTurn := kit_not iaInvalidTurn taInvalidTurn sInvalidFraction_InvalidTurn ssInvalidFraction,
    k_InvalidFraction_HasEnded := kit_not iaHasEnded taHasEnded sInvalidFraction_HasEnded ssInvalidFraction,
    k_InvalidFraction_NothingToUndo := kit_not iaNothingToUndo taNothingToUndo sInvalidFraction_NothingToUndo ssInvalidFraction,
    k_InvalidFraction_Unreadable := kit_not iaUnreadable taUnreadable sInvalidFraction_Unreadable ssInvalidFraction,
    x_InvalidFraction_RoadError := exm_yes beRoadError iaRoadError taRoadError sInvalidFraction_RoadError,
    k_InvalidNumber_InvalidRoad := kit_not iaInvalidRoad taInvalidRoad sInvalidNumber_InvalidRoad ssInvalidNumber,
    k_InvalidNumber_InvalidFraction := kit_not iaInvalidFraction taInvalidFraction sInvalidNumber_InvalidFraction ssInvalidNumber,
    k_InvalidNumber_InvalidMap := kit_not iaInvalidMap taInvalidMap sInvalidNumber_InvalidMap ssInvalidNumber,
    k_InvalidNumber_InvalidBook := kit_not iaInvalidBook taInvalidBook sInvalidNumber_InvalidBook ssInvalidNumber,
    k_InvalidNumber_RoadError := kit_yes iaRoadError taRoadError sInvalidNumber_RoadError,
    k_InvalidNumber_ValueError := kit_typ sInvalidNumber_ValueError (by decide +kernel),
    k_InvalidNumber_InvalidMachine := kit_not iaInvalidMachine taInvalidMachine sInvalidNumber_InvalidMachine ssInvalidNumber,
    k_InvalidNumber_InvalidSquare := kit_not iaInvalidSquare taInvalidSquare sInvalidNumber_InvalidSquare ssInvalidNumber,
    k_InvalidNumber_InvalidNumber := kit_self _ _,
    k_InvalidNumber_InvalidTurn := kit_not iaInvalidTurn taInvalidTurn sInvalidNumber_InvalidTurn ssInvalidNumber,
    k_InvalidNumber_HasEnded := kit_not iaHasEnded taHasEnded sInvalidNumber_HasEnded ssInvalidNumber,
    k_InvalidNumber_NothingToUndo := kit_not iaNothingToUndo taNothingToUndo sInvalidNumber_NothingToUndo ssInvalidNumber,
    k_InvalidNumber_Unreadable := kit_not iaUnreadable taUnreadable sInvalidNumber_Unreadable ssInvalidNumber,
    x_InvalidNumber_RoadError := exm_yes beRoadError iaRoadError taRoadError sInvalidNumber_RoadError,
    z_max := PySem.W.mg_none_of X G z0, z_len := PySem.W.mg_none_of X G z1, z_int := PySem.W.mg_none_of X G z2, z_abs := PySem.W.mg_none_of X G z3, z_min := PySem.W.mg_none_of X G z4, z_range := PySem.W.mg_none_of X G z5, z_isinstance := PySem.W.mg_none_of X G z6, z_ValueError := PySem.W.mg_none_of X G z7, z_repr := PySem.W.mg_none_of X G z8, m_gcd := PySem.W.mg_of X G m0
    }, _, _, _, _, _, _, rfl⟩
theorem law_F {l : PySem.W.OpenLaw} (el : l.prog = PySem.Challenge.pw_leftroads_k07_no_roads_no_courses) {w : World} {K : PySem.W.Frag} {mg : Str → Option Value} {fa : Addr} (hfa : mg "law" = some (.ref fa))
    (h : ∃ (T : Tx K mg) (kV dc pm cd ct : Value) (an : Option Addr), T.fd_law = PySem.W.fnOf "law" "law" (defArgs s_law) (defBody s_law) (defScope s_law) .none kV dc pm an cd ct) :
    ∃ fd : FuncData, (∀ (s : Shared) (v : Value), BindsTo s fd ⟨[v], []⟩ [("script", v)]) ∧ ∀ base : Heap, K.In base → base.Ns mainGlobals mg → FnG l.prog w K mg base CX0 9 fa fd ["script"] (sp_law K) := by
  obtain ⟨T, kV, dc, pm, cd, ct, an, e⟩ := h
  have z := hfa.symm.trans T.g_law
  cases z
  refine ⟨T.fd_law, fun s v => ?_, fun base _ _ => ok_law T⟩
  rw [e]
  exact .of_eq rfl
end Lr
open PySem PySem.W PyProof.Rows
set_option maxHeartbeats 0 in
theorem PySem.Challenge.cw_leftroads_k07_no_roads_no_courses_holds : PySem.Challenge.rw_leftroads_k07_no_roads_no_courses.Holds := by
  w_on; o_law; k_head; (case hw => w_witness2)
  k_fill
  refine Lr.walk_ofG (l := PySem.Challenge.rw_leftroads_k07_no_roads_no_courses) (n := 63) (k := 9) (x := "script") (sp := fun w => Lr.sp_law _) rfl (by decide) rfl ⟨rfl, by decide, by decide⟩ (fun w h Y => PySem.W.kIn_of Y) ?F (fun _ _ a ns hl hb hS ho => Lr.law_in (n := 0) hl hb hS ho)
  case F =>
    intro w mg fa h KX G hmg
    refine' Lr.law_F rfl hmg (Lr.mk_tx KX G ?a0 ?l0 ?c0 ?k0 ?a1 ?l1 ?c1 ?k1 ?a2 ?l2 ?c2 ?k2 ?a3 ?l3 ?c3 ?k3 ?a4 ?l4 ?c4 ?k4 ?a5 ?l5 ?c5 ?k5 ?a6 ?l6 ?c6 ?k6 ?a7 ?l7 ?c7 ?k7 ?a8 ?l8 ?c8 ?k8 ?a9 ?l9 ?c9 ?k9 ?a10 ?l10 ?c10 ?k10 ?a11 ?l11 ?c11 ?k11 ?a12 ?l12 ?c12 ?k12 ?a13 ?l13 ?c13 ?k13 ?a14 ?l14 ?c14 ?k14 ?a15 ?l15 ?c15 ?k15 ?a16 ?l16 ?c16 ?k16 ?a17 ?l17 ?c17 ?k17 ?a18 ?l18 ?c18 ?k18 ?a19 ?l19 ?c19 ?k19 ?a20 ?l20 ?c20 ?k20 ?a21 ?l21 ?c21 ?k21 ?a22 ?l22 ?c22 ?k22 ?a23 ?l23 ?c23 ?k23 ?a24 ?l24 ?c24 ?k24 ?a25 ?l25 ?c25 ?k25 ?a26 ?l26 ?c26 ?k26 ?a27 ?l27 ?c27 ?k27 ?a28 ?l28 ?c28 ?k28 ?a29 ?l29 ?c29 ?k29 ?a30 ?l30 ?c30 ?k30 ?a31 ?l31 ?c31 ?k31 ?a32 ?l32 ?c32 ?k32 ?a33 ?l33 ?c33 ?k33 ?a34 ?l34 ?c34 ?k34 ?aCInvalidRoad ?aCInvalidFraction ?aCInvalidNumber ?aCRoadError ?aCInvalidMap ?aCInvalidBook ?aCInvalidMachine ?aCInvalidSquare ?aCInvalidTurn ?aCHasEnded ?aCNothingToUndo ?aCUnreadable ?xLInvalidRoad ?saInvalidRoad ?gaInvalidRoad ?ggInvalidRoad ?nvInvalidRoad ?icInvalidRoad ?kcInvalidRoad ?ecInvalidRoad ?tcInvalidRoad ?hdInvalidRoad ?clInvalidRoad ?haInvalidRoad ?hmInvalidRoad ?tR ?lR ?cR ?kR ?hn ?ht ?xLInvalidFraction ?saInvalidFraction ?gaInvalidFraction ?ggInvalidFraction ?nvInvalidFraction ?icInvalidFraction ?kcInvalidFraction ?ecInvalidFraction ?tcInvalidFraction ?hdInvalidFraction ?clInvalidFraction ?haInvalidFraction ?hmInvalidFraction ?xLInvalidNumber ?saInvalidNumber ?gaInvalidNumber ?ggInvalidNumber ?nvInvalidNumber ?icInvalidNumber ?kcInvalidNumber ?ecInvalidNumber ?tcInvalidNumber ?hdInvalidNumber ?clInvalidNumber ?haInvalidNumber ?hmInvalidNumber ?iaInvalidRoad ?taInvalidRoad ?iaInvalidFraction ?taInvalidFraction ?iaInvalidMap ?taInvalidMap ?iaInvalidBook ?taInvalidBook ?iaRoadError ?taRoadError ?iaInvalidMachine ?taInvalidMachine ?iaInvalidSquare ?taInvalidSquare ?iaInvalidNumber ?taInvalidNumber ?iaInvalidTurn ?taInvalidTurn ?iaHasEnded ?taHasEnded ?iaNothingToUndo ?taNothingToUndo ?iaUnreadable ?taUnreadable ?beRoadError ?ssInvalidRoad ?sInvalidRoad_InvalidFraction ?sInvalidRoad_InvalidMap ?sInvalidRoad_InvalidBook ?sInvalidRoad_RoadError ?sInvalidRoad_ValueError ?sInvalidRoad_InvalidMachine ?sInvalidRoad_InvalidSquare ?sInvalidRoad_InvalidNumber ?sInvalidRoad_InvalidTurn ?sInvalidRoad_HasEnded ?sInvalidRoad_NothingToUndo ?sInvalidRoad_Unreadable ?ssInvalidFraction ?sInvalidFraction_InvalidRoad ?sInvalidFraction_InvalidMap ?sInvalidFraction_InvalidBook ?sInvalidFraction_RoadError ?sInvalidFraction_ValueError ?sInvalidFraction_InvalidMachine ?sInvalidFraction_InvalidSquare ?sInvalidFraction_InvalidNumber ?sInvalidFraction_InvalidTurn ?sInvalidFraction_HasEnded ?sInvalidFraction_NothingToUndo ?sInvalidFraction_Unreadable ?ssInvalidNumber ?sInvalidNumber_InvalidRoad ?sInvalidNumber_InvalidFraction ?sInvalidNumber_InvalidMap ?sInvalidNumber_InvalidBook ?sInvalidNumber_RoadError ?sInvalidNumber_ValueError ?sInvalidNumber_InvalidMachine ?sInvalidNumber_InvalidSquare ?sInvalidNumber_InvalidTurn ?sInvalidNumber_HasEnded ?sInvalidNumber_NothingToUndo ?sInvalidNumber_Unreadable ?z0 ?z1 ?z2 ?z3 ?z4 ?z5 ?z6 ?z7 ?z8 ?m0)
    (case a0 => k_is)
    (case l0 => k_is)
    (case c0 => k_is)
    (case k0 => k_is)
    (case a1 => k_is)
    (case l1 => k_is)
    (case c1 => k_is)
    (case k1 => k_is)
    (case a2 => k_is)
    (case l2 => k_is)
    (case c2 => k_is)
    (case k2 => k_is)
    (case a3 => k_is)
    (case l3 => k_is)
    (case c3 => k_is)
    (case k3 => k_is)
    (case a4 => k_is)
    (case l4 => k_is)
    (case c4 => k_is)
    (case k4 => k_is)
    (case a5 => k_is)
    (case l5 => k_is)
    (case c5 => k_is)
    (case k5 => k_is)
    (case a6 => k_is)
    (case l6 => k_is)
    (case c6 => k_is)
    (case k6 => k_is)
    (case a7 => k_is)
    (case l7 => k_is)
    (case c7 => k_is)
    (case k7 => k_is)
    (case a8 => k_is)
    (case l8 => k_is)
    (case c8 => k_is)
    (case k8 => k_is)
    (case a9 => k_is)
    (case l9 => k_is)
    (case c9 => k_is)
    (case k9 => k_is)
    (case a10 => k_is)
    (case l10 => k_is)
    (case c10 => k_is)
    (case k10 => k_is)
    (case a11 => k_is)
    (case l11 => k_is)
    (case c11 => k_is)
    (case k11 => k_is)
    (case a12 => k_is)
    (case l12 => k_is)
    (case c12 => k_is)
    (case k12 => k_is)
    (case a13 => k_is)
    (case l13 => k_is)
    (case c13 => k_is)
    (case k13 => k_is)
    (case a14 => k_is)
    (case l14 => k_is)
    (case c14 => k_is)
    (case k14 => k_is)
    (case a15 => k_is)
    (case l15 => k_is)
    (case c15 => k_is)
    (case k15 => k_is)
    (case a16 => k_is)
    (case l16 => k_is)
    (case c16 => k_is)
    (case k16 => k_is)
    (case a17 => k_is)
    (case l17 => k_is)
    (case c17 => k_is)
    (case k17 => k_is)
    (case a18 => k_is)
    (case l18 => k_is)
    (case c18 => k_is)
    (case k18 => k_is)
    (case a19 => k_is)
    (case l19 => k_is)
    (case c19 => k_is)
    (case k19 => k_is)
    (case a20 => k_is)
    (case l20 => k_is)
    (case c20 => k_is)
    (case k20 => k_is)
    (case a21 => k_is)
    (case l21 => k_is)
    (case c21 => k_is)
    (case k21 => k_is)
    (case a22 => k_is)
    (case l22 => k_is)
    (case c22 => k_is)
    (case k22 => k_is)
    (case a23 => k_is)
    (case l23 => k_is)
    (case c23 => k_is)
    (case k23 => k_is)
    (case a24 => k_is)
    (case l24 => k_is)
    (case c24 => k_is)
    (case k24 => k_is)
    (case a25 => k_is)
    (case l25 => k_is)
    (case c25 => k_is)
    (case k25 => k_is)
    (case a26 => k_is)
    (case l26 => k_is)
    (case c26 => k_is)
    (case k26 => k_is)
    (case a27 => k_is)
    (case l27 => k_is)
    (case c27 => k_is)
    (case k27 => k_is)
    (case a28 => k_is)
    (case l28 => k_is)
    (case c28 => k_is)
    (case k28 => k_is)
    (case a29 => k_is)
    (case l29 => k_is)
    (case c29 => k_is)
    (case k29 => k_is)
    (case a30 => k_is)
    (case l30 => k_is)
    (case c30 => k_is)
    (case k30 => k_is)
    (case a31 => k_is)
    (case l31 => k_is)
    (case c31 => k_is)
    (case k31 => k_is)
    (case a32 => k_is)
    (case l32 => k_is)
    (case c32 => k_is)
    (case k32 => k_is)
    (case a33 => k_is)
    (case l33 => k_is)
    (case c33 => k_is)
    (case k33 => k_is)
    (case a34 => k_is)
    (case l34 => k_is)
    (case c34 => k_is)
    (case k34 => k_is)
    (case aCInvalidRoad => k_is)
    (case aCInvalidFraction => k_is)
    (case aCInvalidNumber => k_is)
    (case aCRoadError => k_is)
    (case aCInvalidMap => k_is)
    (case aCInvalidBook => k_is)
    (case aCInvalidMachine => k_is)
    (case aCInvalidSquare => k_is)
    (case aCInvalidTurn => k_is)
    (case aCHasEnded => k_is)
    (case aCNothingToUndo => k_is)
    (case aCUnreadable => k_is)
    (case xLInvalidRoad => k_is)
    (case saInvalidRoad => k_is)
    (case gaInvalidRoad => k_is)
    (case ggInvalidRoad => k_is)
    (case nvInvalidRoad => k_is)
    (case icInvalidRoad => k_is)
    (case kcInvalidRoad => k_is)
    (case ecInvalidRoad => k_is)
    (case tcInvalidRoad => k_is)
    (case hdInvalidRoad => k_is)
    (case clInvalidRoad => k_is)
    (case haInvalidRoad => k_is)
    (case hmInvalidRoad => k_is)
    (case tR => k_is)
    (case lR => k_is)
    (case cR => k_is)
    (case kR => k_is)
    (case hn => k_is)
    (case ht => k_is)
    (case xLInvalidFraction => k_is)
    (case saInvalidFraction => k_is)
    (case gaInvalidFraction => k_is)
    (case ggInvalidFraction => k_is)
    (case nvInvalidFraction => k_is)
    (case icInvalidFraction => k_is)
    (case kcInvalidFraction => k_is)
    (case ecInvalidFraction => k_is)
    (case tcInvalidFraction => k_is)
    (case hdInvalidFraction => k_is)
    (case clInvalidFraction => k_is)
    (case haInvalidFraction => k_is)
    (case hmInvalidFraction => k_is)
    (case xLInvalidNumber => k_is)
    (case saInvalidNumber => k_is)
    (case gaInvalidNumber => k_is)
    (case ggInvalidNumber => k_is)
    (case nvInvalidNumber => k_is)
    (case icInvalidNumber => k_is)
    (case kcInvalidNumber => k_is)
    (case ecInvalidNumber => k_is)
    (case tcInvalidNumber => k_is)
    (case hdInvalidNumber => k_is)
    (case clInvalidNumber => k_is)
    (case haInvalidNumber => k_is)
    (case hmInvalidNumber => k_is)
    (case iaInvalidRoad => k_is)
    (case taInvalidRoad => k_is)
    (case iaInvalidFraction => k_is)
    (case taInvalidFraction => k_is)
    (case iaInvalidMap => k_is)
    (case taInvalidMap => k_is)
    (case iaInvalidBook => k_is)
    (case taInvalidBook => k_is)
    (case iaRoadError => k_is)
    (case taRoadError => k_is)
    (case iaInvalidMachine => k_is)
    (case taInvalidMachine => k_is)
    (case iaInvalidSquare => k_is)
    (case taInvalidSquare => k_is)
    (case iaInvalidNumber => k_is)
    (case taInvalidNumber => k_is)
    (case iaInvalidTurn => k_is)
    (case taInvalidTurn => k_is)
    (case iaHasEnded => k_is)
    (case taHasEnded => k_is)
    (case iaNothingToUndo => k_is)
    (case taNothingToUndo => k_is)
    (case iaUnreadable => k_is)
    (case taUnreadable => k_is)
    (case beRoadError => k_is)
    (case ssInvalidRoad => k_is)
    (case sInvalidRoad_InvalidFraction => k_is)
    (case sInvalidRoad_InvalidMap => k_is)
    (case sInvalidRoad_InvalidBook => k_is)
    (case sInvalidRoad_RoadError => k_is)
    (case sInvalidRoad_ValueError => k_is)
    (case sInvalidRoad_InvalidMachine => k_is)
    (case sInvalidRoad_InvalidSquare => k_is)
    (case sInvalidRoad_InvalidNumber => k_is)
    (case sInvalidRoad_InvalidTurn => k_is)
    (case sInvalidRoad_HasEnded => k_is)
    (case sInvalidRoad_NothingToUndo => k_is)
    (case sInvalidRoad_Unreadable => k_is)
    (case ssInvalidFraction => k_is)
    (case sInvalidFraction_InvalidRoad => k_is)
    (case sInvalidFraction_InvalidMap => k_is)
    (case sInvalidFraction_InvalidBook => k_is)
    (case sInvalidFraction_RoadError => k_is)
    (case sInvalidFraction_ValueError => k_is)
    (case sInvalidFraction_InvalidMachine => k_is)
    (case sInvalidFraction_InvalidSquare => k_is)
    (case sInvalidFraction_InvalidNumber => k_is)
    (case sInvalidFraction_InvalidTurn => k_is)
    (case sInvalidFraction_HasEnded => k_is)
    (case sInvalidFraction_NothingToUndo => k_is)
    (case sInvalidFraction_Unreadable => k_is)
    (case ssInvalidNumber => k_is)
    (case sInvalidNumber_InvalidRoad => k_is)
    (case sInvalidNumber_InvalidFraction => k_is)
    (case sInvalidNumber_InvalidMap => k_is)
    (case sInvalidNumber_InvalidBook => k_is)
    (case sInvalidNumber_RoadError => k_is)
    (case sInvalidNumber_ValueError => k_is)
    (case sInvalidNumber_InvalidMachine => k_is)
    (case sInvalidNumber_InvalidSquare => k_is)
    (case sInvalidNumber_InvalidTurn => k_is)
    (case sInvalidNumber_HasEnded => k_is)
    (case sInvalidNumber_NothingToUndo => k_is)
    (case sInvalidNumber_Unreadable => k_is)
    (case z0 => k_is)
    (case z1 => k_is)
    (case z2 => k_is)
    (case z3 => k_is)
    (case z4 => k_is)
    (case z5 => k_is)
    (case z6 => k_is)
    (case z7 => k_is)
    (case z8 => k_is)
    (case m0 => k_is)
