import PyProof.Rows.All
import Wide.All
import OpenK.AllK
import Wide.FinOn
import KE.KStateDown
import Lean
import HandS.ForMost
import HandS.Exc
import HandS.WordsExc
import HandS.Defaults
import HandS.Head0
import HandS.Head1
import HandS.Head2
import HandS.HeadEnd
import HandS.EndBits
import HandS.HeadHook1
import HandS.HeadHook2
import HandS.HeadHook4
import HandS.IsInst
import HandS.Property
import HandS.Conv
import HandS.SortInts
import PyProof.ReprRoads
import KE.GoesEnum
import PyProof.ReprLen
import PyProof.FitsInt
import HandS.RaiseMore
import HandS.Rev
import HandS.TupAny
import HandS.TupLe
import HandS.Zip
import HandS.WideBits
import HandS.Wide
import HandS.OwnEq
import KE.KCallOwn
import HandS.SetFor
import HandS.Strs
import PyProof.Rows.SortShellAny
import HandS.Gcd
import PyProof.StrLawsRepr
import PyProof.NeData
import PySem.Challenge.RW_mintlots_k17_whole_single_sums
set_option Elab.async false
set_option linter.all false
set_option maxRecDepth 100000
set_option maxHeartbeats 0
/-! Own layer: promises of defs that are kept where no guard stands around (repr of lists and tuples wants that). -/
namespace MG
open PySem PySem.Spec PyProof.Rows L2
/-- like a promise of the layer, asked for only where no guard is set -/
structure GFn (P : Program) (w : World) (K : PySem.W.Frag) (mg : Str → Option Value) (base : Heap) (C : CXT) (n : Nat) (g : Addr) (dat : FuncData) (pars : List Str) (pr : Sp) : Prop where
  lng : ∀ a b c d, pr a b c d → a.length = pars.length
  does : ∀ (A : Around) (out : List Env) (s : Shared) (H : Hp) (ar : Args) (us : List Value) (vs : List V) (Q : VK) (E : XK),
    Room n A → A.guards = some [] → Env0 P w K mg base A out s H → BindsTo s dat ar (pars.zip us) → Vals vs us → pr vs H Q E →
      codeAny (model P w) A (.call (.ref g) ar) (CR C out P w H s Q E) s
theorem GFn.of {P : Program} {w : World} {K : PySem.W.Frag} {mg : Str → Option Value} {base : Heap} {C : CXT} {n : Nat} {g : Addr} {dat : FuncData} {pars : List Str} {pr : Sp}
    (F : FnOk P w K mg base C n g dat pars pr) : GFn P w K mg base C n g dat pars pr :=
  ⟨F.len, fun A out s H ar us vs Q E h1 _ h2 h3 h4 h5 => F.run A out s H ar us vs Q E h1 h2 h3 h4 h5⟩
theorem deeper_guards {A : Around} {env : Env} (h : A.guards = some []) : (A.deeper env).guards = some [] := by
  first
    | exact h
    | simpa [Around.deeper] using h
section
variable {X : Cx} {C : CXT} {n : Nat} {g : Addr} {dat : FuncData} {pars : List Str} {pr : Sp} {dvs : List V} {ds : List Value} {E : XK} {x : Str} {p pos : Pos} {e : Expr} {es : List Expr} {t : TA}
theorem does_fn {pins : List (Addr × Obj)} {σ : L2.St} {H : Hp} {s : Shared} {Q : VK} {us : List Value} {vs : List V}
    (F : GFn X.prog X.w X.K X.mg X.base C n g dat pars pr) (rm : Room n X.A) (hg : X.A.guards = some []) (hb : Binds X.K dat pars ds) (hd : Vals dvs ds) (hx : Passes C X E)
    (I : Inv X pins σ H s) (r : Vals vs us) (h : pr (vs ++ dvs) H Q E) :
    wpAny (model X.prog X.w) X.A (call (.ref g) us) (EP X pins σ Q) X.xe s := by
  have both : Vals (vs ++ dvs) (us ++ ds) := Vals.append r hd
  have hl : (us ++ ds).length = pars.length := (both.length).symm.trans (F.lng _ _ _ _ h)
  have go := F.does X.A X.stack s H ⟨us, []⟩ (us ++ ds) (vs ++ dvs) Q E rm hg I.env0 (hb s us I.kIn hl) both h
  refine wpAny_call (codeAny_mono go ?_)
  intro res s' hq
  match res, hq with
  | .error er, hq => exact hx pins σ H s er s' I hq
  | .ok (.ret u), hq => exact I.after hq
  | .ok .next, hq => exact hq.elim
  | .ok .brk, hq => exact hq.elim
  | .ok .cont, hq => exact hq.elim
theorem pe_callG (F : GFn X.prog X.w X.K X.mg X.base C n g dat pars pr) (rm : Room n X.A) (hgu : X.A.guards = some []) (hg : Gl X x) (hm : X.mg x = some (.ref g)) (hk : PySem.W.keepIn X.K (.ref g) = true)
    (hb : Binds X.K dat pars ds) (hd : Vals dvs ds) (hx : Passes C X E) (ha : PA X (e :: es) t)
    (hdb : (x == ("__debug__" : Str)) = false := by decide) (he : starEach (e :: es) X.env = (false, eval e X.env) :: starEach es X.env := by rfl)
    (hpl : (backTo pos (starEach es X.env)).any (·.1) = false := by rfl) :
    PE X (.Call (.Name x p) (e :: es) [] pos) (tCall pr dvs E t) :=
  ⟨fun pins s σ H Q I h => wpAny_Call_Name_kw (ld_glob I hg hm
    (PySem.W.callWith_K (h₀ := X.base) I.ok.mod.kin hk
      (thn (ha.run pos pins s σ H _ I h) fun us s1 ⟨vs, H1, I1, r, q⟩ => ⟨I1.kIn, does_fn F rm hgu hb hd hx I1 r q⟩) he hpl) hdb)⟩
theorem pe_callG0 (F : GFn X.prog X.w X.K X.mg X.base C n g dat pars pr) (rm : Room n X.A) (hgu : X.A.guards = some []) (hg : Gl X x) (hm : X.mg x = some (.ref g)) (hk : PySem.W.keepIn X.K (.ref g) = true)
    (hb : Binds X.K dat pars ds) (hd : Vals dvs ds) (hx : Passes C X E)
    (hdb : (x == ("__debug__" : Str)) = false := by decide) : PE X (.Call (.Name x p) [] [] pos) (tCall pr dvs E tNil) :=
  ⟨fun pins s σ H Q I h => wpAny_Call_Name_kw (ld_glob I hg hm
    (PySem.W.callWith_K0 I.kIn hk (does_fn (us := []) F rm hgu hb hd hx I .nil h)) hdb)⟩
/-- repr of a list or a tuple of data -/
def rRepr (K : PySem.W.Frag) : List V → Hp → VK → Prop := fun xs H Q => ∃ (a : Addr) (d : PyData), xs = [.ref a] ∧ Dp K H (.ref a) d ∧ d.showable = true ∧ d.hasDict = false ∧ d.depth < 100 ∧ d.shown.length ≤ sizeLine ∧ Q (.str d.shown) H
theorem call_reprD (hg : X.A.guards = some []) (rm : Room n X.A) : CallR X (.builtin "repr") (rRepr X.K) := by
  intro pins s σ H xs us Q I r h
  obtain ⟨a, d, rfl, hd, hs, hdi, hdep, hsz, q⟩ := h
  obtain ⟨u, rfl, rx⟩ := vals1 r
  cases (show u = Value.ref a from rx)
  obtain ⟨as, rd⟩ := Dp.reads I d (.ref a) (.ref a) hd rfl
  have hu : X.A.units + (d.depth + 1) < cLine := by
    have z := rm.un
    omega
  exact repr_of_reads' rd hs (fun z => absurd (hdi.symm.trans z) (by decide)) hg hu (fun _ _ z => z)
    (fun h' u tk hk => ⟨.str d.shown, H, I.kept hk, ⟨_, rfl⟩, q⟩) hsz
end
section
variable {P : Program} {w : World} {K : PySem.W.Frag} {mg : Str → Option Value} {base : Heap} {nm qual : Str} {params : Arguments} {body : List Stmt} {scope : Scope} {dvs : List V} {kws : List (Str × V)} {f : Addr} {fd : FuncData}
theorem okG {C : CXT} {N ps : List Str} {k : Nat} {sp : Sp} (F : FunD K nm qual params body scope dvs kws f fd) (S : FnScope N ps scope)
    (lng : ∀ a b c d, sp a b c d → a.length = ps.length)
    (hbody : ∀ (cdv : Value) (A : Around) (outer : List Env) (s : Shared) (H : Hp) (vs : List V) (Q : VK) (E : XK),
      Room k (A.deeper (envOfC qual scope s.heap.objs.size f cdv)) → (A.deeper (envOfC qual scope s.heap.objs.size f cdv)).guards = some [] → sp vs H Q E →
      ∃ t, PSs (cxOf C P w K mg base N qual scope f cdv A outer s H E) body t ∧ t { nx := fun _ H' => Q .non H', rt := Q } (start N vs) H) :
    GFn P w K mg base C (k + 1) f fd ps sp := by
  obtain ⟨oc, od, dV, kV, doc, pm, an, cdv, ct, osl, rfl, lk, hcd, _, _⟩ := F.ex
  refine ⟨lng, ?_⟩
  intro A outer s H args us vs Q E rm gu e0 hb r hsp
  have hl := lng _ _ _ _ hsp
  have KX : K.In s.heap := e0.mod.kin.keeps fun b o z => (e0.bs b o z).1
  have lim : s.heap.NoLimit := e0.mod.nolimit.keeps fun b o z => (e0.bs b o z).1
  have kinds : ∀ y ∈ ps.zip us, scope.names.lookup y.1 = some .local ∨
      (scope.names.lookup y.1 = some .cell ∧ ((cellsFrom (s.heap.objs.size + 1) scope.names []).lookup y.1).isSome = true) := by
    rintro ⟨n, v⟩ hy
    rcases S.par n (List.of_mem_zip hy).1 with q | q
    · exact Or.inl q
    · exact Or.inr ⟨q, PySem.W.cellsFrom_some _ _ _ (Or.inl q)⟩
  refine codeAny_call_function rm.depth (KX _ _ lk) rfl S.co S.gen rfl (PySem.W.codeRec_of KX hcd) (hb _ _ _ _ ?_)
  refine wpAny_newFunctionEnv_cells S.kind kinds ?_
  intro env he s1 x
  subst he
  refine ⟨lim.keeps x.toInCall.keep, codeAny_func ?_⟩
  obtain ⟨t, ht, hq⟩ := hbody cdv A outer s H vs Q E (rm.deeper _) (deeper_guards gu) hsp
  have I : Inv (cxOf C P w K mg base N qual scope f cdv A outer s H E) [] (start N vs) H s1 := inv_start S rm.hd e0 hl r x
  refine wpAny_mono (ht.run [] s1 (start N vs) H _ I hq) ?_ (fun _ _ z => z)
  intro fl s' hs
  match fl, hs with
  | .ret u, hs =>
    obtain ⟨v, σ', H', J, rv, q⟩ := hs
    exact ⟨v, H', J.os, J.bare, J.base, J.hok, rv, q⟩
  | .next, hs =>
    obtain ⟨σ', H', J, q⟩ := hs
    exact ⟨V.non, H', J.os, J.bare, J.base, J.hok, rfl, q⟩
  | .brk, hs =>
    obtain ⟨_, _, _, q⟩ := hs
    exact q.elim
  | .cont, hs =>
    obtain ⟨_, _, _, q⟩ := hs
    exact q.elim
end
/-- the law's own call, its promise kept where no guard stands -/
theorem law_go {P : Program} {w : World} {K : PySem.W.Frag} {mg mb : Str → Option Value} {C : CXT} {k : Nat} {fa a : Addr} {fd : FuncData} {x : Str} {sp : Sp} {s : Shared} {vs : List Value} {ns : List Int}
    (KX : K.In s.heap) (hns : s.heap.Ns mainGlobals mg) (hb : s.heap.Ns builtinsNs mb) (hbb : ∀ y : Str, y ≠ "__name__" → mb y = bootBuiltins y) (hlim : s.heap.NoLimit) (hg : s.gens = #[])
    (ha : s.heap.get? a = some { cls := .type "list", data := .seq vs.toArray }) (hi : IntsAre vs ns) (hl : ns.length ≤ sizeLine) (rm : Room k callerA)
    (F : ∀ base : Heap, K.In base → base.Ns mainGlobals mg → GFn P w K mg base C k fa fd [x] sp) (hbind : ∀ (s : Shared) (u : Value), BindsTo s fd ⟨[u], []⟩ [(x, u)])
    (hsp : ∀ H : Hp, Only H → SqL K H a (ns.map V.int) → sp [.ref a] H (fun v _ => v = .bl true) fun _ _ _ => False)
    (hC : ∀ H e s', C [] H s (fun _ _ _ => False) e s' → False) :
    codeAny (model P w) callerA (.call (.ref fa) ⟨[.ref a], []⟩) (fun r s' => r = .ok (.ret (.bool true)) ∧ OldK s.heap s'.heap ∧ s'.os = s.os ∧ AllBare s'.gens) s := by
  have rv := vals_ints hi
  have core : ∀ H : Hp, Only H → SqL K H a (ns.map V.int) → HOk P w H s.heap → (∀ b, H b ≠ none → b = a) → (H a ≠ none → K.lookup a = none) →
      codeAny (model P w) callerA (.call (.ref fa) ⟨[.ref a], []⟩) (fun r s' => r = .ok (.ret (.bool true)) ∧ OldK s.heap s'.heap ∧ s'.os = s.os ∧ AllBare s'.gens) s := by
    intro H hO hS hok hA hK
    have noA : ∀ {b : Addr} {o : Obj} {es : Array DictEntry} {ep : Nat}, s.heap.get? b = some o → o.data = .dict es ep → H b = none := by
      intro b o es ep e d
      match q : H b with
      | none => rfl
      | some u =>
        obtain rfl : b = a := hA b (by rw [q]; simp)
        rw [ha] at e
        cases e
        exact nomatch (show Data.seq vs.toArray _ = Data.dict es ep from d)
    have nsK : ∀ {b : Addr} {m : Str → Option Value}, s.heap.Ns b m → (hidT s.heap H).Ns b m := by
      rintro b m ⟨o, es, ep, e, d, r⟩
      exact ⟨o, es, ep, hidT_get e (noA e d), d, r⟩
    have hKb : K.In (hidT s.heap H) := by
      intro b o e
      refine hidT_get (KX b o e) ?_
      match q : H b with
      | none => rfl
      | some u =>
        obtain rfl : b = a := hA b (by rw [q]; simp)
        rw [hK (by rw [q]; simp)] at e
        cases e
    have hM : Mod K mg (hidT s.heap H) := by
      obtain ⟨mc, h1, h2⟩ := hlim
      exact ⟨hKb, nsK hns, ⟨mb, nsK hb, hbb⟩, ⟨mc, nsK h1, h2⟩⟩
    have e0 : Env0 P w K mg (hidT s.heap H) callerA [] s H :=
      ⟨rfl, hM, fun b o e => of_hidT e, Nat.le_of_eq (hidT_size _ _), trivial, fun b hb => absurd (show b ∈ ([] : List Addr) from hb) (by simp), hok, .of_eq hg⟩
    have go := (F _ hKb (nsK hns)).does callerA [] s H ⟨[.ref a], []⟩ [.ref a] [.ref a] _ _ rm rfl e0 (hbind s (.ref a)) (.cons rfl .nil) (hsp H hO hS)
    refine codeAny_mono go ?_
    intro r s' h
    match r, h with
    | .error e, h => exact (hC H e s' h).elim
    | .ok .next, h => exact h.elim
    | .ok .brk, h => exact h.elim
    | .ok .cont, h => exact h.elim
    | .ok (.ret u), h =>
      obtain ⟨v, H', os, bare, un, hok', r', q⟩ := h
      obtain rfl : v = .bl true := q
      obtain rfl : u = Value.bool true := r'
      refine ⟨rfl, OldK.of_keep ?_, os, bare⟩
      intro b o e
      match q : H b with
      | none => exact un.keep b o e q (fun z => absurd (show b ∈ ([] : List Addr) from z) (by simp)) (by simp)
      | some u =>
        rcases hO b with z | ⟨ob, xs, z⟩
        · rw [q] at z
          cases z
        · have e1 := (hok b _ z).1
          have e2 := (hok' b _ (un.frzs b ob _ z)).1
          rw [e] at e1
          cases e1
          exact e2
  match hk : K.lookup a with
  | some o =>
    have e := KX a o hk
    rw [ha] at e
    cases e
    refine core (fun _ => none) (fun _ => .inl rfl) ?_ (fun b u z => nomatch (show (none : Option HO) = some u from z)) (fun b z => absurd rfl z) fun z => absurd rfl z
    exact .inr ⟨_, vs.toArray, _, hk, rfl, rfl, rfl, by rw [List.size_toArray, hi.length]; exact hl, by simpa using rv⟩
  | none =>
    refine core (fun b => if b = a then some (.frz { cls := .type "list", data := .seq vs.toArray } (.lst (ns.map V.int))) else none) ?_ (.inl (.inr ⟨_, if_pos rfl⟩)) ?_ ?_ fun _ => hk
    · intro b
      by_cases hb : b = a
      · exact .inr ⟨_, _, if_pos hb⟩
      · exact .inl (if_neg hb)
    · intro b u z
      by_cases hb : b = a
      · have z' := (if_pos hb).symm.trans z
        cases z'
        subst hb
        exact ⟨ha, (List.length_map (as := ns) V.int).symm ▸ hl, vs, _, rv, ha⟩
      · exact nomatch (if_neg hb).symm.trans z
    · intro b z
      by_cases hb : b = a
      · exact hb
      · exact absurd (if_neg hb) z
theorem law_end {l : PySem.W.OpenLaw} {n k : Nat} {q : Program} {loose : List Str} {XP : (Str → Option Value) → Heap → Prop} {YP : World → Heap → Prop} {d : DefRec} {C : CXT} {x : Str}
    (hn : l.most = some n) (hn2 : n ≤ sizeLine) (hdf : d.params.defaults = []) (rm : Room k callerA)
    (F : ∀ (w : World) (mg : Str → Option Value) (fa : Addr) (h : Heap), YP w h → h.Ns mainGlobals mg → mg d.name = some (.ref fa) →
      ∃ (K : PySem.W.Frag) (fd : FuncData) (sp : Sp), K.In h ∧ (∀ (s : Shared) (u : Value), BindsTo s fd ⟨[u], []⟩ [(x, u)]) ∧
        (∀ (H : Hp) (a : Addr) (ns : List Int), ns.length ≤ n → (∀ i : Int, i ∈ ns → Builtin.Int.intBits i ≤ 1048576) → Only H → SqL K H a (ns.map V.int) → sp [.ref a] H (fun v _ => v = .bl true) fun _ _ _ => False) ∧
        ∀ base : Heap, K.In base → base.Ns mainGlobals mg → GFn l.prog w K mg base C k fa fd [x] sp)
    (hC : ∀ (H : Hp) (s : Shared) (e : Value) (s' : Shared), C [] H s (fun _ _ _ => False) e s' → False) :
    PySem.W.WalkO q loose XP YP l.row.toRowW d [] (fun f vs => PySem.call f vs) := by
  refine Att.attach_callB hn hdf ?_
  intro w s₀ s₁ mg mb fa o pm cd doc a vs ns G Y ho hd hcd hmg hobj hints hlen hbits hg
  obtain ⟨K, fd, sp, KX, hb, hsp, hF⟩ := F w mg fa _ Y G.T.g hmg
  refine law_go KX G.T.g G.T.b G.T.builtins G.T.nolimit hg hobj hints (Nat.le_trans hlen hn2) rm hF hb ?_ fun H e s' => hC H s₁ e s'
  intro H hO hS
  exact hsp H a ns hlen hbits hO hS
end MG

/-! enumerate of a tuple -/
namespace MG
open PySem PySem.Spec PyProof.Rows L2
theorem enum_new1 {v : Value} {o : Obj} {G : Heap → Prop} (B : Begins v o G) :
    Meets (Builtin.«enumerate.__new__» ⟨[.type "enumerate", v], []⟩) (fun _ R s => G s.heap ∧
      R (.ok (.ret (.ref (s.heap.push o).objs.size)))
        { s with heap := (s.heap.push o).push { cls := .type "enumerate", data := .fields #[.none, .bool false, .ref s.heap.objs.size, rawInt 0, .none, .none] } }) := by
  refine Meets.of_wp ?_
  intro prog w A R s h
  obtain ⟨hp, g, d, tk, os⟩ := s
  obtain ⟨h1, h⟩ := h
  have sub := PySem.sub_enumerate
  have it : ∀ {A' : Around} {E : Value → Shared → Prop} {Q : Value → Shared → Prop}, Q (.ref hp.objs.size) ⟨hp.push o, g, d, tk, os⟩ → wpAny (model prog w) A' (pyIter v) Q E ⟨hp, g, d, tk, os⟩ :=
    fun {_ _ _} q => B.iter prog w _ _ ⟨hp, g, d, tk, os⟩ _ h1 q
  wp_walk using it
  refine wpAny_stack_any fun st => wpAny_pure ?_
  split
  · rename_i c _ _ _ _ _
    cases (c == Value.type "enumerate") <;> (wp_walk using it; exact ⟨_, rfl, h⟩)
  · (wp_walk using it; exact ⟨_, rfl, h⟩)
section
variable {prog : Program} {w : World} {A : Around} {E : Value → Shared → Prop} {s : Shared}
theorem enum_call1 {v : Value} {o : Obj} {G : Heap → Prop} {Q : Value → Shared → Prop} (B : Begins v o G) (h1 : G s.heap)
    (h : ∀ h', IsEnum h' (s.heap.objs.size + 1) s.heap.objs.size 0 .none → h'.get? s.heap.objs.size = some o →
      (∀ b o, s.heap.get? b = some o → h'.get? b = some o) → Q (.ref (s.heap.objs.size + 1)) { s with heap := h' }) :
    wpAny (model prog w) A (call (.type "enumerate") [v]) Q E s := by
  refine callType_new F.called_enumerate (by decide) (F.typeCall_enumerate_1 _) (F.newCall_enumerate_1 _) (fun obj => F.args_object_init_2 obj _) F.entry_enumerate_new (enum_new1 B) ⟨h1, ?_⟩
  have hz : (s.heap.push o).objs.size = s.heap.objs.size + 1 := Heap.size_push ..
  have he := Heap.get?_push_size (s.heap.push o) (o := { cls := .type "enumerate", data := .fields #[.none, .bool false, .ref s.heap.objs.size, rawInt 0, .none, .none] }) rfl
  show _ ∧ _
  rw [hz] at he ⊢
  exact ⟨⟨_, he, rfl⟩, h _ he (Heap.get?_push_of_some _ (Heap.get?_push_size _ B.free)) fun b o x => Heap.get?_push_of_some _ (Heap.get?_push_of_some _ x)⟩
end
/-- a tuple that stands, its items numbered, each in a new pair -/
def Iet (K : PySem.W.Frag) (a : Addr) (xs : List V) : It where
  go := fun i H => SqT K H a xs ∧ i < xs.length
  yld := fun i H v H' => ∃ T x, v = .ref T ∧ H T = none ∧ H' = upd H T (.tup [.int (i : Nat), x]) ∧ xs[i]? = some x
  stop := fun i H => SqT K H a xs ∧ xs.length = i
theorem turn_et {P : Program} {w : World} {K : PySem.W.Frag} {elts : List Expr} {kk : Nat} {tpos : Pos} (a e it : Addr) (xs : List V) :
    Turn P w K (.Tuple elts kk tpos) (Iet K a xs) [e, it] e (fun i h => (∃ old, IsEnum h e it ((i : Nat) : Int) old) ∧ h.IsTupleIter it a i ∧ e ≠ it) where
  mem := by simp
  obj := by
    rintro i h ⟨⟨old, he⟩, ⟨o, ho, hc, hd⟩, _⟩ b hb
    rcases (show b = e ∨ b = it by simpa using hb) with z | z
    · rw [z]
      exact ⟨_, he, fun v q => nomatch q⟩
    · exact ⟨o, by rw [z]; exact ho, fun v q => by rw [hd] at q; cases q⟩
  keep := by
    rintro i h h' ⟨⟨old, he⟩, hi, hne⟩ k
    exact ⟨⟨old, k e (by simp) _ he⟩, hi.at fun o q => k it (by simp) o q, hne⟩
  item := by
    intro X hP hw hK hc i pins s σ H E I hf st hgo
    subst hP hw hK
    obtain ⟨⟨old, he⟩, hit, hne⟩ := st
    obtain ⟨hq, hi⟩ := hgo
    obtain ⟨its, rv, p, hz⟩ := I.tuple hq
    have hln := rv.length
    have hel : e < s.heap.objs.size := Heap.lt_size he
    have hil : it < s.heap.objs.size := by obtain ⟨_, q, _⟩ := hit; exact Heap.lt_size q
    have nat' : a ≠ it := by
      intro z
      obtain ⟨o1, q1, c1, _⟩ := hit
      obtain ⟨o2, q2, c2, _⟩ := p
      rw [z, q1] at q2
      cases q2
      rw [c1] at c2
      exact absurd c2 (by decide)
    have nae : a ≠ e := by
      intro z
      obtain ⟨o2, q2, c2, _⟩ := p
      have he' : s.heap.get? e = some _ := he
      rw [z, he'] at q2
      cases q2
      exact absurd (show Value.type "enumerate" = Value.type "tuple" from c2) (by decide)
    have D := Draws.tuple (prog := X.prog) (w := X.w) (A := X.A.in1) (by have z := I.ok.hd hc; exact z) it a nat' its.toArray
    refine wpAny_pyNext_enum_itemC D he ⟨hit, p⟩ (show i < its.toArray.size by simp; omega) hne (by simp; exact ⟨hne, fun z => nae z.symm⟩) ?_
    intro u h' tk hu ho st' hT hsz hk
    have hu' : its[i]? = some u := by simpa using hu
    obtain ⟨x, hx⟩ : ∃ x, xs[i]? = some x := ⟨xs[i], List.getElem?_eq_getElem hi⟩
    obtain ⟨u2, hu2, ru⟩ := rv.get hx
    rw [hu'] at hu2
    cases hu2
    refine ⟨_, rfl, wpAny_letOwnedTupleGo_enum (s := { s with heap := h', toks := tk + 1 }) ho ?_⟩
    intro h'' he' sb
    have hT2 : h''.get? s.heap.objs.size = some { cls := .type "tuple", data := .seq #[.int i tk, u] } := (sb.2 _ (Nat.ne_of_gt hel)).trans hT
    have new : ObjOk X.prog X.w (upd H s.heap.objs.size (.tup [.int (i : Nat), x])) h'' s.heap.objs.size (.tup [.int (i : Nat), x]) :=
      ⟨by show 2 ≤ sizeLine; decide, [.int i tk, u], .cons ⟨_, rfl⟩ (.cons ru .nil), ⟨_, hT2, rfl, _, rfl⟩⟩
    have kp : ∀ b o, b ∉ [e, it] → s.heap.get? b = some o → h''.get? b = some o := fun b o hb q =>
      (sb.2 b (fun z => hb (by simp [z]))).trans (hk b o (fun z => hb (by simp [z])) (fun z => hb (by simp [z])) q)
    have I1 : Inv X pins σ (upd H s.heap.objs.size (.tup [.int (i : Nat), x])) { s with heap := h'', toks := tk + 1 } :=
      I.turnedNew (ch := [e, it]) kp hf (Nat.le_refl _) new
    refine ⟨.ref s.heap.objs.size, _, I1, rfl, ⟨_, x, rfl, I.hok.fresh (Nat.le_refl _), rfl, hx⟩, ⟨⟨u, ?_⟩, st'.1.at fun o q => (sb.2 it (Ne.symm hne)).trans q, hne⟩, ?_⟩
    · have e1 : ((i + 1 : Nat) : Int) = (i : Int) + 1 := by omega
      rw [e1]
      exact he'
    · intro b hb
      have hb' : b < s.heap.objs.size := by
        rcases (show b = e ∨ b = it by simpa using hb) with z | z <;> rw [z] <;> assumption
      rw [upd_ne (Nat.ne_of_lt hb')]
      exact (hf b hb).1
  done := by
    intro X hP hw hK hc i pins s σ H E I hf st hs
    subst hP hw hK
    obtain ⟨⟨old, he⟩, hit, hne⟩ := st
    obtain ⟨hq, hx⟩ := hs
    obtain ⟨its, rv, p, hz⟩ := I.tuple hq
    have hl := rv.length
    have nat' : a ≠ it := by
      intro z
      obtain ⟨o1, q1, c1, _⟩ := hit
      obtain ⟨o2, q2, c2, _⟩ := p
      rw [z, q1] at q2
      cases q2
      rw [c1] at c2
      exact absurd c2 (by decide)
    have D := Draws.tuple (prog := X.prog) (w := X.w) (A := X.A.in1) (by have z := I.ok.hd hc; exact z) it a nat' its.toArray
    obtain ⟨f0, f1, f2, f3, f4, f5⟩ := hf it (by simp)
    have e1 : its.toArray.size = i := by simp; omega
    refine wpAny_pyNext_enum_endD D he (by rw [e1]; exact ⟨hit, p⟩) ?_
    intro h' eb
    exact ⟨rfl, I.turned (t' := s.toks) (fun b o hb q => eb b o hb q) f0 f1 f3 f4 f5⟩
  self := by
    rintro A i s Q E ⟨⟨_, he⟩, _⟩ h
    exact wpAny_pyIter_enum he h
def iEnT (K : PySem.W.Frag) (ta : TA) : TI := fun σ H R => ta σ H fun vs H1 => ∃ a xs, vs = [.ref a] ∧ SqT K H1 a xs ∧ R (Iet K a xs) H1
theorem pi_enumT {X : Cx} {e : Expr} {ta : TA} {p pos tpos : Pos} {elts : List Expr} {kk : Nat} (hg : Gl X "enumerate") (hm : X.mg "enumerate" = none) (ha : PA X [e] ta)
    (hs : starEach [e] X.env = [(false, eval e X.env)] := by rfl) : PI X (.Tuple elts kk tpos) (.Call (.Name "enumerate" p) [e] [] pos) (iEnT X.K ta) := by
  refine ⟨?_⟩
  intro pins s σ H R I h
  refine Call_ (ld_blt I hg hm boot_enumerate (PyProof.Rows.callWith_type1 (thn (ha.run pos pins s σ H _ I h) ?_) hs rfl))
  rintro us s1 ⟨vs, H1, I1, r1, a, xs, rfl, hq, q⟩
  obtain ⟨u, rfl, rx⟩ := vals1 r1
  cases (show u = Value.ref a from rx)
  obtain ⟨its, rv, p', hz⟩ := I1.tuple hq
  refine enum_call1 (PySem.begins_tuple a its.toArray) p' ?_
  intro h' he hit hk
  refine wpAny_pyIter_enum he ?_
  have I2 : Inv X pins σ H1 { s1 with heap := h' } := I1.kept (t' := s1.toks) hk
  refine ⟨s1.heap.objs.size + 1, [s1.heap.objs.size + 1, s1.heap.objs.size], _, _, H1, rfl, I2, turn_et a (s1.heap.objs.size + 1) s1.heap.objs.size xs, ⟨⟨.none, he⟩, ⟨_, hit, rfl, rfl⟩, Nat.succ_ne_self _⟩, ?_, q⟩
  intro b hb
  have hle : s1.heap.objs.size ≤ b := by
    rcases (show b = s1.heap.objs.size + 1 ∨ b = s1.heap.objs.size by simpa using hb) with z | z <;> rw [z] <;> omega
  exact I1.fpOk hle (I1.hok.fresh hle)
/-- for i, x in enumerate(t): Pv i holds ahead of turn i -/
theorem for_enT {K : PySem.W.Frag} {a : Addr} {xs : List V} {g : TG} {tb : TS} {D : Ends} {σ : L2.St} {H : Hp} (Pv : Nat → L2.St → Hp → Prop) (h0 : Pv 0 σ H) (hl : ∀ i σ H, Pv i σ H → SqT K H a xs)
    (hs : ∀ i x T σ H, xs[i]? = some x → Pv i σ H → H T = none → g (.ref T) σ (upd H T (.tup [.int (i : Nat), x])) fun σ2 H2 => tb { D with nx := Pv (i + 1), ct := Pv (i + 1), bk := D.nx } σ2 H2)
    (hd : ∀ σ H, Pv xs.length σ H → D.nx σ H) :
    ∃ W : Nat → Nat → L2.St → Hp → Prop, (∃ m, W 0 m σ H) ∧ ∀ i m σ H, W i m σ H →
      ((Iet K a xs).stop i H ∧ D.nx σ H) ∨ ((Iet K a xs).go i H ∧ ∃ N : L2.St → Hp → Prop, (∀ σ' H', N σ' H' → ∃ m', m' < m ∧ W (i + 1) m' σ' H') ∧
        ∀ x H', (Iet K a xs).yld i H x H' → g x σ H' fun σ2 H2 => tb { D with nx := N, ct := N, bk := D.nx } σ2 H2) := by
  refine ⟨fun i m σ H => i + m = xs.length ∧ Pv i σ H, ⟨xs.length, by omega, h0⟩, ?_⟩
  rintro i m σ H ⟨hm, hp⟩
  have hq := hl i σ H hp
  by_cases hi : i < xs.length
  · refine Or.inr ⟨⟨hq, hi⟩, Pv (i + 1), fun σ' H' q => ⟨m - 1, by omega, by omega, q⟩, ?_⟩
    rintro x H' ⟨T, y, rfl, hT, rfl, hy⟩
    exact hs i y T σ H hy hp hT
  · have e : i = xs.length := by omega
    subst e
    exact Or.inl ⟨⟨hq, rfl⟩, hd σ H hp⟩
end MG

/-! what a caller needs of a def, in one word; heaps that only grow -/
namespace MG
open PySem PySem.Spec PyProof.Rows L2
abbrev FnP (K : PySem.W.Frag) (x q : Str) (st : Stmt) (f : Addr) (fd : FuncData) : Prop := FunD K x q (defArgs st) (defBody st) (defScope st) [] [] f fd
/-- the def of this name keeps this promise -/
def Cal (P : Program) (w : World) (K : PySem.W.Frag) (mg : Str → Option Value) (base : Heap) (k : Nat) (x : Str) (ps : List Str) (sp : Sp) : Prop :=
  ∃ (f : Addr) (fd : FuncData), mg x = some (.ref f) ∧ PySem.W.keepIn K (.ref f) = true ∧ Binds K fd ps [] ∧ FnOk P w K mg base CX0 k f fd ps sp
def CalG (P : Program) (w : World) (K : PySem.W.Frag) (mg : Str → Option Value) (base : Heap) (k : Nat) (x : Str) (ps : List Str) (sp : Sp) : Prop :=
  ∃ (f : Addr) (fd : FuncData), mg x = some (.ref f) ∧ PySem.W.keepIn K (.ref f) = true ∧ Binds K fd ps [] ∧ GFn P w K mg base CX0 k f fd ps sp
section
variable {X : Cx} {k n : Nat} {x : Str} {ps : List Str} {sp : Sp} {p pos : Pos} {e : Expr} {es : List Expr} {t : TA}
theorem pe_cal (c : Cal X.prog X.w X.K X.mg X.base k x ps sp) (rm : Room n X.A) (ha : PA X (e :: es) t) (hk : k ≤ n := by decide) (hg : Gl X x := by rfl)
    (hdb : (x == ("__debug__" : Str)) = false := by decide) (he : starEach (e :: es) X.env = (false, eval e X.env) :: starEach es X.env := by rfl)
    (hpl : (backTo pos (starEach es X.env)).any (·.1) = false := by rfl) : PE X (.Call (.Name x p) (e :: es) [] pos) (tCall sp [] E0 t) := by
  obtain ⟨f, fd, h1, h2, h3, h4⟩ := c
  exact pe_call h4 (rm.mono hk) hg h1 h2 h3 .nil pass0 ha hdb he hpl
theorem pe_cal0 (c : Cal X.prog X.w X.K X.mg X.base k x ps sp) (rm : Room n X.A) (hk : k ≤ n := by decide) (hg : Gl X x := by rfl)
    (hdb : (x == ("__debug__" : Str)) = false := by decide) : PE X (.Call (.Name x p) [] [] pos) (tCall sp [] E0 tNil) := by
  obtain ⟨f, fd, h1, h2, h3, h4⟩ := c
  exact pe_call0 h4 (rm.mono hk) hg h1 h2 h3 .nil pass0 hdb
theorem pe_calG (c : CalG X.prog X.w X.K X.mg X.base k x ps sp) (rm : Room n X.A) (gu : X.A.guards = some []) (ha : PA X (e :: es) t) (hk : k ≤ n := by decide) (hg : Gl X x := by rfl)
    (hdb : (x == ("__debug__" : Str)) = false := by decide) (he : starEach (e :: es) X.env = (false, eval e X.env) :: starEach es X.env := by rfl)
    (hpl : (backTo pos (starEach es X.env)).any (·.1) = false := by rfl) : PE X (.Call (.Name x p) (e :: es) [] pos) (tCall sp [] E0 t) := by
  obtain ⟨f, fd, h1, h2, h3, h4⟩ := c
  exact pe_callG h4 (rm.mono hk) gu hg h1 h2 h3 .nil pass0 ha hdb he hpl
end
section
variable {P : Program} {w : World} {K : PySem.W.Frag} {mg : Str → Option Value} {base : Heap} {nm q : Str} {st : Stmt} {f : Addr} {fd : FuncData}
theorem okF {N ps : List Str} {k : Nat} {sp : Sp} (F : FnP K nm q st f fd) (S : FnScope N ps (defScope st)) (lng : ∀ a b c d, sp a b c d → a.length = ps.length)
    (hbody : ∀ (cdv : Value) (A : Around) (outer : List Env) (s : Shared) (H : Hp) (vs : List V) (Q : VK) (E : XK),
      Room k (A.deeper (envOfC q (defScope st) s.heap.objs.size f cdv)) → sp vs H Q E →
      ∃ t, PSs (cxOf CX0 P w K mg base N q (defScope st) f cdv A outer s H E).nox (defBody st) t ∧ t { nx := fun _ H' => Q .non H', rt := Q } (L2.start N vs) H) :
    FnOk P w K mg base CX0 (k + 1) f fd ps sp :=
  F.ok S lng fun cdv A outer s H vs Q E rm h => by
    obtain ⟨t, ht, hq⟩ := hbody cdv A outer s H vs Q E rm h
    exact ⟨t, ht.nox, hq⟩
theorem okFG {N ps : List Str} {k : Nat} {sp : Sp} (F : FnP K nm q st f fd) (S : FnScope N ps (defScope st)) (lng : ∀ a b c d, sp a b c d → a.length = ps.length)
    (hbody : ∀ (cdv : Value) (A : Around) (outer : List Env) (s : Shared) (H : Hp) (vs : List V) (Q : VK) (E : XK),
      Room k (A.deeper (envOfC q (defScope st) s.heap.objs.size f cdv)) → (A.deeper (envOfC q (defScope st) s.heap.objs.size f cdv)).guards = some [] → sp vs H Q E →
      ∃ t, PSs (cxOf CX0 P w K mg base N q (defScope st) f cdv A outer s H E).nox (defBody st) t ∧ t { nx := fun _ H' => Q .non H', rt := Q } (L2.start N vs) H) :
    GFn P w K mg base CX0 (k + 1) f fd ps sp :=
  okG F S lng fun cdv A outer s H vs Q E rm gu h => by
    obtain ⟨t, ht, hq⟩ := hbody cdv A outer s H vs Q E rm gu h
    exact ⟨t, ht.nox, hq⟩
end
/-- xs[i] read ahead of xs[i] op= e -/
def rGetL (K : PySem.W.Frag) : V → V → Hp → VK → Prop := fun o i H Q => ∃ p xs k v, o = .ref p ∧ i = .int k ∧ SqL K H p xs ∧ 0 ≤ k ∧ xs[k.toNat]? = some v ∧ Q v H
theorem get_list {X : Cx} : PGet X (rGetL X.K) := by
  intro pins s σ H o i ov iv Q I ro ri h
  obtain ⟨p, xs, k, v, rfl, rfl, hq, h0, hv, q⟩ := h
  cases ro
  obtain ⟨t, rfl⟩ := ri
  obtain ⟨its, r, pl, hz⟩ := I.list hq
  obtain ⟨u, eu, ru⟩ := r.get hv
  have hl := r.length
  have hlt : k.toNat < xs.length := (List.getElem?_eq_some_iff.mp hv).1
  have hn := line63
  exact wpAny_getItem_list pl.isList h0 (by omega) (by simpa using eu) ⟨v, H, I, ru, q⟩
/-! cuts: what is behind an expression or a statement is told once -/
section
variable {X : Cx}
def tCut (J : V → Prop) (te : TE) : TE := fun σ H Q => te σ H (fun v H' => J v ∧ H' = H) ∧ ∀ v, J v → Q v H
theorem pe_cut {e : Expr} {te : TE} (J : V → Prop) (h : PE X e te) : PE X e (tCut J te) := by
  refine ⟨?_⟩
  rintro pins s σ H Q I ⟨a, b⟩
  refine wpAny_mono (h.run pins s σ H _ I a) ?_ (fun _ _ z => z)
  rintro u s' ⟨v, H', I', r, hJ, rfl⟩
  exact ⟨v, _, I', r, b v hJ⟩
def tCutR (R : L2.St → Hp → V → Hp → Prop) (te : TE) : TE := fun σ H Q => te σ H (R σ H) ∧ ∀ v H', R σ H v H' → Q v H'
theorem pe_cutR {e : Expr} {te : TE} (R : L2.St → Hp → V → Hp → Prop) (h : PE X e te) : PE X e (tCutR R te) := by
  refine ⟨?_⟩
  rintro pins s σ H Q I ⟨a, b⟩
  refine wpAny_mono (h.run pins s σ H _ I a) ?_ (fun _ _ z => z)
  rintro u s' ⟨v, H', I', r, hR⟩
  exact ⟨v, _, I', r, b v H' hR⟩
def tCutS (R : L2.St → Hp → L2.St → Hp → Prop) (ts : TS) : TS := fun D σ H => ts { D with nx := R σ H } σ H ∧ ∀ σ' H', R σ H σ' H' → D.nx σ' H'
theorem ps_cut {st : Stmt} {ts : TS} (R : L2.St → Hp → L2.St → Hp → Prop) (h : PS X st ts) : PS X st (tCutS R ts) := by
  refine ⟨?_⟩
  rintro pins s σ H D I ⟨a, b⟩
  refine wpAny_mono (h.run pins s σ H _ I a) ?_ (fun _ _ z => z)
  intro fl s' hs
  match fl, hs with
  | .next, ⟨σ', H', I', q⟩ => exact ⟨σ', H', I', b σ' H' q⟩
  | .brk, hs => exact hs
  | .cont, hs => exact hs
  | .ret u, hs => exact hs
/-- tuple of a list that is tracked -/
def rTupH : List V → Hp → VK → Prop := fun vs H Q => ∃ p xs, vs = [.ref p] ∧ H p = some (.lst xs) ∧ ∀ q, H q = none → Q (.ref q) (upd H q (.tup xs))
theorem tuple_H : CallR X (.type "tuple") rTupH := by
  intro pins s σ H vs us Q I r h
  obtain ⟨p, xs, h1, h2, q⟩ := h
  exact call_tuple_of pins s σ H vs us Q I r ⟨p, xs, h1, .inl ⟨.inl (.inl h2), q⟩⟩
def rSortH : List V → Hp → VK → Prop := fun vs H Q => ∃ (a : Addr) (ns : List Int), vs = [V.ref a] ∧ H a = some (.lst (ns.map V.int)) ∧
  ∀ (ns' : List Int) (p : Addr), ns'.Perm ns → ns'.Pairwise (· ≤ ·) → H p = none → Q (.ref p) (upd H p (.lst (ns'.map V.int)))
theorem sorted_H : CallR X (.builtin "sorted") rSortH := by
  intro pins s σ H vs us Q I r h
  obtain ⟨a, ns, h1, h2, q⟩ := h
  exact cr_sortedI pins s σ H vs us Q I r ⟨a, ns, h1, .inl (.inl h2), q⟩
/-- int of an int -/
def rIntI : List V → Hp → VK → Prop := fun xs H Q => ∃ i, xs = [.int i] ∧ Q (.int i) H
theorem int_I : CallR X (.type "int") rIntI := by
  intro pins s σ H xs us Q I r h
  exact call_int1 pins s σ H xs us Q I r (.inl h)
end
/-! the same rules read off the tracked heap alone -/
section
variable {X : Cx}
def rIxH : R2 := fun x y H Q => ∃ p xs i v, x = .ref p ∧ y = .int i ∧ H p = some (.lst xs) ∧ atI xs i = some v ∧ Q v H
theorem ix_H : IxR X rIxH := by
  intro value slice pins s σ H x y v u Q I rx ry h hs
  obtain ⟨p, xs, i, z, h1, h2, hq, he, q⟩ := h
  exact ix_list value slice pins s σ H x y v u Q I rx ry ⟨p, xs, i, z, h1, h2, .inl (.inl hq), he, q⟩ hs
def rIxHT : R2 := fun x y H Q => ∃ p xs i v, x = .ref p ∧ y = .int i ∧ H p = some (.tup xs) ∧ atI xs i = some v ∧ Q v H
theorem ix_HT : IxR X rIxHT := by
  intro value slice pins s σ H x y v u Q I rx ry h hs
  obtain ⟨p, xs, i, z, h1, h2, hq, he, q⟩ := h
  exact ix_tup value slice pins s σ H x y v u Q I rx ry ⟨p, xs, i, z, h1, h2, .inl (.inl hq), he, q⟩ hs
def rLenH : List V → Hp → VK → Prop := fun vs H Q => ∃ p xs, vs = [.ref p] ∧ H p = some (.lst xs) ∧ Q (.int xs.length) H
theorem len_H : CallR X (.builtin "len") rLenH := by
  intro pins s σ H xs us Q I r h
  obtain ⟨p, ys, h1, hq, q⟩ := h
  exact call_len_seq pins s σ H xs us Q I r ⟨p, ys, h1, .inl (.inl (.inl hq)), q⟩
def rLenHT : List V → Hp → VK → Prop := fun vs H Q => ∃ p xs, vs = [.ref p] ∧ H p = some (.tup xs) ∧ Q (.int xs.length) H
theorem len_HT : CallR X (.builtin "len") rLenHT := by
  intro pins s σ H xs us Q I r h
  obtain ⟨p, ys, h1, hq, q⟩ := h
  exact call_len_seq pins s σ H xs us Q I r ⟨p, ys, h1, .inr (.inl (.inl hq)), q⟩
end
/-- isinstance told for a value of a built-in type -/
theorem isi_ty {K : PySem.W.Frag} {H : Hp} {Q : VK} {x : V} {a b : String} {r : Bool} (ty : TyX K H x (.type a)) (h : kitB a b = some r) (q : Q (.bl r) H) : rIsi K [x, .ty b] H Q :=
  ⟨x, .ty b, .type a, .type b, r, rfl, ClsV.ty b, ty, kit_ty h, q⟩
/-- nothing tracked is changed but what stands at b -/
def But (b : Addr) (H H' : Hp) : Prop := ∀ c o, c ≠ b → H c = some o → H' c = some o
theorem But.refl (b : Addr) (H : Hp) : But b H H := fun _ _ _ h => h
theorem But.trans {b : Addr} {H H1 H2 : Hp} (x : But b H H1) (y : But b H1 H2) : But b H H2 := fun c o n h => y c o n (x c o n h)
theorem But.of {b : Addr} {H H' : Hp} (x : Same H H') : But b H H' := fun c o _ h => x c o h
theorem But.upd {b : Addr} {H : Hp} {o : HO} : But b H (upd H b o) := fun c u n h => by rw [upd_ne n]; exact h
theorem But.free {b : Addr} {H H' : Hp} {p : Addr} {o : HO} (x : But b H H') (hb : H' b = some o) (h : H' p = none) : H p = none := by
  have n : p ≠ b := fun z => by rw [z, hb] at h; cases h
  match e : H p with
  | none => rfl
  | some u =>
    rw [x p u n e] at h
    cases h
theorem But.ne {b : Addr} {H : Hp} {p c : Addr} {o : HO} (h : H c = some o) (n : H p = none) : c ≠ p := ne_of_none h n
theorem same_new {H : Hp} {p : Addr} {o : HO} (h : H p = none) : Same H (upd H p o) := fun a u e => by
  rw [upd_ne (ne_of_none e h)]
  exact e
theorem Same.tup {H H' : Hp} {a : Addr} {xs : List V} (x : Same H H') (h : H a = some (.tup xs)) : H' a = some (.tup xs) := x a _ h
theorem sqT {K : PySem.W.Frag} {H : Hp} {a : Addr} {xs : List V} (h : H a = some (.tup xs)) : SqT K H a xs := .inl (.inl h)
theorem sqL {K : PySem.W.Frag} {H : Hp} {a : Addr} {xs : List V} (h : H a = some (.lst xs)) : SqL K H a xs := .inl (.inl h)
theorem erase_map {α β : Type} (g : α → β) : ∀ (l : List α) (k : Nat), (l.map g).eraseIdx k = (l.eraseIdx k).map g
  | [], _ => rfl
  | _ :: _, 0 => rfl
  | a :: l, k + 1 => by
    show g a :: (l.map g).eraseIdx k = g a :: (l.eraseIdx k).map g
    rw [erase_map g l k]
theorem erase_perm {α : Type} : ∀ {l : List α} {k : Nat} (h : k < l.length), (l[k] :: l.eraseIdx k).Perm l
  | a :: l, 0, _ => List.Perm.refl _
  | a :: l, k + 1, h => by
    have hk : k < l.length := by simpa using h
    have ih := erase_perm (l := l) (k := k) hk
    show (l[k]'hk :: a :: l.eraseIdx k).Perm (a :: l)
    exact (List.Perm.swap _ _ _).trans (ih.cons a)
theorem ixN_of {m i : Nat} {k : Int} (hk : k = i) (hi : i < m) : ixN m k = some i := by
  subst hk
  unfold ixN
  rw [if_pos (by omega), if_pos (by omega)]
  simp
theorem atI_of {α : Type} {xs : List α} {k : Int} {i : Nat} {v : α} (hk : k = i) (h : xs[i]? = some v) : atI xs k = some v := by
  subst hk
  exact atI_nat h
theorem mapI_at {ns : List Int} {i : Nat} {z : Int} (h : ns[i]? = some z) : (ns.map V.int)[i]? = some (.int z) := by
  rw [List.getElem?_map, h]
  rfl
/-- an item of a list of ints -/
theorem int_at {ns : List Int} {i : Nat} {x : V} (h : (ns.map V.int)[i]? = some x) : ∃ z, ns[i]? = some z ∧ x = .int z := by
  rw [List.getElem?_map] at h
  cases e : ns[i]? with
  | none =>
    rw [e] at h
    cases h
  | some z =>
    rw [e] at h
    exact ⟨z, rfl, (Option.some.inj h).symm⟩
end MG

/-! slices of lists with a step -/
namespace MG
open PySem PySem.Spec PyProof.Rows L2
/-- the items of xs[lo:hi:st] -/
def pick {α : Type} (xs : List α) (lo hi st : Option Int) : List α :=
  (sliceRange (sliceBounds lo hi st xs.length).1 (sliceBounds lo hi st xs.length).2.1 (sliceBounds lo hi st xs.length).2.2).filterMap (xs[·]?)
theorem pick_vals {xs : List V} {its : List Value} (r : Vals xs its) (is : List Nat) : Vals (is.filterMap (xs[·]?)) (is.filterMap (its[·]?)) := by
  induction is with
  | nil => exact .nil
  | cons i is ih =>
    match e : xs[i]? with
    | none =>
      have e2 := r.none_of e
      rw [List.filterMap_cons_none e, List.filterMap_cons_none e2]
      exact ih
    | some x =>
      obtain ⟨u, e2, ru⟩ := r.get e
      rw [List.filterMap_cons_some e, List.filterMap_cons_some e2]
      exact .cons ru ih
/-- tracked lists -/
def tSlS (K : PySem.W.Frag) (te : TE) (tl th ts : TO) : TE := fun σ H Q => te σ H fun x H1 => tl σ H1 fun lo H2 => th σ H2 fun hi H3 => ts σ H3 fun st H4 =>
  ∃ a xs, x = .ref a ∧ SqL K H4 a xs ∧ st ≠ some 0 ∧ (pick xs lo hi st).length ≤ sizeLine ∧ ∀ p, H4 p = none → Q (.ref p) (upd H4 p (.lst (pick xs lo hi st)))
theorem pe_sliceS {X : Cx} {e : Expr} {lo hi st : Option Expr} {te : TE} {tl th ts : TO} {p2 pos : Pos} (he : PE X e te) (hl : PO X lo tl) (hu : PO X hi th) (hs : PO X st ts)
    (hsub : ∀ v u, subscripted (.Slice lo hi st p2) false v u = operate [v, u] (getItem v u) := by intros; with_unfolding_all rfl)
    (htmp : ∀ v r, letTemporaryGo e v r = pure () := by intros; with_unfolding_all rfl) :
    PE X (.Subscript e (.Slice lo hi st p2) pos) (tSlS X.K te tl th ts) := by
  refine ⟨?_⟩
  intro pins s σ H Q I h
  refine Subscript_ (thn (he.run pins s σ H _ I h) ?_)
  rintro v s1 ⟨x, H1, I1, r1, q1⟩
  refine wpAny_Slice (thn (hl.run pins s1 σ H1 _ I1 q1) ?_)
  rintro vl s2 ⟨l, H2, I2, pl, q2⟩
  refine thn (hu.run pins s2 σ H2 _ I2 q2) ?_
  rintro vu s3 ⟨u, H3, I3, pu, q3⟩
  refine thn (hs.run pins s3 σ H3 _ I3 q3) ?_
  rintro vs s4 ⟨o, H4, I4, ps, a, xs, rfl, hx, h0, hpz, q⟩
  cases r1
  have I5 : Inv X pins σ H4 { s4 with heap := s4.heap.push { cls := .type "slice", data := .fields #[vl, vu, vs] } } := I4.kept (t' := s4.toks) fun b ob q => Heap.get?_push_of_some _ q
  obtain ⟨its, r, ht, hz⟩ := I5.list hx
  have hlen := r.length
  show wpAny (model X.prog X.w) X.A (subscriptTail e (.Slice lo hi st p2) (.ref a) (.ref s4.heap.objs.size)) (EP X pins σ Q) X.xe { s4 with heap := s4.heap.push { cls := .type "slice", data := .fields #[vl, vu, vs] } }
  refine tail_any (ops := [.ref a, .ref s4.heap.objs.size]) ht.isList.typeIs (PySem.slot_list_getitem.lookup) ?_ (hsub _ _)
  refine wpAny_getItem_list_slice ht.isList (Heap.IsSliceOf.new _ vl vu vs) pl pu ps h0 ?_ (by rw [List.size_toArray]; omega)
  refine ⟨.ref _, _, I5.laid (t' := s4.toks) (o := .lst (pick xs l u o)) (fun b ob q => Heap.get?_push_of_some _ q) (Nat.le_refl _) ?_, rfl, q _ (I5.hok.fresh (Nat.le_refl _))⟩
  refine ⟨hpz, pick its l u o, 0, ?_, ?_⟩
  · unfold pick
    rw [← hlen]
    exact pick_vals r _
  · have e : slicePick its.toArray l u o = (pick its l u o).toArray := by
      unfold slicePick pick
      simp
    rw [e]
    exact Heap.get?_push_size _ rfl
def tSlH (te : TE) (tl th ts : TO) : TE := fun σ H Q => te σ H fun x H1 => tl σ H1 fun lo H2 => th σ H2 fun hi H3 => ts σ H3 fun st H4 =>
  ∃ a xs, x = .ref a ∧ H4 a = some (.lst xs) ∧ st ≠ some 0 ∧ (pick xs lo hi st).length ≤ sizeLine ∧ ∀ p, H4 p = none → Q (.ref p) (upd H4 p (.lst (pick xs lo hi st)))
theorem pe_sliceH {X : Cx} {e : Expr} {lo hi st : Option Expr} {te : TE} {tl th ts : TO} {p2 pos : Pos} (he : PE X e te) (hl : PO X lo tl) (hu : PO X hi th) (hs : PO X st ts)
    (mono : ∀ σ H (Q Q' : VK), (∀ v H', Q v H' → Q' v H') → te σ H Q → te σ H Q')
    (monl : ∀ σ H (Q Q' : Option Int → Hp → Prop), (∀ v H', Q v H' → Q' v H') → tl σ H Q → tl σ H Q')
    (monh : ∀ σ H (Q Q' : Option Int → Hp → Prop), (∀ v H', Q v H' → Q' v H') → th σ H Q → th σ H Q')
    (mons : ∀ σ H (Q Q' : Option Int → Hp → Prop), (∀ v H', Q v H' → Q' v H') → ts σ H Q → ts σ H Q')
    (hsub : ∀ v u, subscripted (.Slice lo hi st p2) false v u = operate [v, u] (getItem v u) := by intros; with_unfolding_all rfl)
    (htmp : ∀ v r, letTemporaryGo e v r = pure () := by intros; with_unfolding_all rfl) :
    PE X (.Subscript e (.Slice lo hi st p2) pos) (tSlH te tl th ts) := by
  refine ⟨fun pins s σ H Q I q => (pe_sliceS he hl hu hs hsub htmp).run pins s σ H Q I ?_⟩
  refine mono σ H _ _ (fun x H1 h1 => ?_) q
  refine monl σ H1 _ _ (fun lo H2 h2 => ?_) h1
  refine monh σ H2 _ _ (fun hi H3 h3 => ?_) h2
  refine mons σ H3 _ _ (fun st H4 h4 => ?_) h3
  obtain ⟨a, xs, h5, h6, h7⟩ := h4
  exact ⟨a, xs, h5, .inl (.inl h6), h7⟩
theorem pe_conv {X : Cx} {e : Expr} {t u : TE} (h : PE X e t) (i : ∀ σ H Q, u σ H Q → t σ H Q) : PE X e u :=
  ⟨fun pins s σ H Q I q => h.run pins s σ H Q I (i σ H Q q)⟩
def rSumH : List V → Hp → VK → Prop := fun vs H Q => ∃ (a : Addr) (ns : List Int), vs = [V.ref a] ∧ H a = some (.lst (ns.map V.int)) ∧ Q (.int ns.sum) H
theorem sum_H {X : Cx} (hc : X.calm = true) : CallR X (.builtin "sum") rSumH := by
  intro pins s σ H vs us Q I r h
  obtain ⟨a, ns, h1, h2, q⟩ := h
  exact cr_sum hc pins s σ H vs us Q I r ⟨a, ns, h1, .inl (.inl h2), q⟩
theorem pick_map {α β : Type} (g : α → β) (xs : List α) (lo hi st : Option Int) : pick (xs.map g) lo hi st = (pick xs lo hi st).map g := by
  unfold pick
  rw [List.length_map, List.map_filterMap]
  congr 1
  funext i
  rw [List.getElem?_map]
end MG

/-! calls by names alone -/
namespace MG
open PySem PySem.Spec PyProof.Rows L2
def CalK (P : Program) (w : World) (K : PySem.W.Frag) (mg : Str → Option Value) (base : Heap) (k : Nat) (x : Str) (ps : List Str) (sp : Sp) (n : Nat) (ks : List Str) (gV : List V → List V → List V) : Prop :=
  ∃ (f : Addr) (fd : FuncData) (g : List Value → List Value → List Value), mg x = some (.ref f) ∧ PySem.W.keepIn K (.ref f) = true ∧ KBn K fd ps n ks g gV ∧ FnOk P w K mg base CX0 k f fd ps sp
section
variable {X : Cx} {k m : Nat} {x : Str} {ps ks : List Str} {sp : Sp} {gV : List V → List V → List V} {p pos : Pos} {kws : List Keyword} {tk : TA}
theorem pe_calK0 (c : CalK X.prog X.w X.K X.mg X.base k x ps sp 0 ks gV) (rm : Room m X.A) (hkw : PK X kws tk) (hk : k ≤ m := by decide) (hg : Gl X x := by rfl)
    (hall : (backToKw pos (keywordEach kws X.env)).all (·.1.isSome) = true := by rfl) (hks : (backToKw pos (keywordEach kws X.env)).filterMap (·.1) = ks := by rfl)
    (hdb : (x == ("__debug__" : Str)) = false := by decide)
    (hpl : ((backTo pos (starEach [] X.env)).any (·.1) || (backToKw pos (keywordEach kws X.env)).any (·.1.isNone)) = false := by rfl) :
    PE X (.Call (.Name x p) [] kws pos) (tCallN 0 ks.length sp gV E0 tNil tk) := by
  obtain ⟨f, fd, g, h1, h2, h3, h4⟩ := c
  refine ⟨?_⟩
  intro pins s σ H Q I h
  refine wpAny_Call_Name_kw (ld_glob I hg h1 ?_ hdb)
  refine PySem.W.callWith_KW0 (h₀ := X.base) I.ok.mod.kin h2 hall ?_ hpl
  refine thn (hkw.run pos pins s σ H _ I h) ?_
  rintro ws s2 ⟨zs, H2, I2, rz, l1, l2, q2⟩
  refine ⟨I2.kIn, ?_⟩
  rw [hks]
  exact run_fnN (us := []) h4 (rm.mono hk) h3 pass0 I2 .nil rz l1 l2 q2
end
end MG

/-! repr: data that can be shown, the text not above n signs, k levels deep -/
namespace MG
open PySem PySem.Spec PyProof.Rows L2
structure Shw (n k : Nat) (d : PyData) : Prop where
  can : d.showable = true
  nod : d.hasDict = false
  dep : d.depth ≤ k
  len : d.shown.length ≤ n
theorem Shw.mono {n n' k k' : Nat} {d : PyData} (h : Shw n k d) (hn : n ≤ n') (hk : k ≤ k') : Shw n' k' d := ⟨h.can, h.nod, Nat.le_trans h.dep hk, Nat.le_trans h.len hn⟩
theorem shw_int {i : Int} (h : i.natAbs < 2 ^ 1000) : Shw 1001 0 (.int i) := by
  have z : i.natAbs.log2 < 1000 := by
    by_cases z : i.natAbs = 0
    · rw [z]
      decide
    · exact (Nat.log2_lt z).mpr h
  refine ⟨?_, rfl, Nat.le_refl _, ?_⟩
  · have z2 : i.natAbs.log2 < 1920 := Nat.lt_trans z (by decide)
    simp [PyData.showable, z2]
  · show (Str.ofString (toString i)).length ≤ 1001
    rw [PySem.ofString_length]
    exact int_text_length_le (by decide) z
theorem shw_none : Shw 4 0 .none := ⟨rfl, rfl, Nat.le_refl _, by decide⟩
theorem shw_bool {b : Bool} : Shw 5 0 (.bool b) := ⟨rfl, rfl, Nat.le_refl _, by cases b <;> decide⟩
theorem shw_all {n k : Nat} : ∀ {ds : List PyData}, (∀ d ∈ ds, Shw n k d) → PyData.showableAll ds = true ∧ PyData.hasDictAll ds = false ∧ PyData.depthAll ds ≤ k ∧ ((PyData.shownAll ds).map (·.length)).sum ≤ ds.length * n
  | [], _ => ⟨rfl, rfl, Nat.zero_le _, Nat.zero_le _⟩
  | d :: ds, h => by
    have h1 := h d (by simp)
    obtain ⟨a, b, c, e⟩ := shw_all (ds := ds) fun x hx => h x (by simp [hx])
    refine ⟨?_, ?_, ?_, ?_⟩
    · show (d.showable && PyData.showableAll ds) = true
      rw [h1.can, a]
      rfl
    · show (d.hasDict || PyData.hasDictAll ds) = false
      rw [h1.nod, b]
      rfl
    · exact Nat.max_le.mpr ⟨h1.dep, c⟩
    · show (d.shown.length + ((PyData.shownAll ds).map (·.length)).sum) ≤ (ds.length + 1) * n
      rw [Nat.add_mul, Nat.one_mul]
      have := h1.len
      omega
theorem shw_list {n k m : Nat} {ds : List PyData} (h : ∀ d ∈ ds, Shw n k d) (hm : ds.length ≤ m) : Shw (m * (n + 2) + 3) (k + 1) (.list ds) := by
  obtain ⟨a, b, c, e⟩ := shw_all h
  refine ⟨a, b, Nat.succ_le_succ c, ?_⟩
  have l := listText_len_le (PyData.shownAll ds)
  rw [PyData.shownAll_length] at l
  have z : ds.length * (n + 2) ≤ m * (n + 2) := Nat.mul_le_mul_right _ hm
  rw [Nat.mul_add] at z
  show (listText (PyData.shownAll ds)).length ≤ _
  omega
theorem shw_tuple {n k m : Nat} {ds : List PyData} (h : ∀ d ∈ ds, Shw n k d) (hm : ds.length ≤ m) : Shw (m * (n + 2) + 3) (k + 1) (.tuple ds) := by
  obtain ⟨a, b, c, e⟩ := shw_all h
  refine ⟨a, b, Nat.succ_le_succ c, ?_⟩
  have l := tupleText_len_le (PyData.shownAll ds)
  rw [PyData.shownAll_length] at l
  have z : ds.length * (n + 2) ≤ m * (n + 2) := Nat.mul_le_mul_right _ hm
  rw [Nat.mul_add] at z
  show (tupleText (PyData.shownAll ds)).length ≤ _
  omega
theorem shw_ints {ns : List Int} {m : Nat} (h : ∀ i ∈ ns, i.natAbs < 2 ^ 1000) (hm : ns.length ≤ m) : Shw (m * 1003 + 3) 1 (.list (ns.map .int)) :=
  shw_list (fun d hd => by obtain ⟨i, hi, rfl⟩ := List.mem_map.mp hd; exact shw_int (h i hi)) (by simpa using hm)
theorem shw_intsT {ns : List Int} {m : Nat} (h : ∀ i ∈ ns, i.natAbs < 2 ^ 1000) (hm : ns.length ≤ m) : Shw (m * 1003 + 3) 1 (.tuple (ns.map .int)) :=
  shw_tuple (fun d hd => by obtain ⟨i, hi, rfl⟩ := List.mem_map.mp hd; exact shw_int (h i hi)) (by simpa using hm)
/-- repr, told by Shw -/
def rReprS (K : PySem.W.Frag) : List V → Hp → VK → Prop := fun xs H Q => ∃ (a : Addr) (d : PyData), xs = [.ref a] ∧ Dp K H (.ref a) d ∧ Shw 16000000 90 d ∧ Q (.str d.shown) H
theorem repr_S {X : Cx} {n : Nat} (hg : X.A.guards = some []) (rm : Room n X.A) : CallR X (.builtin "repr") (rReprS X.K) := by
  intro pins s σ H xs us Q I r h
  obtain ⟨a, d, h1, h2, h3, q⟩ := h
  exact call_reprD hg rm pins s σ H xs us Q I r ⟨a, d, h1, h2, h3.can, h3.nod, Nat.lt_of_le_of_lt h3.dep (by decide), Nat.le_trans h3.len (by decide), q⟩
theorem dpI {K : PySem.W.Frag} {H : Hp} : ∀ ns : List Int, DpAll K H (ns.map V.int) (ns.map PyData.int)
  | [] => .nil
  | n :: ns => .cons (.int n) (dpI ns)
theorem dpL {K : PySem.W.Frag} {H : Hp} {a : Addr} {ns : List Int} (h : H a = some (.lst (ns.map V.int))) : Dp K H (.ref a) (.list (ns.map .int)) := .lst (.inl (.inl h)) (dpI ns)
theorem dpT {K : PySem.W.Frag} {H : Hp} {a : Addr} {ns : List Int} (h : H a = some (.tup (ns.map V.int))) : Dp K H (.ref a) (.tuple (ns.map .int)) := .tup (.inl (.inl h)) (dpI ns)
theorem layI : ∀ ns : List Int, PyData.canLayAll0 (ns.map PyData.int) = true ∧ PyData.depthAll (ns.map PyData.int) = 0
  | [] => ⟨rfl, rfl⟩
  | n :: ns => by
    obtain ⟨a, b⟩ := layI ns
    refine ⟨?_, ?_⟩
    · show (PyData.canLay0 (.int n) && PyData.canLayAll0 (ns.map PyData.int)) = true
      rw [a]
      rfl
    · show max (PyData.depth (.int n)) (PyData.depthAll (ns.map PyData.int)) = 0
      rw [b]
      rfl
theorem shapedI (ns : List Int) : SeqAt.shaped (.tuple (ns.map .int)) = true := by
  obtain ⟨a, b⟩ := layI ns
  have d : (PyData.tuple (ns.map .int)).depth ≤ 64 := by
    show PyData.depthAll (ns.map PyData.int) + 1 ≤ 64
    omega
  have c : (PyData.tuple (ns.map .int)).canLay0 = true := a
  unfold SeqAt.shaped
  rw [c]
  simpa using d
/-- a statement behind which only new things stand -/
def rNext : L2.St → Hp → L2.St → Hp → Prop := fun σ H σ' H' => σ' = σ ∧ Same H H'
end MG

/-! the head: defs by any address that the written part tells, and one more test of it -/
namespace MG
open PySem PySem.Spec PyProof.Rows L2
structure Dm where
  ad : PySem.W.Frag → Addr
  nm : Str
  ql : Str
  st : Stmt
def atG (x : Str) : PySem.W.Frag → Addr := fun K => He.ga K x
def atM (x m : Str) : PySem.W.Frag → Addr := fun K => He.ma K (He.ga K x) m
/-- a property's getter -/
def atP (x m : Str) : PySem.W.Frag → Addr := fun K => match PySem.W.recIn K (He.ma K (He.ga K x) m) "property" with
  | some (.ref g :: _) => g
  | _ => 0
def fnAt (K : PySem.W.Frag) (a : Addr) : He.FnW := match K.lookup a with
  | some ⟨_, _, .func d, _⟩ => some (d.name, d.qualname, d.params, d.body, d.scope, d.globals, d.closure, d.builtins)
  | _ => none
def Dm.val (d : Dm) : He.FnW := some (d.nm, d.ql, defArgs d.st, .stmts (defBody d.st), defScope d.st, mainGlobals, [], builtinsNs)
def noneB : Value → Bool
  | .none => true
  | _ => false
theorem noneB_ok : ∀ {v : Value}, noneB v = true → v = .none
  | .none, _ => rfl
def Dm.ok (K : PySem.W.Frag) (d : Dm) : Bool := PySem.W.keepIn K (.ref (d.ad K)) && (match K.lookup (d.ad K) with
  | some ⟨_, _, .func e, _⟩ => PySem.W.codeIn K e.code d.ql && noneB e.defaults
  | _ => false)
theorem Dm.fun_ {K : PySem.W.Frag} {d : Dm} (e : fnAt K (d.ad K) = d.val) (c : d.ok K = true) : ∃ fd, FnP K d.nm d.ql d.st (d.ad K) fd := by
  obtain ⟨kp, c2⟩ := He.ba c
  unfold fnAt at e
  cases q : K.lookup (d.ad K) with
  | none =>
    rw [q] at c2
    cases c2
  | some o =>
    obtain ⟨oc, od, dt, osl⟩ := o
    rw [q] at c2 e
    cases dt with
    | func fd =>
      obtain ⟨n1, n2, n3, n4, n5, n6, n7, n8, n9, n10, n11, n12, n13, n14, n15⟩ := fd
      have e2 : (some (n1, n2, n3, n4, n5, n6, n7, n15) : He.FnW) = some (d.nm, d.ql, defArgs d.st, .stmts (defBody d.st), defScope d.st, mainGlobals, [], builtinsNs) := e
      simp only [Option.some.injEq, Prod.mk.injEq] at e2
      obtain ⟨h1, h2, h3, h4, h5, h6, h7, h8⟩ := e2
      subst h1 h2 h3 h4 h5 h6 h7 h8
      have c3 : (PySem.W.codeIn K n13 d.ql && noneB n8) = true := c2
      obtain ⟨k1, k2⟩ := He.ba c3
      exact ⟨_, ⟨oc, od, n8, n9, n10, n11, n12, n13, n14, osl, rfl, q, k1, .inl ⟨rfl, noneB_ok k2⟩, .inl rfl⟩, kp⟩
    | _ => cases c2
def obsM (fa : List He.Fa) (fn : List Dm) (ex : PySem.W.Frag → Bool) (K : PySem.W.Frag) : Bool × List He.FnW := (((fa.all fun f => f.ok K) && fn.all fun d => d.ok K) && ex K, fn.map fun d => fnAt K (d.ad K))
def SaysM (fa : List He.Fa) (fn : List Dm) (ex : PySem.W.Frag → Bool) (K : PySem.W.Frag) : Prop := obsM fa fn ex K = (true, fn.map Dm.val)
def obsMG (n : Nat) (fa : List He.Fa) (fn : List Dm) (ex : PySem.W.Frag → Bool) (g : Addr → Option Obj) : Bool × List He.FnW := obsM fa fn ex (He.frG g (He.asD g n))
def hookM (n : Nat) (fa : List He.Fa) (fn : List Dm) (ex : PySem.W.Frag → Bool) : PySem.W.Hook where
  α := Bool × List He.FnW
  obs := fun s => obsMG n fa fn ex s.heap.get?
  val := fun _ => (true, fn.map Dm.val)
  says := fun _ h => ∃ K : PySem.W.Frag, K.In h ∧ SaysM fa fn ex K
  of := fun _ _ e => ⟨_, He.frG_in, e⟩
  keeps := fun _ _ _ ⟨K, hK, c⟩ k => ⟨K, PySem.W.Frag.In.keeps hK k, c⟩
theorem obsMG_eq {n : Nat} {fa : List He.Fa} {fn : List Dm} {ex : PySem.W.Frag → Bool} {g : Addr → Option Obj} {s : Shared} (h : ∀ a, g a = s.heap.get? a) : obsMG n fa fn ex g = (hookM n fa fn ex).obs s := by
  have e : g = s.heap.get? := funext h
  rw [e]
  rfl
section
variable {fa : List He.Fa} {fn : List Dm} {ex : PySem.W.Frag → Bool} {K : PySem.W.Frag}
theorem SaysM.all (c : SaysM fa fn ex K) : ((fa.all fun f => f.ok K) = true ∧ (fn.all fun d => d.ok K) = true) ∧ ex K = true := by
  have z : (((fa.all fun f => f.ok K) && fn.all fun d => d.ok K) && ex K) = true := congrArg (fun z : Bool × List He.FnW => z.1) c
  obtain ⟨a, b⟩ := He.ba z
  exact ⟨He.ba a, b⟩
theorem SaysM.fact (c : SaysM fa fn ex K) (i : Nat) {f : He.Fa} (h : fa[i]? = some f := by rfl) : f.ok K = true :=
  List.all_eq_true.mp c.all.1.1 f (List.mem_of_getElem? h)
theorem SaysM.def_ (c : SaysM fa fn ex K) (i : Nat) {d : Dm} (h : fn[i]? = some d := by rfl) : ∃ fd, FnP K d.nm d.ql d.st (d.ad K) fd := by
  have e : fn.map (fun d => fnAt K (d.ad K)) = fn.map Dm.val := congrArg (fun z : Bool × List He.FnW => z.2) c
  have e2 : (fn.map fun d => fnAt K (d.ad K))[i]? = (fn.map Dm.val)[i]? := by rw [e]
  rw [List.getElem?_map, List.getElem?_map, h] at e2
  exact Dm.fun_ (Option.some.inj e2) (List.all_eq_true.mp c.all.1.2 d (List.mem_of_getElem? h))
theorem SaysM.more (c : SaysM fa fn ex K) : ex K = true := c.all.2
end
/-- the class's own getattr facts that isinstance asks for -/
def isiB (K : PySem.W.Frag) (C : Addr) : Bool := He.eqO (PySem.W.findIn K (.ref C) "__class__") (some (some (.builtin "object.__class__"))) &&
  (He.eqO (PySem.W.specialIn K (.builtin "object.__class__") "__get__") (some (some (.builtin "getset_descriptor.__get__"))) && (decide (PySem.W.takesIn K (.builtin "object.__class__") = some true) && decide (PySem.W.mroIn K C (.type "object") = some true)))
theorem isiB_ok {K : PySem.W.Frag} {C : Addr} (h : isiB K C = true) : PySem.W.findIn K (.ref C) "__class__" = some (some (.builtin "object.__class__")) ∧ PySem.W.specialIn K (.builtin "object.__class__") "__get__" = some (some (.builtin "getset_descriptor.__get__")) ∧
    PySem.W.takesIn K (.builtin "object.__class__") = some true ∧ PySem.W.mroIn K C (.type "object") = some true := by
  obtain ⟨a, h⟩ := He.ba h
  obtain ⟨b, h⟩ := He.ba h
  obtain ⟨c, d⟩ := He.ba h
  exact ⟨He.eqO_ok a, He.eqO_ok b, of_decide_eq_true c, of_decide_eq_true d⟩
/-- a property -/
def propB (K : PySem.W.Frag) (C : Addr) (m : Str) : Bool := He.eqO (PySem.W.findIn K (.ref C) m) (some (some (.ref (He.ma K C m)))) &&
  (He.eqO (PySem.W.specialIn K (.ref (He.ma K C m)) "__get__") (some (some (.builtin "property.__get__"))) && (decide (PySem.W.takesIn K (.ref (He.ma K C m)) = some true) &&
    (match PySem.W.recIn K (He.ma K C m) "property" with
      | some (.ref _ :: _) => true
      | _ => false)))
theorem propB_ok {K : PySem.W.Frag} {x m : Str} (h : propB K (He.ga K x) m = true) : PropOf K (He.ga K x) m (He.ma K (He.ga K x) m) (atP x m K) := by
  obtain ⟨a, h⟩ := He.ba h
  obtain ⟨b, h⟩ := He.ba h
  obtain ⟨c, d⟩ := He.ba h
  refine ⟨He.eqO_ok a, He.eqO_ok b, of_decide_eq_true c, ?_⟩
  unfold atP
  match q : PySem.W.recIn K (He.ma K (He.ga K x) m) "property", d with
  | some (.ref g :: r), _ => exact ⟨r, rfl⟩
/-- a call by position binds -/
theorem bindsP {K : PySem.W.Frag} {x q : Str} {st : Stmt} {f : Addr} {fd : FuncData} {ps : List Str} (F : FnP K x q st f fd)
    (h : ∀ (kV doc pm : Value) (an : Option Addr) (cdv ct : Value) (us : List Value), us.length = ps.length → bindArgs (PySem.W.fnOf x q (defArgs st) (defBody st) (defScope st) .none kV doc pm an cdv ct) ⟨us, []⟩ = pure (ps.zip us)) : Binds K fd ps [] := by
  obtain ⟨oc, od, dV, kV, doc, pm, an, cdv, ct, osl, rfl, lk, hcd, hd, _⟩ := F.ex
  rcases hd with ⟨_, rfl⟩ | ⟨z, _⟩
  · exact .all (h kV doc pm an cdv ct)
  · exact absurd rfl z
theorem bindsA {K : PySem.W.Frag} {x q : Str} {st : Stmt} {f : Addr} {fd : FuncData} {ps : List Str} (F : FnP K x q st f fd)
    (h : ∀ (kV doc pm : Value) (an : Option Addr) (cdv ct : Value) (us : List Value), us.length = ps.length → bindArgs (PySem.W.fnOf x q (defArgs st) (defBody st) (defScope st) .none kV doc pm an cdv ct) ⟨us, []⟩ = pure (ps.zip us)) (s : Shared) (us : List Value) (hl : us.length = ps.length) : BindsTo s fd ⟨us, []⟩ (ps.zip us) := by
  obtain ⟨oc, od, dV, kV, doc, pm, an, cdv, ct, osl, rfl, lk, hcd, hd, _⟩ := F.ex
  rcases hd with ⟨_, rfl⟩ | ⟨z, _⟩
  · exact .of_eq (h kV doc pm an cdv ct us hl)
  · exact absurd rfl z
def sw2 {α : Type} : List α → List α
  | [a, b] => [b, a]
  | l => l
theorem sw2_vals {zs : List V} {ws : List Value} (r : Vals zs ws) : Vals (sw2 zs) (sw2 ws) := by
  cases r with
  | nil => exact .nil
  | cons a r =>
    cases r with
    | nil => exact .cons a .nil
    | cons b r =>
      cases r with
      | nil => exact .cons b (.cons a .nil)
      | cons c r => exact .cons a (.cons b (.cons c r))
/-- a call by names -/
theorem bindsK {K : PySem.W.Frag} {x q : Str} {st : Stmt} {f : Addr} {fd : FuncData} {ps ks : List Str} {n : Nat} {g : List Value → List Value → List Value} {gV : List V → List V → List V} (F : FnP K x q st f fd)
    (h : ∀ (kV doc pm : Value) (an : Option Addr) (cdv ct : Value) (us ws : List Value), us.length = n → ws.length = ks.length → bindArgs (PySem.W.fnOf x q (defArgs st) (defBody st) (defScope st) .none kV doc pm an cdv ct) ⟨us, ks.zip ws⟩ = pure (ps.zip (g us ws)))
    (r : ∀ {vs : List V} {us : List Value} {zs : List V} {ws : List Value}, Vals vs us → Vals zs ws → Vals (gV vs zs) (g us ws)) : KBn K fd ps n ks g gV := by
  obtain ⟨oc, od, dV, kV, doc, pm, an, cdv, ct, osl, rfl, lk, hcd, hd, _⟩ := F.ex
  rcases hd with ⟨_, rfl⟩ | ⟨z, _⟩
  · exact ⟨fun s us ws _ h1 h2 => .of_eq (h kV doc pm an cdv ct us ws h1 h2), r⟩
  · exact absurd rfl z
theorem calOf {P : Program} {w : World} {K : PySem.W.Frag} {mg : Str → Option Value} {base : Heap} {k : Nat} {x : Str} {ps : List Str} {sp : Sp} {f : Addr} {fd : FuncData} {q : Str} {st : Stmt}
    (g : mg x = some (.ref f)) (F : FnP K x q st f fd) (b : Binds K fd ps []) (o : FnOk P w K mg base CX0 k f fd ps sp) : Cal P w K mg base k x ps sp := ⟨f, fd, g, F.kp, b, o⟩
theorem calGOf {P : Program} {w : World} {K : PySem.W.Frag} {mg : Str → Option Value} {base : Heap} {k : Nat} {x : Str} {ps : List Str} {sp : Sp} {f : Addr} {fd : FuncData} {q : Str} {st : Stmt}
    (g : mg x = some (.ref f)) (F : FnP K x q st f fd) (b : Binds K fd ps []) (o : GFn P w K mg base CX0 k f fd ps sp) : CalG P w K mg base k x ps sp := ⟨f, fd, g, F.kp, b, o⟩
end MG

/-! numbers of payments: tables of functions on the naturals -/
namespace KM
def stp (c : Nat) (w : Nat → Int) (n : Nat) : Int := w n + (if h : 0 < c ∧ c ≤ n then stp c w (n - c) else 0)
termination_by n
decreasing_by omega
theorem stp_lt {c n : Nat} {w : Nat → Int} (h : n < c) : stp c w n = w n := by
  rw [stp, dif_neg (by omega)]
  omega
theorem stp_ge {c n : Nat} {w : Nat → Int} (h0 : 0 < c) (h : c ≤ n) : stp c w n = w n + stp c w (n - c) := by
  rw [stp, dif_pos ⟨h0, h⟩]
theorem stp_zero {c : Nat} {w : Nat → Int} : stp c w 0 = w 0 := by
  rw [stp, dif_neg (by omega)]
  omega
theorem stp_uniq {c : Nat} {w u : Nat → Int} (h0 : 0 < c) (h : ∀ n, u n = w n + (if c ≤ n then u (n - c) else 0)) (n : Nat) : u n = stp c w n := by
  induction n using Nat.strongRecOn with
  | ind n ih =>
    rw [h n]
    by_cases q : c ≤ n
    · rw [if_pos q, stp_ge h0 q, ih (n - c) (by omega)]
    · rw [if_neg q, stp_lt (by omega)]
      omega
theorem stp_congr {c : Nat} {w v : Nat → Int} (h : ∀ n, w n = v n) (n : Nat) : stp c w n = stp c v n := by
  have e : w = v := funext h
  rw [e]
theorem stp_comm {a b : Nat} {w : Nat → Int} (ha : 0 < a) (hb : 0 < b) (n : Nat) : stp a (stp b w) n = stp b (stp a w) n := by
  -- the left one, less its shift by b, is stp a w
  refine stp_uniq (c := b) hb ?_ n
  intro n
  induction n using Nat.strongRecOn with
  | ind n ih =>
    by_cases qa : a ≤ n
    · have e1 := stp_ge (w := stp b w) ha qa
      have e2 := stp_ge (w := w) ha qa
      have i1 := ih (n - a) (by omega)
      rw [e1, e2]
      by_cases qb : b ≤ n
      · rw [if_pos qb, stp_ge hb qb]
        by_cases qab : a + b ≤ n
        · rw [if_pos (by omega)] at i1
          have e3 : stp a (stp b w) (n - b) = stp b w (n - b) + stp a (stp b w) (n - b - a) := stp_ge ha (by omega)
          have e4 : n - a - b = n - b - a := by omega
          rw [e4] at i1
          omega
        · rw [if_neg (by omega)] at i1
          have e3 : stp a (stp b w) (n - b) = stp b w (n - b) := stp_lt (by omega)
          omega
      · rw [if_neg qb, stp_lt (by omega)]
        rw [if_neg (by omega)] at i1
        omega
    · rw [stp_lt (w := stp b w) (by omega), stp_lt (w := w) (c := a) (by omega)]
      by_cases qb : b ≤ n
      · rw [if_pos qb, stp_ge hb qb]
        have e3 : stp a (stp b w) (n - b) = stp b w (n - b) := stp_lt (by omega)
        omega
      · rw [if_neg qb, stp_lt (by omega)]
        omega
def w0 (n : Nat) : Int := if n = 0 then 1 else 0
/-- by the coins, one after the other -/
def cnt (cs : List Int) : Nat → Int := cs.foldl (fun w c => stp c.toNat w) w0
theorem fold_comm {c : Nat} (hc : 0 < c) : ∀ (cs : List Int) (w : Nat → Int), (∀ d ∈ cs, 1 ≤ d) → ∀ n, cs.foldl (fun w c => stp c.toNat w) (stp c w) n = stp c (cs.foldl (fun w c => stp c.toNat w) w) n
  | [], w, _, n => rfl
  | d :: cs, w, h, n => by
    have hd : 0 < d.toNat := by have := h d (by simp); omega
    show cs.foldl (fun w c => stp c.toNat w) (stp d.toNat (stp c w)) n = _
    have e : stp d.toNat (stp c w) = stp c (stp d.toNat w) := funext fun n => stp_comm hd hc n
    rw [e]
    exact fold_comm hc cs (stp d.toNat w) (fun x hx => h x (by simp [hx])) n
theorem cnt_zero (cs : List Int) : cnt cs 0 = 1 := by
  have key : ∀ (cs : List Int) (w : Nat → Int), cs.foldl (fun w c => stp c.toNat w) w 0 = w 0 := by
    intro cs
    induction cs with
    | nil => intro w; rfl
    | cons c cs ih => intro w; exact (ih _).trans stp_zero
  exact key cs w0
/-- a coin taken out of the row -/
theorem cnt_mem {c : Int} : ∀ (cs : List Int) (w : Nat → Int), (∀ d ∈ cs, 1 ≤ d) → cs.Nodup → c ∈ cs → ∀ n,
    cs.foldl (fun w c => stp c.toNat w) w n = stp c.toNat ((cs.filter (fun d => !decide (d = c))).foldl (fun w c => stp c.toNat w) w) n
  | [], w, _, _, h, n => by cases h
  | d :: cs, w, h1, hn, h, n => by
    have hnd := List.nodup_cons.mp hn
    by_cases e : d = c
    · subst e
      have hf : (d :: cs).filter (fun x => !decide (x = d)) = cs := by
        rw [List.filter_cons_of_neg (by simp)]
        refine List.filter_eq_self.mpr ?_
        intro x hx
        have hxd : x ≠ d := fun z => hnd.1 (z ▸ hx)
        simp [hxd]
      rw [hf]
      exact fold_comm (by have := h1 d (by simp); omega) cs w (fun x hx => h1 x (by simp [hx])) n
    · have hm : c ∈ cs := by
        rcases List.mem_cons.mp h with z | z
        · exact absurd z.symm e
        · exact z
      rw [List.filter_cons_of_pos (by simp [e])]
      exact cnt_mem cs (stp d.toNat w) (fun x hx => h1 x (by simp [hx])) hnd.2 hm n
theorem cnt_take {c : Int} {cs : List Int} (h1 : ∀ d ∈ cs, 1 ≤ d) (hn : cs.Nodup) (h : c ∈ cs) {n : Nat} (hc : c.toNat ≤ n) :
    cnt cs n = cnt cs (n - c.toNat) + cnt (cs.filter (fun d => !decide (d = c))) n := by
  have hp : 0 < c.toNat := by have := h1 c h; omega
  have e := cnt_mem cs w0 h1 hn h
  show cs.foldl _ w0 n = cs.foldl _ w0 (n - c.toNat) + _
  rw [e n, e (n - c.toNat), stp_ge hp hc]
  show _ + _ = _ + List.foldl _ w0 _ n
  omega
theorem stp_bound {c : Nat} {w : Nat → Int} {B : Int} {N : Nat} (hc : 0 < c) (hB : 0 ≤ B) (h : ∀ n, n ≤ N → 0 ≤ w n ∧ w n ≤ B) : ∀ n, n ≤ N → 0 ≤ stp c w n ∧ stp c w n ≤ B * ((n : Int) + 1) := by
  intro n
  induction n using Nat.strongRecOn with
  | ind n ih =>
    intro hn
    have h1 := h n hn
    have e0 : B * ((n : Int) + 1) = B * n + B := by rw [Int.mul_add, Int.mul_one]
    have z0 : 0 ≤ B * (n : Int) := Int.mul_nonneg hB (by omega)
    by_cases q : c ≤ n
    · rw [stp_ge hc q]
      obtain ⟨i1, i2⟩ := ih (n - c) (by omega) (by omega)
      have e1 : B * (((n - c : Nat) : Int) + 1) ≤ B * n := Int.mul_le_mul_of_nonneg_left (by omega) hB
      omega
    · rw [stp_lt (by omega)]
      omega
theorem cnt_bound {N : Nat} : ∀ (cs : List Int) (w : Nat → Int) (B : Int), (∀ d ∈ cs, 1 ≤ d) → 0 ≤ B → (∀ n, n ≤ N → 0 ≤ w n ∧ w n ≤ B) →
    ∀ n, n ≤ N → 0 ≤ cs.foldl (fun w c => stp c.toNat w) w n ∧ cs.foldl (fun w c => stp c.toNat w) w n ≤ B * ((N : Int) + 1) ^ cs.length
  | [], w, B, _, _, h, n, hn => by
    have := h n hn
    simpa using this
  | c :: cs, w, B, h1, hB, h, n, hn => by
    have hc : 0 < c.toNat := by have := h1 c (by simp); omega
    have hB2 : 0 ≤ B * ((N : Int) + 1) := Int.mul_nonneg hB (by omega)
    have key := cnt_bound cs (stp c.toNat w) (B * ((N : Int) + 1)) (fun d hd => h1 d (by simp [hd])) hB2 (fun n hn => by
      obtain ⟨a, b⟩ := stp_bound hc hB h n hn
      exact ⟨a, Int.le_trans b (Int.mul_le_mul_of_nonneg_left (by omega) hB)⟩) n hn
    refine ⟨key.1, Int.le_trans key.2 (Int.le_of_eq ?_)⟩
    show B * ((N : Int) + 1) * ((N : Int) + 1) ^ cs.length = B * ((N : Int) + 1) ^ (cs.length + 1)
    rw [Int.pow_succ, Int.mul_assoc, Int.mul_comm (((N : Int) + 1) ^ cs.length)]
theorem cnt_small {cs : List Int} (h1 : ∀ d ∈ cs, 1 ≤ d) (hl : cs.length ≤ 15) {n : Nat} (hn : n ≤ 400) : 0 ≤ cnt cs n ∧ (cnt cs n).natAbs < 2 ^ 1000 := by
  have h := cnt_bound (N := 400) cs w0 1 h1 (by decide) (fun n _ => by unfold w0; split <;> decide) n hn
  refine ⟨h.1, ?_⟩
  have h2 : cnt cs n ≤ 1 * ((400 : Nat) + 1 : Int) ^ cs.length := h.2
  have h3 : ((400 : Nat) + 1 : Int) ^ cs.length ≤ ((401 : Nat) : Int) ^ 15 := by
    have : (401 : Nat) ^ cs.length ≤ 401 ^ 15 := Nat.pow_le_pow_right (by decide) hl
    exact_mod_cast this
  have h4 : (401 : Nat) ^ 15 < 2 ^ 1000 := by decide +kernel
  have h5 : ((401 : Nat) : Int) ^ 15 = ((401 ^ 15 : Nat) : Int) := by exact_mod_cast rfl
  have h0 : 0 ≤ cnt cs n := h.1
  rw [h5] at h3
  omega
/-! tables -/
def tab (n : Nat) (f : Nat → Int) : List Int := (List.range n).map f
theorem tab_len (n : Nat) (f : Nat → Int) : (tab n f).length = n := by simp [tab]
theorem tab_at {n i : Nat} {f : Nat → Int} (h : i < n) : (tab n f)[i]? = some (f i) := by
  simp [tab, h]
theorem tab_set {n i : Nat} {f : Nat → Int} {v : Int} : (tab n f).set i v = tab n (fun j => if j = i then v else f j) := by
  apply List.ext_getElem?
  intro j
  rw [List.getElem?_set, tab_len]
  by_cases hj : j < n
  · rw [tab_at (f := fun j => if j = i then v else f j) hj, tab_at (f := f) hj]
    by_cases e : i = j
    · rw [if_pos e, if_pos (by omega), if_pos e.symm]
    · rw [if_neg e, if_neg (fun z => e z.symm)]
  · have h1 : (tab n fun j => if j = i then v else f j)[j]? = none := by
      rw [List.getElem?_eq_none_iff, tab_len]; omega
    have h2 : (tab n f)[j]? = none := by
      rw [List.getElem?_eq_none_iff, tab_len]; omega
    rw [h1, h2]
    by_cases e : i = j
    · rw [if_pos e, if_neg (by omega)]
    · rw [if_neg e]
theorem tab_w0 (n : Nat) : ([1] ++ (List.replicate n 0) : List Int) = tab (n + 1) w0 := by
  apply List.ext_getElem?
  intro j
  by_cases hj : j < n + 1
  · rw [tab_at hj]
    cases j with
    | zero => rfl
    | succ j =>
      rw [show ([1] ++ List.replicate n (0 : Int))[j + 1]? = (List.replicate n (0 : Int))[j]? from rfl, List.getElem?_replicate, if_pos (by omega)]
      rfl
  · have h1 : (tab (n + 1) w0)[j]? = none := by
      rw [List.getElem?_eq_none_iff, tab_len]; omega
    rw [h1, List.getElem?_eq_none_iff]
    simp
    omega
/-- a table half way through a coin's step -/
def half (c : Nat) (w : Nat → Int) (m : Nat) (n : Nat) : Int := if n < m then stp c w n else w n
theorem half_start (c : Nat) (w : Nat → Int) (n : Nat) : half c w c n = w n := by
  unfold half
  by_cases h : n < c
  · rw [if_pos h, stp_lt h]
  · rw [if_neg h]
theorem half_step {c : Nat} (hc : 0 < c) (w : Nat → Int) {m : Nat} (hm : c ≤ m) (n : Nat) : (if n = m then half c w m m + half c w m (m - c) else half c w m n) = half c w (m + 1) n := by
  unfold half
  by_cases e : n = m
  · subst e
    rw [if_pos rfl, if_neg (by omega), if_pos (by omega), if_pos (by omega), stp_ge hc hm]
  · rw [if_neg e]
    by_cases h : n < m
    · rw [if_pos h, if_pos (by omega)]
    · rw [if_neg h, if_neg (by omega)]
theorem half_end {c : Nat} {w : Nat → Int} {k n : Nat} (h : n < k) : half c w k n = stp c w n := if_pos h
theorem tab_congr {n : Nat} {f g : Nat → Int} (h : ∀ i, i < n → f i = g i) : tab n f = tab n g := by
  apply List.map_congr_left
  intro i hi
  exact h i (List.mem_range.mp hi)
end KM

/-! all payments of a sum, ascending; which of them stands at a place; the place of one -/
namespace KM
/-- how many there are by the coins from here on -/
def tw : List Int → Nat → Int
  | [] => w0
  | c :: cs => stp c.toNat (tw cs)
theorem tw_cnt : ∀ {cs : List Int}, (∀ d ∈ cs, 1 ≤ d) → ∀ n, tw cs n = cnt cs n := by
  intro cs
  induction cs with
  | nil => intro _ n; rfl
  | cons c cs ih =>
    intro h n
    have hc : 1 ≤ c := h c (by simp)
    have hr : ∀ d ∈ cs, 1 ≤ d := fun d z => h d (List.mem_cons_of_mem _ z)
    show stp c.toNat (tw cs) n = (c :: cs).foldl (fun w c => stp c.toNat w) w0 n
    rw [List.foldl_cons, fold_comm (by omega) cs w0 hr n]
    exact stp_congr (fun n => ih hr n) n
def blk (c : Nat) (q : Nat → List (List Int)) (n m : Nat) : List (List Int) := (q (n - m * c)).map (fun p => (m : Int) :: p)
/-- those in which the first coin stands m times or more -/
def from_ (c : Nat) (q : Nat → List (List Int)) (n m : Nat) : List (List Int) := (List.range' m (n / c + 1 - m)).flatMap (blk c q n)
def allP : List Int → Nat → List (List Int)
  | [], n => if n = 0 then [[]] else []
  | c :: cs, n => from_ c.toNat (allP cs) n 0
theorem from_step {c n m : Nat} {q : Nat → List (List Int)} (h : m ≤ n / c) : from_ c q n m = blk c q n m ++ from_ c q n (m + 1) := by
  unfold from_
  rw [show n / c + 1 - m = (n / c + 1 - (m + 1)) + 1 from by omega, List.range'_succ, List.flatMap_cons]
theorem from_end {c n m : Nat} {q : Nat → List (List Int)} (h : n / c < m) : from_ c q n m = [] := by
  unfold from_
  rw [show n / c + 1 - m = 0 from by omega]
  rfl
theorem blk_len {c n m : Nat} {q : Nat → List (List Int)} : (blk c q n m).length = (q (n - m * c)).length := by simp [blk]
theorem from_shift {c n m : Nat} {q : Nat → List (List Int)} (hc : 0 < c) (hn : c ≤ n) : (from_ c q n (m + 1)).length = (from_ c q (n - c) m).length := by
  unfold from_
  have e : n / c = (n - c) / c + 1 := by
    have := Nat.sub_add_cancel hn
    rw [← this, Nat.add_div_right _ hc, Nat.add_sub_cancel]
  rw [show n / c + 1 - (m + 1) = (n - c) / c + 1 - m from by omega, List.range'_eq_map_range, List.range'_eq_map_range (s := m)]
  simp only [List.length_flatMap, List.map_map]
  congr 1
  apply List.map_congr_left
  intro j _
  simp only [Function.comp, blk_len]
  rw [show n - (m + 1 + j) * c = n - c - (m + j) * c from by
    rw [show m + 1 + j = (m + j) + 1 from by omega, Nat.add_mul]
    omega]
theorem all_len : ∀ {cs : List Int}, (∀ d ∈ cs, 1 ≤ d) → ∀ n, ((allP cs n).length : Int) = tw cs n := by
  intro cs
  induction cs with
  | nil =>
    intro _ n
    by_cases h : n = 0 <;> simp [allP, tw, w0, h]
  | cons c cs ih =>
    intro h n
    have hc : 1 ≤ c := h c (by simp)
    have hr : ∀ d ∈ cs, 1 ≤ d := fun d z => h d (List.mem_cons_of_mem _ z)
    refine stp_uniq (c := c.toNat) (w := tw cs) (u := fun n => ((allP (c :: cs) n).length : Int)) (by omega) ?_ n
    intro n
    show ((from_ c.toNat (allP cs) n 0).length : Int) = _
    rw [from_step (Nat.zero_le _), List.length_append, blk_len, Nat.zero_mul, Nat.sub_zero, Int.natCast_add, ih hr n]
    by_cases q : c.toNat ≤ n
    · rw [if_pos q, from_shift (by omega) q]
      rfl
    · rw [if_neg q, from_end (by rw [Nat.div_eq_of_lt (by omega)]; omega)]
      rfl
/-- a turn of the search: this first number is too small -/
theorem from_more {c n m k : Nat} {q : Nat → List (List Int)} {p : List Int} (hm : m ≤ n / c) (h : (from_ c q n m)[k]? = some p) (hk : (q (n - m * c)).length ≤ k) :
    m + 1 ≤ n / c ∧ (from_ c q n (m + 1))[k - (q (n - m * c)).length]? = some p := by
  rw [from_step hm, List.getElem?_append_right (by rw [blk_len]; exact hk), blk_len] at h
  refine ⟨?_, h⟩
  rcases Nat.lt_or_ge (n / c) (m + 1) with z | z
  · rw [from_end z] at h
    simp at h
  · exact z
/-- the search ends -/
theorem from_here {c n m k : Nat} {q : Nat → List (List Int)} {p : List Int} (hm : m ≤ n / c) (h : (from_ c q n m)[k]? = some p) (hk : k < (q (n - m * c)).length) :
    ∃ r, (q (n - m * c))[k]? = some r ∧ p = (m : Int) :: r := by
  rw [from_step hm, List.getElem?_append_left (by rw [blk_len]; exact hk)] at h
  unfold blk at h
  rw [List.getElem?_map] at h
  match e : (q (n - m * c))[k]?, h with
  | some r, h => exact ⟨r, rfl, by simpa using h.symm⟩
/-- what is left stays a number -/
theorem from_left {c n m : Nat} (hc : 0 < c) (hm : m + 1 ≤ n / c) : c ≤ n - m * c ∧ n - (m + 1) * c = n - m * c - c := by
  have h := (Nat.le_div_iff_mul_le hc).mp hm
  rw [Nat.add_mul] at *
  omega
/-- what a payment comes to -/
def wrt : List Int → List Int → Int
  | c :: cs, m :: p => c * m + wrt cs p
  | _, _ => 0
theorem wrt_nn : ∀ (cs p : List Int), (∀ d ∈ cs, 1 ≤ d) → (∀ m ∈ p, 0 ≤ m) → 0 ≤ wrt cs p
  | [], [], _, _ => Int.le_refl _
  | [], _ :: _, _, _ => Int.le_refl _
  | _ :: _, [], _, _ => Int.le_refl _
  | d :: ds, x :: xs, h, h0 => by
    have a := wrt_nn ds xs (fun y hy => h y (by simp [hy])) (fun y hy => h0 y (by simp [hy]))
    have b : 0 ≤ d * x := Int.mul_nonneg (by have := h d (by simp); omega) (h0 x (by simp))
    show 0 ≤ d * x + wrt ds xs
    omega
/-- each of them is a payment of the sum -/
theorem all_is : ∀ {cs : List Int}, (∀ d ∈ cs, 1 ≤ d) → ∀ {n : Nat} {p : List Int}, p ∈ allP cs n → p.length = cs.length ∧ (∀ m ∈ p, 0 ≤ m) ∧ wrt cs p = n := by
  intro cs
  induction cs with
  | nil =>
    intro _ n p h
    by_cases z : n = 0
    · simp [allP, z] at h
      subst h
      simp [wrt, z]
    · simp [allP, z] at h
  | cons c cs ih =>
    intro h n p hp
    have hc : 1 ≤ c := h c (by simp)
    have hr : ∀ d ∈ cs, 1 ≤ d := fun d z => h d (List.mem_cons_of_mem _ z)
    obtain ⟨m, hm, hb⟩ := List.mem_flatMap.mp (show p ∈ (List.range' 0 (n / c.toNat + 1 - 0)).flatMap (blk c.toNat (allP cs) n) from hp)
    obtain ⟨r, hr1, rfl⟩ := List.mem_map.mp hb
    obtain ⟨l1, l2, l3⟩ := ih hr hr1
    have hm' : m ≤ n / c.toNat := by
      have := List.mem_range'_1.mp hm
      omega
    have hle : m * c.toNat ≤ n := (Nat.le_div_iff_mul_le (by omega)).mp hm'
    refine ⟨by simp [l1], ?_, ?_⟩
    · intro x hx
      rcases List.mem_cons.mp hx with rfl | hx
      · omega
      · exact l2 x hx
    · show c * m + wrt cs r = n
      rw [l3, Int.natCast_sub hle, Int.natCast_mul, Int.toNat_of_nonneg (by omega), Int.mul_comm c]
      omega
/-- the place of a payment -/
def rk : List Int → List Int → Nat → Nat
  | c :: cs, m :: p, n => ((List.range m.toNat).map fun j => (allP cs (n - j * c.toNat)).length).sum + rk cs p (n - m.toNat * c.toNat)
  | _, _, _ => 0
theorem from_at {c n : Nat} {q : Nat → List (List Int)} : ∀ (d m k : Nat), m + d ≤ n / c → (from_ c q n m)[((List.range d).map fun j => (q (n - (m + j) * c)).length).sum + k]? = (from_ c q n (m + d))[k]? := by
  intro d
  induction d with
  | zero => intro m k _; simp
  | succ d ih =>
    intro m k h
    rw [from_step (show m ≤ n / c by omega), List.range_succ_eq_map, List.map_cons, List.map_map, List.sum_cons]
    rw [List.getElem?_append_right (by rw [blk_len]; simp only [Nat.add_zero]; omega), blk_len]
    have e := ih (m + 1) k (by omega)
    rw [show m + (d + 1) = m + 1 + d from by omega, ← e]
    congr 1
    have e2 : ((List.range d).map ((fun j => (q (n - (m + j) * c)).length) ∘ Nat.succ)) = (List.range d).map fun j => (q (n - (m + 1 + j) * c)).length := by
      apply List.map_congr_left
      intro j _
      simp only [Function.comp]
      rw [show m + j.succ = m + 1 + j from by omega]
    rw [e2]
    simp only [Nat.add_zero]
    omega
/-- a payment of a sum stands at its place -/
theorem rk_at : ∀ {cs : List Int}, (∀ d ∈ cs, 1 ≤ d) → ∀ {p : List Int} {n : Nat}, p.length = cs.length → (∀ m ∈ p, 0 ≤ m) → wrt cs p = n → (allP cs n)[rk cs p n]? = some p := by
  intro cs
  induction cs with
  | nil =>
    intro _ p n hl _ hw
    match p, hl with
    | [], _ =>
      have z : n = 0 := by
        have : (0 : Int) = n := hw
        omega
      subst z
      rfl
  | cons c cs ih =>
    intro h p n hl h0 hw
    match p, hl with
    | m :: p, hl =>
      have hc : 1 ≤ c := h c (by simp)
      have hr : ∀ d ∈ cs, 1 ≤ d := fun d z => h d (List.mem_cons_of_mem _ z)
      have hm : 0 ≤ m := h0 m (by simp)
      have hw' : c * m + wrt cs p = n := hw
      have wn : 0 ≤ wrt cs p := wrt_nn cs p hr fun y hy => h0 y (by simp [hy])
      have em : ((m.toNat * c.toNat : Nat) : Int) = c * m := by
        rw [Int.natCast_mul, Int.toNat_of_nonneg hm, Int.toNat_of_nonneg (by omega), Int.mul_comm]
      have hle : m.toNat * c.toNat ≤ n := by omega
      have hd : 0 + m.toNat ≤ n / c.toNat := by
        rw [Nat.zero_add]
        exact (Nat.le_div_iff_mul_le (by omega)).mpr hle
      have i := ih hr (p := p) (n := n - m.toNat * c.toNat) (by simpa using hl) (fun y hy => h0 y (by simp [hy])) (by omega)
      have f := from_at (c := c.toNat) (n := n) (q := allP cs) m.toNat 0 (rk cs p (n - m.toNat * c.toNat)) hd
      simp only [Nat.zero_add] at f
      show (from_ c.toNat (allP cs) n 0)[_]? = _
      refine f.trans ?_
      rw [from_step (by omega)]
      have lt : rk cs p (n - m.toNat * c.toNat) < (allP cs (n - m.toNat * c.toNat)).length := by
        rcases Nat.lt_or_ge (rk cs p (n - m.toNat * c.toNat)) (allP cs (n - m.toNat * c.toNat)).length with z | z
        · exact z
        · rw [List.getElem?_eq_none z] at i
          cases i
      rw [List.getElem?_append_left (by rw [blk_len]; exact lt)]
      unfold blk
      rw [List.getElem?_map, i]
      simp [Int.toNat_of_nonneg hm]
/-- lesser, as tuples of numbers are compared -/
def lx : List Int → List Int → Bool
  | a :: p, b :: q => a < b || (a == b && lx p q)
  | [], _ :: _ => true
  | _, [] => false
theorem all_asc : ∀ {cs : List Int}, (∀ d ∈ cs, 1 ≤ d) → ∀ n, (allP cs n).Pairwise fun p q => lx p q = true := by
  intro cs
  induction cs with
  | nil =>
    intro _ n
    by_cases z : n = 0 <;> simp [allP, z]
  | cons c cs ih =>
    intro h n
    have hr : ∀ d ∈ cs, 1 ≤ d := fun d z => h d (List.mem_cons_of_mem _ z)
    have go : ∀ d m, n / c.toNat + 1 - m = d → (from_ c.toNat (allP cs) n m).Pairwise (fun p q => lx p q = true) ∧ ∀ p ∈ from_ c.toNat (allP cs) n m, ∃ x r, p = x :: r ∧ (m : Int) ≤ x := by
      intro d
      induction d with
      | zero =>
        intro m e
        rw [from_end (by omega)]
        simp
      | succ d id =>
        intro m e
        obtain ⟨i1, i2⟩ := id (m + 1) (by omega)
        rw [from_step (by omega)]
        refine ⟨List.pairwise_append.mpr ⟨?_, i1, ?_⟩, ?_⟩
        · unfold blk
          rw [List.pairwise_map]
          refine (ih hr (n - m * c.toNat)).imp ?_
          intro a b hab
          simp [lx, hab]
        · intro a ha b hb
          obtain ⟨r, _, rfl⟩ := List.mem_map.mp ha
          obtain ⟨x, r', rfl, hx⟩ := i2 b hb
          have : (m : Int) < x := by omega
          simp [lx, this]
        · intro p hp
          rcases List.mem_append.mp hp with hp | hp
          · obtain ⟨r, _, rfl⟩ := List.mem_map.mp hp
            exact ⟨_, r, rfl, Int.le_refl _⟩
          · obtain ⟨x, r, rfl, hx⟩ := i2 p hp
            exact ⟨x, r, rfl, by omega⟩
    exact (go _ 0 rfl).1
end KM

/-! all payments, by the law's own recursion; bounds -/
namespace KM
theorem all_one {c : Int} (hc : 1 ≤ c) (n : Nat) : allP [c] n = if n % c.toNat = 0 then [[((n / c.toNat : Nat) : Int)]] else [] := by
  have h0 : 0 < c.toNat := by omega
  have hm : n - n / c.toNat * c.toNat = n % c.toNat := by
    have := Nat.div_add_mod n c.toNat
    rw [Nat.mul_comm] at this
    omega
  have go : ∀ d m, m + d = n / c.toNat → from_ c.toNat (allP []) n m = if n % c.toNat = 0 then [[((n / c.toNat : Nat) : Int)]] else [] := by
    intro d
    induction d with
    | zero =>
      intro m e
      have e' : m = n / c.toNat := by omega
      subst e'
      rw [from_step (Nat.le_refl _), from_end (Nat.lt_succ_self _), List.append_nil]
      unfold blk allP
      rw [hm]
      by_cases z : n % c.toNat = 0
      · rw [if_pos z, if_pos z]
        rfl
      · rw [if_neg z, if_neg z]
        rfl
    | succ d ih =>
      intro m e
      rw [from_step (by omega), ih (m + 1) (by omega)]
      have hl : (m + 1) * c.toNat ≤ n := (Nat.le_div_iff_mul_le h0).mp (by omega)
      have hb : blk c.toNat (allP []) n m = [] := by
        unfold blk allP
        rw [if_neg (by rw [Nat.add_mul] at hl; omega)]
        rfl
      rw [hb]
      rfl
  exact go _ 0 (Nat.zero_add _)
theorem from_take {c n : Nat} {q : Nat → List (List Int)} {j : Nat} : (List.range' 0 (j + 1)).flatMap (blk c q n) = (List.range' 0 j).flatMap (blk c q n) ++ blk c q n j := by
  rw [List.range'_concat, List.flatMap_append]
  simp
theorem from_all {c n : Nat} {q : Nat → List (List Int)} : (List.range' 0 (n / c + 1)).flatMap (blk c q n) = from_ c q n 0 := rfl
theorem blk_le {c n j : Nat} {q : Nat → List (List Int)} : ∀ {k : Nat}, j < k → (blk c q n j).length ≤ ((List.range' 0 k).flatMap (blk c q n)).length := by
  intro k
  induction k with
  | zero => intro h; omega
  | succ k ih =>
    intro h
    rw [from_take, List.length_append]
    by_cases e : j = k
    · subst e; omega
    · have := ih (by omega)
      omega
theorem part_le {c n : Nat} {q : Nat → List (List Int)} : ∀ {k m : Nat}, k ≤ m → ((List.range' 0 k).flatMap (blk c q n)).length ≤ ((List.range' 0 m).flatMap (blk c q n)).length := by
  intro k m h
  induction m with
  | zero =>
    have : k = 0 := by omega
    subst this
    exact Nat.le_refl _
  | succ m ih =>
    by_cases e : k = m + 1
    · subst e; exact Nat.le_refl _
    · rw [from_take (j := m), List.length_append]
      have := ih (by omega)
      omega
/-- the payments by fewer coins are no more -/
theorem all_less {c : Int} {cs : List Int} {n j : Nat} (h : j ≤ n / c.toNat) : (allP cs (n - j * c.toNat)).length ≤ (allP (c :: cs) n).length := by
  have := blk_le (c := c.toNat) (n := n) (q := allP cs) (k := n / c.toNat + 1) (j := j) (by omega)
  rw [blk_len] at this
  exact this
theorem all_small {cs : List Int} (h : ∀ d ∈ cs, 1 ≤ d) {n : Nat} {m : Nat} (hb : tw cs n ≤ m) : (allP cs n).length ≤ m := by
  have := all_len h n
  omega
theorem tw_nn {cs : List Int} (h : ∀ d ∈ cs, 1 ≤ d) (n : Nat) : 0 ≤ tw cs n := by
  have := all_len h n
  omega
theorem drop_cons {cs : List Int} {i : Nat} {c : Int} (h : cs[i]? = some c) : cs.drop i = c :: cs.drop (i + 1) := by
  obtain ⟨hi, e⟩ := List.getElem?_eq_some_iff.mp h
  rw [List.drop_eq_getElem_cons hi, e]
/-- numbers of a payment are small -/
theorem all_mem {cs : List Int} (h : ∀ d ∈ cs, 1 ≤ d) : ∀ {n : Nat} {p : List Int}, p ∈ allP cs n → ∀ m ∈ p, 0 ≤ m ∧ m ≤ n := by
  induction cs with
  | nil =>
    intro n p hp m hm
    by_cases z : n = 0
    · simp [allP, z] at hp
      subst hp
      cases hm
    · simp [allP, z] at hp
  | cons c cs ih =>
    intro n p hp x hx
    have hc : 1 ≤ c := h c (by simp)
    have hr : ∀ d ∈ cs, 1 ≤ d := fun d z => h d (List.mem_cons_of_mem _ z)
    obtain ⟨m, hm, hb⟩ := List.mem_flatMap.mp (show p ∈ (List.range' 0 (n / c.toNat + 1 - 0)).flatMap (blk c.toNat (allP cs) n) from hp)
    obtain ⟨r, hr1, rfl⟩ := List.mem_map.mp hb
    have hm' : m ≤ n / c.toNat := by
      have := List.mem_range'_1.mp hm
      omega
    have : n / c.toNat ≤ n := Nat.div_le_self _ _
    rcases List.mem_cons.mp hx with rfl | hx
    · omega
    · have := ih hr hr1 x hx
      omega
theorem tab_take {n k : Nat} {g : Nat → Int} (h : k ≤ n) : (tab n g).take k = tab k g := by
  unfold tab
  rw [← List.map_take, List.take_range, Nat.min_eq_left h]
end KM
namespace KM
theorem drop_is {α : Type} {p : List α} {i : Nat} {x : α} {r : List α} (h : p.drop i = x :: r) : p[i]? = some x ∧ p.take (i + 1) = p.take i ++ [x] ∧ p.drop (i + 1) = r := by
  have e : p[i]? = some x := by
    have := congrArg (fun l : List α => l[0]?) h
    simpa [List.getElem?_drop] using this
  refine ⟨e, ?_, ?_⟩
  · rw [List.take_add_one, e]
    rfl
  · have := congrArg List.tail h
    rw [List.tail_drop] at this
    exact this
theorem all_len_of {cs : List Int} (h : ∀ d ∈ cs, 1 ≤ d) {n k : Nat} {p : List Int} (e : (allP cs n)[k]? = some p) : p.length = cs.length := (all_is h (List.mem_of_getElem? e)).1
end KM

/-! lots as the heap has them; what the program's defs promise of them; draws -/
namespace Kx
open PySem L2 MG KM
structure Bi (mg : Str → Option Value) : Prop where
  b_isinstance : mg "isinstance" = none
  b_int : mg "int" = none
  b_bool : mg "bool" = none
  b_str : mg "str" = none
  b_tuple : mg "tuple" = none
  b_list : mg "list" = none
  b_len : mg "len" = none
  b_enumerate : mg "enumerate" = none
  b_range : mg "range" = none
  b_zip : mg "zip" = none
  b_reversed : mg "reversed" = none
  b_divmod : mg "divmod" = none
  b_abs : mg "abs" = none
  b_sorted : mg "sorted" = none
  b_sum : mg "sum" = none
  b_repr : mg "repr" = none
  b_all : mg "all" = none
  b_any : mg "any" = none
  b_min : mg "min" = none
  b_max : mg "max" = none
  b_set : mg "set" = none
  b_dict : mg "dict" = none
/-- some of the items, by their places -/
def gP {α : Type} (is : List Nat) (zs : List α) : List α := is.filterMap (zs[·]?)
def sp_is_integer : Sp := fun vs H Q _ => ∃ n : Int, vs = [.int n] ∧ Q (.bl true) H
def sp_is_between : Sp := fun vs H Q _ => ∃ n a b : Int, vs = [.int n, .int a, .int b] ∧ Q (.bl (decide (a ≤ n) && decide (n ≤ b))) H
def sp_check_small : Sp := fun vs H Q _ => ∃ n : Int, vs = [.int n] ∧ 0 ≤ n ∧ n ≤ 400 ∧ Q .non H
/-! ### lots -/
def asc : Int → List Int → Prop
  | _, [] => True
  | a, c :: r => a < c ∧ c ≤ 60 ∧ asc c r
def ahd : Int → List Int → Nat → Int
  | a, _, 0 => a
  | a, [], _ => a
  | _, c :: r, i + 1 => ahd c r i
theorem asc_at : ∀ {cs : List Int} {a : Int} {i : Nat} {c : Int}, asc a cs → cs[i]? = some c → ahd a cs i < c ∧ c ≤ 60 ∧ ahd a cs (i + 1) = c
  | [], _, _, _, _, h => by simp at h
  | d :: r, a, 0, c, h, e => by
    have e' : d = c := by simpa using e
    subst e'
    obtain ⟨h1, h2, h3⟩ := h
    refine ⟨h1, h2, ?_⟩
    cases r <;> rfl
  | d :: r, a, i + 1, c, h, e => by
    obtain ⟨h1, h2, h3⟩ := h
    exact asc_at (cs := r) (a := d) h3 (by simpa using e)
def asch (hi : Int) : Int → List Int → Prop
  | _, [] => True
  | a, c :: r => a < c ∧ c ≤ hi ∧ asch hi c r
theorem asch_at : ∀ {hi : Int} {cs : List Int} {a : Int} {i : Nat} {c : Int}, asch hi a cs → cs[i]? = some c → ahd a cs i < c ∧ c ≤ hi ∧ ahd a cs (i + 1) = c
  | _, [], _, _, _, _, h => by simp at h
  | hi, d :: r, a, 0, c, h, e => by
    have e' : d = c := by simpa using e
    subst e'
    obtain ⟨h1, h2, h3⟩ := h
    refine ⟨h1, h2, ?_⟩
    cases r <;> rfl
  | hi, d :: r, a, i + 1, c, h, e => by
    obtain ⟨h1, h2, h3⟩ := h
    exact asch_at (cs := r) (a := d) h3 (by simpa using e)
theorem asch_of : ∀ {cs : List Int} {a : Int}, asc a cs → asch 60 a cs
  | [], _, _ => True.intro
  | _ :: _, _, ⟨h1, h2, h3⟩ => ⟨h1, h2, asch_of h3⟩
def sp_is_number : Sp := fun vs H Q _ => ∃ n : Int, vs = [.int n] ∧ Q (.bl (decide (0 ≤ n))) H
def sp_is_small : Sp := fun vs H Q _ => ∃ n : Int, vs = [.int n] ∧ 0 ≤ n ∧ n ≤ 400 ∧ Q (.bl true) H
def sp_count_ascending : Sp := fun vs H Q _ => ∃ (t : Addr) (cs : List Int) (lo hi : Int) (m : Nat), vs = [.ref t, .int lo, .int hi, .int m] ∧ H t = some (.tup (cs.map V.int)) ∧ cs.length ≤ m ∧ m ≤ 1000 ∧ asch hi (lo - 1) cs ∧ ∀ H', Same H H' → Q (.int cs.length) H'
structure Lotc (cs : List Int) : Prop where
  ne : cs ≠ []
  few : cs.length ≤ 15
  up : asc 0 cs
def sp_count_right : Sp := fun vs H Q _ => ∃ (t : Addr) (cs : List Int), vs = [.ref t] ∧ H t = some (.tup (cs.map V.int)) ∧ Lotc cs ∧ ∀ H', Same H H' → Q (.int cs.length) H'
/-! the class Lot: at C; its one field -/
structure Tc (K : PySem.W.Frag) (mg : Str → Option Value) (C : Addr) : Prop where
  cl : Cls K C
  nc : NoAttr K C "_coins"
  gL : mg "Lot" = some (.ref C)
  k1 : PySem.W.findIn K (.ref C) "__class__" = some (some (.builtin "object.__class__"))
  k2 : PySem.W.specialIn K (.builtin "object.__class__") "__get__" = some (some (.builtin "getset_descriptor.__get__"))
  k3 : PySem.W.takesIn K (.builtin "object.__class__") = some true
  k4 : PySem.W.mroIn K C (.type "object") = some true
/-- a lot stands at p, with the coins cs -/
def LotAt (C : Addr) (H : Hp) (p : Addr) (cs : List Int) : Prop := ∃ dx t, H p = some (.ins C dx [("_coins", .ref t)]) ∧ H t = some (.tup (cs.map V.int)) ∧ Lotc cs
theorem LotAt.same {C : Addr} {H H' : Hp} {p : Addr} {cs : List Int} (h : LotAt C H p cs) (s : Same H H') : LotAt C H' p cs := by
  obtain ⟨dx, t, h1, h2, h3⟩ := h
  exact ⟨dx, t, s _ _ h1, s _ _ h2, h3⟩
def sp_Lot_init (C : Addr) : Sp := fun vs H Q _ => ∃ (p dx t : Addr) (cs : List Int), vs = [.ref p, .ref t] ∧ H p = some (.ins C dx []) ∧ H t = some (.tup (cs.map V.int)) ∧ Lotc cs ∧
  ∀ H', But p H H' → H' p = some (.ins C dx [("_coins", .ref t)]) → Q .non H'
def sp_check_lot (C : Addr) : Sp := fun vs H Q _ => ∃ (p dx : Addr) (fs : List (Str × V)), vs = [.ref p] ∧ H p = some (.ins C dx fs) ∧ Q .non H
def sp_put_ways : Sp := fun vs H Q _ => ∃ (l : Addr) (c : Int) (n : Nat) (g : Nat → Int), vs = [.ref l, .int c] ∧ H l = some (.lst ((tab n g).map V.int)) ∧ 1 ≤ c ∧ c ≤ 60 ∧ n ≤ 100000 ∧
  ∀ H', But l H H' → H' l = some (.lst ((tab n (stp c.toNat g)).map V.int)) → Q .non H'
theorem set_map {ns : List Int} {i : Nat} {v : Int} : (ns.map V.int).set i (.int v) = (ns.set i v).map V.int := by
  rw [List.map_set]
def sp_count_ways : Sp := fun vs H Q _ => ∃ (t : Addr) (cs : List Int) (m : Nat), vs = [.ref t, .int m] ∧ H t = some (.tup (cs.map V.int)) ∧ (∀ c ∈ cs, 1 ≤ c ∧ c ≤ 60) ∧ m ≤ 50000 ∧
  ∀ l H', H l = none → Same H H' → H' l = some (.lst ((tab (m + 1) (cnt cs)).map V.int)) → Q (.ref l) H'
theorem take_fold {cs : List Int} {i : Nat} {z : Int} (h : cs[i]? = some z) (g : Nat → Int) : (cs.take (i + 1)).foldl (fun w c => stp c.toNat w) g = stp z.toNat ((cs.take i).foldl (fun w c => stp c.toNat w) g) := by
  rw [List.take_add_one, h, List.foldl_append]
  rfl
def sp_count_payments (C : Addr) : Sp := fun vs H Q _ => ∃ (p : Addr) (cs : List Int) (n : Nat), vs = [.ref p, .int n] ∧ LotAt C H p cs ∧ n ≤ 400 ∧ ∀ H', Same H H' → Q (.int (cnt cs n)) H'
/-- lot.coins -/
def Prp (P : Program) (w : World) (K : PySem.W.Frag) (mg : Str → Option Value) (base : Heap) (C : Addr) : Prop :=
  ∃ (p g : Addr) (fd : FuncData), PropOf K C "coins" p g ∧ FnOk P w K mg base CX0 1 g fd ["self"] (getSp C "_coins") ∧ Binds K fd ["self"] []
theorem pe_coins {X : Cx} {C : Addr} {n : Nat} {e : Expr} {ta : TE} {pos : Pos} (c : Prp X.prog X.w X.K X.mg X.base C) (cl : Cls X.K C) (rm : Room n X.A) (he : PE X e ta) (h2 : 2 ≤ n := by decide)
    (hab : attributeBase e "coins" X.env (eval e X.env) = eval e X.env := by rfl) : PE X (.Attribute e "coins" pos) (tProp C (getSp C "_coins") [] E0 ta) := by
  obtain ⟨p, g, fd, h1, h3, h4⟩ := c
  exact pe_prop he cl h1 h3 (rm.mono h2) h4 .nil pass0 hab
theorem lot_pos : ∀ {cs : List Int} {a : Int}, 0 ≤ a → asc a cs → ∀ c ∈ cs, 1 ≤ c ∧ c ≤ 60
  | [], _, _, _, c, h => by cases h
  | d :: r, a, ha, ⟨h1, h2, h3⟩, c, h => by
    rcases List.mem_cons.mp h with rfl | h
    · exact ⟨by omega, h2⟩
    · exact lot_pos (by omega) h3 c h
/-- where draws come from: three numbers -/
def Bw (H : Hp) (b : Addr) : Prop := ∃ x y z : Int, H b = some (.lst [.int x, .int y, .int z])
def sp_l_dip : Sp := fun vs H Q _ => ∃ (b : Addr) (m : Int), vs = [.ref b, .int m] ∧ Bw H b ∧ 0 < m ∧ m < 1000000000000000000000000000000000000000000000000000000000000 ∧ ∀ r H', 0 ≤ r → r < m → Bw H' b → But b H H' → Q (.int r) H'
/-- one item of a list or a tuple -/
def sp_l_one : Sp := fun vs H Q _ => ∃ (b a : Addr) (xs : List V), vs = [.ref b, .ref a] ∧ Bw H b ∧ a ≠ b ∧ (H a = some (.lst xs) ∨ H a = some (.tup xs)) ∧ 0 < xs.length ∧ xs.length < 1000000 ∧ ∀ x H', x ∈ xs → Bw H' b → But b H H' → Q x H'
/-- a new list of ints -/
def rInts : L2.St → Hp → V → Hp → Prop := fun _ H v H' => ∃ (p : Addr) (ms : List Int), v = .ref p ∧ H p = none ∧ Same H H' ∧ H' p = some (.lst (ms.map V.int))
theorem cut_ints (ns : List Int) (a b : Option Int) : ∃ ms : List Int, cutV (ns.map V.int) a b = ms.map V.int ∧ ms.length ≤ ns.length := by
  refine ⟨(ns.drop (HT.sIx ns.length 0 a)).take (HT.sIx ns.length ns.length b - HT.sIx ns.length 0 a), ?_, ?_⟩
  · unfold cutV
    rw [List.length_map, List.map_take, List.map_drop]
  · rw [List.length_take, List.length_drop]
    omega
def sp_l_bowl (K : PySem.W.Frag) : Sp := fun vs H Q _ => ∃ (a : Addr) (ns : List Int) (k : Nat), vs = [.ref a, .int k] ∧ SqL K H a (ns.map V.int) ∧ ns.length ≤ 63 ∧ k < 100 ∧ ∀ b H', H b = none → Same H H' → Bw H' b → Q (.ref b) H'
theorem asc_of : ∀ {cs : List Int} {a : Int}, cs.Pairwise (· < ·) → (∀ c ∈ cs, a < c ∧ c ≤ 60) → asc a cs
  | [], _, _, _ => True.intro
  | c :: r, a, h, hb => by
    have hp := List.pairwise_cons.mp h
    have h1 := hb c (by simp)
    exact ⟨h1.1, h1.2, asc_of hp.2 fun d hd => ⟨hp.1 d hd, (hb d (by simp [hd])).2⟩⟩
def rl (m : Nat) : List Int := (List.range m).map fun (i : Nat) => 1 + (i : Int)
theorem rl_mem {m : Nat} {c : Int} (h : c ∈ rl m) : 1 ≤ c ∧ c ≤ m := by
  obtain ⟨i, hi, rfl⟩ := List.mem_map.mp h
  have := List.mem_range.mp hi
  omega
theorem rl_nodup (m : Nat) : (rl m).Nodup := by
  unfold rl List.Nodup
  rw [List.pairwise_map]
  exact List.nodup_range.imp fun h => by omega
theorem rl_len (m : Nat) : (rl m).length = m := by simp [rl]
theorem drawn_lot {fs ls fs' : List Int} {m : Nat} (hm : m ≤ 60) (hp : (fs ++ ls).Perm (rl m)) (hs : fs'.Perm fs) (ho : fs'.Pairwise (· ≤ ·)) (h0 : 0 < fs.length) (h15 : fs.length ≤ 15) : Lotc fs' := by
  have nd : fs'.Nodup := hs.nodup_iff.mpr ((hp.nodup_iff.mpr (rl_nodup m)).sublist (List.sublist_append_left fs ls))
  have mem : ∀ c ∈ fs', 0 < c ∧ c ≤ 60 := fun c hc => by
    have := rl_mem (hp.mem_iff.mp (List.mem_append_left ls (hs.mem_iff.mp hc)))
    omega
  have el := hs.length_eq
  refine ⟨?_, by omega, asc_of ?_ mem⟩
  · intro z
    rw [z] at el
    simp at el
    omega
  · have := ho.and nd
    exact this.imp fun h => by omega
theorem rgV_rl (m : Nat) : rgV 1 ((m : Int) + 1) = (rl m).map V.int := by
  unfold rgV rl
  rw [List.map_map, show ((m : Int) + 1 - 1).toNat = m by omega]
  rfl
def sp_l_coins : Sp := fun vs H Q _ => ∃ (b : Addr) (n m : Nat), vs = [.ref b, .int n, .int m] ∧ Bw H b ∧ 1 ≤ n ∧ n ≤ m ∧ m ≤ 60 ∧ n ≤ 15 ∧
  ∀ t cs H', H t = none → Lotc cs → H' t = some (.tup (cs.map V.int)) → Bw H' b → But b H H' → Q (.ref t) H'
theorem down_sum {c : Nat} (hc : 0 < c) (g : Nat → Int) (n : Nat) : ((List.range (n / c + 1)).map fun k => g (n - c * k)).sum = stp c g n := by
  induction n using Nat.strongRecOn with
  | ind n ih =>
    rw [List.range_succ_eq_map, List.map_cons, List.sum_cons, List.map_map]
    by_cases h : c ≤ n
    · have e : n / c = (n - c) / c + 1 := by
        rw [← Nat.div_eq_sub_div hc h]
      have i := ih (n - c) (by omega)
      rw [stp_ge hc h, ← i, e]
      congr 1
      congr 1
      apply List.map_congr_left
      intro k _
      show g (n - c * (k + 1)) = g (n - c - c * k)
      congr 1
      rw [Nat.mul_add, Nat.mul_one]
      omega
    · rw [stp_lt (by omega), Nat.div_eq_of_lt (by omega)]
      simp
theorem pick_down {n t c : Nat} (hc : 0 < c) (ht : t < n) (g : Nat → Int) : pick (tab n g) (some (t : Int)) none (some (-(c : Int))) = (List.range (t / c + 1)).map fun k => g (t - c * k) := by
  have hb : sliceBounds (some (t : Int)) none (some (-(c : Int))) n = ((t : Int), -1, -(c : Int)) := by
    unfold sliceBounds
    have h1 : ¬ (-(c : Int) > 0) := by omega
    simp only [Option.getD_some, h1, if_false]
    rw [if_neg (by omega)]
    have e : max (-1) (min (t : Int) ((n : Int) - 1)) = t := by omega
    rw [e]
  unfold pick
  rw [tab_len, hb]
  show (sliceRange (t : Int) (-1) (-(c : Int))).filterMap _ = _
  have hr : sliceRange (t : Int) (-1) (-(c : Int)) = (List.range (t / c + 1)).map fun k => t - c * k := by
    unfold sliceRange
    have h1 : ¬ (-(c : Int) > 0) := by omega
    have h2 : (t : Int) > -1 := by omega
    have e : ((t : Int) - -1 - -(c : Int) - 1) / (- -(c : Int)) = ((t / c + 1 : Nat) : Int) := by
      rw [show (t : Int) - -1 - -(c : Int) - 1 = t + 1 * c by omega, Int.neg_neg, Int.add_mul_ediv_right _ _ (by omega)]
      omega
    simp only [h1, if_false, h2, if_true, e, Int.toNat_natCast]
    apply List.map_congr_left
    intro k hk
    have hk' := List.mem_range.mp hk
    have : c * k ≤ t := by
      have : c * k ≤ c * (t / c) := Nat.mul_le_mul_left c (by omega)
      exact Nat.le_trans this (Nat.mul_div_le t c)
    have e2 : -(c : Int) * (k : Int) = -((c * k : Nat) : Int) := by
      rw [Int.neg_mul]
      omega
    rw [e2]
    omega
  rw [hr, List.filterMap_map]
  have key : ∀ ks : List Nat, ks.filterMap ((fun x => (tab n g)[x]?) ∘ fun k => t - c * k) = ks.map fun k => g (t - c * k) := by
    intro ks
    induction ks with
    | nil => rfl
    | cons k ks ih =>
      have e : ((fun x => (tab n g)[x]?) ∘ fun k => t - c * k) k = some (g (t - c * k)) := tab_at (n := n) (show t - c * k < n by omega)
      rw [List.filterMap_cons_some e, List.map_cons, ih]
  exact key _
theorem tab_succ (n : Nat) (g : Nat → Int) : tab (n + 1) g = tab n g ++ [g n] := by
  unfold tab
  rw [List.range_succ, List.map_append]
  rfl
def sp_l_many : Sp := fun vs H Q _ => ∃ (t : Addr) (cs : List Int) (m : Nat), vs = [.ref t, .int m] ∧ H t = some (.tup (cs.map V.int)) ∧ (∀ c ∈ cs, 1 ≤ c ∧ c ≤ 60) ∧ m ≤ 1000 ∧
  ∀ l H', H l = none → Same H H' → H' l = some (.lst ((tab (m + 1) (cnt cs)).map V.int)) → Q (.ref l) H'
/-- Lot(coins) -/
def MkL (P : Program) (w : World) (K : PySem.W.Frag) (mg : Str → Option Value) (base : Heap) (C : Addr) : Prop :=
  ∃ (f : Addr) (fd : FuncData), Mk K C f ∧ FnOk P w K mg base CX0 5 f fd ["self", "coins"] (sp_Lot_init C) ∧ Binds K fd ["self", "coins"] []
theorem pe_lot {X : Cx} {C : Addr} {n : Nat} {e : Expr} {t : TA} {p pos : Pos} (c : MkL X.prog X.w X.K X.mg X.base C) (g : X.mg "Lot" = some (.ref C)) (rm : Room n X.A) (ha : PA X [e] t) (h5 : 6 ≤ n := by decide) (hg : Gl X "Lot" := by rfl)
    (he : starEach [e] X.env = [(false, eval e X.env)] := by rfl) : PE X (.Call (.Name "Lot" p) [e] [] pos) (tMake C (sp_Lot_init C) [] E0 t) := by
  obtain ⟨f, fd, h1, h2, h3⟩ := c
  exact pe_make h1 h2 (rm.mono h5) hg g h3 .nil pass0 ha (by decide) he rfl
/-- what making a lot leaves -/
theorem made_lot {C : Addr} {H : Hp} {t : Addr} {cs : List Int} {R : Addr → Hp → Prop} (ht : H t = some (.tup (cs.map V.int))) (hc : Lotc cs) (q : ∀ p H', H p = none → Same H H' → LotAt C H' p cs → R p H') :
    ∀ x dx, H x = none → H dx = none → ¬ dx = x → sp_Lot_init C [.ref x, .ref t] (upd (upd H dx (.own x)) x (.ins C dx [])) (fun v H2 => v = .non ∧ R x H2) E0 := by
  intro x dx nx ndx ne
  have s0 : Same H (upd H dx (.own x)) := same_new ndx
  have nt : t ≠ x := ne_of_none ht nx
  refine ⟨x, dx, t, cs, rfl, upd_same, ?_, hc, ?_⟩
  · rw [upd_ne nt]
    exact s0 _ _ ht
  · intro H' bt h'
    have s1 : Same H H' := fun a o ha => bt a o (ne_of_none ha nx) (by rw [upd_ne (ne_of_none ha nx)]; exact s0 _ _ ha)
    exact ⟨rfl, q x H' nx s1 ⟨dx, t, h', s1 _ _ ht, hc⟩⟩
theorem Bw.same {H H' : Hp} {b : Addr} (h : Bw H b) (s : Same H H') : Bw H' b := by
  obtain ⟨x, y, z, e⟩ := h
  exact ⟨x, y, z, s _ _ e⟩
theorem LotAt.but {C : Addr} {H H' : Hp} {p b : Addr} {cs : List Int} (h : LotAt C H p cs) (hb : Bw H b) (x : But b H H') : LotAt C H' p cs := by
  obtain ⟨dx, t, h1, h2, h3⟩ := h
  obtain ⟨i, j, k, e⟩ := hb
  exact ⟨dx, t, x _ _ (ne_of h1 e (by intro z; cases z)) h1, x _ _ (ne_of h2 e (by intro z; cases z)) h2, h3⟩
theorem asc_pw : ∀ {cs : List Int} {a : Int}, asc a cs → cs.Pairwise (· < ·) ∧ ∀ c ∈ cs, a < c ∧ c ≤ 60
  | [], _, _ => ⟨List.Pairwise.nil, fun c h => by cases h⟩
  | d :: r, a, ⟨h1, h2, h3⟩ => by
    obtain ⟨p, q⟩ := asc_pw h3
    refine ⟨List.pairwise_cons.mpr ⟨fun c hc => (q c hc).1, p⟩, fun c hc => ?_⟩
    rcases List.mem_cons.mp hc with rfl | hc
    · exact ⟨h1, h2⟩
    · have := q c hc
      exact ⟨by omega, this.2⟩
theorem lot_nodup {cs : List Int} (h : Lotc cs) : cs.Nodup := (asc_pw h.up).1.imp fun h => by omega
theorem lot_less {cs : List Int} {c : Int} (h : Lotc cs) (h2 : 1 < cs.length) : Lotc (cs.filter (fun d => !decide (d = c))) := by
  obtain ⟨p, q⟩ := asc_pw h.up
  have nd := lot_nodup h
  have hf := h.few
  refine ⟨?_, ?_, asc_of (p.filter _) fun d hd => q d (List.mem_filter.mp hd).1⟩
  · match cs, h2, nd with
    | x :: y :: r, _, nd =>
      have ne : x ≠ y := fun e => (List.nodup_cons.mp nd).1 (by simp [e])
      intro z
      have hx : x = c := by
        have := (List.filter_eq_nil_iff.mp z) x (by simp)
        simpa using this
      have hy : y = c := by
        have := (List.filter_eq_nil_iff.mp z) y (by simp)
        simpa using this
      exact ne (hx.trans hy.symm)
  · exact Nat.le_trans (List.length_filter_le _ _) hf
def sp_law (K : PySem.W.Frag) : Sp := fun vs H Q _ => ∃ (a : Addr) (ns : List Int), vs = [.ref a] ∧ SqL K H a (ns.map V.int) ∧ ns.length ≤ 63 ∧ ∀ H', Q (.bl true) H'
end Kx

namespace MG
open PySem PySem.Spec PyProof.Rows L2
/-- a test told once -/
def tCutT (R : L2.St → Hp → Bool → Hp → Prop) (tt : TT) : TT := fun σ H Q => tt σ H (R σ H) ∧ ∀ b H', R σ H b H' → Q b H'
theorem pt_cutR {X : Cx} {e : Expr} {tt : TT} (R : L2.St → Hp → Bool → Hp → Prop) (h : PT X e tt) : PT X e (tCutT R tt) := by
  refine ⟨?_⟩
  rintro pins s σ H Q I ⟨a, b⟩
  refine wpAny_mono (h.run pins s σ H _ I a) ?_ (fun _ _ z => z)
  intro u s' hz
  obtain ⟨H', I', q⟩ := hz
  exact ⟨H', I', b _ H' q⟩
/-- a while whose test is told once -/
theorem while_cut {R : L2.St → Hp → Bool → Hp → Prop} {c : TT} {tb : TS} {D : Ends} {σ : L2.St} {H : Hp} (Pv : L2.St → Hp → Prop) (μ : L2.St → Hp → Nat) (h0 : Pv σ H)
    (ht : ∀ σ H, Pv σ H → c σ H (R σ H))
    (hs : ∀ σ H b H1, Pv σ H → R σ H b H1 → if b = true then tb { D with nx := fun σ' H' => Pv σ' H' ∧ μ σ' H' < μ σ H, ct := fun σ' H' => Pv σ' H' ∧ μ σ' H' < μ σ H, bk := D.nx } σ H1 else D.nx σ H1) : tWhile (tCutT R c) tb D σ H :=
  while_by Pv μ h0 (fun σ H p => ⟨ht σ H p, fun b H' r => hs σ H b H' p r⟩) (fun σ H Q Q' m h => ⟨h.1, fun b H' r => m _ _ (h.2 b H' r)⟩)
/-- t + u of tracked tuples, t not empty -/
def rCatHT : R2 := fun x y H Q => ∃ a b xs ys, x = .ref a ∧ y = .ref b ∧ H a = some (.tup xs) ∧ H b = some (.tup ys) ∧ xs ≠ [] ∧ xs.length + ys.length ≤ sizeLine ∧
  (ys = [] → Q (.ref a) H) ∧ (ys ≠ [] → ∀ p, H p = none → Q (.ref p) (upd H p (.tup (xs ++ ys))))
theorem cat_HT {X : Cx} : OpR X (binaryOp .Add) rCatHT := by
  intro pins s σ H x y v u Q I rx ry h
  obtain ⟨a, b, xs, ys, h1, h2, ha, hb, hx, hz, q1, q2⟩ := h
  exact op_catT pins s σ H x y v u Q I rx ry ⟨a, b, xs, ys, h1, h2, sqT ha, sqT hb, hx, hz, q1, q2⟩
theorem pick_rev {α : Type} (xs : List α) : pick xs none none (some (-1)) = xs.reverse := by
  have hb : sliceBounds none none (some (-1)) xs.length = ((xs.length : Int) - 1, -1, -1) := by
    unfold sliceBounds
    simp
  unfold pick
  rw [hb]
  have hr : sliceRange ((xs.length : Int) - 1) (-1) (-1) = (List.range xs.length).map fun k => xs.length - 1 - k := by
    unfold sliceRange
    have h1 : ¬ ((-1 : Int) > 0) := by omega
    simp only [h1, if_false]
    by_cases h0 : xs.length = 0
    · rw [if_neg (by omega), h0]
      rfl
    · rw [if_pos (by omega)]
      have e : (((xs.length : Int) - 1 - -1 - -1 - 1) / - -1).toNat = xs.length := by
        rw [Int.neg_neg, Int.ediv_one]
        omega
      rw [e]
      apply List.map_congr_left
      intro k hk
      have := List.mem_range.mp hk
      omega
  show (sliceRange ((xs.length : Int) - 1) (-1) (-1)).filterMap (xs[·]?) = _
  rw [hr, List.filterMap_map]
  apply List.ext_getElem?
  intro i
  have key : ∀ (n : Nat), n ≤ xs.length → (List.range n).filterMap ((fun x => xs[x]?) ∘ fun k => xs.length - 1 - k) = xs.reverse.take n := by
    intro n
    induction n with
    | zero => intro _; rfl
    | succ n ih =>
      intro hn
      have hlt : n < xs.reverse.length := by rw [List.length_reverse]; omega
      rw [List.range_succ, List.filterMap_append, ih (by omega), List.take_add_one]
      congr 1
      have e1 : xs.reverse[n]? = xs[xs.length - 1 - n]? := List.getElem?_reverse (by omega)
      rw [e1]
      have hx : xs[xs.length - 1 - n]? = some xs[xs.length - 1 - n] := List.getElem?_eq_getElem (by omega)
      simp [hx]
  rw [key _ (Nat.le_refl _)]
  rw [show xs.length = xs.reverse.length from (List.length_reverse).symm, List.take_length]
theorem fnOk_no {P : Program} {w : World} {K : PySem.W.Frag} {mg : Str → Option Value} {base : Heap} {C : CXT} {n : Nat} {g : Addr} {dat : FuncData} {pars : List Str} {pr : Sp} (h : ∀ a b c d, ¬ pr a b c d) : FnOk P w K mg base C n g dat pars pr :=
  ⟨fun a b c d z => (h a b c d z).elim, fun A out s H ar us vs Q E _ _ _ _ z => (h _ _ _ _ z).elim⟩
/-! lists and tuples of rows of ints -/
def Each (H : Hp) (ps : List Addr) (L : List (List Int)) : Prop := ps.length = L.length ∧ ∀ (i : Nat) (p : Addr) (l : List Int), ps[i]? = some p → L[i]? = some l → H p = some (.tup (l.map V.int))
theorem Each.same {H H' : Hp} {ps : List Addr} {L : List (List Int)} (h : Each H ps L) (s : Same H H') : Each H' ps L := ⟨h.1, fun i p l a b => s _ _ (h.2 i p l a b)⟩
theorem Each.nil {H : Hp} : Each H [] [] := ⟨rfl, fun i p l a _ => by simp at a⟩
theorem Each.snoc {H : Hp} {ps : List Addr} {L : List (List Int)} {p : Addr} {l : List Int} (h : Each H ps L) (e : H p = some (.tup (l.map V.int))) : Each H (ps ++ [p]) (L ++ [l]) := by
  refine ⟨by simp [h.1], ?_⟩
  intro i q m a b
  by_cases hi : i < ps.length
  · rw [List.getElem?_append_left hi] at a
    rw [List.getElem?_append_left (h.1 ▸ hi)] at b
    exact h.2 i q m a b
  · rw [List.getElem?_append_right (by omega)] at a
    rw [List.getElem?_append_right (by have := h.1; omega)] at b
    have e1 : i - ps.length = 0 := by
      match z : i - ps.length, a with
      | 0, _ => rfl
      | k + 1, a => simp at a
    have e2 : i - L.length = 0 := by have := h.1; omega
    rw [e1] at a
    rw [e2] at b
    simp at a b
    subst a b
    exact e
theorem Each.append {H : Hp} {ps qs : List Addr} {L M : List (List Int)} (h : Each H ps L) (g : Each H qs M) : Each H (ps ++ qs) (L ++ M) := by
  refine ⟨by simp [h.1, g.1], ?_⟩
  intro i q m a b
  by_cases hi : i < ps.length
  · rw [List.getElem?_append_left hi] at a
    rw [List.getElem?_append_left (h.1 ▸ hi)] at b
    exact h.2 i q m a b
  · rw [List.getElem?_append_right (by omega)] at a
    rw [List.getElem?_append_right (by have := h.1; omega), ← h.1] at b
    exact g.2 _ q m a b
theorem Each.dp {K : PySem.W.Frag} {H : Hp} : ∀ {ps : List Addr} {L : List (List Int)}, Each H ps L → DpAll K H (ps.map V.ref) (L.map fun l => PyData.tuple (l.map .int))
  | [], [], _ => .nil
  | [], _ :: _, h => by have := h.1; simp at this
  | _ :: _, [], h => by have := h.1; simp at this
  | p :: ps, l :: L, h => .cons (dpT (h.2 0 p l rfl rfl)) (Each.dp ⟨by have := h.1; simpa using this, fun i q m a b => h.2 (i + 1) q m (by simpa using a) (by simpa using b)⟩)
theorem Each.upd {H : Hp} {ps : List Addr} {L : List (List Int)} {D : Addr} {xs : List V} {o : HO} (h : Each H ps L) (e : H D = some (.lst xs)) : Each (upd H D o) ps L :=
  ⟨h.1, fun i p l a b => by
    have := h.2 i p l a b
    rw [upd_ne (ne_of this e (by intro z; cases z))]
    exact this⟩
theorem Same.updN {H H' : Hp} {D : Addr} {o : HO} (s : Same H H') (n : H D = none) : Same H (upd H' D o) := fun a u e => by
  rw [upd_ne (ne_of_none e n)]
  exact s _ _ e
def RowsT (H : Hp) (t : Addr) (L : List (List Int)) : Prop := ∃ ps : List Addr, H t = some (.tup (ps.map V.ref)) ∧ Each H ps L
def RowsL (H : Hp) (t : Addr) (L : List (List Int)) : Prop := ∃ ps : List Addr, H t = some (.lst (ps.map V.ref)) ∧ Each H ps L
theorem RowsT.same {H H' : Hp} {t : Addr} {L : List (List Int)} (h : RowsT H t L) (s : Same H H') : RowsT H' t L := let ⟨ps, a, b⟩ := h; ⟨ps, s _ _ a, b.same s⟩
theorem RowsL.same {H H' : Hp} {t : Addr} {L : List (List Int)} (h : RowsL H t L) (s : Same H H') : RowsL H' t L := let ⟨ps, a, b⟩ := h; ⟨ps, s _ _ a, b.same s⟩
theorem RowsT.dp {K : PySem.W.Frag} {H : Hp} {t : Addr} {L : List (List Int)} (h : RowsT H t L) : Dp K H (.ref t) (.tuple (L.map fun l => PyData.tuple (l.map .int))) := let ⟨ps, a, b⟩ := h; .tup (sqT a) b.dp
theorem shw_rows {L : List (List Int)} {m k : Nat} (h : ∀ l ∈ L, l.length ≤ k ∧ ∀ i ∈ l, i.natAbs < 2 ^ 1000) (hm : L.length ≤ m) : Shw (m * (k * 1003 + 5) + 3) 2 (.tuple (L.map fun l => PyData.tuple (l.map .int))) := by
  refine (shw_tuple (n := k * 1003 + 3) (k := 1) (m := m) (fun d hd => ?_) (by simpa using hm)).mono (Nat.le_refl _) (Nat.le_refl _)
  obtain ⟨l, hl, rfl⟩ := List.mem_map.mp hd
  exact shw_intsT (h l hl).2 (h l hl).1
theorem ref_at {ps : List Addr} {i : Nat} {x : V} (h : (ps.map V.ref)[i]? = some x) : ∃ p, ps[i]? = some p ∧ x = .ref p := by
  rw [List.getElem?_map] at h
  cases e : ps[i]? with
  | none => rw [e] at h; cases h
  | some z => rw [e] at h; exact ⟨z, rfl, (Option.some.inj h).symm⟩
theorem mapR_at {ps : List Addr} {i : Nat} {z : Addr} (h : ps[i]? = some z) : (ps.map V.ref)[i]? = some (.ref z) := by
  rw [List.getElem?_map, h]
  rfl
end MG

namespace Kx
open PySem L2 MG KM
/-- for each index the numbers of payments by the coins from there on -/
def Tabs (H : Hp) (l : Addr) (cs : List Int) (m : Nat) : Prop := ∃ ps : List Addr, H l = some (.lst (ps.map V.ref)) ∧ ps.length = cs.length + 1 ∧ ∀ i p, ps[i]? = some p → H p = some (.lst ((tab (m + 1) (tw (cs.drop i))).map V.int))
theorem Tabs.same {H H' : Hp} {l : Addr} {cs : List Int} {m : Nat} (h : Tabs H l cs m) (s : Same H H') : Tabs H' l cs m := by
  obtain ⟨ps, a, b, c⟩ := h
  exact ⟨ps, s _ _ a, b, fun i p e => s _ _ (c i p e)⟩
theorem Tabs.at {H : Hp} {l : Addr} {cs : List Int} {m : Nat} (h : Tabs H l cs m) {i : Nat} (hi : i ≤ cs.length) : ∃ xs p, H l = some (.lst xs) ∧ xs[i]? = some (.ref p) ∧ H p = some (.lst ((tab (m + 1) (tw (cs.drop i))).map V.int)) := by
  obtain ⟨ps, a, b, c⟩ := h
  have hx : ps[i]? = some ps[i] := List.getElem?_eq_getElem (by omega)
  exact ⟨_, _, a, mapR_at hx, c _ _ hx⟩
def sp_tail_ways : Sp := fun vs H Q _ => ∃ (t : Addr) (cs : List Int) (m : Nat), vs = [.ref t, .int m] ∧ H t = some (.tup (cs.map V.int)) ∧ (∀ c ∈ cs, 1 ≤ c ∧ c ≤ 60) ∧ cs.length ≤ 15 ∧ m ≤ 50000 ∧
  ∀ l H', H l = none → Same H H' → Tabs H' l cs m → Q (.ref l) H'
def sp_payment_at : Sp := fun vs H Q _ => ∃ (t l : Addr) (cs : List Int) (m n k : Nat) (p : List Int), vs = [.ref t, .ref l, .int n, .int k] ∧ H t = some (.tup (cs.map V.int)) ∧ (∀ c ∈ cs, 1 ≤ c ∧ c ≤ 60) ∧ cs.length ≤ 15 ∧
  Tabs H l cs m ∧ n ≤ m ∧ m ≤ 50000 ∧ (allP cs n)[k]? = some p ∧ ∀ q H', H q = none → Same H H' → H' q = some (.tup (p.map V.int)) → Q (.ref q) H'
def sp_payments (C : Addr) : Sp := fun vs H Q _ => ∃ (p : Addr) (cs : List Int) (n : Nat), vs = [.ref p, .int n] ∧ LotAt C H p cs ∧ n ≤ 400 ∧ tw cs n ≤ 400 ∧
  ∀ t H', H t = none → Same H H' → RowsT H' t (allP cs n) → Q (.ref t) H'
def sp_l_all (d : Nat) : Sp := fun vs H Q _ => ∃ (t : Addr) (cs : List Int) (n : Nat), vs = [.ref t, .int n] ∧ H t = some (.tup (cs.map V.int)) ∧ (∀ c ∈ cs, 1 ≤ c ∧ c ≤ 60) ∧ cs ≠ [] ∧ cs.length ≤ d ∧ d ≤ 15 ∧ n ≤ 400 ∧ (allP cs n).length ≤ 400 ∧
  ∀ l H', H l = none → Same H H' → RowsL H' l (allP cs n) → Q (.ref l) H'
def sp_l_sum_with_few : Sp := fun vs H Q _ => ∃ (b t : Addr) (cs : List Int) (m : Nat), vs = [.ref b, .ref t, .int m] ∧ Bw H b ∧ H t = some (.tup (cs.map V.int)) ∧ Lotc cs ∧ 1 ≤ m ∧ m ≤ 400 ∧
  ∀ (n : Nat) H', n ≤ 400 → cnt cs n ≤ m → Bw H' b → But b H H' → Q (.int n) H'
/-- a def that draws and says True -/
def sp_drawn : Sp := fun vs H Q _ => ∃ b : Addr, vs = [.ref b] ∧ Bw H b ∧ ∀ H', Bw H' b → But b H H' → Q (.bl true) H'
theorem nb_of {H : Hp} {b t : Addr} {o : HO} (hb : Bw H b) (h : H t = some o) (n : ∀ l, o ≠ .lst l) : t ≠ b := by
  obtain ⟨x, y, z, e⟩ := hb
  exact ne_of h e (n _)
theorem nb_new {H : Hp} {b p : Addr} (hb : Bw H b) (h : H p = none) : p ≠ b := by
  obtain ⟨x, y, z, e⟩ := hb
  exact fun w => by rw [w, e] at h; cases h
end Kx
namespace Kx
open PySem L2 MG KM
theorem ref_int_ne {ps : List Addr} {ns : List Int} (h : ns ≠ []) : HO.lst (ps.map V.ref) ≠ HO.lst (ns.map V.int) := by
  intro e
  injection e with e
  match ps, ns, h, e with
  | [], _ :: _, _, e => simp at e
  | _ :: _, _ :: _, _, e => simp at e
theorem tab_ne {n : Nat} {g : Nat → Int} : tab (n + 1) g ≠ [] := by
  intro z
  have := congrArg List.length z
  rw [tab_len] at this
  simp at this
end Kx
namespace Kx
open PySem L2 MG KM
theorem cut_tail (x : V) (xs : List V) : cutV (x :: xs) (some 1) none = xs := by
  simp [cutV, HT.sIx]
theorem cut_init (xs : List V) : cutV xs none (some (-1)) = xs.dropLast := by
  unfold cutV
  rw [List.dropLast_eq_take]
  simp [HT.sIx]
  congr 1
  omega
theorem cut_to (xs : List V) {k : Nat} (h : k ≤ xs.length) : cutV xs none (some (k : Int)) = xs.take k := by
  unfold cutV
  have h0 : ¬ ((k : Int) < 0) := by omega
  simp [HT.sIx, h0, Nat.min_eq_left h]
end Kx

/-! t[::-1] of a tuple; t < u -/
namespace MG
open PySem PySem.Spec PyProof.Rows L2 HT
section
variable {prog : Program} {w : World} {A : Around} {E : Value → Shared → Prop} {s : Shared}
theorem applied_rev {sl : Addr} {vs : Value} {n : Nat} {Q : Int × Int × Nat → Shared → Prop} (hs : s.heap.IsSliceOf sl .none .none vs) (ps : IsPart vs (some (-1)))
    (h : Q ((n : Int) - 1, -1, n) s) : wpAny (model prog w) A (Builtin.Slice.sliceApplied (.ref sl) (pure (n : Int))) Q E s := by
  obtain ⟨os, hos, hcs, hds⟩ := id hs
  unfold Builtin.Slice.sliceApplied Builtin.Slice.sliceFields
  refine wpAny_bind (wpAny_bind (wpAny_field hos hds (x := .none) rfl (wpAny_bind (wpAny_field hos hds (x := .none) rfl (wpAny_bind (wpAny_field hos hds (x := vs) rfl (wpAny_pure ?_)))))))
  refine wpAny_bind (slicePart_ ps ?_)
  show wpAny _ _ (if ((-1 : Int) == 0) = true then _ else _) _ _ s
  rw [if_neg (by decide)]
  refine wpAny_bind (slicePart_none (wpAny_bind (slicePart_none (wpAny_bind (wpAny_pure ?_)))))
  have e : Builtin.Slice.sliceAdjust none none (-1) (n : Int) = ((n : Int) - 1, -1) := rfl
  show wpAny _ _ (match Builtin.Slice.sliceAdjust none none (-1) (n : Int) with | (lo, hi) => pure (lo, (-1 : Int), Builtin.Slice.slicePlaces lo hi (-1))) _ _ s
  rw [e]
  have e2 : Builtin.Slice.slicePlaces ((n : Int) - 1) (-1) (-1) = n := by
    unfold Builtin.Slice.slicePlaces
    rw [if_neg (by decide)]
    by_cases h0 : n = 0
    · subst h0; rfl
    · rw [if_pos (by omega), Int.neg_neg, Int.ediv_one]
      omega
  show wpAny _ _ (pure ((n : Int) - 1, (-1 : Int), Builtin.Slice.slicePlaces ((n : Int) - 1) (-1) (-1))) _ _ s
  rw [e2]
  exact wpAny_pure h
theorem pick_back (xs : Array Value) : ((List.range xs.size).filterMap fun (m : Nat) => xs[(((xs.size : Int) - 1) + (m : Int) * -1).toNat]?).toArray = xs.toList.reverse.toArray := by
  have e : (fun (m : Nat) => xs[(((xs.size : Int) - 1) + (m : Int) * -1).toNat]?) = fun (m : Nat) => xs.toList[((xs.size : Int) - 1 + (m : Int) * -1).toNat]? := by
    funext m
    simp
  rw [e]
  congr 1
  have p := pick_rev xs.toList
  have hb : sliceBounds none none (some (-1)) xs.toList.length = ((xs.toList.length : Int) - 1, -1, -1) := by
    unfold sliceBounds
    simp
  rw [← p]
  unfold pick
  rw [hb]
  have hr : sliceRange ((xs.toList.length : Int) - 1) (-1) (-1) = (List.range xs.size).map fun (m : Nat) => (((xs.size : Int) - 1) + (m : Int) * -1).toNat := by
    unfold sliceRange
    have h1 : ¬ ((-1 : Int) > 0) := by omega
    simp only [h1, if_false, Array.length_toList]
    by_cases h0 : xs.size = 0
    · rw [if_neg (by omega), h0]
      rfl
    · rw [if_pos (by omega)]
      have e : (((xs.size : Int) - 1 - -1 - -1 - 1) / - -1).toNat = xs.size := by
        rw [Int.neg_neg, Int.ediv_one]
        omega
      rw [e]
      apply List.map_congr_left
      intro k hk
      have := List.mem_range.mp hk
      omega
  show _ = (sliceRange ((xs.toList.length : Int) - 1) (-1) (-1)).filterMap (xs.toList[·]?)
  rw [hr, List.filterMap_map]
  rfl
theorem getItem_tuple_rev {t sl : Addr} {items : Array Value} {vs : Value} {Q : Value → Shared → Prop} (ht : IsTup s.heap t items) (hs : s.heap.IsSliceOf sl .none .none vs) (ps : IsPart vs (some (-1)))
    (h : Q (.ref s.heap.objs.size) { s with heap := s.heap.push { cls := .type "tuple", data := .seq items.toList.reverse.toArray } })
    (hsz : items.size ≤ sizeLine) : wpAny (model prog w) A (getItem (.ref t) (.ref sl)) Q E s := by
  have htake : sizeOk (.seq items.toList.reverse.toArray) := by
    show items.toList.reverse.toArray.size ≤ sizeLine
    rw [List.size_toArray, List.length_reverse, Array.length_toList]
    exact hsz
  obtain ⟨os, hos, hcs, hds⟩ := id hs
  have hTs : s.TypeIs (.ref sl) "slice" := ⟨os, hos, hcs⟩
  unfold getItem
  try with_reducible refine wpAny_holding ?_
  first | refine wpAny_bind (wpAny_pure ?_) | skip
  refine wpAny_bind (wpAny_sequenceKey ht.typeIs (by decide) ?_)
  refine wpAny_bind (wpAny_callSpecial?_slot (name := Str.ofString "__getitem__") ht.typeIs PyProof.Rows.slot_tuple_getitem
    (wpAny_call_entry PyProof.Rows.slot_tuple_getitem ht.typeIs entry_tuple_getitem ?_ (args_tuple_getitem _ _)))
  show wpAny _ _ (Builtin.Tuple.tupleItemsOf (.ref t) >>= _) _ _ s
  refine wpAny_bind (tupleItemsOf_ ht ?_)
  refine wpAny_bind (wpAny_typeOf hTs ?_)
  rw [if_pos (by decide)]
  refine wpAny_bind (applied_rev hs ps ?_)
  have hno : ¬ ((((items.size : Int) - 1 == 0) && ((-1 : Int) == 1) && (items.size == items.size)) = true) := by
    intro q
    rw [Bool.and_eq_true, Bool.and_eq_true] at q
    exact absurd q.1.2 (by decide)
  show wpAny _ _ (if (((items.size : Int) - 1 == 0) && ((-1 : Int) == 1) && (items.size == items.size)) = true then _ else _) _ _ s
  rw [if_neg hno, pick_back]
  first
    | exact wpAny_bind (m := Builtin.Tuple.tupleExact _) (wpAny_newObj_type (wpAny_pure ⟨_, rfl, wpAny_pure h⟩) htake)
    | exact wpAny_bind (m := Builtin.Tuple.tupleExact _) (wpAny_newObj_type (wpAny_bind (wpAny_pure (wpAny_pure ⟨_, rfl, wpAny_pure h⟩))) htake)
    | exact wpAny_bind (wpAny_bind (m := Builtin.Tuple.tupleExact _) (wpAny_newObj_type (wpAny_pure (wpAny_pure ⟨_, rfl, wpAny_pure h⟩)) htake))
    | exact wpAny_bind (wpAny_bind (m := Builtin.Tuple.tupleExact _) (wpAny_newObj_type (wpAny_pure ⟨_, rfl, wpAny_pure h⟩) htake))
end
/-- t[::-1] -/
def tRevT (K : PySem.W.Frag) (te : TE) (ts : TO) : TE := fun σ H Q => te σ H fun x H1 => ts σ H1 fun st H2 => ∃ a xs, x = .ref a ∧ SqT K H2 a xs ∧ st = some (-1) ∧ ∀ p, H2 p = none → Q (.ref p) (upd H2 p (.tup xs.reverse))
theorem vals_reverse {xs : List V} {its : List Value} (r : Vals xs its) : Vals xs.reverse its.reverse := by
  induction r with
  | nil => exact .nil
  | cons h r ih =>
    rw [List.reverse_cons, List.reverse_cons]
    exact ih.append (.cons h .nil)
theorem pe_revT {X : Cx} {e : Expr} {st : Option Expr} {te : TE} {ts : TO} {p2 pos : Pos} (he : PE X e te) (hs : PO X st ts)
    (hsub : ∀ v u, subscripted (.Slice none none st p2) false v u = operate [v, u] (getItem v u) := by intros; with_unfolding_all rfl) :
    PE X (.Subscript e (.Slice none none st p2) pos) (tRevT X.K te ts) := by
  refine ⟨?_⟩
  intro pins s σ H Q I h
  refine Subscript_ (thn (he.run pins s σ H _ I h) ?_)
  rintro v s1 ⟨x, H1, I1, r1, q1⟩
  refine wpAny_Slice (thn ((po_none (X := X)).run pins s1 σ H1 (fun o H2 => o = none ∧ H2 = H1) I1 ⟨rfl, rfl⟩) ?_)
  rintro vl s2 ⟨l, H2, I2, pl, rfl, rfl⟩
  refine thn ((po_none (X := X)).run pins s2 σ H2 (fun o H3 => o = none ∧ H3 = H2) I2 ⟨rfl, rfl⟩) ?_
  rintro vu s3 ⟨u, H3, I3, pu, rfl, rfl⟩
  refine thn (hs.run pins s3 σ H3 _ I3 q1) ?_
  rintro vs s4 ⟨o, H4, I4, ps, a, xs, rfl, hx, rfl, q⟩
  cases r1
  cases pl
  cases pu
  have I5 : Inv X pins σ H4 { s4 with heap := s4.heap.push { cls := .type "slice", data := .fields #[.none, .none, vs] } } := I4.kept (t' := s4.toks) fun b ob q => Heap.get?_push_of_some _ q
  obtain ⟨its, r, ht, hz⟩ := I5.tuple hx
  have hlen := r.length
  show wpAny (model X.prog X.w) X.A (subscriptTail e (.Slice none none st p2) (.ref a) (.ref s4.heap.objs.size)) (EP X pins σ Q) X.xe { s4 with heap := s4.heap.push { cls := .type "slice", data := .fields #[.none, .none, vs] } }
  refine tail_any (ops := [.ref a, .ref s4.heap.objs.size]) ht.typeIs (PyProof.Rows.slot_tuple_getitem.lookup) ?_ (hsub _ _)
  refine getItem_tuple_rev ht (Heap.IsSliceOf.new _ .none .none vs) ps ?_ (by rw [List.size_toArray]; omega)
  refine ⟨.ref _, _, I5.laid (t' := s4.toks) (o := .tup xs.reverse) (fun b ob q => Heap.get?_push_of_some _ q) (Nat.le_refl _) ?_, rfl, q _ (I5.hok.fresh (Nat.le_refl _))⟩
  refine ⟨by rw [List.length_reverse]; omega, its.reverse, vals_reverse r, ?_⟩
  have e : (its.toArray.toList.reverse).toArray = its.reverse.toArray := by simp
  rw [← e]
  exact IsTup.new _ _
/-- t < u, tuples of ints -/
def lxI : List Int → List Int → Bool
  | a :: p, b :: q => a < b || (a == b && lxI p q)
  | [], _ :: _ => true
  | _, [] => false
def rLtU (K : PySem.W.Frag) : R2 := fun x y H Q => ∃ (a b : Addr) (ns ms : List Int), x = .ref a ∧ y = .ref b ∧ SqT K H a (ns.map V.int) ∧ SqT K H b (ms.map V.int) ∧ Q (.bl (lxI ns ms)) H
theorem lex_lx (ns ms : List Int) : ∀ (d i : Nat), i ≤ min ns.length ms.length → min ns.length ms.length - i = d →
    Ob.lexAt (fun j => decide (ns.getD j 0 = ms.getD j 0)) (fun j => decide (ns.getD j 0 < ms.getD j 0)) (decide (ns.length < ms.length)) i d = lxI (ns.drop i) (ms.drop i) := by
  intro d
  induction d with
  | zero =>
    intro i hi e
    rw [Ob.lexAt_zero]
    rcases Nat.lt_or_ge i ms.length with h | h
    · have hn : ns.length ≤ i := by omega
      rw [List.drop_eq_nil_of_le hn, List.drop_eq_getElem_cons h]
      simp [lxI]
      omega
    · rw [List.drop_eq_nil_of_le h]
      have : lxI (ns.drop i) [] = false := by cases ns.drop i <;> rfl
      rw [this]
      simp
      omega
  | succ d ih =>
    intro i hi e
    rw [Ob.lexAt_succ, ih (i + 1) (by omega) (by omega)]
    have h1 : i < ns.length := by omega
    have h2 : i < ms.length := by omega
    rw [List.drop_eq_getElem_cons h1, List.drop_eq_getElem_cons h2]
    have e1 : ns.getD i 0 = ns[i] := by simp [h1]
    have e2 : ms.getD i 0 = ms[i] := by simp [h2]
    rw [e1, e2]
    by_cases q : ns[i] = ms[i]
    · simp [lxI, q]
    · simp [lxI, q]
theorem op_ltU {X : Cx} (hu : X.A.units < cLine) : OpR X (compareOp .Lt) (rLtU X.K) := by
  intro pins s σ H x y v u Q I rx ry h
  obtain ⟨a, b, ns, ms, rfl, rfl, ha, hb, q⟩ := h
  cases rx
  cases ry
  obtain ⟨its, r1, p1, _⟩ := I.tuple ha
  obtain ⟨its2, r2, p2, _⟩ := I.tuple hb
  have i1 : IntsAre its ns := Vals.ints r1
  have i2 : IntsAre its2 ms := Vals.ints r2
  have e1 : its.toArray.size = ns.length := by rw [List.size_toArray]; exact i1.length
  have e2 : its2.toArray.size = ms.length := by rw [List.size_toArray]; exact i2.length
  have at1 : ∀ j (h1 : j < its.toArray.size), ∃ t, its.toArray[j] = .int (ns.getD j 0) t := fun j h1 => PyProof.Rows.IntsAre.int_at i1 _ _ (by simp at h1; simp [h1])
  have at2 : ∀ j (h1 : j < its2.toArray.size), ∃ t, its2.toArray[j] = .int (ms.getD j 0) t := fun j h1 => PyProof.Rows.IntsAre.int_at i2 _ _ (by simp at h1; simp [h1])
  have R := Ob.RcOp.tuples_lt (A := X.A) (s := s) (e := fun j => decide (ns.getD j 0 = ms.getD j 0)) (r := fun j => decide (ns.getD j 0 < ms.getD j 0)) p1 p2 hu (fun j h1 h2 => by
    obtain ⟨t, et⟩ := at1 j h1
    obtain ⟨t', et'⟩ := at2 j h2
    rw [et, et']
    have z : (ns.getD j 0 == ms.getD j 0) = decide (ns.getD j 0 = ms.getD j 0) := by
      by_cases q : ns.getD j 0 = ms.getD j 0
      · rw [decide_eq_true q]; exact beq_iff_eq.mpr q
      · rw [decide_eq_false q]; exact beq_eq_false_iff_ne.mpr q
    rw [← z]
    exact SeqAt.EqAt.int_int _ _ _ _) (fun j h1 h2 _ => by
    obtain ⟨t, et⟩ := at1 j h1
    obtain ⟨t', et'⟩ := at2 j h2
    rw [et, et']
    exact Ob.RcOp.lt_int _ _ _ _)
  rw [e1, e2] at R
  have z0 := lex_lx ns ms (min ns.length ms.length) 0 (Nat.zero_le _) (Nat.sub_zero _)
  rw [List.drop_zero, List.drop_zero] at z0
  rw [z0] at R
  exact R X.prog X.w X.xe (EP X pins σ Q) ⟨.bl _, H, I, rfl, q⟩
end MG
namespace MG
open PySem PySem.Spec PyProof.Rows L2
/-- a comprehension over zip of two tuples of one length -/
theorem lc_zipT {K : PySem.W.Frag} {a b : Addr} {xs ys : List V} {g : TG} {tt : TT} {te : TE} {vs : List Nat} {σ : L2.St} {H1 : Hp} {D : Addr} {Qd : Hp → Prop} (hl : xs.length = ys.length) (Pv : Nat → Hp → Prop) (h0 : Pv 0 (upd H1 D (.lst [])))
    (hq : ∀ i H, Pv i H → SqT K H a xs ∧ SqT K H b ys)
    (hs : ∀ i x y T H, xs[i]? = some x → ys[i]? = some y → Pv i H → H T = none → g (.ref T) (wipe σ vs) (upd H T (.tup [x, y])) fun σ2 H2 => wipe σ2 vs = wipe σ vs ∧ tt σ2 H2 fun b H3 =>
      if b = true then te σ2 H3 fun z H4 => ∃ acc, H4 D = some (.lst acc) ∧ acc.length < sizeLine ∧ Pv (i + 1) (upd H4 D (.lst (acc ++ [z]))) else Pv (i + 1) H3) (hd : ∀ H, Pv xs.length H → Qd H) :
    ∃ W : Nat → Nat → Hp → Prop, (∃ m, W 0 m (upd H1 D (.lst []))) ∧ ∀ i m H, W i m H →
      ((RZ.ItzT K a b).stop i H ∧ Qd H) ∨ ((RZ.ItzT K a b).go i H ∧ ∃ Nx : Hp → Prop, (∀ H', Nx H' → ∃ m', m' < m ∧ W (i + 1) m' H') ∧ ∀ x H', (RZ.ItzT K a b).yld i H x H' → g x (wipe σ vs) H' fun σ2 H2 => wipe σ2 vs = wipe σ vs ∧ tt σ2 H2 fun b H3 =>
        if b = true then te σ2 H3 fun y H4 => ∃ acc, H4 D = some (.lst acc) ∧ acc.length < sizeLine ∧ Nx (upd H4 D (.lst (acc ++ [y]))) else Nx H3) := by
  refine ⟨fun i m H => m = xs.length - i ∧ i ≤ xs.length ∧ Pv i H, ⟨xs.length, by simp, Nat.zero_le _, h0⟩, ?_⟩
  rintro i m H ⟨rfl, hi, p⟩
  obtain ⟨q1, q2⟩ := hq i H p
  by_cases hlt : i < xs.length
  · have e1 : xs[i]? = some xs[i] := List.getElem?_eq_getElem hlt
    have e2 : ys[i]? = some (ys[i]'(hl ▸ hlt)) := List.getElem?_eq_getElem (hl ▸ hlt)
    refine .inr ⟨⟨xs, ys, _, _, q1, q2, e1, e2⟩, Pv (i + 1), fun H' p' => ⟨xs.length - (i + 1), by omega, rfl, hlt, p'⟩, fun x H' z => ?_⟩
    obtain ⟨T, u, v, rfl, hT, rfl, f1, f2⟩ := z
    exact hs i u v T H (f1 xs q1) (f2 ys q2) p hT
  · have e : i = xs.length := by omega
    subst e
    exact .inl ⟨⟨xs, ys, q1, q2, .inl (Nat.le_refl _)⟩, hd H p⟩
/-- isinstance of an int, a built-in class -/
def rIsiI : List V → Hp → VK → Prop := fun xs H Q => ∃ (i : Int) (n : String) (b : Bool), xs = [.int i, .ty n] ∧ kitB "int" n = some b ∧ Q (.bl b) H
theorem isi_I {X : Cx} : CallR X (.builtin "isinstance") rIsiI := by
  intro pins s σ H xs us Q I r h
  obtain ⟨i, n, b, h1, h2, q⟩ := h
  exact call_isi pins s σ H xs us Q I r ⟨_, _, .type "int", .type n, b, h1, .ty _, .base (.int i), kit_ty h2, q⟩
end MG
namespace MG
open PySem PySem.Spec PyProof.Rows L2
/-- divmod by a positive divisor of at most sixty digits -/
theorem divmod_B {X : Cx} : CallR X (.builtin "divmod") (fun xs H Q => ∃ i j, xs = [.int i, .int j] ∧ (0 < j ∧ j < 1000000000000000000000000000000000000000000000000000000000000) ∧ ∀ p, H p = none → Q (.ref p) (upd H p (.tup [.int (i / j), .int (i % j)]))) := by
  intro pins s σ H xs us Q I r h
  obtain ⟨i, j, h1, ⟨h2, h3⟩, q⟩ := h
  refine call_divmodW pins s σ H xs us Q I r ⟨i, j, h1, ⟨h2, PyProof.noPylong_of_log2 ?_⟩, q⟩
  have : j.natAbs < 2 ^ 200 := by
    have e : (1000000000000000000000000000000000000000000000000000000000000 : Nat) < 2 ^ 200 := by decide +kernel
    omega
  exact Nat.lt_of_lt_of_le (PySem.Flt.log2_lt_of (by decide) this) (by decide)
end MG

/-! == by an own __eq__, whatever it answers -/
namespace MG
open PySem PySem.Spec PyProof.Rows L2
section
variable {X : Cx}
/-- x == y, both instances of the class at C whose __eq__ keeps sp -/
def rEqO (C : Addr) (sp : Sp) : R2 := fun x y H Q => ∃ a b dx dy fs gs, x = .ref a ∧ y = .ref b ∧ H a = some (.ins C dx fs) ∧ H b = some (.ins C dy gs) ∧ sp [.ref a, .ref b] H Q E0
theorem op_eqO {C f : Addr} {fd : FuncData} {ps : List Str} {sp : Sp} {k n : Nat} (F : FnOk X.prog X.w X.K X.mg X.base CX0 k f fd ps sp)
    (hs : PySem.W.findIn X.K (.ref C) "__eq__" = some (some (.ref f))) (hf : PySem.W.isFn X.K (.ref f) = true) (hb : Binds X.K fd ps []) (rm : Room n X.A) (hk : k ≤ n) : OpR X (compareOp .Eq) (rEqO C sp) := by
  intro pins s σ H x y v u Q I rx ry h
  obtain ⟨a, b, dx, dy, fs, gs, rfl, rfl, ha, hb', hsp⟩ := h
  cases rx
  cases ry
  show wpAny (model X.prog X.w) X.A (richCompare .Eq (.ref a) (.ref b)) (EP X pins σ Q) X.xe s
  obtain ⟨mA, J, _⟩ := ins_get I.hok ha
  obtain ⟨mB, J', _⟩ := ins_get I.hok hb'
  obtain ⟨od, J, _⟩ := J.look
  obtain ⟨od', J', _⟩ := J'.look
  obtain ⟨m, hF⟩ := I.fr
  refine PySem.W.cmp_K (op := .Eq) (tb := .ref C) rm.units0 hF I.ok.mod.kin J J'.type (by simp [PySem.W.notFirst]) hs hf ?_
  have r2 : Vals [V.ref a, V.ref b] [Value.ref a, Value.ref b] := .cons rfl (.cons rfl .nil)
  refine wpAny_mono (run_fn (dvs := []) (ds := []) (E := E0) F (rm.mono hk) hb .nil pass0 I r2 (by simpa using hsp)) ?_ (fun _ _ z => z)
  intro r s' z
  obtain ⟨v, H', I', rv, q⟩ := id z
  cases v with
  | non => cases (show r = Value.none from rv); exact z
  | bl b => cases (show r = Value.bool b from rv); exact z
  | int i => obtain ⟨t, rfl⟩ := (show ∃ t, r = Value.int i t from rv); exact z
  | str i => obtain ⟨t, rfl⟩ := (show ∃ t, r = Value.str i t from rv); exact z
  | byt i => obtain ⟨t, rfl⟩ := (show ∃ t, r = Value.bytes i t from rv); exact z
  | flt i => obtain ⟨t, rfl⟩ := (show ∃ t, r = Value.float i t from rv); exact z
  | ref c => cases (show r = Value.ref c from rv); exact z
  | ty n => cases (show r = Value.type n from rv); exact z
end
end MG

/-! str(x) by an own __str__ -/
namespace MG
open PySem PySem.Spec PyProof.Rows L2
section
variable {X : Cx}
def rStrO (C : Addr) (sp : Sp) : List V → Hp → VK → Prop := fun vs H Q => ∃ a dx fs, vs = [.ref a] ∧ H a = some (.ins C dx fs) ∧ sp [.ref a] H (fun v H' => (∃ t, v = .str t) ∧ Q v H') E0
theorem str_O {C f : Addr} {fd : FuncData} {ps : List Str} {sp : Sp} {k n : Nat} (F : FnOk X.prog X.w X.K X.mg X.base CX0 k f fd ps sp)
    (hs : PySem.W.findIn X.K (.ref C) "__str__" = some (some (.ref f))) (hf : PySem.W.isFn X.K (.ref f) = true) (hb : Binds X.K fd ps []) (rm : Room n X.A) (hk : k + 3 ≤ n) : CallR X (.type "str") (rStrO C sp) := by
  intro pins s σ H vs us Q I r h
  obtain ⟨a, dx, fs, rfl, ha, hsp⟩ := h
  obtain ⟨u, rfl, rx⟩ := vals1 r
  cases (show u = Value.ref a from rx)
  obtain ⟨mA, J, _⟩ := ins_get I.hok ha
  obtain ⟨od, J, _⟩ := J.look
  have r3 : Room k X.A.in1.in1 := (rm.mono (show k + 2 ≤ n by omega)).in1.in1
  have r2 : Vals [V.ref a] [Value.ref a] := .cons rfl .nil
  have hl := F.len _ _ _ _ hsp
  refine PySem.W.kso_call ((rm.mono (show 2 ≤ n by omega)).in1.in1).units0 I.kIn J hs hf ?_
  have e0 := I.env0.in1.in1
  refine wpAny_call (codeAny_mono (F.run X.A.in1.in1 X.stack s H ⟨[.ref a], []⟩ [.ref a] [.ref a] _ E0 r3 e0 (by
    have z := hb s [.ref a] I.kIn (by simpa using hl)
    simpa using z) r2 hsp) ?_)
  intro res s' hq
  match res, hq with
  | .error er, hq => exact hq.elim
  | .ok .next, hq => exact hq.elim
  | .ok .brk, hq => exact hq.elim
  | .ok .cont, hq => exact hq.elim
  | .ok (.ret u), hq =>
    obtain ⟨z, H', I', rz, ⟨t, rfl⟩, q⟩ := I.after hq
    obtain ⟨tk, rfl⟩ := (show ∃ tk, u = Value.str t tk from rz)
    exact ⟨.str t, H', I', ⟨_, rfl⟩, q⟩
end
end MG

/-! set of a list of ints -/
namespace MG
open PySem PySem.Spec PyProof.Rows L2
section
variable {P : Program} {w : World} {A : Around} {E : Value → Shared → Prop} {s : Shared}
/-- an empty set as it is laid -/
abbrev emp (w : World) : Obj := { cls := .type "set", dict := none, data := .set #[] 0 (.fresh 0 0 (!w.params.followText "set-order")) }
theorem ints_val {items : Array Value} {ns : List Int} (hit : IntsAre items.toList ns) (hz : items.size = ns.length) (i : Nat) (v : Value) (hv : items[i]? = some v) : ∃ k t, ns[i]? = some k ∧ v = .int k t := by
  have hi : i < ns.length := hz ▸ (Array.getElem?_eq_some_iff.mp hv).1
  obtain ⟨t, e⟩ := IntsAre.int_at hit i v ((Array.getElem?_toList ..).trans hv)
  exact ⟨ns[i], t, List.getElem?_eq_getElem hi, by rw [e, List.getD_eq_getElem?_getD, List.getElem?_eq_getElem hi]; rfl⟩
theorem set_of_list {l : Addr} {items : Array Value} (ns : List Int) {Q : Value → Shared → Prop} (hh : A.handled = none) (hl : s.heap.IsList l items) (hit : IntsAre items.toList ns) (hb : ns.length + 1 < scanBound)
    (h : ∀ (h' : Heap) (tk c : Nat), SetR w h' s.heap.objs.size (fun j => decide (j ∈ ns)) c → c ≤ ns.length → (∀ b o, s.heap.get? b = some o → h'.get? b = some o) → Q (.ref s.heap.objs.size) { s with heap := h', toks := tk }) :
    wpAny (model P w) A (call (.type "set") [.ref l]) Q E s := by
  have hisz : items.size = ns.length := (Array.length_toList ..).symm.trans (IntsAre.length hit)
  obtain ⟨c, tl, hmro⟩ := F.called_set.mro
  have hmade := F.called_set.made
  have hsub := F.called_set.sub
  refine wpAny_call (codeAny_of_tree ?_)
  show wpAny _ _ (callAny (.type "set") _) _ _ _
  refine wpAny_pure ⟨Code.quiet_builtin _ (by decide +kernel), codeAny_builtin F.entry_type_call ?_⟩
  rw [Around.under_plain (weight_type_call_type "set" [.ref l] []) rfl]
  have h1 := F.called_set.notType
  have h2 := F.called_set.canCreate
  have hct := F.typeCall_set_1 (.ref l)
  repeat (any_goals (first | assumption | wp_step))
  refine codeAny_mono (code_set_led1 (.ref l) (E := E) (Q₁ := fun ob s₁ => ob = .ref s.heap.objs.size ∧ s₁ = { s with heap := s.heap.push (emp w) }) ⟨rfl, rfl⟩) ?_
  intro r s₁ hr
  cases r with
  | error e => exact hr
  | ok fl =>
    cases fl with
    | ret ob =>
      obtain ⟨rfl, rfl⟩ := hr
      have hS : (s.heap.push (emp w)).get? s.heap.objs.size = some (emp w) := Heap.get?_push_size _ rfl
      have hT : Shared.TypeIs { s with heap := s.heap.push (emp w) } (.ref s.heap.objs.size) "set" := ⟨_, hS, rfl⟩
      have hli := F.called_set.init.lookup
      have hbi := F.called_set.init.bind (.ref s.heap.objs.size)
      repeat (any_goals (first | assumption | wp_step))
      refine codeAny_mono (codeAny_call_builtin (R := wants (fun r s₂ => r = .none ∧ ∃ h' tk c, s₂ = { s with heap := h', toks := tk } ∧ SetR w h' s.heap.objs.size (fun j => decide (j ∈ ns)) c ∧ c ≤ ns.length ∧
          (∀ b o, s.heap.get? b = some o → h'.get? b = some o)) E) F.called_set.init.plain F.entry_set_init (check_set_init_1 hT ?_)) ?_
      · obtain ⟨⟨ocls, odict, odata, oslots⟩, hol, hcl, nl, hdl⟩ := hl
        simp only at hcl hdl
        subst hcl hdl
        have hol' : (s.heap.push (emp w)).get? l = some { cls := .type "list", dict := odict, data := .seq items nl, slots := oslots } := Heap.get?_push_of_some _ hol
        have hsls := F.sub_list_set
        have hslf := F.sub_list_frozenset
        have hne : (Value.type "list" == Value.type "dict") = false := by decide
        have hl1 : (s.heap.push (emp w)).IsList l items := ⟨_, hol', rfl, nl, rfl⟩
        unfold Builtin.«set.__init__» noKeywords Builtin.Frozenset.updateFrom
        generalize hPI : pyIter = PI
        wp_walk
        subst hPI
        refine wpAny_pyIter_list hl1 ?_
        refine wpAny_bind (wpAny_runValue ?_)
        have hlS : l < s.heap.objs.size := Heap.lt_size hol
        have hh3 : A.in1.in1.in1.handled = none := by simp [hh]
        have hz1 : (s.heap.push (emp w)).objs.size = s.heap.objs.size + 1 := Heap.size_push ..
        have hneI : l ≠ (s.heap.push (emp w)).objs.size := by
          rw [hz1]
          exact Nat.ne_of_lt (Nat.lt_succ_of_lt hlS)
        have hSf : s.heap.objs.size ∉ [(s.heap.push (emp w)).objs.size, l] := by
          rw [hz1]
          simp only [List.mem_cons, List.not_mem_nil, or_false, not_or]
          exact ⟨Nat.ne_of_lt (Nat.lt_succ_self _), Nat.ne_of_gt hlS⟩
        refine set_update_ints ((Walks.list hh3 _ l hneI items).toS) s.heap.objs.size hSf ns hisz hb (ints_val hit hisz) (items.size - 0) 0 _ (by omega) (Nat.zero_le _)
          ⟨⟨_, Heap.get?_push_size _ rfl, rfl, rfl⟩, (hl1.push _)⟩ ?hS0 ?hR
        case hS0 => exact ⟨0, Nat.le_refl 0, setR_new_at (Heap.get?_push_of_some _ hS)⟩
        case hR =>
          intro s' c' hm hc' hS'
          obtain ⟨h', g2, d', tk', os'⟩ := s'
          obtain rfl : g2 = s.gens := hm.gens
          obtain rfl : d' = s.drawn := hm.drawn
          obtain rfl : os' = s.os := hm.os
          show wpAny _ _ _ _ _ _
          refine wpAny_pure ?_
          show wpAny _ _ (ret Value.none) _ _ _
          refine wpAny_pure ⟨rfl, h', tk', c', rfl, hS', hisz ▸ hc', ?_⟩
          intro b o e
          have hb0 : b < s.heap.objs.size := Heap.lt_size e
          refine hm.heap b o ?_ (Heap.get?_push_of_some _ (Heap.get?_push_of_some _ e))
          rw [hz1]
          simp only [List.mem_cons, List.not_mem_nil, or_false, not_or]
          exact ⟨Nat.ne_of_lt hb0, Nat.ne_of_lt (Nat.lt_succ_of_lt hb0)⟩
      · intro r₂ s₂ hr₂
        cases r₂ with
        | error e => exact hr₂
        | ok fl₂ =>
          cases fl₂ with
          | ret r =>
            obtain ⟨rfl, h', tk, c', rfl, hS', hc', hk'⟩ := hr₂
            repeat (any_goals (first | assumption | wp_step))
            exact h _ _ _ hS' hc' hk'
          | _ => exact hr₂.elim
    | _ => exact hr.elim
end
section
variable {X : Cx}
def rSetLi (w : World) : List V → Hp → VK → Prop := fun vs H Q => ∃ (a : Addr) (ns : List Int), vs = [.ref a] ∧ H a = some (.lst (ns.map V.int)) ∧ ns.length < 1000 ∧
  ∀ p c, H p = none → c ≤ ns.length → Q (.ref p) (upd H p (SetO w p (fun j => decide (j ∈ ns)) c))
theorem set_L (hc : X.calm = true) : CallR X (.type "set") (rSetLi X.w) := by
  intro pins s σ H vs us Q I r h
  obtain ⟨a, ns, rfl, ha, hl, q⟩ := h
  obtain ⟨u, rfl, rx⟩ := vals1 r
  cases (show u = Value.ref a from rx)
  obtain ⟨its, rv, p, hz⟩ := I.list (a := a) (xs := ns.map V.int) (.inl (.inl ha))
  refine set_of_list ns (I.ok.hd hc) p.isList (by simpa using intsAre_of rv) (Nat.lt_of_le_of_lt (show ns.length + 1 ≤ 1000 by omega) (by decide)) ?_
  intro h' tk c hS hc' hk
  exact ⟨.ref _, _, I.laid (t' := tk) hk (Nat.le_refl _) (setO_new hS), rfl, q _ c (I.hok.fresh (Nat.le_refl _)) hc'⟩
end
end MG

/-! set of a tuple of ints -/
namespace MG
open PySem PySem.Spec PyProof.Rows L2
section
variable {P : Program} {w : World} {A : Around} {E : Value → Shared → Prop} {s : Shared}
theorem set_of_tuple {l : Addr} {items : Array Value} (ns : List Int) {Q : Value → Shared → Prop} (hh : A.handled = none) (hl : s.heap.IsTuple l items) (hit : IntsAre items.toList ns) (hb : ns.length + 1 < scanBound)
    (h : ∀ (h' : Heap) (tk c : Nat), SetR w h' s.heap.objs.size (fun j => decide (j ∈ ns)) c → c ≤ ns.length → (∀ b o, s.heap.get? b = some o → h'.get? b = some o) → Q (.ref s.heap.objs.size) { s with heap := h', toks := tk }) :
    wpAny (model P w) A (call (.type "set") [.ref l]) Q E s := by
  have hisz : items.size = ns.length := (Array.length_toList ..).symm.trans (IntsAre.length hit)
  obtain ⟨c, tl, hmro⟩ := F.called_set.mro
  have hmade := F.called_set.made
  have hsub := F.called_set.sub
  refine wpAny_call (codeAny_of_tree ?_)
  show wpAny _ _ (callAny (.type "set") _) _ _ _
  refine wpAny_pure ⟨Code.quiet_builtin _ (by decide +kernel), codeAny_builtin F.entry_type_call ?_⟩
  rw [Around.under_plain (weight_type_call_type "set" [.ref l] []) rfl]
  have h1 := F.called_set.notType
  have h2 := F.called_set.canCreate
  have hct := F.typeCall_set_1 (.ref l)
  repeat (any_goals (first | assumption | wp_step))
  refine codeAny_mono (code_set_led1 (.ref l) (E := E) (Q₁ := fun ob s₁ => ob = .ref s.heap.objs.size ∧ s₁ = { s with heap := s.heap.push (emp w) }) ⟨rfl, rfl⟩) ?_
  intro r s₁ hr
  cases r with
  | error e => exact hr
  | ok fl =>
    cases fl with
    | ret ob =>
      obtain ⟨rfl, rfl⟩ := hr
      have hS : (s.heap.push (emp w)).get? s.heap.objs.size = some (emp w) := Heap.get?_push_size _ rfl
      have hT : Shared.TypeIs { s with heap := s.heap.push (emp w) } (.ref s.heap.objs.size) "set" := ⟨_, hS, rfl⟩
      have hli := F.called_set.init.lookup
      have hbi := F.called_set.init.bind (.ref s.heap.objs.size)
      repeat (any_goals (first | assumption | wp_step))
      refine codeAny_mono (codeAny_call_builtin (R := wants (fun r s₂ => r = .none ∧ ∃ h' tk c, s₂ = { s with heap := h', toks := tk } ∧ SetR w h' s.heap.objs.size (fun j => decide (j ∈ ns)) c ∧ c ≤ ns.length ∧
          (∀ b o, s.heap.get? b = some o → h'.get? b = some o)) E) F.called_set.init.plain F.entry_set_init (check_set_init_1 hT ?_)) ?_
      · obtain ⟨⟨ocls, odict, odata, oslots⟩, hol, hcl, nl, hdl⟩ := hl
        simp only at hcl hdl
        subst hcl hdl
        have hol' : (s.heap.push (emp w)).get? l = some { cls := .type "tuple", dict := odict, data := .seq items nl, slots := oslots } := Heap.get?_push_of_some _ hol
        have hsls := F.sub_tuple_set
        have hslf := F.sub_tuple_frozenset
        have hne : (Value.type "list" == Value.type "dict") = false := by decide
        have hl1 : (s.heap.push (emp w)).IsTuple l items := ⟨_, hol', rfl, nl, rfl⟩
        unfold Builtin.«set.__init__» noKeywords Builtin.Frozenset.updateFrom
        generalize hPI : pyIter = PI
        wp_walk
        subst hPI
        refine wpAny_pyIter_tuple hl1 ?_
        refine wpAny_bind (wpAny_runValue ?_)
        have hlS : l < s.heap.objs.size := Heap.lt_size hol
        have hh3 : A.in1.in1.in1.handled = none := by simp [hh]
        have hz1 : (s.heap.push (emp w)).objs.size = s.heap.objs.size + 1 := Heap.size_push ..
        have hneI : l ≠ (s.heap.push (emp w)).objs.size := by
          rw [hz1]
          exact Nat.ne_of_lt (Nat.lt_succ_of_lt hlS)
        have hSf : s.heap.objs.size ∉ [(s.heap.push (emp w)).objs.size, l] := by
          rw [hz1]
          simp only [List.mem_cons, List.not_mem_nil, or_false, not_or]
          exact ⟨Nat.ne_of_lt (Nat.lt_succ_self _), Nat.ne_of_gt hlS⟩
        refine set_update_ints ((Walks.tuple hh3 _ l hneI items).toS) s.heap.objs.size hSf ns hisz hb (ints_val hit hisz) (items.size - 0) 0 _ (by omega) (Nat.zero_le _)
          ⟨⟨_, Heap.get?_push_size _ rfl, rfl, rfl⟩, (hl1.push _)⟩ ?hS0 ?hR
        case hS0 => exact ⟨0, Nat.le_refl 0, setR_new_at (Heap.get?_push_of_some _ hS)⟩
        case hR =>
          intro s' c' hm hc' hS'
          obtain ⟨h', g2, d', tk', os'⟩ := s'
          obtain rfl : g2 = s.gens := hm.gens
          obtain rfl : d' = s.drawn := hm.drawn
          obtain rfl : os' = s.os := hm.os
          show wpAny _ _ _ _ _ _
          refine wpAny_pure ?_
          show wpAny _ _ (ret Value.none) _ _ _
          refine wpAny_pure ⟨rfl, h', tk', c', rfl, hS', hisz ▸ hc', ?_⟩
          intro b o e
          have hb0 : b < s.heap.objs.size := Heap.lt_size e
          refine hm.heap b o ?_ (Heap.get?_push_of_some _ (Heap.get?_push_of_some _ e))
          rw [hz1]
          simp only [List.mem_cons, List.not_mem_nil, or_false, not_or]
          exact ⟨Nat.ne_of_lt hb0, Nat.ne_of_lt (Nat.lt_succ_of_lt hb0)⟩
      · intro r₂ s₂ hr₂
        cases r₂ with
        | error e => exact hr₂
        | ok fl₂ =>
          cases fl₂ with
          | ret r =>
            obtain ⟨rfl, h', tk, c', rfl, hS', hc', hk'⟩ := hr₂
            repeat (any_goals (first | assumption | wp_step))
            exact h _ _ _ hS' hc' hk'
          | _ => exact hr₂.elim
    | _ => exact hr.elim
end
section
variable {X : Cx}
def rSetTi (w : World) : List V → Hp → VK → Prop := fun vs H Q => ∃ (a : Addr) (ns : List Int), vs = [.ref a] ∧ H a = some (.tup (ns.map V.int)) ∧ ns.length < 1000 ∧
  ∀ p c, H p = none → c ≤ ns.length → Q (.ref p) (upd H p (SetO w p (fun j => decide (j ∈ ns)) c))
theorem set_Ti (hc : X.calm = true) : CallR X (.type "set") (rSetTi X.w) := by
  intro pins s σ H vs us Q I r h
  obtain ⟨a, ns, rfl, ha, hl, q⟩ := h
  obtain ⟨u, rfl, rx⟩ := vals1 r
  cases (show u = Value.ref a from rx)
  obtain ⟨its, rv, p, hz⟩ := I.tuple (a := a) (xs := ns.map V.int) (sqT ha)
  refine set_of_tuple ns (I.ok.hd hc) p (by simpa using intsAre_of rv) (Nat.lt_of_le_of_lt (show ns.length + 1 ≤ 1000 by omega) (by decide)) ?_
  intro h' tk c hS hc' hk
  exact ⟨.ref _, _, I.laid (t' := tk) hk (Nat.le_refl _) (setO_new hS), rfl, q _ c (I.hok.fresh (Nat.le_refl _)) hc'⟩
end
end MG

/-! sorted of a set of ints, any number -/
namespace MG
open PySem PySem.Spec PyProof.Rows L2
section
variable {P : Program} {w : World} {A : Around} {E : Value → Shared → Prop} {s : Shared}
theorem sorted_setAny {a : Addr} {S : Int → Bool} {n : Nat} {Q : Value → Shared → Prop} (hS : SetR w s.heap a S n) (hh : A.handled = none)
    (h : ∀ (s' : Shared) (p : Nat) (out : Array Value) (c : Nat) (ns : List Int), (∀ (b : Addr) (o : Obj), s.heap.get? b = some o → s'.heap.get? b = some o) → s'.gens = s.gens → s'.os = s.os → s.heap.objs.size ≤ p → s'.heap.get? p = some (seqObj "list" out c) → IntsAre out.toList ns → List.Pairwise (fun x1 x2 => x1 < x2) ns → (∀ (k : Int), k ∈ ns ↔ S k = true) → ns.length = n → Q (Value.ref p) s') :
    wpAny (model P w) A (call (Value.builtin "sorted") [Value.ref a]) Q E s := by
  obtain ⟨o, es, ep, t, h1, h2, h3, h4, h5, h6, h7, h8, h9, h10, h11⟩ := hS
  refine PySem.Calls.call_function_entry kind_sorted plain_sorted entry_sorted (args_sorted1 _) ?_
  unfold Builtin.sorted
  have good : ∀ e ∈ es.toList, ∃ k tk, e.snd = Value.int k tk ∧ keyOf e = k := fun e he => by
    obtain ⟨k, tk, g1, _⟩ := h4 e he
    exact ⟨k, tk, g1, by unfold keyOf; rw [g1]⟩
  refine wpAny_bind (wpAny_pure ?_)
  refine wpAny_bind (collect_set (by simp [hh]) ⟨o, h1, h2.1, h3⟩ h8 h7 h10 h11 fun s1 out hk hsz hg ho hp => ?_)
  have gv : ∀ v ∈ out, ∃ k tk, v = Value.int k tk := fun v hv => by
    obtain ⟨e, he, rfl⟩ := List.mem_map.mp (hp.mem_iff.mp hv)
    obtain ⟨k, tk, g1, _⟩ := good e he
    exact ⟨k, tk, g1⟩
  have hi := ints_of out gv
  have hpk : (out.map Builtin.Re.reRawOf).Perm (es.toList.map keyOf) := by
    refine (hp.map Builtin.Re.reRawOf).trans (List.Perm.of_eq ?_)
    rw [List.map_map]
    refine List.map_congr_left fun e he => ?_
    obtain ⟨k, tk, g1, g2⟩ := good e he
    rw [g2]
    show Builtin.Re.reRawOf e.snd = k
    rw [g1]
    rfl
  have hlen : out.length = n := by
    rw [hp.length_eq, List.length_map, Array.length_toList, h9]
  have hb : out.length ≤ sizeLine := by
    rw [hlen, ← h9]
    exact Nat.le_trans (Nat.le_of_lt h7) (by decide)
  refine wpAny_bind (wpAny_newList ?_ hb)
  refine wpAny_bind (wpAny_holding (wpAny_call_entry slot_list_sort ⟨_, Heap.get?_push_size _ rfl, rfl⟩ entry_list_sort (list_sort_treeAny (n := 0) (vs := out) (Heap.get?_push_size _ rfl) hi hb fun out' ns' hi' hperm hord => ⟨_, rfl, ?_⟩) (args_list_sort _)))
  refine wpAny_pure ⟨_, rfl, ?_⟩
  have hsa : ((s1.heap.push { cls := Value.type "list", data := Data.seq out.toArray }).get? s1.heap.objs.size) = some (seqObj "list" out.toArray 0) := Heap.get?_push_size _ rfl
  obtain ⟨e, he⟩ := sortedHeap_at (out := out') hsa
  refine h _ _ out' e ns' (fun b ob eb => ?_) hg ho hsz he hi' ?_ (fun k => ?_) ?_
  · have lb : b < s1.heap.objs.size := Heap.lt_size (hk b ob eb)
    show (sortedHeap _ _ out out').get? b = some ob
    rw [sortedHeap_old (Nat.ne_of_lt lb) (by rw [size_push']; exact Nat.lt_succ_of_lt lb)]
    exact Heap.get?_push_of_some _ (hk b ob eb)
  · exact lt_of_le_nodup _ hord ((hperm.trans hpk).nodup_iff.mpr h5)
  · rw [(hperm.trans hpk).mem_iff]
    exact (h6 k).symm
  · rw [hperm.length_eq, List.length_map, hlen]
end
section
variable {X : Cx}
/-- sorted of a set of ints -/
def rSortedSetA (w : World) : List V → Hp → VK → Prop := fun vs H Q => ∃ (a : Addr) (S : Int → Bool) (n : Nat), vs = [V.ref a] ∧ H a = some (SetO w a S n) ∧ ∀ (ns : List Int) (p : Addr), ns.Pairwise (· < ·) → (∀ k, k ∈ ns ↔ S k = true) → ns.length = n → H p = none → Q (.ref p) (upd H p (.lst (ns.map V.int)))
theorem sortedSetA (hc : X.calm = true) : CallR X (.builtin "sorted") (rSortedSetA X.w) := by
  intro pins s σ H vs us Q I r h
  obtain ⟨a, S, n, rfl, ha, q⟩ := h
  obtain ⟨u, rfl, rx⟩ := vals1 r
  cases (show u = Value.ref a from rx)
  refine sorted_setAny (setO_get I ha) (I.ok.hd hc) fun s' p out c ns hk hg ho hsz hp hi hord hiff hlen => ?_
  obtain ⟨h', g', d', t', o'⟩ := s'
  obtain rfl : g' = s.gens := hg
  obtain rfl : o' = s.os := ho
  have np : H p = none := I.hok.fresh hsz
  have hok' : HOk X.prog X.w (upd H p (.lst (ns.map V.int))) h' := I.hok.laid hk hsz (by
    refine ⟨?_, out.toList, c, vals_of_ints hi, hp⟩
    obtain ⟨o, es, ep, t, h1, h2, h3, h4, h5, h6, h7, h8, h9, h10, h11⟩ := setO_get I ha
    rw [List.length_map, hlen, ← h9]
    exact Nat.le_trans (Nat.le_of_lt h7) (by decide))
  exact ⟨.ref p, upd H p (.lst (ns.map V.int)), I.call (ch := []) (Un.laid hk hsz np) hok' I.bare (fun b hb => by cases hb), rfl, q ns p hord hiff hlen np⟩
end
end MG

/-! min of a tuple; walks of lists or tuples; data compared -/
namespace MG
open PySem PySem.Spec PyProof.Rows L2
section
variable {prog : Program} {w : World} {A : Around} {E : Value → Shared → Prop} {s : Shared} {l : Addr} {xs : Array (Int × Tok)}
theorem min_intTup {Q : Value → Shared → Prop} (hh : A.handled = none) (hl : s.heap.IsTuple l (intItems xs)) (hne : 0 < xs.size)
    (h : ∀ v h' tk, (intItems xs)[argBest (fun i j => decide (numAt xs i < numAt xs j)) (xs.size - 1)]? = some v → (∀ b o, s.heap.get? b = some o → h'.get? b = some o) → Q v { s with heap := h', toks := tk }) :
    wpAny (model prog w) A (call (.builtin "min") [.ref l]) Q E s := by
  have hlt : l < s.heap.objs.size := by obtain ⟨_, e, _⟩ := hl; exact Heap.lt_size e
  refine call_min_walk (wpAny_pyIter_tuple hl ?_)
  have st : Heap.IsTupleIter (s.heap.push { cls := .type "tuple_iterator", data := .fields #[.ref l, .int 0 0] }) s.heap.objs.size l 0 := ⟨_, Heap.get?_push_size _ rfl, rfl, rfl⟩
  have tp : Heap.IsTuple (s.heap.push { cls := .type "tuple_iterator", data := .fields #[.ref l, .int 0 0] }) l (intItems xs) := by
    obtain ⟨o, e, r⟩ := hl
    exact ⟨o, Heap.get?_push_of_some _ e, r⟩
  refine ⟨_, _, _, _, _, _, _, rfl, Walks.tuple (A := A.in1) hh _ l (Nat.ne_of_lt hlt) (intItems xs), ⟨st, tp⟩, fun b hb => ?_, by simpa [intItems] using hne, CmpOf.ints_lt (numAt xs) (fun _ _ => intItems_at), fun v h' tk hP hk => ?_⟩
  · show b < (s.heap.push _).objs.size
    rw [Heap.size_push]
    rcases List.mem_cons.mp hb with rfl | hb
    · exact Nat.lt_succ_self _
    · rcases List.mem_cons.mp hb with rfl | hb
      · exact Nat.lt_succ_of_lt hlt
      · cases hb
  · refine h v h' tk (by simpa [intItems] using hP) fun b o e => hk b o (fun hm => ?_) (Heap.get?_push_of_some _ e)
    rcases List.mem_cons.mp hm with e1 | hm
    · exact absurd (e1 ▸ Heap.lt_size e) (Nat.lt_irrefl _)
    · cases hm
theorem min_rawT {its : List Value} {ns : List Int} {Q : Value → Shared → Prop} (hh : A.handled = none) (hl : s.heap.IsTuple l its.toArray) (hi : IntsAre its ns) (hne : 0 < ns.length)
    (h : ∀ h' tk M t', (∀ b o, s.heap.get? b = some o → h'.get? b = some o) → M ∈ ns → (∀ a, a ∈ ns → M ≤ a) → Q (.int M t') { s with heap := h', toks := tk }) : wpAny (model prog w) A (call (.builtin "min") [.ref l]) Q E s := by
  obtain ⟨xs, e⟩ := hi.allInts.items
  have hn : numsOf (intItems xs).toList = ns := by rw [← e]; exact hi.numsOf
  rw [nums_intItems] at hn
  subst hn
  rw [e] at hl
  refine min_intTup hh hl (by simpa using hne) fun v h' tk hv hk => ?_
  obtain ⟨t, rfl⟩ := intItems_at hv
  obtain ⟨h1, h2⟩ := argBest_lt (numAt xs) (xs.size - 1)
  have hsz : 0 < xs.size := by simpa using hne
  refine h h' tk _ t hk ?_ fun a ha => ?_
  · rw [numAt_eq]; exact PySem.getD_mem (by rw [List.length_map, Array.length_toList]; omega)
  · obtain ⟨j, hj, rfl⟩ := mem_getD ha
    rw [List.length_map, Array.length_toList] at hj
    rw [← numAt_eq]; exact h2 j (by omega)
end
section
variable {X : Cx}
/-- min of a tuple of ints -/
def rMinT (K : PySem.W.Frag) : List V → Hp → VK → Prop := fun vs H Q => ∃ (a : Addr) (ns : List Int), vs = [V.ref a] ∧ SqT K H a (ns.map V.int) ∧ 0 < ns.length ∧ ∀ m, m ∈ ns → (∀ y, y ∈ ns → m ≤ y) → Q (.int m) H
theorem min_T (hc : X.calm = true) : CallR X (.builtin "min") (rMinT X.K) := by
  intro pins s σ H vs us Q I r h
  obtain ⟨a, ns, rfl, hs, hne, q⟩ := h
  obtain ⟨its, rv, hl, _⟩ := I.tuple hs
  rw [Vals.ref1 r]
  exact min_rawT (I.ok.hd hc) hl rv.ints hne fun h' tk m t' hk h1 h2 => ⟨.int _, H, I.kept hk, ⟨_, rfl⟩, q m h1 h2⟩
/-- a walk over a list or a tuple -/
def iAnyS (K : PySem.W.Frag) (tl : TE) : TI := fun σ H R => tl σ H fun x H1 => ∃ a, x = .ref a ∧ (((∃ xs, SqL K H1 a xs) ∧ R (Itl K a) H1) ∨ ((∃ xs, SqT K H1 a xs) ∧ R (Itt K a) H1))
theorem pi_anyS {tg l : Expr} {tl : TE} (hl : PE X l tl) : PI X tg l (iAnyS X.K tl) := by
  refine ⟨fun pins s σ H R I h => ?_⟩
  refine thn (hl.run pins s σ H _ I h) fun v s1 ⟨x, H1, I1, r1, q1⟩ => ?_
  obtain ⟨a, e, q⟩ := q1
  subst e
  cases r1
  rcases q with ⟨⟨xs, hq⟩, q⟩ | ⟨⟨xs, hq⟩, q⟩
  · obtain ⟨its, rv, p, hz⟩ := I1.list hq
    refine wpAny_pyIter_list p.isList ?_
    refine ⟨s1.heap.objs.size, [s1.heap.objs.size], _, _, H1, rfl, I1.kept (t' := s1.toks) fun b o e => Heap.get?_push_of_some _ e, turn_list a _, ⟨_, Heap.get?_push_size _ rfl, rfl, rfl⟩, fun b hb => ?_, q⟩
    obtain rfl : b = s1.heap.objs.size := by simpa using hb
    exact I1.fpOk (Nat.le_refl _) (I1.hok.fresh (Nat.le_refl _))
  · obtain ⟨its, rv, p, hz⟩ := I1.tuple hq
    refine wpAny_pyIter_tuple (show s1.heap.IsTuple a its.toArray from p) ?_
    refine ⟨s1.heap.objs.size, [s1.heap.objs.size], _, _, H1, rfl, I1.kept (t' := s1.toks) fun b o e => Heap.get?_push_of_some _ e, turn_tuple a _, ⟨_, Heap.get?_push_size _ rfl, rfl, rfl⟩, fun b hb => ?_, q⟩
    obtain rfl : b = s1.heap.objs.size := by simpa using hb
    exact I1.fpOk (Nat.le_refl _) (I1.hok.fresh (Nat.le_refl _))
end
/-- an int, new things beside it -/
def rIntS : L2.St → Hp → V → Hp → Prop := fun _ H v H' => (∃ i : Int, v = .int i) ∧ Same H H'
/-- rows of ints, compared -/
theorem eqv_ints : ∀ (cs ds : List Int), PyData.eqvAll (cs.map PyData.int) (ds.map PyData.int) = decide (cs = ds)
  | [], [] => by simp [PyData.eqvAll]
  | [], _ :: _ => by simp [PyData.eqvAll]
  | _ :: _, [] => by simp [PyData.eqvAll]
  | c :: cs, d :: ds => by
    have ih := eqv_ints cs ds
    simp only [List.map_cons, PyData.eqvAll, ih]
    by_cases h : c = d
    · subst h
      simp [PyData.eqv]
    · simp [PyData.eqv, h]
theorem eqv_tup (cs ds : List Int) : (PyData.tuple (cs.map .int)).eqv (.tuple (ds.map .int)) = decide (cs = ds) := by
  rw [PyData.eqv]
  exact eqv_ints cs ds
theorem shw_str {x : Str} {n : Nat} (hx : ∀ c ∈ x.cps.toList, c < 16 ^ 8) (h : x.length ≤ n) : Shw (10 * n + 2) 0 (.str x) := by
  refine ⟨rfl, rfl, Nat.le_refl _, ?_⟩
  have := StrLaws.reprText_len x hx
  show (reprText x).length ≤ _
  omega
/-! bools in a row -/
def tabB (n : Nat) (f : Nat → Bool) : List V := (List.range n).map fun i => .bl (f i)
theorem tabB_len {n : Nat} {f : Nat → Bool} : (tabB n f).length = n := by simp [tabB]
theorem tabB_at {n i : Nat} {f : Nat → Bool} (h : i < n) : (tabB n f)[i]? = some (.bl (f i)) := by simp [tabB, h]
theorem tabB_succ {n : Nat} {f : Nat → Bool} : tabB (n + 1) f = tabB n f ++ [.bl (f n)] := by
  unfold tabB
  rw [List.range_succ, List.map_append]
  rfl
theorem tabB_congr {n : Nat} {f g : Nat → Bool} (h : ∀ i, i < n → f i = g i) : tabB n f = tabB n g := by
  apply List.map_congr_left
  intro i hi
  rw [h i (List.mem_range.mp hi)]
theorem tabB_set {n i : Nat} {f : Nat → Bool} {v : Bool} : (tabB n f).set i (.bl v) = tabB n (fun j => if j = i then v else f j) := by
  apply List.ext_getElem?
  intro j
  rw [List.getElem?_set, tabB_len]
  by_cases hj : j < n
  · rw [tabB_at (f := fun j => if j = i then v else f j) hj, tabB_at (f := f) hj]
    by_cases e : i = j
    · rw [if_pos e, if_pos (by omega), if_pos e.symm]
    · rw [if_neg e, if_neg (fun z => e z.symm)]
  · have h1 : (tabB n fun j => if j = i then v else f j)[j]? = none := by
      rw [List.getElem?_eq_none_iff, tabB_len]; omega
    have h2 : (tabB n f)[j]? = none := by
      rw [List.getElem?_eq_none_iff, tabB_len]; omega
    rw [h1, h2]
    by_cases e : i = j
    · rw [if_pos e, if_neg (by omega)]
    · rw [if_neg e]
end MG

/-! a comprehension over a range with a step -/
namespace MG
open PySem PySem.Spec PyProof.Rows L2
theorem lc_rangeC {lo c : Int} {n : Nat} {g : TG} {tt : TT} {te : TE} {vs : List Nat} {σ : L2.St} {H1 : Hp} {D : Addr} {Qd : Hp → Prop} (Pv : Nat → Hp → Prop) (h0 : Pv 0 (upd H1 D (.lst [])))
    (hs : ∀ i H, i < n → Pv i H → g (.int (lo + (i : Int) * c)) (wipe σ vs) H fun σ2 H2 => wipe σ2 vs = wipe σ vs ∧ tt σ2 H2 fun b H3 =>
      if b = true then te σ2 H3 fun z H4 => ∃ acc, H4 D = some (.lst acc) ∧ acc.length < sizeLine ∧ Pv (i + 1) (upd H4 D (.lst (acc ++ [z]))) else Pv (i + 1) H3) (hd : ∀ H, Pv n H → Qd H) :
    ∃ W : Nat → Nat → Hp → Prop, (∃ m, W 0 m (upd H1 D (.lst []))) ∧ ∀ i m H, W i m H →
      ((Itc lo c n).stop i H ∧ Qd H) ∨ ((Itc lo c n).go i H ∧ ∃ Nx : Hp → Prop, (∀ H', Nx H' → ∃ m', m' < m ∧ W (i + 1) m' H') ∧ ∀ x H', (Itc lo c n).yld i H x H' → g x (wipe σ vs) H' fun σ2 H2 => wipe σ2 vs = wipe σ vs ∧ tt σ2 H2 fun b H3 =>
        if b = true then te σ2 H3 fun y H4 => ∃ acc, H4 D = some (.lst acc) ∧ acc.length < sizeLine ∧ Nx (upd H4 D (.lst (acc ++ [y]))) else Nx H3) := by
  refine ⟨fun i m H => m = n - i ∧ i ≤ n ∧ Pv i H, ⟨n, by simp, Nat.zero_le _, h0⟩, ?_⟩
  rintro i m H ⟨rfl, hi, p⟩
  by_cases hlt : i < n
  · refine .inr ⟨hlt, Pv (i + 1), fun H' p' => ⟨n - (i + 1), by omega, rfl, hlt, p'⟩, fun x H' z => ?_⟩
    obtain ⟨rfl, rfl⟩ := z
    exact hs i _ hlt p
  · have e : i = n := by omega
    subst e
    exact .inl ⟨Nat.le_refl _, hd H p⟩
theorem rgC {i j c : Nat} (hc : 0 < c) (h1 : i < 2 ^ 40) (h2 : j < 2 ^ 40) (h3 : c < 2 ^ 29) (hij : i < j) : RgC (i : Int) (j : Int) (c : Int) ((j - i - 1) / c + 1) := by
  have e : Builtin.Range.rangeSize (i : Int) (j : Int) (c : Int) = (((j - i - 1) / c + 1 : Nat) : Int) := by
    unfold Builtin.Range.rangeSize
    rw [if_pos (by omega), if_pos (by omega)]
    have : (j : Int) - i - 1 = ((j - i - 1 : Nat) : Int) := by omega
    rw [this]
    rfl
  have hle : (j - i - 1) / c ≤ j - i - 1 := Nat.div_le_self _ _
  refine ⟨by omega, by omega, ?_, e⟩
  unfold Builtin.Range.small
  rw [e, if_pos (by omega)]
  clear e
  generalize (j - i - 1) / c = k at hle ⊢
  simp only [Builtin.Range.rangeFitsLong, Bool.and_eq_true, Bool.or_eq_true, decide_eq_true_eq]
  omega
theorem shapedL (ns : List Int) : SeqAt.shaped (.list (ns.map .int)) = true := by
  obtain ⟨a, b⟩ := layI ns
  have d : (PyData.list (ns.map .int)).depth ≤ 64 := by
    show PyData.depthAll (ns.map PyData.int) + 1 ≤ 64
    omega
  have c : (PyData.list (ns.map .int)).canLay0 = true := a
  unfold SeqAt.shaped
  rw [c]
  simpa using d
theorem eqv_lst (cs ds : List Int) : (PyData.list (cs.map .int)).eqv (.list (ds.map .int)) = decide (cs = ds) := by
  rw [PyData.eqv]
  exact eqv_ints cs ds
end MG

/-! sums that are paid in a few ways -/
namespace KF
open KM
open KM (cnt)
theorem nodup_le {α : Type} [DecidableEq α] : ∀ {l m : List α}, l.Nodup → (∀ x ∈ l, x ∈ m) → l.length ≤ m.length
  | [], _, _, _ => Nat.zero_le _
  | x :: l, m, hn, h => by
    obtain ⟨h1, h2⟩ := List.nodup_cons.mp hn
    have hx := h x (by simp)
    have ih := nodup_le (m := m.erase x) h2 (fun y hy => by
      have hne : y ≠ x := fun e => h1 (e ▸ hy)
      exact (List.mem_erase_of_ne hne).mpr (h y (by simp [hy])))
    rw [List.length_erase_of_mem hx] at ih
    have := List.length_pos_of_mem hx
    simp
    omega
theorem wrt_set : ∀ {cs p : List Int} {i : Nat} {c m x : Int}, cs[i]? = some c → p[i]? = some m → wrt cs (p.set i x) = wrt cs p + c * (x - m)
  | [], _, _, _, _, _, h, _ => by simp at h
  | _ :: _, [], _, _, _, _, _, h => by simp at h
  | d :: cs, y :: p, 0, c, m, x, h1, h2 => by
    have e1 : d = c := by simpa using h1
    have e2 : y = m := by simpa using h2
    subst e1 e2
    show d * x + wrt cs p = d * y + wrt cs p + d * (x - y)
    rw [Int.mul_sub]
    omega
  | d :: cs, y :: p, i + 1, c, m, x, h1, h2 => by
    have ih := wrt_set (cs := cs) (p := p) (i := i) (x := x) (by simpa using h1) (by simpa using h2)
    show d * y + wrt cs (p.set i x) = d * y + wrt cs p + c * (x - m)
    omega
theorem mem_all {cs p : List Int} {n : Nat} (h : ∀ d ∈ cs, 1 ≤ d) (h1 : p.length = cs.length) (h2 : ∀ m ∈ p, 0 ≤ m) (h3 : wrt cs p = n) : p ∈ allP cs n := List.mem_of_getElem? (rk_at h h1 h2 h3)
theorem cnt_nn {cs : List Int} (h : ∀ d ∈ cs, 1 ≤ d) (n : Nat) : 0 ≤ cnt cs n := by
  rw [← tw_cnt h]
  exact tw_nn h n
theorem cnt_len {cs : List Int} (h : ∀ d ∈ cs, 1 ≤ d) (n : Nat) : ((allP cs n).length : Int) = cnt cs n := by rw [all_len h, tw_cnt h]
/-- a coin in a payment that often can be changed -/
theorem changed {cs p : List Int} {n i j W : Nat} {a b d : Nat} {x y : Int} (h : ∀ d ∈ cs, 1 ≤ d) (hp : p ∈ allP cs n) (hij : i ≠ j) (ha : cs[i]? = some ((a * d : Nat) : Int)) (hb : cs[j]? = some ((b * d : Nat) : Int))
    (hx : p[i]? = some x) (hy : p[j]? = some y) (hW : ((W * b : Nat) : Int) ≤ x) (ha0 : 0 < a) : W + 1 ≤ (allP cs n).length := by
  obtain ⟨l1, l2, l3⟩ := all_is h hp
  have hj : j < p.length := (List.getElem?_eq_some_iff.mp hy).1
  have key : ∀ k : Nat, k ≤ W → ((p.set i (x - (k * b : Nat))).set j (y + (k * a : Nat))) ∈ allP cs n := fun k hk => by
    have kb : k * b ≤ W * b := Nat.mul_le_mul_right b hk
    refine mem_all h (by simp [l1]) ?_ ?_
    · intro m hm
      rcases List.mem_or_eq_of_mem_set hm with hm | rfl
      · rcases List.mem_or_eq_of_mem_set hm with hm | rfl
        · exact l2 m hm
        · omega
      · have := l2 y (List.mem_of_getElem? hy)
        omega
    · have hy' : (p.set i (x - (k * b : Nat)))[j]? = some y := by rw [List.getElem?_set_ne hij]; exact hy
      rw [wrt_set hb hy', wrt_set ha hx, l3]
      have e1 : ((a * d : Nat) : Int) * (x - (k * b : Nat) - x) = -((k * (a * b * d) : Nat) : Int) := by
        have : x - ((k * b : Nat) : Int) - x = -((k * b : Nat) : Int) := by omega
        rw [this, Int.mul_neg, ← Int.natCast_mul]
        congr 2
        ac_rfl
      have e2 : ((b * d : Nat) : Int) * (y + (k * a : Nat) - y) = ((k * (a * b * d) : Nat) : Int) := by
        have : y + ((k * a : Nat) : Int) - y = ((k * a : Nat) : Int) := by omega
        rw [this, ← Int.natCast_mul]
        congr 1
        ac_rfl
      rw [e1, e2]
      omega
  have hl := nodup_le (l := (List.range (W + 1)).map fun k => ((p.set i (x - (k * b : Nat))).set j (y + (k * a : Nat)))) (m := allP cs n) ?_ ?_
  · simpa using hl
  · unfold List.Nodup
    rw [List.pairwise_map]
    refine List.nodup_range.imp fun {k k'} hk e => hk ?_
    have e' := congrArg (fun l : List Int => l[j]?) e
    simp [hj] at e'
    have : k * a = k' * a := by
      have h2 : ((k * a : Nat) : Int) = ((k' * a : Nat) : Int) := by simpa using e'
      omega
    exact Nat.eq_of_mul_eq_mul_right ha0 this
  · intro q hq
    obtain ⟨k, hk, rfl⟩ := List.mem_map.mp hq
    exact key k (by have := List.mem_range.mp hk; omega)
def Few (cs : List Int) (W : Int) (n : Nat) : Prop := 1 ≤ cnt cs n ∧ cnt cs n ≤ W
instance (cs : List Int) (W : Int) (n : Nat) : Decidable (Few cs W n) := inferInstanceAs (Decidable (_ ∧ _))
theorem few_zero (cs : List Int) {W : Int} (h : 1 ≤ W) : Few cs W 0 := by
  unfold Few
  rw [cnt_zero]
  omega
theorem paid_ex {cs : List Int} {n : Nat} (h : ∀ d ∈ cs, 1 ≤ d) (hn : 1 ≤ cnt cs n) : ∃ p, p ∈ allP cs n := by
  have := cnt_len h n
  cases e : allP cs n with
  | nil =>
    rw [e] at this
    simp at this
    omega
  | cons p r => exact ⟨p, by simp⟩
theorem wrt_pos : ∀ {cs p : List Int}, (∀ m ∈ p, 0 ≤ m) → p.length = cs.length → wrt cs p ≠ 0 → ∃ (i : Nat) (c m : Int), cs[i]? = some c ∧ p[i]? = some m ∧ 1 ≤ m
  | [], _, _, _, hw => by simp [wrt] at hw
  | _ :: _, [], _, hl, _ => by simp at hl
  | c :: cs, m :: p, h, hl, hw => by
    by_cases hm : 1 ≤ m
    · exact ⟨0, c, m, rfl, rfl, hm⟩
    · have e : m = 0 := by have := h m (by simp); omega
      subst e
      have hw' : wrt cs p ≠ 0 := by
        have : wrt (c :: cs) (0 :: p) = c * 0 + wrt cs p := rfl
        rw [this] at hw
        simpa using hw
      obtain ⟨i, c', m', h1, h2, h3⟩ := wrt_pos (fun x hx => h x (by simp [hx])) (by simpa using hl) hw'
      exact ⟨i + 1, c', m', by simpa using h1, by simpa using h2, h3⟩
theorem wrt_ge : ∀ {cs p : List Int} {i : Nat} {c m : Int}, (∀ d ∈ cs, 1 ≤ d) → (∀ m ∈ p, 0 ≤ m) → cs[i]? = some c → p[i]? = some m → c * m ≤ wrt cs p
  | [], _, _, _, _, _, _, h, _ => by simp at h
  | _ :: _, [], _, _, _, _, _, _, h => by simp at h
  | d :: cs, y :: p, 0, c, m, hc, hp, h1, h2 => by
    have e1 : d = c := by simpa using h1
    have e2 : y = m := by simpa using h2
    subst e1 e2
    have := wrt_nn cs p (fun x hx => hc x (by simp [hx])) (fun x hx => hp x (by simp [hx]))
    show d * y ≤ d * y + wrt cs p
    omega
  | d :: cs, y :: p, i + 1, c, m, hc, hp, h1, h2 => by
    have ih := wrt_ge (cs := cs) (p := p) (i := i) (fun x hx => hc x (by simp [hx])) (fun x hx => hp x (by simp [hx])) (by simpa using h1) (by simpa using h2)
    have : 0 ≤ d * y := Int.mul_nonneg (by have := hc d (by simp); omega) (hp y (by simp))
    show c * m ≤ d * y + wrt cs p
    omega
theorem few_down {cs : List Int} {W : Int} {n : Nat} (h : ∀ d ∈ cs, 1 ≤ d) (hd : cs.Nodup) (hn : 0 < n) (hf : Few cs W n) : ∃ c ∈ cs, c.toNat ≤ n ∧ Few cs W (n - c.toNat) := by
  obtain ⟨p, hp⟩ := paid_ex h hf.1
  obtain ⟨l1, l2, l3⟩ := all_is h hp
  obtain ⟨i, c, m, e1, e2, hm⟩ := wrt_pos l2 l1 (by omega)
  have hcm := List.mem_of_getElem? e1
  have hc1 := h c hcm
  have hge := wrt_ge h l2 e1 e2
  have hcm1 : c * 1 ≤ c * m := Int.mul_le_mul_of_nonneg_left hm (by omega)
  have hcn : c.toNat ≤ n := by omega
  refine ⟨c, hcm, hcn, ?_, ?_⟩
  · have hq : p.set i (m - 1) ∈ allP cs (n - c.toNat) := by
      refine mem_all h (by simp [l1]) ?_ ?_
      · intro x hx
        rcases List.mem_or_eq_of_mem_set hx with hx | rfl
        · exact l2 x hx
        · omega
      · rw [wrt_set e1 e2, l3, show m - 1 - m = (-1 : Int) by omega]
        omega
    have := cnt_len h (n - c.toNat)
    have h2 := List.length_pos_of_mem hq
    omega
  · have e := cnt_take h hd hcm hcn
    have := cnt_nn (cs := cs.filter (fun d => !decide (d = c))) (fun d hd => h d (List.mem_filter.mp hd).1) n
    have := hf.2
    omega
theorem few_end {cs : List Int} {W : Int} {last N G : Nat} (h : ∀ d ∈ cs, 1 ≤ d) (hd : cs.Nodup) (hG : ∀ c ∈ cs, c ≤ G) (h1 : ∀ m, m < N → Few cs W m → m ≤ last) (hN : last + G < N) : ∀ m, Few cs W m → m ≤ last := by
  intro m
  induction m using Nat.strongRecOn with
  | ind m ih =>
    intro hf
    by_cases q : m < N
    · exact h1 m q hf
    · obtain ⟨c, hc, hcn, hf'⟩ := few_down h hd (by omega) hf
      have c1 := h c hc
      have c2 := hG c hc
      have := ih (m - c.toNat) (by omega) hf'
      omega
/-- what few ways let in a payment -/
def Fp (cs : List Int) (W : Nat) (p : List Int) : Prop := ∀ (i j a b : Nat) (x : Int), i ≠ j → cs[i]? = some (a : Int) → cs[j]? = some (b : Int) → p[i]? = some x → x + 1 ≤ ((W * b / Nat.gcd a b : Nat) : Int)
theorem fp_of {cs p : List Int} {n W : Nat} (h : ∀ d ∈ cs, 1 ≤ d) (hf : cnt cs n ≤ W) (hp : p ∈ allP cs n) : Fp cs W p := by
  intro i j a b x hij ha hb hx
  have ha1 : 1 ≤ a := by have := h _ (List.mem_of_getElem? ha); omega
  have hb1 : 1 ≤ b := by have := h _ (List.mem_of_getElem? hb); omega
  have hg : 0 < Nat.gcd a b := Nat.gcd_pos_of_pos_left b ha1
  obtain ⟨a', ea⟩ := Nat.gcd_dvd_left a b
  obtain ⟨b', eb⟩ := Nat.gcd_dvd_right a b
  obtain ⟨l1, _, _⟩ := all_is h hp
  have hj : j < p.length := by rw [l1]; exact (List.getElem?_eq_some_iff.mp hb).1
  have hy : p[j]? = some p[j] := List.getElem?_eq_getElem hj
  have e : W * b / Nat.gcd a b = W * b' := by
    generalize Nat.gcd a b = g at *
    rw [eb, show W * (g * b') = g * (W * b') by ac_rfl]
    exact Nat.mul_div_cancel_left _ hg
  rw [e]
  refine Int.not_lt.mp fun hlt => ?_
  have ha' : 0 < a' := by
    rcases Nat.eq_zero_or_pos a' with z | z
    · subst z; omega
    · exact z
  have := changed (W := W) (d := Nat.gcd a b) (a := a') (b := b') h hp hij (by rw [Nat.mul_comm, ← ea]; exact ha) (by rw [Nat.mul_comm, ← eb]; exact hb) hx hy (by omega) ha'
  have := cnt_len h n
  omega
theorem few_bound {cs : List Int} {W n : Nat} {m : Int} (h : ∀ d ∈ cs, 1 ≤ d) (hb : ∀ p : List Int, p.length = cs.length → (∀ x ∈ p, 0 ≤ x) → Fp cs W p → wrt cs p ≤ m) (hf : Few cs W n) : (n : Int) ≤ m := by
  obtain ⟨p, hp⟩ := paid_ex h hf.1
  obtain ⟨l1, l2, l3⟩ := all_is h hp
  have := hb p l1 l2 (fp_of h hf.2 hp)
  omega
theorem wrt_snoc : ∀ {cs p : List Int} {i : Nat} {c m : Int}, cs[i]? = some c → p[i]? = some m → wrt (cs.take (i + 1)) (p.take (i + 1)) = wrt (cs.take i) (p.take i) + c * m
  | [], _, _, _, _, h, _ => by simp at h
  | _ :: _, [], _, _, _, _, h => by simp at h
  | d :: cs, y :: p, 0, c, m, h1, h2 => by
    have e1 : d = c := by simpa using h1
    have e2 : y = m := by simpa using h2
    subst e1 e2
    simp [wrt]
  | d :: cs, y :: p, i + 1, c, m, h1, h2 => by
    have ih := wrt_snoc (cs := cs) (p := p) (i := i) (c := c) (m := m) (by simpa using h1) (by simpa using h2)
    show d * y + wrt (cs.take (i + 1)) (p.take (i + 1)) = d * y + wrt (cs.take i) (p.take i) + c * m
    omega
/-! counting to a bound -/
def cap (M x : Int) : Int := min x M
def rowC (M : Int) (cs : List Int) (n : Nat) : List Int := (List.range cs.length).map fun i => cap M (cnt (cs.take (i + 1)) n)
theorem rowC_len {M : Int} {cs : List Int} {n : Nat} : (rowC M cs n).length = cs.length := by simp [rowC]
theorem rowC_at {M : Int} {cs : List Int} {n i : Nat} (h : i < cs.length) : (rowC M cs n)[i]? = some (cap M (cnt (cs.take (i + 1)) n)) := by simp [rowC, h]
theorem cnt_snoc {cs : List Int} {i : Nat} {c : Int} (h : cs[i]? = some c) (n : Nat) : cnt (cs.take (i + 1)) n = stp c.toNat (cnt (cs.take i)) n := by
  unfold cnt
  rw [List.take_add_one, h, List.foldl_append]
  rfl
theorem cap_ge {M : Int} {cs : List Int} {i n : Nat} {c : Int} (h : ∀ d ∈ cs, 1 ≤ d) (e : cs[i]? = some c) (hM : 0 ≤ M) (hc : c.toNat ≤ n) : cap M (cap M (cnt (cs.take i) n) + cap M (cnt (cs.take (i + 1)) (n - c.toNat))) = cap M (cnt (cs.take (i + 1)) n) := by
  have hc1 := h c (List.mem_of_getElem? e)
  have h' : ∀ k, ∀ d ∈ cs.take k, 1 ≤ d := fun k d hd => h d (List.mem_of_mem_take hd)
  rw [cnt_snoc e n, stp_ge (by omega) hc, ← cnt_snoc e]
  have a := cnt_nn (h' i) n
  have b := cnt_nn (h' (i + 1)) (n - c.toNat)
  unfold cap
  omega
theorem cap_lt {M : Int} {cs : List Int} {i n : Nat} {c : Int} (e : cs[i]? = some c) (hc : n < c.toNat) : cap M (cnt (cs.take i) n) = cap M (cnt (cs.take (i + 1)) n) := by
  rw [cnt_snoc e n, stp_lt hc]
theorem cap_few {cs : List Int} {W : Int} {n : Nat} : (1 ≤ cap (W + 1) (cnt cs n) ∧ cap (W + 1) (cnt cs n) ≤ W) ↔ Few cs W n := by
  unfold cap Few
  omega
/-- the few sums below n -/
def fewL (cs : List Int) (W : Int) (n : Nat) : List Nat := (List.range n).filter fun m => decide (Few cs W m)
theorem fewL_succ (cs : List Int) (W : Int) (n : Nat) : fewL cs W (n + 1) = fewL cs W n ++ (if Few cs W n then [n] else []) := by
  unfold fewL
  rw [List.range_succ, List.filter_append]
  by_cases h : Few cs W n <;> simp [h]
theorem fewL_end {cs : List Int} {W : Int} {n m : Nat} (h : ∀ k, Few cs W k → k < n) (hm : n ≤ m) : fewL cs W m = fewL cs W n := by
  obtain ⟨d, rfl⟩ : ∃ d, m = n + d := ⟨m - n, by omega⟩
  clear hm
  induction d with
  | zero => rfl
  | succ d ih =>
    rw [← Nat.add_assoc, fewL_succ, ih, if_neg (fun hf => by have := h _ hf; omega), List.append_nil]
theorem fewL_mem {cs : List Int} {W : Int} {n m : Nat} : m ∈ fewL cs W n ↔ m < n ∧ Few cs W m := by simp [fewL]
theorem few_mono {cs : List Int} {W V : Int} (h : V ≤ W) {n : Nat} (hf : Few cs V n) : Few cs W n := ⟨hf.1, by have := hf.2; omega⟩
end KF

/-! single sums of two coins -/
namespace KF
open KM
theorem asc_uniq : ∀ {xs ys : List Nat}, xs.Pairwise (· < ·) → ys.Pairwise (· < ·) → (∀ n, n ∈ xs ↔ n ∈ ys) → xs = ys
  | [], [], _, _, _ => rfl
  | [], y :: ys, _, _, h => by have := (h y).mpr (by simp); simp at this
  | x :: xs, [], _, _, h => by have := (h x).mp (by simp); simp at this
  | x :: xs, y :: ys, hx, hy, h => by
    obtain ⟨a1, a2⟩ := List.pairwise_cons.mp hx
    obtain ⟨b1, b2⟩ := List.pairwise_cons.mp hy
    have e : x = y := by
      have h1 := (h x).mp (by simp)
      have h2 := (h y).mpr (by simp)
      rcases List.mem_cons.mp h1 with e | h1
      · exact e
      · rcases List.mem_cons.mp h2 with e | h2
        · exact e.symm
        · have := b1 x h1
          have := a1 y h2
          omega
    subst e
    rw [asc_uniq a2 b2 fun n => ?_]
    constructor
    · intro hn
      have := a1 n hn
      rcases List.mem_cons.mp ((h n).mp (by simp [hn])) with e | q
      · omega
      · exact q
    · intro hn
      have := b1 n hn
      rcases List.mem_cons.mp ((h n).mpr (by simp [hn])) with e | q
      · omega
      · exact q
theorem fewL_asc (cs : List Int) (W : Int) (n : Nat) : (fewL cs W n).Pairwise (· < ·) := List.Pairwise.filter _ List.pairwise_lt_range
/-- two coins: the single sums -/
theorem single_two {a b d n : Nat} (ha : 1 ≤ a) (hb : 1 ≤ b) (hd : 1 ≤ d) (hne : a ≠ b) (hco : Nat.gcd a b = 1) : Few [((a * d : Nat) : Int), ((b * d : Nat) : Int)] 1 n ↔ ∃ i j, i < b ∧ j < a ∧ n = i * (a * d) + j * (b * d) := by
  have had : 1 ≤ a * d := Nat.mul_pos ha hd
  have hbd : 1 ≤ b * d := Nat.mul_pos hb hd
  have h1 : ∀ c ∈ [((a * d : Nat) : Int), ((b * d : Nat) : Int)], 1 ≤ c := by
    intro c hc
    simp only [List.mem_cons, List.not_mem_nil, or_false] at hc
    rcases hc with rfl | rfl <;> omega
  have hg : Nat.gcd (a * d) (b * d) = d := by rw [Nat.gcd_mul_right, hco, Nat.one_mul]
  have two : ∀ p : List Int, p.length = 2 → ∃ x y, p = [x, y] := fun p hp => match p, hp with
    | [x, y], _ => ⟨x, y, rfl⟩
  constructor
  · intro hf
    obtain ⟨p, hp⟩ := paid_ex h1 hf.1
    obtain ⟨l1, l2, l3⟩ := all_is h1 hp
    obtain ⟨x, y, rfl⟩ := two p l1
    have fp := fp_of (W := 1) h1 hf.2 hp
    have f1 := fp 0 1 (a * d) (b * d) x (by decide) rfl rfl rfl
    have f2 := fp 1 0 (b * d) (a * d) y (by decide) rfl rfl rfl
    rw [Nat.gcd_comm] at f2
    rw [hg, Nat.one_mul, Nat.mul_div_cancel _ hd] at f1 f2
    have x0 := l2 x (by simp)
    have y0 := l2 y (by simp)
    obtain ⟨i, rfl⟩ : ∃ i : Nat, x = i := ⟨x.toNat, by omega⟩
    obtain ⟨j, rfl⟩ : ∃ j : Nat, y = j := ⟨y.toNat, by omega⟩
    refine ⟨i, j, by omega, by omega, ?_⟩
    have e : ((a * d : Nat) : Int) * i + (((b * d : Nat) : Int) * j + 0) = n := l3
    have : ((i * (a * d) + j * (b * d) : Nat) : Int) = n := by
      rw [← e, Int.natCast_add, Int.natCast_mul i, Int.natCast_mul j, Int.mul_comm (i : Int), Int.mul_comm (j : Int)]
      omega
    omega
  · rintro ⟨i, j, hi, hj, rfl⟩
    have hin : [(i : Int), (j : Int)] ∈ allP [((a * d : Nat) : Int), ((b * d : Nat) : Int)] (i * (a * d) + j * (b * d)) := by
      refine mem_all h1 rfl (by intro m hm; simp at hm; omega) ?_
      show ((a * d : Nat) : Int) * i + (((b * d : Nat) : Int) * j + 0) = _
      rw [Int.natCast_add, Int.natCast_mul i, Int.natCast_mul j, Int.mul_comm (i : Int), Int.mul_comm (j : Int)]
      omega
    have huniq : ∀ p ∈ allP [((a * d : Nat) : Int), ((b * d : Nat) : Int)] (i * (a * d) + j * (b * d)), p = [(i : Int), (j : Int)] := by
      intro p hp
      obtain ⟨l1, l2, l3⟩ := all_is h1 hp
      obtain ⟨x, y, rfl⟩ := two p l1
      have x0 := l2 x (by simp)
      have y0 := l2 y (by simp)
      obtain ⟨u, rfl⟩ : ∃ i : Nat, x = i := ⟨x.toNat, by omega⟩
      obtain ⟨v, rfl⟩ : ∃ j : Nat, y = j := ⟨y.toNat, by omega⟩
      have e : ((a * d : Nat) : Int) * u + (((b * d : Nat) : Int) * v + 0) = (i * (a * d) + j * (b * d) : Nat) := l3
      have e2 : u * (a * d) + v * (b * d) = i * (a * d) + j * (b * d) := by
        have : ((u * (a * d) + v * (b * d) : Nat) : Int) = (i * (a * d) + j * (b * d) : Nat) := by
          rw [← e, Int.natCast_add, Int.natCast_mul u, Int.natCast_mul v, Int.mul_comm (u : Int), Int.mul_comm (v : Int)]
          omega
        omega
      have e3 : u * a + v * b = i * a + j * b := by
        have : (u * a + v * b) * d = (i * a + j * b) * d := by
          rw [Nat.add_mul, Nat.add_mul, Nat.mul_assoc, Nat.mul_assoc, Nat.mul_assoc, Nat.mul_assoc]
          exact e2
        exact Nat.eq_of_mul_eq_mul_right hd this
      have key : ∀ u v i j : Nat, u * a + v * b = i * a + j * b → u ≤ i → i < b → u = i ∧ v = j := by
        intro u v i j e hu hi
        obtain ⟨k, rfl⟩ : ∃ k, i = u + k := ⟨i - u, by omega⟩
        have e' : v * b = k * a + j * b := by
          rw [Nat.add_mul] at e
          omega
        have dv : b ∣ k * a := by
          have h2 : b ∣ k * a + j * b := ⟨v, by rw [← e', Nat.mul_comm]⟩
          exact (Nat.dvd_add_left (Nat.dvd_mul_left b j)).mp h2
        have dk : b ∣ k := Nat.Coprime.dvd_of_dvd_mul_right (by rw [Nat.coprime_comm]; exact hco) dv
        have k0 : k = 0 := by
          rcases Nat.eq_zero_or_pos k with z | z
          · exact z
          · have := Nat.le_of_dvd z dk
            omega
        subst k0
        refine ⟨rfl, ?_⟩
        have : v * b = j * b := by omega
        exact Nat.eq_of_mul_eq_mul_right hb this
      have : u = i ∧ v = j := by
        by_cases q : u ≤ i
        · exact key u v i j e3 q hi
        · -- then v < j
          have hv : v ≤ j := by
            refine Nat.le_of_not_lt fun w => ?_
            have h3 := Nat.mul_le_mul_right a (Nat.le_of_lt (Nat.lt_of_not_le q))
            have h4 : (j + 1) * b ≤ v * b := Nat.mul_le_mul_right b w
            rw [Nat.add_mul] at h4
            omega
          -- by the other coin
          obtain ⟨k, rfl⟩ : ∃ k, j = v + k := ⟨j - v, by omega⟩
          have e' : u * a = i * a + k * b := by
            rw [Nat.add_mul] at e3
            omega
          have dv : a ∣ k * b := by
            have h2 : a ∣ i * a + k * b := ⟨u, by rw [← e', Nat.mul_comm]⟩
            exact (Nat.dvd_add_right (Nat.dvd_mul_left a i)).mp h2
          have dk : a ∣ k := Nat.Coprime.dvd_of_dvd_mul_right hco dv
          have k0 : k = 0 := by
            rcases Nat.eq_zero_or_pos k with z | z
            · exact z
            · have := Nat.le_of_dvd z dk
              omega
          subst k0
          have : u * a = i * a := by omega
          exact ⟨Nat.eq_of_mul_eq_mul_right ha this, rfl⟩
      obtain ⟨rfl, rfl⟩ := this
      rfl
    have hlen := cnt_len h1 (i * (a * d) + j * (b * d))
    have hpos := List.length_pos_of_mem hin
    have hnd : (allP [((a * d : Nat) : Int), ((b * d : Nat) : Int)] (i * (a * d) + j * (b * d))).Nodup := by
      refine (all_asc h1 _).imp fun {p q} h e => ?_
      subst e
      have : ∀ p : List Int, lx p p = false := by
        intro p
        induction p with
        | nil => rfl
        | cons x p ih => simp [lx, ih]
      rw [this] at h
      cases h
    have hle : (allP [((a * d : Nat) : Int), ((b * d : Nat) : Int)] (i * (a * d) + j * (b * d))).length ≤ 1 := nodup_le (m := [[(i : Int), (j : Int)]]) hnd fun p hp => by simp [huniq p hp]
    exact ⟨by omega, by omega⟩
end KF

/-! few sums: what the program's defs promise -/
namespace Kx
open PySem L2 MG KM
/-- the lists that a row of addresses leads to -/
def EachL (H : Hp) (ps : List Addr) (f : Nat → List Int) : Prop := ∀ (i : Nat) (p : Addr), ps[i]? = some p → H p = some (.lst ((f i).map V.int))
theorem EachL.same {H H' : Hp} {ps : List Addr} {f : Nat → List Int} (h : EachL H ps f) (s : Same H H') : EachL H' ps f := fun i p e => s _ _ (h i p e)
theorem EachL.snoc {H : Hp} {ps : List Addr} {f : Nat → List Int} {p : Addr} (h : EachL H ps f) (e : H p = some (.lst ((f ps.length).map V.int))) : EachL H (ps ++ [p]) f := by
  intro i q hq
  by_cases c : i < ps.length
  · rw [List.getElem?_append_left c] at hq
    exact h i q hq
  · rw [List.getElem?_append_right (by omega)] at hq
    obtain ⟨hi, e2⟩ := List.getElem?_eq_some_iff.mp hq
    have hz : i = ps.length := by
      simp at hi
      omega
    subst hz
    have : q = p := by simpa using hq.symm
    rw [this]
    exact e
theorem atI_lastF {α : Type} {xs : List α} {v : α} (h : xs[xs.length - 1]? = some v) : atI xs (-1) = some v := by
  have hl := (List.getElem?_eq_some_iff.mp h).1
  have e : ixN xs.length (-1) = some (xs.length - 1) := by
    unfold ixN
    rw [if_neg (by omega), if_pos (by omega)]
    congr 1
    omega
  unfold atI
  rw [e]
  exact h
theorem lastF_max {cs : List Int} (hc : Lotc cs) {G : Int} (h : cs[cs.length - 1]? = some G) : ∀ c ∈ cs, c ≤ G := by
  intro c hm
  obtain ⟨i, hi, rfl⟩ := List.mem_iff_getElem.mp hm
  obtain ⟨hl, e⟩ := List.getElem?_eq_some_iff.mp h
  rw [← e]
  by_cases z : i = cs.length - 1
  · subst z; exact Int.le_refl _
  · have := List.pairwise_iff_getElem.mp (asc_pw hc.up).1 i (cs.length - 1) hi hl (by omega)
    omega
/-- all few sums -/
def fewA (cs : List Int) (W : Nat) : List Nat := KF.fewL cs W (cs.length * 3600 * W + 1)
theorem bound_take {cs : List Int} {W : Nat} (h : ∀ c ∈ cs, 1 ≤ c ∧ c ≤ 60) (h2 : 2 ≤ cs.length) {p : List Int} (hl : p.length = cs.length) (h0 : ∀ x ∈ p, 0 ≤ x) (hp : KF.Fp cs W p) : ∀ k, k ≤ cs.length → wrt (cs.take k) (p.take k) ≤ ((k * 3600 * W : Nat) : Int) := by
  intro k
  induction k with
  | zero => intro _; simp [wrt]
  | succ k ih =>
    intro hk
    have i1 := ih (by omega)
    have e1 : cs[k]? = some cs[k] := List.getElem?_eq_getElem (by omega)
    have e2 : p[k]? = some p[k] := List.getElem?_eq_getElem (by omega)
    rw [KF.wrt_snoc e1 e2]
    obtain ⟨j, hj, hjk⟩ : ∃ j, j < cs.length ∧ k ≠ j := if z : k = 0 then ⟨1, by omega, by omega⟩ else ⟨0, by omega, by omega⟩
    have e3 : cs[j]? = some cs[j] := List.getElem?_eq_getElem hj
    have b1 := h _ (List.mem_of_getElem? e1)
    have b3 := h _ (List.mem_of_getElem? e3)
    have b2 := h0 _ (List.mem_of_getElem? e2)
    generalize cs[k] = c at *
    generalize p[k] = x at *
    generalize cs[j] = d at *
    obtain ⟨c', rfl⟩ : ∃ c' : Nat, c = c' := ⟨c.toNat, by omega⟩
    obtain ⟨d', rfl⟩ : ∃ d' : Nat, d = d' := ⟨d.toNat, by omega⟩
    have hx := hp k j c' d' x hjk e1 e3 e2
    have hd : W * d' / Nat.gcd c' d' ≤ W * 60 := Nat.le_trans (Nat.div_le_self _ _) (Nat.mul_le_mul_left W (by omega))
    have hx2 : x ≤ ((W * 60 : Nat) : Int) := by omega
    have hm : (c' : Int) * x ≤ 60 * ((W * 60 : Nat) : Int) := Int.mul_le_mul (by omega) hx2 b2 (by omega)
    have e : (((k + 1) * 3600 * W : Nat) : Int) = ((k * 3600 * W : Nat) : Int) + 60 * ((W * 60 : Nat) : Int) := by
      rw [show (k + 1) * 3600 * W = k * 3600 * W + 60 * (W * 60) by rw [Nat.add_mul, Nat.add_mul]; omega]
      simp
    omega
theorem few_top {cs : List Int} {W : Nat} (hc : Lotc cs) (h2 : 2 ≤ cs.length) {n : Nat} (hf : KF.Few cs W n) : n ≤ cs.length * 3600 * W := by
  have h60 := lot_pos (Int.le_refl 0) hc.up
  have := KF.few_bound (m := ((cs.length * 3600 * W : Nat) : Int)) (fun d hd => (h60 d hd).1) (fun p hl h0 hp => by
    have := bound_take h60 h2 hl h0 hp cs.length (Nat.le_refl _)
    rw [List.take_length, ← hl, List.take_length] at this
    rw [← hl]
    exact this) hf
  omega
theorem few_all {cs : List Int} {W n : Nat} (hc : Lotc cs) (h2 : 2 ≤ cs.length) (h : ∀ m, KF.Few cs W m → m < n) : KF.fewL cs W n = fewA cs W := by
  unfold fewA
  have ht : ∀ m, KF.Few cs W m → m < cs.length * 3600 * W + 1 := fun m hm => Nat.lt_succ_of_le (few_top hc h2 hm)
  generalize cs.length * 3600 * W + 1 = k at *
  by_cases q : n ≤ k
  · exact (KF.fewL_end h q).symm
  · exact KF.fewL_end ht (by omega)
theorem fewA_head (cs : List Int) {W : Nat} (h : 1 ≤ W) : (fewA cs W)[0]? = some 0 := by
  unfold fewA KF.fewL
  generalize cs.length * 3600 * W = k
  rw [List.range_succ_eq_map, List.filter_cons_of_pos (by simpa using KF.few_zero cs (by omega))]
  rfl
theorem fewA_is {cs : List Int} {W m : Nat} (hc : Lotc cs) (h2 : 2 ≤ cs.length) (hm : ∀ n, KF.Few cs W n → n ≤ m) : fewA cs W = KF.fewL cs W (m + 1) := (few_all hc h2 fun k hk => Nat.lt_succ_of_le (hm k hk)).symm
theorem fewA_mem {cs : List Int} {W n : Nat} (hc : Lotc cs) (h2 : 2 ≤ cs.length) : n ∈ fewA cs W ↔ KF.Few cs W n := by
  unfold fewA
  rw [KF.fewL_mem]
  exact ⟨fun h => h.2, fun h => ⟨Nat.lt_succ_of_le (few_top hc h2 h), h⟩⟩
theorem dpN {K : PySem.W.Frag} {H : Hp} {a : Addr} {xs : List Nat} (h : H a = some (.tup (xs.map fun (n : Nat) => V.int n))) : Dp K H (.ref a) (.tuple (xs.map fun (n : Nat) => PyData.int n)) := by
  have := dpT (K := K) (ns := xs.map fun (n : Nat) => (n : Int)) (by rw [List.map_map]; exact h)
  rw [List.map_map] at this
  exact this
theorem shapedN (xs : List Nat) : SeqAt.shaped (.tuple (xs.map fun (n : Nat) => PyData.int n)) = true := by
  have := shapedI (xs.map fun (n : Nat) => (n : Int))
  rw [List.map_map] at this
  exact this
theorem inV_nat {xs : List Nat} {k : Nat} (h : k ∈ xs) : inV (.int k) (xs.map fun (n : Nat) => V.int n) = true := by
  unfold inV
  rw [List.any_eq_true]
  exact ⟨.int k, List.mem_map.mpr ⟨k, h, rfl⟩, by show ((k : Int) == (k : Int)) = true; simp⟩
def sp_check_number : Sp := fun vs H Q _ => ∃ n a b : Int, vs = [.int n, .int a, .int b] ∧ a ≤ n ∧ n ≤ b ∧ Q .non H
def sp_ways_by_coins : Sp := fun vs H Q _ => ∃ (l t : Addr) (cs : List Int) (W : Nat) (ps : List Addr), vs = [.ref l, .ref t, .int ((W : Int) + 1)] ∧ H l = some (.lst (ps.map V.ref)) ∧ EachL H ps (KF.rowC (W + 1) cs) ∧ H t = some (.tup (cs.map V.int)) ∧ Lotc cs ∧ 1 ≤ W ∧ W ≤ 1000 ∧ ps.length ≤ 400000 ∧
  ∀ q H', H q = none → Same H H' → H' q = some (.lst ((KF.rowC (W + 1) cs ps.length).map V.int)) → Q (.ref q) H'
def sp_few_sums (C : Addr) : Sp := fun vs H Q _ => ∃ (p : Addr) (cs : List Int) (W : Nat), vs = [.ref p, .int W] ∧ LotAt C H p cs ∧ 2 ≤ cs.length ∧ 1 ≤ W ∧ W ≤ 4 ∧
  ∀ q H', H q = none → Same H H' → H' q = some (.tup ((fewA cs W).map fun (n : Nat) => V.int n)) → Q (.ref q) H'
def sp_single_sums (C : Addr) : Sp := fun vs H Q _ => ∃ (p : Addr) (cs : List Int), vs = [.ref p] ∧ LotAt C H p cs ∧ 2 ≤ cs.length ∧
  ∀ q H', H q = none → Same H H' → H' q = some (.tup ((fewA cs 1).map fun (n : Nat) => V.int n)) → Q (.ref q) H'
def sp_l_many2 : Sp := fun vs H Q _ => ∃ (t : Addr) (cs : List Int) (m : Nat), vs = [.ref t, .int m] ∧ H t = some (.tup (cs.map V.int)) ∧ (∀ c ∈ cs, 1 ≤ c ∧ c ≤ 60) ∧ m ≤ 60000 ∧
  ∀ l H', H l = none → Same H H' → H' l = some (.lst ((tab (m + 1) (cnt cs)).map V.int)) → Q (.ref l) H'
theorem shw_intK {i : Int} {k : Nat} (h : i.natAbs < 2 ^ k) (h1 : 1 ≤ k) (hk : k ≤ 1000) : Shw (k + 1) 0 (.int i) := by
  have z : i.natAbs.log2 < k := by
    by_cases z : i.natAbs = 0
    · rw [z]
      simp
      omega
    · exact (Nat.log2_lt z).mpr h
  refine ⟨?_, rfl, Nat.le_refl _, ?_⟩
  · have z2 : i.natAbs.log2 < 1920 := Nat.lt_trans z (by omega)
    simp [PyData.showable, z2]
  · show (Str.ofString (toString i)).length ≤ k + 1
    rw [PySem.ofString_length]
    exact int_text_length_le h1 z
/-- two rows of small numbers -/
theorem shw_rows2 {xs ys : List Nat} {k n : Nat} (hx : ∀ x ∈ xs, x < 2 ^ k) (hy : ∀ y ∈ ys, y < 2 ^ k) (h1 : 1 ≤ k) (hk : k ≤ 1000) (h2 : xs.length ≤ n) (h3 : ys.length ≤ n) (h : 2 * (n * (k + 3) + 5) + 3 ≤ 16000000) :
    Shw 16000000 90 (.list [.tuple (xs.map fun (x : Nat) => PyData.int x), .tuple (ys.map fun (x : Nat) => PyData.int x)]) := by
  have one : ∀ zs : List Nat, (∀ x ∈ zs, x < 2 ^ k) → zs.length ≤ n → Shw (n * (k + 3) + 3) 1 (.tuple (zs.map fun (x : Nat) => PyData.int x)) := fun zs hz hl => shw_tuple (fun d hd => by
    obtain ⟨x, hx, rfl⟩ := List.mem_map.mp hd
    exact shw_intK (by simpa using hz x hx) h1 hk) (by simpa using hl)
  refine (shw_list (n := n * (k + 3) + 3) (k := 1) (m := 2) (fun d hd => ?_) (by simp)).mono h (by decide)
  simp only [List.mem_cons, List.not_mem_nil, or_false] at hd
  rcases hd with rfl | rfl
  · exact one xs hx h2
  · exact one ys hy h3
def sp_l_coins2 : Sp := fun vs H Q _ => ∃ (b : Addr) (n m : Nat), vs = [.ref b, .int n, .int m] ∧ Bw H b ∧ 1 ≤ n ∧ n ≤ m ∧ m ≤ 60 ∧ n ≤ 15 ∧
  ∀ t cs H', H t = none → Lotc cs → cs.length = n → (∀ c ∈ cs, c ≤ m) → H' t = some (.tup (cs.map V.int)) → Bw H' b → But b H H' → Q (.ref t) H'
/-- the few sums of the law, and how many -/
theorem fewL_len (cs : List Int) (W : Int) (n : Nat) : (KF.fewL cs W n).length ≤ n := by
  have := List.length_filter_le (fun m => decide (KF.Few cs W m)) (List.range n)
  simpa [KF.fewL] using this
def sp_l_divisor : Sp := fun vs H Q _ => ∃ (a b : Nat), vs = [.int a, .int b] ∧ 1 ≤ a ∧ a ≤ 60 ∧ 1 ≤ b ∧ b ≤ 60 ∧ ∀ H', Same H H' → Q (.int (Nat.gcd a b)) H'
theorem gcd_of {a b : Nat} {ms : List Int} (hms : ∀ x : Int, x ∈ ms ↔ 1 ≤ x ∧ x ≤ a ∧ (a : Int) % x = 0 ∧ (b : Int) % x = 0) {m : Int} (hm : m ∈ ms) (hx : ∀ y, y ∈ ms → y ≤ m) (ha : 1 ≤ a) : m = ((Nat.gcd a b : Nat) : Int) := by
  obtain ⟨m1, m2, m3, m4⟩ := (hms m).mp hm
  obtain ⟨k, rfl⟩ : ∃ k : Nat, m = k := ⟨m.toNat, by omega⟩
  have d1 : k ∣ a := Int.natCast_dvd_natCast.mp (Int.dvd_of_emod_eq_zero m3)
  have d2 : k ∣ b := Int.natCast_dvd_natCast.mp (Int.dvd_of_emod_eq_zero m4)
  have hg : 0 < Nat.gcd a b := Nat.gcd_pos_of_pos_left b ha
  have l1 := Nat.le_of_dvd hg (Nat.dvd_gcd d1 d2)
  have l2 := Nat.le_of_dvd (by omega) (Nat.gcd_dvd_left a b)
  have l3 := hx ((Nat.gcd a b : Nat) : Int) ((hms _).mpr ⟨by omega, by omega, Int.emod_eq_zero_of_dvd (Int.natCast_dvd_natCast.mpr (Nat.gcd_dvd_left a b)), Int.emod_eq_zero_of_dvd (Int.natCast_dvd_natCast.mpr (Nat.gcd_dvd_right a b))⟩)
  omega
def sp_l_bound : Sp := fun vs H Q _ => ∃ (t : Addr) (cs : List Int) (W : Nat), vs = [.ref t, .int W] ∧ H t = some (.tup (cs.map V.int)) ∧ Lotc cs ∧ 2 ≤ cs.length ∧ cs.length ≤ 4 ∧ 1 ≤ W ∧ W ≤ 4 ∧
  ∀ (m : Nat) H', Same H H' → m ≤ 57600 → (∀ n, KF.Few cs W n → n ≤ m) → Q (.int m) H'
end Kx

/-! single sums: what the law's defs promise -/
namespace Kx
open PySem L2 MG KM
def sp_l_all2 (d : Nat) : Sp := fun vs H Q _ => ∃ (t : Addr) (cs : List Int) (n : Nat), vs = [.ref t, .int n] ∧ H t = some (.tup (cs.map V.int)) ∧ (∀ c ∈ cs, 1 ≤ c ∧ c ≤ 60) ∧ cs ≠ [] ∧ cs.length ≤ d ∧ d ≤ 15 ∧ n ≤ 400000 ∧ (allP cs n).length ≤ 400000 ∧
  ∀ l H', H l = none → Same H H' → RowsL H' l (allP cs n) → Q (.ref l) H'
def sp_last_single (C : Addr) : Sp := fun vs H Q _ => ∃ (p : Addr) (cs : List Int) (m : Nat), vs = [.ref p] ∧ LotAt C H p cs ∧ 2 ≤ cs.length ∧ (fewA cs 1)[(fewA cs 1).length - 1]? = some m ∧ ∀ H', Same H H' → Q (.int m) H'
/-- the single sums of two coins, as the law lays them -/
def dueL (A B a k : Nat) : List Nat := (List.range k).flatMap fun i => (List.range a).map fun j => i * A + j * B
theorem dueL_succ (A B a k : Nat) : dueL A B a (k + 1) = dueL A B a k ++ (List.range a).map fun j => k * A + j * B := by
  unfold dueL
  rw [List.range_succ, List.flatMap_append]
  simp
theorem dueL_len (A B a : Nat) : ∀ k, (dueL A B a k).length = k * a
  | 0 => by simp [dueL]
  | k + 1 => by
    rw [dueL_succ, List.length_append, dueL_len A B a k, Nat.add_mul]
    simp
theorem dueL_mem {A B a k n : Nat} : n ∈ dueL A B a k ↔ ∃ i j, i < k ∧ j < a ∧ n = i * A + j * B := by
  simp only [dueL, List.mem_flatMap, List.mem_map, List.mem_range]
  constructor
  · rintro ⟨i, hi, j, hj, e⟩
    exact ⟨i, j, hi, hj, e.symm⟩
  · rintro ⟨i, j, hi, hj, e⟩
    exact ⟨i, hi, j, hj, e.symm⟩
theorem dueL_nodup {A B a : Nat} : ∀ {k : Nat}, (∀ i j i' j', i < k → j < a → i' < k → j' < a → i * A + j * B = i' * A + j' * B → i = i' ∧ j = j') → (dueL A B a k).Nodup
  | 0, _ => by simp [dueL]
  | k + 1, h => by
    rw [dueL_succ]
    refine List.nodup_append.mpr ⟨dueL_nodup fun i j i' j' h1 h2 h3 h4 e => h i j i' j' (by omega) h2 (by omega) h4 e, ?_, ?_⟩
    · unfold List.Nodup
      rw [List.pairwise_map]
      refine List.Pairwise.imp_of_mem (R := fun x y => x ≠ y) (fun {x y} hx hy hne e => hne ?_) List.nodup_range
      exact (h k x k y (by omega) (List.mem_range.mp hx) (by omega) (List.mem_range.mp hy) e).2
    · intro n hn m hm e
      subst e
      obtain ⟨i, j, hi, hj, e⟩ := dueL_mem.mp hn
      obtain ⟨j', hj', e'⟩ := List.mem_map.mp hm
      have := (h i j k j' (by omega) hj (by omega) (List.mem_range.mp hj') (by omega)).1
      omega
/-- a sorted row with the same members, each once, is the ascending one -/
theorem sorted_is {xs ys zs : List Nat} (hx : xs.Pairwise (· < ·)) (hp : zs.Perm ys) (hz : zs.Pairwise (· ≤ ·)) (h : ∀ n, n ∈ xs ↔ n ∈ ys) (nd : ys.Nodup) : zs = xs := by
  have nz : zs.Nodup := hp.nodup_iff.mpr nd
  refine KF.asc_uniq ?_ hx fun n => by rw [hp.mem_iff, h n]
  have := List.pairwise_and_iff.mpr ⟨hz, nz⟩
  exact this.imp fun ⟨a, b⟩ => by omega
theorem last_is : ∀ {xs : List Nat} {m : Nat}, xs.Pairwise (· < ·) → m ∈ xs → (∀ x ∈ xs, x ≤ m) → xs[xs.length - 1]? = some m
  | [], _, _, h, _ => by simp at h
  | [x], m, _, h, _ => by
    have : m = x := by simpa using h
    subst this
    rfl
  | x :: y :: r, m, hp, h, hm => by
    obtain ⟨h1, h2⟩ := List.pairwise_cons.mp hp
    have hmr : m ∈ y :: r := by
      rcases List.mem_cons.mp h with e | h
      · have := h1 y (by simp)
        have := hm y (by simp)
        omega
      · exact h
    have := last_is (xs := y :: r) h2 hmr fun z hz => hm z (List.mem_cons_of_mem _ hz)
    simpa using this
theorem lg_small {i : Int} (h : i.natAbs < 2 ^ 20) : i.natAbs.log2 < 1920 := by
  by_cases z : i.natAbs = 0
  · rw [z]
    decide
  · exact Nat.lt_trans ((Nat.log2_lt z).mpr h) (by decide)
theorem shw_rowT {xs : List Nat} {k n : Nat} (hx : ∀ x ∈ xs, x < 2 ^ k) (h1 : 1 ≤ k) (hk : k ≤ 1000) (h2 : xs.length ≤ n) (h : n * (k + 3) + 3 ≤ 16000000) : Shw 16000000 90 (.tuple (xs.map fun (x : Nat) => PyData.int x)) := by
  refine (shw_tuple (n := k + 1) (k := 0) (m := n) (fun d hd => ?_) (by simpa using h2)).mono h (by decide)
  obtain ⟨x, hx', rfl⟩ := List.mem_map.mp hd
  exact shw_intK (by simpa using hx x hx') h1 hk
/-- a row of numbers that was sorted -/
theorem nat_row {ns : List Int} {ys : List Nat} (hp : ns.Perm (ys.map fun (n : Nat) => (n : Int))) (ho : ns.Pairwise (· ≤ ·)) : ∃ zs : List Nat, ns = (zs.map fun (n : Nat) => (n : Int)) ∧ zs.Perm ys ∧ zs.Pairwise (· ≤ ·) := by
  have h0 : ∀ x ∈ ns, 0 ≤ x := fun x hx => by
    obtain ⟨y, _, rfl⟩ := List.mem_map.mp (hp.mem_iff.mp hx)
    omega
  refine ⟨ns.map Int.toNat, ?_, ?_, ?_⟩
  · rw [List.map_map]
    have : ns.map ((fun (n : Nat) => (n : Int)) ∘ Int.toNat) = ns.map id := List.map_congr_left fun x hx => by
      have := h0 x hx
      show ((x.toNat : Nat) : Int) = x
      omega
    rw [this, List.map_id]
  · have := hp.map Int.toNat
    rw [List.map_map] at this
    have e : ys.map (Int.toNat ∘ fun (n : Nat) => (n : Int)) = ys.map id := List.map_congr_left fun x _ => rfl
    rw [e, List.map_id] at this
    exact this
  · rw [List.pairwise_map]
    exact ho.imp fun h => by omega
theorem asc_row {ns : List Int} {xs : List Nat} (hx : xs.Pairwise (· < ·)) (ho : ns.Pairwise (· < ·)) (h : ∀ k, k ∈ ns ↔ decide (k ∈ xs.map fun (n : Nat) => (n : Int)) = true) : ns = xs.map fun (n : Nat) => (n : Int) := by
  have h' : ∀ k, k ∈ ns ↔ k ∈ xs.map fun (n : Nat) => (n : Int) := fun k => by rw [h k, decide_eq_true_iff]
  have h0 : ∀ x ∈ ns, 0 ≤ x := fun x hx => by
    obtain ⟨y, _, rfl⟩ := List.mem_map.mp ((h' x).mp hx)
    omega
  have e1 : ns = (ns.map Int.toNat).map fun (n : Nat) => (n : Int) := by
    rw [List.map_map]
    have : ns.map ((fun (n : Nat) => (n : Int)) ∘ Int.toNat) = ns.map id := List.map_congr_left fun x hx => by
      have := h0 x hx
      show ((x.toNat : Nat) : Int) = x
      omega
    rw [this, List.map_id]
  have e2 : ns.map Int.toNat = xs := by
    refine KF.asc_uniq ?_ hx fun n => ?_
    · rw [List.pairwise_map]
      exact List.Pairwise.imp_of_mem (fun {a b} ha hb hab => by
        have := h0 a ha
        omega) ho
    · constructor
      · intro hn
        obtain ⟨x, hx, rfl⟩ := List.mem_map.mp hn
        obtain ⟨y, hy, rfl⟩ := List.mem_map.mp ((h' x).mp hx)
        exact hy
      · intro hn
        exact List.mem_map.mpr ⟨(n : Int), (h' _).mpr (List.mem_map.mpr ⟨n, hn, rfl⟩), rfl⟩
  rw [e2] at e1
  exact e1
theorem stp_one {c : Nat} (hc : 0 < c) : ∀ n, 0 ≤ stp c w0 n ∧ stp c w0 n ≤ 1 := by
  intro n
  induction n using Nat.strongRecOn with
  | ind n ih =>
    by_cases q : c ≤ n
    · rw [stp_ge hc q]
      have := ih (n - c) (by omega)
      have z : w0 n = 0 := by
        unfold w0
        rw [if_neg (by omega)]
      omega
    · rw [stp_lt (by omega)]
      unfold w0
      split <;> omega
theorem cnt_thin {cs : List Int} (h : ∀ d ∈ cs, 1 ≤ d) (h4 : cs.length ≤ 4) {n : Nat} (hn : n ≤ 70) : cnt cs n ≤ 400000 := by
  cases cs with
  | nil =>
    show w0 n ≤ 400000
    unfold w0
    split <;> decide
  | cons c r =>
    have hc : 0 < c.toNat := by have := h c (by simp); omega
    have := (cnt_bound (N := 70) r (stp c.toNat w0) 1 (fun d hd => h d (by simp [hd])) (by decide) (fun n _ => stp_one hc n) n hn).2
    have hl : r.length ≤ 3 := by simp at h4; omega
    have e : ((70 : Nat) + 1 : Int) ^ r.length ≤ 71 ^ 3 := by
      have h3 : (71 : Nat) ^ r.length ≤ 71 ^ 3 := Nat.pow_le_pow_right (by decide) hl
      have : ((71 ^ r.length : Nat) : Int) ≤ ((71 ^ 3 : Nat) : Int) := by omega
      simpa using this
    have e2 : (71 : Int) ^ 3 = 357911 := by decide
    show r.foldl (fun w c => stp c.toNat w) (stp c.toNat w0) n ≤ 400000
    omega
theorem inV_no {xs : List Nat} {k : Nat} (h : k ∉ xs) : inV (.int k) (xs.map fun (n : Nat) => V.int n) = false := by
  unfold inV
  rw [List.any_eq_false]
  intro x hx
  obtain ⟨n, hn, rfl⟩ := List.mem_map.mp hx
  show ¬ ((n : Int) == (k : Int)) = true
  intro z
  have : (n : Int) = k := by simpa using z
  exact h (by
    have : k = n := by omega
    rw [this]
    exact hn)
/-- each single sum of two coins once -/
theorem two_inj {a b d i j i' j' : Nat} (ha : 1 ≤ a) (hb : 1 ≤ b) (hd : 1 ≤ d) (hne : a ≠ b) (hco : Nat.gcd a b = 1) (hi : i < b) (hj : j < a) (hi' : i' < b) (hj' : j' < a) (e : i * (a * d) + j * (b * d) = i' * (a * d) + j' * (b * d)) : i = i' ∧ j = j' := by
  have hf := (KF.single_two ha hb hd hne hco).mpr ⟨i, j, hi, hj, rfl⟩
  have had : 1 ≤ a * d := Nat.mul_pos ha hd
  have hbd : 1 ≤ b * d := Nat.mul_pos hb hd
  have h1 : ∀ c ∈ [((a * d : Nat) : Int), ((b * d : Nat) : Int)], 1 ≤ c := by
    intro c hc
    simp only [List.mem_cons, List.not_mem_nil, or_false] at hc
    rcases hc with rfl | rfl <;> omega
  have hin : ∀ i j : Nat, [(i : Int), (j : Int)] ∈ allP [((a * d : Nat) : Int), ((b * d : Nat) : Int)] (i * (a * d) + j * (b * d)) := fun i j => by
    refine KF.mem_all h1 rfl (by intro m hm; simp at hm; omega) ?_
    show ((a * d : Nat) : Int) * i + (((b * d : Nat) : Int) * j + 0) = _
    rw [Int.natCast_add, Int.natCast_mul i, Int.natCast_mul j, Int.mul_comm (i : Int), Int.mul_comm (j : Int)]
    omega
  have hlen := KF.cnt_len h1 (i * (a * d) + j * (b * d))
  have h2 := hin i j
  have h3 := hin i' j'
  rw [← e] at h3
  have hl1 : (allP [((a * d : Nat) : Int), ((b * d : Nat) : Int)] (i * (a * d) + j * (b * d))).length = 1 := by
    have := hf.1
    have := hf.2
    omega
  obtain ⟨p, hp⟩ := List.length_eq_one_iff.mp hl1
  rw [hp] at h2 h3
  have e1 : [(i : Int), (j : Int)] = p := by simpa using h2
  have e2 : [(i' : Int), (j' : Int)] = p := by simpa using h3
  have := e1.trans e2.symm
  simp at this
  omega
/-- the law's bound for single sums -/
def mostF (cs : List Int) (c : Int) : Int := c * (if cs[0]?.getD 0 < c then cs[0]?.getD 0 else cs[1]?.getD 0)
def mostI (cs : List Int) : Int := (cs.map (mostF cs)).sum
def mostN (cs : List Int) : Nat := (mostI cs).toNat
theorem most_take {cs : List Int} (hc : Lotc cs) (h2 : 2 ≤ cs.length) {p : List Int} (hl : p.length = cs.length) (h0 : ∀ x ∈ p, 0 ≤ x) (hp : KF.Fp cs 1 p) : ∀ k, k ≤ cs.length → wrt (cs.take k) (p.take k) ≤ ((cs.take k).map (mostF cs)).sum := by
  have h60 := lot_pos (Int.le_refl 0) hc.up
  have hpw := (asc_pw hc.up).1
  intro k
  induction k with
  | zero => intro _; simp [wrt]
  | succ k ih =>
    intro hk
    have i1 := ih (by omega)
    have e0 : cs[0]? = some cs[0] := List.getElem?_eq_getElem (by omega)
    have e01 : cs[1]? = some cs[1] := List.getElem?_eq_getElem (by omega)
    have e1 : cs[k]? = some cs[k] := List.getElem?_eq_getElem (by omega)
    have e2 : p[k]? = some p[k] := List.getElem?_eq_getElem (by omega)
    have b0 := h60 _ (List.mem_of_getElem? e0)
    have b01 := h60 _ (List.mem_of_getElem? e01)
    have b1 := h60 _ (List.mem_of_getElem? e1)
    have b2 := h0 _ (List.mem_of_getElem? e2)
    have hk0 : k = 0 ∨ cs[0] < cs[k] := by
      rcases Nat.eq_zero_or_pos k with z | z
      · exact .inl z
      · exact .inr (List.pairwise_iff_getElem.mp hpw 0 k (by omega) (by omega) z)
    rw [KF.wrt_snoc e1 e2]
    have et : (cs.take (k + 1)).map (mostF cs) = (cs.take k).map (mostF cs) ++ [mostF cs cs[k]] := by
      rw [List.take_add_one, e1, List.map_append]
      rfl
    rw [et, List.sum_append]
    have key : ∀ (j : Nat) (d : Int), k ≠ j → cs[j]? = some d → 1 ≤ d → cs[k] * p[k] ≤ cs[k] * d := fun j d hj ej hd => by
      obtain ⟨c', ec⟩ : ∃ c' : Nat, cs[k] = c' := ⟨cs[k].toNat, by omega⟩
      obtain ⟨d', rfl⟩ : ∃ d' : Nat, d = d' := ⟨d.toNat, by omega⟩
      have hx := hp k j c' d' p[k] hj (by rw [← ec]; exact e1) ej e2
      have : 1 * d' / Nat.gcd c' d' ≤ 1 * d' := Nat.div_le_self _ _
      exact Int.mul_le_mul_of_nonneg_left (by omega) (by omega)
    have hm : cs[k] * p[k] ≤ mostF cs cs[k] := by
      unfold mostF
      rw [e0, e01]
      show _ ≤ cs[k] * (if cs[0] < cs[k] then cs[0] else cs[1])
      by_cases q : cs[0] < cs[k]
      · rw [if_pos q]
        exact key 0 _ (fun z => by subst z; omega) e0 b0.1
      · rw [if_neg q]
        have : k = 0 := by omega
        exact key 1 _ (by omega) e01 b01.1
    simp only [List.sum_cons, List.sum_nil]
    omega
theorem most_nn {cs : List Int} (hc : Lotc cs) : ∀ c ∈ cs, 0 ≤ mostF cs c := fun c hm => by
  have h60 := lot_pos (Int.le_refl 0) hc.up
  have g : ∀ i : Nat, 0 ≤ cs[i]?.getD 0 := fun i => by
    cases e : cs[i]? with
    | none => simp
    | some x =>
      have := h60 x (List.mem_of_getElem? e)
      show 0 ≤ x
      omega
  have := h60 c hm
  unfold mostF
  refine Int.mul_nonneg (by omega) ?_
  split
  · exact g 0
  · exact g 1
theorem sum_nn : ∀ {xs : List Int}, (∀ x ∈ xs, 0 ≤ x) → 0 ≤ xs.sum
  | [], _ => by simp
  | x :: xs, h => by
    have := sum_nn (xs := xs) fun y hy => h y (by simp [hy])
    have := h x (by simp)
    rw [List.sum_cons]
    omega
theorem most_int {cs : List Int} (hc : Lotc cs) : mostI cs = (mostN cs : Nat) := by
  have : 0 ≤ mostI cs := sum_nn fun x hx => by
    obtain ⟨c, hc', rfl⟩ := List.mem_map.mp hx
    exact most_nn hc c hc'
  unfold mostN
  omega
theorem most_bound {cs : List Int} (hc : Lotc cs) (h2 : 2 ≤ cs.length) : ∀ n, KF.Few cs (1 : Nat) n → n ≤ mostN cs := fun n hf => by
  have h60 := lot_pos (Int.le_refl 0) hc.up
  have := KF.few_bound (W := 1) (m := mostI cs) (fun d hd => (h60 d hd).1) (fun p hl h0 hp => by
    have := most_take hc h2 hl h0 hp cs.length (Nat.le_refl _)
    rw [List.take_length, ← hl, List.take_length] at this
    exact this) hf
  rw [most_int hc] at this
  omega
theorem most_small {cs : List Int} {m : Nat} (hc : Lotc cs) (h2 : 2 ≤ cs.length) (h4 : cs.length ≤ 4) (hm : m ≤ 12) (hcm : ∀ c ∈ cs, c ≤ m) : mostN cs ≤ 576 := by
  have h60 := lot_pos (Int.le_refl 0) hc.up
  have g : ∀ i : Nat, cs[i]?.getD 0 ≤ 12 := fun i => by
    cases e : cs[i]? with
    | none => simp
    | some x =>
      have := hcm x (List.mem_of_getElem? e)
      show x ≤ 12
      omega
  have hb : ∀ c ∈ cs, mostF cs c ≤ 144 := fun c hcc => by
    have h1 := h60 c hcc
    have h2 := hcm c hcc
    unfold mostF
    have : c * (if cs[0]?.getD 0 < c then cs[0]?.getD 0 else cs[1]?.getD 0) ≤ c * 12 := Int.mul_le_mul_of_nonneg_left (by split; exact g 0; exact g 1) (by omega)
    omega
  have hs : ∀ xs : List Int, (∀ x ∈ xs, x ≤ 144) → xs.sum ≤ 144 * xs.length := by
    intro xs
    induction xs with
    | nil => intro _; simp
    | cons x xs ih =>
      intro h
      have a := ih fun y hy => h y (by simp [hy])
      have b := h x (by simp)
      rw [List.sum_cons, List.length_cons]
      omega
  have := hs (cs.map (mostF cs)) (fun x hx => by
    obtain ⟨c, hcc, rfl⟩ := List.mem_map.mp hx
    exact hb c hcc)
  rw [List.length_map] at this
  have e := most_int hc
  unfold mostI at e
  omega
end Kx

-- SXEXT: rSetLi, rSetTi, rSortedSetA, iAnyS, rMinT, tRevT, rLtU, rIsiI, RZ.iZipA, tDNewK, tDGet, sDPut
namespace Kx
open PySem L2 MG KM
def top (i : Nat) : Stmt := PySem.Challenge.pw_mintlots_k17_whole_single_sums.main.body.getD i (.Pass ⟨0, 0, 0, 0⟩)
section
variable {P : Program} {w : World} {K : PySem.W.Frag} {mg : Str → Option Value} {base : Heap} {f : Addr} {fd : FuncData} {C : Addr}
abbrev s_is_integer : Stmt := top 12
abbrev N_is_integer : List Str := ["value"]
theorem sc_is_integer : FnScope N_is_integer ["value"] (defScope s_is_integer) := ⟨rfl, rfl, rfl, by decide +kernel, rfl, by decide +kernel, by decide +kernel⟩
theorem ok_is_integer (F : FnP K "is_integer" "is_integer" s_is_integer f fd) (B : Bi mg) :
    FnOk P w K mg base CX0 1 f fd ["value"] sp_is_integer := by
  refine okF F sc_is_integer (fun vs H Q E h => by repeat (first | (obtain ⟨rfl, _⟩ := h; rfl) | obtain ⟨_, h⟩ := h)) (fun cdv A outer s H vs Q E hr h => ?_)
  obtain ⟨n, rfl, q⟩ := h
  refine ⟨_, (pss_one (ps_ret (pe_and (pe_callB call_isi (by rfl) B.b_isinstance (by decide +kernel) (pa_cons (pv 0) (pa_cons (pe_bltn (v := .ty "int") (by rfl) B.b_int (by decide +kernel) rfl) pa_nil))) (pe_one (pe_not (pe_callB call_isi (by rfl) B.b_isinstance (by decide +kernel) (pa_cons (pv 0) (pa_cons (pe_bltn (v := .ty "bool") (by rfl) B.b_bool (by decide +kernel) rfl) pa_nil)))))))), ?_⟩
  exact ⟨_, rfl, _, _, _, _, true, rfl, .ty _, .base (.int n), kit_ty (by decide +kernel), true, rfl, iteT ⟨_, rfl, _, _, _, _, false, rfl, .ty _, .base (.int n), kit_ty (by decide +kernel), false, rfl, q⟩⟩

abbrev s_is_between : Stmt := top 13
abbrev N_is_between : List Str := ["value", "low", "high"]
theorem sc_is_between : FnScope N_is_between ["value", "low", "high"] (defScope s_is_between) := ⟨rfl, rfl, rfl, by decide +kernel, rfl, by decide +kernel, by decide +kernel⟩
theorem ok_is_between (F : FnP K "is_between" "is_between" s_is_between f fd) (C_is_integer : Cal P w K mg base 1 "is_integer" ["value"] sp_is_integer) :
    FnOk P w K mg base CX0 2 f fd ["value", "low", "high"] sp_is_between := by
  refine okF F sc_is_between (fun vs H Q E h => by repeat (first | (obtain ⟨rfl, _⟩ := h; rfl) | obtain ⟨_, h⟩ := h)) (fun cdv A outer s H vs Q E hr h => ?_)
  obtain ⟨n, a, b, rfl, q⟩ := h
  refine ⟨_, (pss_one (ps_ret (pe_and (pe_cal C_is_integer hr (pa_cons (pv 0) pa_nil)) (pe_one (pe_chain op_le op_le (pv 1) (pv 0) (pv 2)))))), ?_⟩
  refine ⟨_, rfl, n, rfl, true, rfl, iteT ⟨_, rfl, _, rfl, a, n, rfl, rfl, _, rfl, ?_⟩⟩
  by_cases c : a ≤ n
  · rw [decide_eq_true c] at q ⊢
    exact iteT ⟨_, rfl, n, b, rfl, rfl, q⟩
  · rw [decide_eq_false c] at q ⊢
    exact iteF q

abbrev s_count_ascending : Stmt := top 14
abbrev N_count_ascending : List Str := ["values", "low", "high", "most", "ahead", "at", "value"]
theorem sc_count_ascending : FnScope N_count_ascending ["values", "low", "high", "most"] (defScope s_count_ascending) := ⟨rfl, rfl, rfl, by decide +kernel, rfl, by decide +kernel, by decide +kernel⟩
theorem ok_count_ascending (F : FnP K "count_ascending" "count_ascending" s_count_ascending f fd) (B : Bi mg) (C_is_between : Cal P w K mg base 2 "is_between" ["value", "low", "high"] sp_is_between) :
    FnOk P w K mg base CX0 3 f fd ["values", "low", "high", "most"] sp_count_ascending := by
  refine okF F sc_count_ascending (fun vs H Q E h => by repeat (first | (obtain ⟨rfl, _⟩ := h; rfl) | obtain ⟨_, h⟩ := h)) (fun cdv A outer s H vs Q E hr h => ?_)
  obtain ⟨t, cs, lo, hi, m, rfl, ht, hm, hm1, hc, q⟩ := h
  refine ⟨_, (pss_cons (ps_set (i := 4) sc_count_ascending.nd rfl (Or.inl rfl) (pe_op op_sub (pv 1) pe_int))
    (pss_cons (ps_for PassesOwn.never rfl (pi_enumT (by rfl) B.b_enumerate (pa_cons (pv 0) pa_nil)) (pg_tup (by rfl) (pgs_cons (pg_name (i := 5) sc_count_ascending.nd rfl (Or.inl rfl)) (pgs_cons (pg_name (i := 6) sc_count_ascending.nd rfl (Or.inl rfl)) pgs_nil)))
      (pss_cons (ps_if (PW.pt (pw_or (pt_cmpR op_eq (pv 5) (pv 3) (nomark _)) (pw_or1 (pt_not (pt_val (pe_cal C_is_between hr (pa_cons (pv 6) (pa_cons (pe_op op_add (pv 4) pe_int) (pa_cons (pv 2) pa_nil)))))))))
        (pss_one (ps_ret (pv 5)))
        pss_nil)
      (pss_one (ps_set (i := 4) sc_count_ascending.nd rfl (Or.inl rfl) (pv 6)))))
    (pss_one (ps_ret (pe_callB len_HT (by rfl) B.b_len (by decide +kernel) (pa_cons (pv 0) pa_nil)))))), ?_⟩
  simp [tRet, tRetN, tSeq, tNext, tNever, tDrop, tIfS, tAsg, tPar, tAug, tAugS, gName, gNil, gCons, gTup, gSub, tAndV, tOrV, tNotV, tAnd, tOr, tNot, tB, tTest, tYes, tIf, tCall, tCallK, tCallN, tMake, tProp, tMeth, getSp, tCB, tCons, tNil, tVar, tC, tOp, tUn, tChain, tLst, tTup, tFld, sFld, tBM, tBM0, tSl, tPart, tNoPart, rI0, rI, rU, rEq, rNe, rIsi, tCut, tCutR, tCutS, rIntI, tSlH, tSlS, rSumH, rTupH, rSortH, tLstRg, tRg1, tRg2, rIxH, rIxHT, rLenH, rLenHT, rIxL, rIxT, rIx, rCat, rRep, rSetL, rAppend, rSum, rMax, rMin, rEqD, rNeD, rSlL, rPopAt, rSorted, rAll, rAny, rReprS, rNext, tCutT, rCatHT, rCatA, rSlA, RT.iRevA, scal, L2.start, List.replicate, and_assoc, CDiv, CMul, CPow, ipI, rSetLi, rSetTi, rSortedSetA, iAnyS, rMinT, tRevT, rLtU, rIsiI, RZ.iZipA, tDNewK, tDGet, sDPut]
  refine ⟨_, rfl, t, _, rfl, sqT ht, for_enT (xs := cs.map V.int) (fun i σ H' => ∃ v5 v6, σ = [some (.ref t), some (.int lo), some (.int hi), some (.int m), some (.int (ahd (lo - 1) cs i)), v5, v6] ∧ Same H H') ⟨none, none, by cases cs <;> rfl, Same.refl H⟩ (fun i σ H' ⟨_, _, _, s⟩ => sqT (s _ _ ht)) ?_ ?_⟩
  · rintro i x T' σ H' hx ⟨v5, v6, rfl, s⟩ hT
    obtain ⟨z, hz, rfl⟩ := int_at hx
    have hi : i < cs.length := (List.getElem?_eq_some_iff.mp hz).1
    obtain ⟨a1, a2, a3⟩ := asch_at hc hz
    have n15 : ¬ ((i : Int) = m) := by omega
    have s' : Same H (upd H' T' (.tup [.int (i : Nat), .int z])) := s.trans (same_new hT)
    refine ⟨T', _, rfl, sqT upd_same, rfl, ?_⟩
    simp [tRet, tRetN, tSeq, tNext, tNever, tDrop, tIfS, tAsg, tPar, tAug, tAugS, gName, gNil, gCons, gTup, gSub, tAndV, tOrV, tNotV, tAnd, tOr, tNot, tB, tTest, tYes, tIf, tCall, tCallK, tCallN, tMake, tProp, tMeth, getSp, tCB, tCons, tNil, tVar, tC, tOp, tUn, tChain, tLst, tTup, tFld, sFld, tBM, tBM0, tSl, tPart, tNoPart, rI0, rI, rU, rEq, rNe, rIsi, tCut, tCutR, tCutS, rIntI, tSlH, tSlS, rSumH, rTupH, rSortH, tLstRg, tRg1, tRg2, rIxH, rIxHT, rLenH, rLenHT, rIxL, rIxT, rIx, rCat, rRep, rSetL, rAppend, rSum, rMax, rMin, rEqD, rNeD, rSlL, rPopAt, rSorted, rAll, rAny, rReprS, rNext, tCutT, rCatHT, rCatA, rSlA, RT.iRevA, scal, L2.start, List.replicate, and_assoc, CDiv, CMul, CPow, ipI, rSetLi, rSetTi, rSortedSetA, iAnyS, rMinT, tRevT, rLtU, rIsiI, RZ.iZipA, tDNewK, tDGet, sDPut, sp_is_between, n15, a2, a3]
    rw [if_pos (by omega)]
    exact s'
  · rintro σ H' ⟨v5, v6, rfl, s⟩
    have ht' := s _ _ ht
    simp [tRet, tRetN, tSeq, tNext, tNever, tDrop, tIfS, tAsg, tPar, tAug, tAugS, gName, gNil, gCons, gTup, gSub, tAndV, tOrV, tNotV, tAnd, tOr, tNot, tB, tTest, tYes, tIf, tCall, tCallK, tCallN, tMake, tProp, tMeth, getSp, tCB, tCons, tNil, tVar, tC, tOp, tUn, tChain, tLst, tTup, tFld, sFld, tBM, tBM0, tSl, tPart, tNoPart, rI0, rI, rU, rEq, rNe, rIsi, tCut, tCutR, tCutS, rIntI, tSlH, tSlS, rSumH, rTupH, rSortH, tLstRg, tRg1, tRg2, rIxH, rIxHT, rLenH, rLenHT, rIxL, rIxT, rIx, rCat, rRep, rSetL, rAppend, rSum, rMax, rMin, rEqD, rNeD, rSlL, rPopAt, rSorted, rAll, rAny, rReprS, rNext, tCutT, rCatHT, rCatA, rSlA, RT.iRevA, scal, L2.start, List.replicate, and_assoc, CDiv, CMul, CPow, ipI, rSetLi, rSetTi, rSortedSetA, iAnyS, rMinT, tRevT, rLtU, rIsiI, RZ.iZipA, tDNewK, tDGet, sDPut, ht']
    exact q H' s

abbrev s_count_right : Stmt := top 18
abbrev N_count_right : List Str := ["coins"]
theorem sc_count_right : FnScope N_count_right ["coins"] (defScope s_count_right) := ⟨rfl, rfl, rfl, by decide +kernel, rfl, by decide +kernel, by decide +kernel⟩
theorem ok_count_right (F : FnP K "count_right" "count_right" s_count_right f fd) (C_count_ascending : Cal P w K mg base 3 "count_ascending" ["values", "low", "high", "most"] sp_count_ascending) (c_MOST_COINS : ∃ t, mg "MOST_COINS" = some (.int (15) t)) (c_MOST_COIN : ∃ t, mg "MOST_COIN" = some (.int (60) t)) :
    FnOk P w K mg base CX0 4 f fd ["coins"] sp_count_right := by
  refine okF F sc_count_right (fun vs H Q E h => by repeat (first | (obtain ⟨rfl, _⟩ := h; rfl) | obtain ⟨_, h⟩ := h)) (fun cdv A outer s H vs Q E hr h => ?_)
  obtain ⟨t, cs, rfl, ht, hc, q⟩ := h
  obtain ⟨t_MOST_COINS, d_MOST_COINS⟩ := c_MOST_COINS
  obtain ⟨t_MOST_COIN, d_MOST_COIN⟩ := c_MOST_COIN
  refine ⟨_, (pss_one (ps_ret (pe_cal C_count_ascending hr (pa_cons (pv 0) (pa_cons pe_int (pa_cons (pe_glob (v := .int (60)) rfl d_MOST_COIN ⟨_, rfl⟩) (pa_cons (pe_glob (v := .int (15)) rfl d_MOST_COINS ⟨_, rfl⟩) pa_nil))))))), ?_⟩
  simp [tRet, tRetN, tSeq, tNext, tNever, tDrop, tIfS, tAsg, tPar, tAug, tAugS, gName, gNil, gCons, gTup, gSub, tAndV, tOrV, tNotV, tAnd, tOr, tNot, tB, tTest, tYes, tIf, tCall, tCallK, tCallN, tMake, tProp, tMeth, getSp, tCB, tCons, tNil, tVar, tC, tOp, tUn, tChain, tLst, tTup, tFld, sFld, tBM, tBM0, tSl, tPart, tNoPart, rI0, rI, rU, rEq, rNe, rIsi, tCut, tCutR, tCutS, rIntI, tSlH, tSlS, rSumH, rTupH, rSortH, tLstRg, tRg1, tRg2, rIxH, rIxHT, rLenH, rLenHT, rIxL, rIxT, rIx, rCat, rRep, rSetL, rAppend, rSum, rMax, rMin, rEqD, rNeD, rSlL, rPopAt, rSorted, rAll, rAny, rReprS, rNext, tCutT, rCatHT, rCatA, rSlA, RT.iRevA, scal, L2.start, List.replicate, and_assoc, CDiv, CMul, CPow, ipI, rSetLi, rSetTi, rSortedSetA, iAnyS, rMinT, tRevT, rLtU, rIsiI, RZ.iZipA, tDNewK, tDGet, sDPut, sp_count_ascending]
  exact ⟨cs, 15, rfl, ht, hc.few, by decide, asch_of hc.up, fun H' s => q H' s⟩

abbrev s_Lot_init : Stmt := inClass (top 17) 0
abbrev N_Lot_init : List Str := ["self", "coins", "right"]
theorem sc_Lot_init : FnScope N_Lot_init ["self", "coins"] (defScope s_Lot_init) := ⟨rfl, rfl, rfl, by decide +kernel, rfl, by decide +kernel, by decide +kernel⟩
theorem ok_Lot_init (F : FnP K "__init__" "Lot.__init__" s_Lot_init f fd) (B : Bi mg) (C_count_right : Cal P w K mg base 4 "count_right" ["coins"] sp_count_right) (TC : Tc K mg C) :
    FnOk P w K mg base CX0 5 f fd ["self", "coins"] (sp_Lot_init C) := by
  refine okF F sc_Lot_init (fun vs H Q E h => by repeat (first | (obtain ⟨rfl, _⟩ := h; rfl) | obtain ⟨_, h⟩ := h)) (fun cdv A outer s H vs Q E hr h => ?_)
  obtain ⟨p, dx, t, cs, rfl, hp, ht, hc, q⟩ := h
  refine ⟨_, (pss_cons (ps_if (PW.pt (pw_or (pt_not (pt_val (pe_callB call_isi (by rfl) B.b_isinstance (by decide +kernel) (pa_cons (pv 1) (pa_cons (pe_bltn (v := .ty "tuple") (by rfl) B.b_tuple (by decide +kernel) rfl) pa_nil))))) (pw_or1 (pt_cmpR op_eq (pe_callB call_len_seq (by rfl) B.b_len (by decide +kernel) (pa_cons (pv 1) pa_nil)) pe_int (nomark _)))))
        (pss_one ps_never)
        pss_nil)
      (pss_cons (ps_set (i := 2) sc_Lot_init.nd rfl (Or.inl rfl) (pe_cal C_count_right hr (pa_cons (pv 1) pa_nil)))
      (pss_cons (ps_if (pt_cmpR op_lt (pv 2) (pe_callB call_len_seq (by rfl) B.b_len (by decide +kernel) (pa_cons (pv 1) pa_nil)) (nomark _))
        (pss_one ps_never)
        pss_nil)
      (pss_one (ps_fld (pv 0) (pv 1) rfl))))), ?_⟩
  have hne := hc.ne
  simp [tRet, tRetN, tSeq, tNext, tNever, tDrop, tIfS, tAsg, tPar, tAug, tAugS, gName, gNil, gCons, gTup, gSub, tAndV, tOrV, tNotV, tAnd, tOr, tNot, tB, tTest, tYes, tIf, tCall, tCallK, tCallN, tMake, tProp, tMeth, getSp, tCB, tCons, tNil, tVar, tC, tOp, tUn, tChain, tLst, tTup, tFld, sFld, tBM, tBM0, tSl, tPart, tNoPart, rI0, rI, rU, rEq, rNe, rIsi, tCut, tCutR, tCutS, rIntI, tSlH, tSlS, rSumH, rTupH, rSortH, tLstRg, tRg1, tRg2, rIxH, rIxHT, rLenH, rLenHT, rIxL, rIxT, rIx, rCat, rRep, rSetL, rAppend, rSum, rMax, rMin, rEqD, rNeD, rSlL, rPopAt, rSorted, rAll, rAny, rReprS, rNext, tCutT, rCatHT, rCatA, rSlA, RT.iRevA, scal, L2.start, List.replicate, and_assoc, CDiv, CMul, CPow, ipI, rSetLi, rSetTi, rSortedSetA, iAnyS, rMinT, tRevT, rLtU, rIsiI, RZ.iZipA, tDNewK, tDGet, sDPut, sp_count_right]
  refine ⟨_, _, .ty _, .base (.tup ht), kit_ty (by decide +kernel), _, .inr (sqT ht), by simpa using hne, cs, ht, hc, fun H' s => ⟨_, .inr (sqT (s _ _ ht)), by simp, C, dx, [], s _ _ hp, TC.cl, TC.nc, by simp, ?_⟩⟩
  exact q _ ((But.of s).trans But.upd) upd_same

abbrev s_Lot_coins : Stmt := inClass (top 17) 2
abbrev N_Lot_coins : List Str := ["self"]
theorem sc_Lot_coins : FnScope N_Lot_coins ["self"] (defScope s_Lot_coins) := ⟨rfl, rfl, rfl, by decide +kernel, rfl, by decide +kernel, by decide +kernel⟩

abbrev s_check_lot : Stmt := top 20
abbrev N_check_lot : List Str := ["lot"]
theorem sc_check_lot : FnScope N_check_lot ["lot"] (defScope s_check_lot) := ⟨rfl, rfl, rfl, by decide +kernel, rfl, by decide +kernel, by decide +kernel⟩
theorem ok_check_lot (F : FnP K "check_lot" "check_lot" s_check_lot f fd) (B : Bi mg) (TC : Tc K mg C) :
    FnOk P w K mg base CX0 1 f fd ["lot"] (sp_check_lot C) := by
  refine okF F sc_check_lot (fun vs H Q E h => by repeat (first | (obtain ⟨rfl, _⟩ := h; rfl) | obtain ⟨_, h⟩ := h)) (fun cdv A outer s H vs Q E hr h => ?_)
  obtain ⟨p, dx, fs, rfl, hp, q⟩ := h
  refine ⟨_, (pss_one (ps_if (pt_not (pt_val (pe_callB call_isi (by rfl) B.b_isinstance (by decide +kernel) (pa_cons (pv 0) (pa_cons (pe_glob (v := .ref C) rfl TC.gL rfl) pa_nil)))))
        (pss_one ps_never)
        pss_nil)), ?_⟩
  simp [tRet, tRetN, tSeq, tNext, tNever, tDrop, tIfS, tAsg, tPar, tAug, tAugS, gName, gNil, gCons, gTup, gSub, tAndV, tOrV, tNotV, tAnd, tOr, tNot, tB, tTest, tYes, tIf, tCall, tCallK, tCallN, tMake, tProp, tMeth, getSp, tCB, tCons, tNil, tVar, tC, tOp, tUn, tChain, tLst, tTup, tFld, sFld, tBM, tBM0, tSl, tPart, tNoPart, rI0, rI, rU, rEq, rNe, rIsi, tCut, tCutR, tCutS, rIntI, tSlH, tSlS, rSumH, rTupH, rSortH, tLstRg, tRg1, tRg2, rIxH, rIxHT, rLenH, rLenHT, rIxL, rIxT, rIx, rCat, rRep, rSetL, rAppend, rSum, rMax, rMin, rEqD, rNeD, rSlL, rPopAt, rSorted, rAll, rAny, rReprS, rNext, tCutT, rCatHT, rCatA, rSlA, RT.iRevA, scal, L2.start, List.replicate, and_assoc, CDiv, CMul, CPow, ipI, rSetLi, rSetTi, rSortedSetA, iAnyS, rMinT, tRevT, rLtU, rIsiI, RZ.iZipA, tDNewK, tDGet, sDPut, q]
  exact ⟨_, _, .own C, .base (.ins hp TC.cl TC.k1 TC.k2 TC.k3 TC.k4), by simp [PySem.W.kitOne]⟩

end
end Kx

-- SXEXT: rSetLi, rSetTi, rSortedSetA, iAnyS, rMinT, tRevT, rLtU, rIsiI, RZ.iZipA, tDNewK, tDGet, sDPut
namespace Kx
open PySem L2 MG KM
section
variable {P : Program} {w : World} {K : PySem.W.Frag} {mg : Str → Option Value} {base : Heap} {f : Addr} {fd : FuncData} {C : Addr}
abbrev s_l_dip : Stmt := top 28
abbrev N_l_dip : List Str := ["_law_bowl_here", "_law_many_here", "_law_digit"]
theorem sc_l_dip : FnScope N_l_dip ["_law_bowl_here", "_law_many_here"] (defScope s_l_dip) := ⟨rfl, rfl, rfl, by decide +kernel, rfl, by decide +kernel, by decide +kernel⟩
theorem ok_l_dip (F : FnP K "_law_dip" "_law_dip" s_l_dip f fd) (B : Bi mg) :
    FnOk P w K mg base CX0 1 f fd ["_law_bowl_here", "_law_many_here"] sp_l_dip := by
  refine okF F sc_l_dip (fun vs H Q E h => by repeat (first | (obtain ⟨rfl, _⟩ := h; rfl) | obtain ⟨_, h⟩ := h)) (fun cdv A outer s H vs Q E hr h => ?_)
  obtain ⟨b, m, rfl, ⟨x, y, z, hb⟩, h0, h1, q⟩ := h
  refine ⟨_, (pss_cons (ps_asg (pe_op op_add (pe_ix ix_H (pv 0) pe_int (fun _ _ => rfl)) pe_int) (pg_sub (pv 0) pe_int set_list))
      (pss_cons (ps_if (pt_cmpR op_gt (pe_ix ix_H (pv 0) pe_int (fun _ _ => rfl)) pe_int (nomark _))
        (pss_cons (ps_asg (pe_callB divmod_B (by rfl) B.b_divmod (by decide +kernel) (pa_cons (pe_ix ix_H (pv 0) pe_int (fun _ _ => rfl)) (pa_cons (pv 1) pa_nil))) (pg_tup (by rfl) (pgs_cons (pg_sub (pv 0) pe_int set_list) (pgs_cons (pg_name (i := 2) sc_l_dip.nd rfl (Or.inl rfl)) pgs_nil))))
        (pss_one (ps_ret (pv 2))))
        pss_nil)
      (pss_cons (ps_asg (pe_op op_mod (pe_callTy int_I (by rfl) B.b_int (by decide +kernel) (pa_cons (pe_op op_add (pe_op op_add (pe_op op_mul (pe_ix ix_H (pv 0) pe_int (fun _ _ => rfl)) pe_int) (pe_op op_mul pe_int (pe_ix ix_H (pv 0) pe_int (fun _ _ => rfl)))) pe_int) pa_nil)) pe_int) (pg_sub (pv 0) pe_int set_list))
      (pss_one (ps_ret (pe_op op_mod (pe_callTy int_I (by rfl) B.b_int (by decide +kernel) (pa_cons (pe_op op_fdiv (pe_ix ix_H (pv 0) pe_int (fun _ _ => rfl)) pe_int) pa_nil)) (pv 1))))))), ?_⟩
  simp [tRet, tRetN, tSeq, tNext, tNever, tDrop, tIfS, tAsg, tPar, tAug, tAugS, gName, gNil, gCons, gTup, gSub, tAndV, tOrV, tNotV, tAnd, tOr, tNot, tB, tTest, tYes, tIf, tCall, tCallK, tCallN, tMake, tProp, tMeth, getSp, tCB, tCons, tNil, tVar, tC, tOp, tUn, tChain, tLst, tTup, tFld, sFld, tBM, tBM0, tSl, tPart, tNoPart, rI0, rI, rU, rEq, rNe, rIsi, tCut, tCutR, tCutS, rIntI, tSlH, tSlS, rSumH, rTupH, rSortH, tLstRg, tRg1, tRg2, rIxH, rIxHT, rLenH, rLenHT, rIxL, rIxT, rIx, rCat, rRep, rSetL, rAppend, rSum, rMax, rMin, rEqD, rNeD, rSlL, rPopAt, rSorted, rAll, rAny, rReprS, rNext, tCutT, rCatHT, rCatA, rSlA, RT.iRevA, scal, L2.start, List.replicate, and_assoc, CDiv, CMul, CPow, ipI, rSetLi, rSetTi, rSortedSetA, iAnyS, rMinT, tRevT, rLtU, rIsiI, RZ.iZipA, tDNewK, tDGet, sDPut, hb, atI, ixN, upd_same, upd_upd, h0, h1]
  split
  · intro p np
    have ne : b ≠ p := ne_of_none upd_same np
    refine ⟨_, sqT upd_same, rfl, _, _, rfl, _, (upd_ne ne).trans upd_same, by simp, _, _, rfl, rfl, ?_⟩
    exact q _ _ (Int.emod_nonneg _ (by omega)) (Int.emod_lt_of_pos _ h0) ⟨_, _, _, upd_same⟩ (But.upd.trans ((But.of (same_new np)).trans But.upd))
  · exact q _ _ (Int.emod_nonneg _ (by omega)) (Int.emod_lt_of_pos _ h0) ⟨_, _, _, upd_same⟩ But.upd

abbrev s_l_one : Stmt := top 29
abbrev N_l_one : List Str := ["_law_bowl_here", "_law_menu"]
theorem sc_l_one : FnScope N_l_one ["_law_bowl_here", "_law_menu"] (defScope s_l_one) := ⟨rfl, rfl, rfl, by decide +kernel, rfl, by decide +kernel, by decide +kernel⟩
theorem ok_l_one (F : FnP K "_law_one" "_law_one" s_l_one f fd) (C_l_dip : Cal P w K mg base 1 "_law_dip" ["_law_bowl_here", "_law_many_here"] sp_l_dip) (B : Bi mg) :
    FnOk P w K mg base CX0 2 f fd ["_law_bowl_here", "_law_menu"] sp_l_one := by
  refine okF F sc_l_one (fun vs H Q E h => by repeat (first | (obtain ⟨rfl, _⟩ := h; rfl) | obtain ⟨_, h⟩ := h)) (fun cdv A outer s H vs Q E hr h => ?_)
  obtain ⟨b, a, xs, rfl, hb, ne, ha, h0, h1, q⟩ := h
  refine ⟨_, (pss_one (ps_ret (pe_ix ix_seq (pv 1) (pe_cal C_l_dip hr (pa_cons (pv 0) (pa_cons (pe_callB call_len_seq (by rfl) B.b_len (by decide +kernel) (pa_cons (pv 1) pa_nil)) pa_nil))) (fun _ _ => rfl)))), ?_⟩
  simp [tRet, tRetN, tSeq, tNext, tNever, tDrop, tIfS, tAsg, tPar, tAug, tAugS, gName, gNil, gCons, gTup, gSub, tAndV, tOrV, tNotV, tAnd, tOr, tNot, tB, tTest, tYes, tIf, tCall, tCallK, tCallN, tMake, tProp, tMeth, getSp, tCB, tCons, tNil, tVar, tC, tOp, tUn, tChain, tLst, tTup, tFld, sFld, tBM, tBM0, tSl, tPart, tNoPart, rI0, rI, rU, rEq, rNe, rIsi, tCut, tCutR, tCutS, rIntI, tSlH, tSlS, rSumH, rTupH, rSortH, tLstRg, tRg1, tRg2, rIxH, rIxHT, rLenH, rLenHT, rIxL, rIxT, rIx, rCat, rRep, rSetL, rAppend, rSum, rMax, rMin, rEqD, rNeD, rSlL, rPopAt, rSorted, rAll, rAny, rReprS, rNext, tCutT, rCatHT, rCatA, rSlA, RT.iRevA, scal, L2.start, List.replicate, and_assoc, CDiv, CMul, CPow, ipI, rSetLi, rSetTi, rSortedSetA, iAnyS, rMinT, tRevT, rLtU, rIsiI, RZ.iZipA, tDNewK, tDGet, sDPut, sp_l_dip]
  refine ⟨xs, ?_, hb, h0, by omega, ?_⟩
  · rcases ha with ha | ha
    · exact .inl (sqL ha)
    · exact .inr (sqT ha)
  · intro r H' r0 r1 hb' bt
    obtain ⟨i, rfl⟩ : ∃ i : Nat, r = i := ⟨r.toNat, by omega⟩
    have hi : i < xs.length := by omega
    obtain ⟨x, hx⟩ : ∃ x, xs[i]? = some x := ⟨xs[i], List.getElem?_eq_getElem hi⟩
    have hq : Q x H' := q x H' (List.mem_of_getElem? hx) hb' bt
    rcases ha with ha | ha
    · exact .inl ⟨xs, sqL (bt _ _ ne ha), x, atI_nat hx, hq⟩
    · exact .inr (.inl ⟨xs, sqT (bt _ _ ne ha), x, atI_nat hx, hq⟩)

abbrev s_l_bowl : Stmt := top 27
abbrev N_l_bowl : List Str := ["_law_script", "_law_k", "_law_own", "_law_stirred", "_law_cell"]
theorem sc_l_bowl : FnScope N_l_bowl ["_law_script", "_law_k"] (defScope s_l_bowl) := ⟨rfl, rfl, rfl, by decide +kernel, rfl, by decide +kernel, by decide +kernel⟩
theorem ok_l_bowl (F : FnP K "_law_bowl" "_law_bowl" s_l_bowl f fd) (B : Bi mg) :
    FnOk P w K mg base CX0 1 f fd ["_law_script", "_law_k"] (sp_l_bowl K) := by
  refine okF F sc_l_bowl (fun vs H Q E h => by repeat (first | (obtain ⟨rfl, _⟩ := h; rfl) | obtain ⟨_, h⟩ := h)) (fun cdv A outer s H vs Q E hr h => ?_)
  obtain ⟨a, ns, k, rfl, ha, hn, hk, q⟩ := h
  refine ⟨_, (pss_cons (ps_set (i := 2) sc_l_bowl.nd rfl (Or.inl rfl) (pe_cut (fun v => ∃ i : Int, v = .int i) (pe_ifExp (pt_cmpR op_lt (pv 1) (pe_callB call_len_seq (by rfl) B.b_len (by decide +kernel) (pa_cons (pv 0) pa_nil)) (nomark _)) (pe_callTy int_I (by rfl) B.b_int (by decide +kernel) (pa_cons (pe_ix ix_list (pv 0) (pv 1) (fun _ _ => rfl)) pa_nil)) (pe_op op_add (pe_op op_mul pe_int (pv 1)) pe_int))))
      (pss_cons (ps_set (i := 3) sc_l_bowl.nd rfl (Or.inl rfl) (pe_op op_add pe_int (pe_op op_mul pe_int (pv 1))))
      (pss_cons (ps_for PassesOwn.never rfl (pi_list (pe_cutR rInts (pe_op op_cat (pe_slice sl_list (pv 0) po_none (po_some pe_int)) (pe_lst (pa_cons (pv 2) pa_nil))))) (pg_name (i := 4) sc_l_bowl.nd rfl (Or.inl rfl))
        (pss_one (ps_set (i := 3) sc_l_bowl.nd rfl (Or.inl rfl) (pe_op op_mod (pe_callTy int_I (by rfl) B.b_int (by decide +kernel) (pa_cons (pe_op op_add (pe_op op_add (pe_op op_mul (pv 3) pe_int) (pe_callTy int_I (by rfl) B.b_int (by decide +kernel) (pa_cons (pv 4) pa_nil))) pe_int) pa_nil)) pe_int))))
      (pss_one (ps_ret (pe_lst (pa_cons (pe_cut (fun v => ∃ i : Int, v = .int i) (pe_ifExp (PW.pt (pw_or (pt_cmpR op_lt (pv 2) pe_int (nomark _)) (pw_or1 (pt_cmpR op_ge (pv 2) (pe_op op_pow pe_int pe_int) (nomark _))))) (pe_callB call_abs (by rfl) B.b_abs (by decide +kernel) (pa_cons (pv 2) pa_nil)) pe_int)) (pa_cons (pv 3) (pa_cons pe_int pa_nil))))))))), ?_⟩
  simp [tRet, tRetN, tSeq, tNext, tNever, tDrop, tIfS, tAsg, tPar, tAug, tAugS, gName, gNil, gCons, gTup, gSub, tAndV, tOrV, tNotV, tAnd, tOr, tNot, tB, tTest, tYes, tIf, tCall, tCallK, tCallN, tMake, tProp, tMeth, getSp, tCB, tCons, tNil, tVar, tC, tOp, tUn, tChain, tLst, tTup, tFld, sFld, tBM, tBM0, tSl, tPart, tNoPart, rI0, rI, rU, rEq, rNe, rIsi, tCut, tCutR, tCutS, rIntI, tSlH, tSlS, rSumH, rTupH, rSortH, tLstRg, tRg1, tRg2, rIxH, rIxHT, rLenH, rLenHT, rIxL, rIxT, rIx, rCat, rRep, rSetL, rAppend, rSum, rMax, rMin, rEqD, rNeD, rSlL, rPopAt, rSorted, rAll, rAny, rReprS, rNext, tCutT, rCatHT, rCatA, rSlA, RT.iRevA, scal, L2.start, List.replicate, and_assoc, CDiv, CMul, CPow, ipI, rSetLi, rSetTi, rSortedSetA, iAnyS, rMinT, tRevT, rLtU, rIsiI, RZ.iZipA, tDNewK, tDGet, sDPut]
  refine ⟨⟨_, .inl ha, fun h => ?_⟩, fun own => ⟨?_, ?_⟩⟩
  · obtain ⟨z, hz⟩ : ∃ z, ns[k]? = some z := ⟨ns[k]'(by simpa using h), List.getElem?_eq_getElem _⟩
    exact ⟨_, ha, _, atI_nat (mapI_at hz), z, rfl⟩
  · simp [tRet, tRetN, tSeq, tNext, tNever, tDrop, tIfS, tAsg, tPar, tAug, tAugS, gName, gNil, gCons, gTup, gSub, tAndV, tOrV, tNotV, tAnd, tOr, tNot, tB, tTest, tYes, tIf, tCall, tCallK, tCallN, tMake, tProp, tMeth, getSp, tCB, tCons, tNil, tVar, tC, tOp, tUn, tChain, tLst, tTup, tFld, sFld, tBM, tBM0, tSl, tPart, tNoPart, rI0, rI, rU, rEq, rNe, rIsi, tCut, tCutR, tCutS, rIntI, tSlH, tSlS, rSumH, rTupH, rSortH, tLstRg, tRg1, tRg2, rIxH, rIxHT, rLenH, rLenHT, rIxL, rIxT, rIx, rCat, rRep, rSetL, rAppend, rSum, rMax, rMin, rEqD, rNeD, rSlL, rPopAt, rSorted, rAll, rAny, rReprS, rNext, tCutT, rCatHT, rCatA, rSlA, RT.iRevA, scal, L2.start, List.replicate, and_assoc, CDiv, CMul, CPow, ipI, rSetLi, rSetTi, rSortedSetA, iAnyS, rMinT, tRevT, rLtU, rIsiI, RZ.iZipA, tDNewK, tDGet, sDPut, rInts]
    obtain ⟨ms, em, lm⟩ := cut_ints ns none (some 4)
    refine ⟨_, ha, ?_⟩
    rw [em]
    intro p1 n1
    generalize eH1 : upd H p1 _ = H1
    have s1 : Same H H1 := by rw [← eH1]; exact same_new n1
    have h1 := (congrFun eH1 p1).symm.trans upd_same
    clear eH1
    refine ⟨by decide, ?_⟩
    intro p2 n2
    generalize eH2 : upd H1 p2 _ = H2
    have s2 : Same H1 H2 := by rw [← eH2]; exact same_new n2
    have h2 := (congrFun eH2 p2).symm.trans upd_same
    clear eH2
    refine ⟨_, s2 _ _ h1, _, h2, Nat.le_trans (show _ ≤ 100 by simp; omega) (by decide), ?_⟩
    intro p3 n3
    generalize eH3 : upd H2 p3 _ = H3
    have s3 : Same H2 H3 := by rw [← eH3]; exact same_new n3
    have h3 := (congrFun eH3 p3).symm.trans upd_same
    clear eH3
    exact ⟨(s1.trans s2).free n3, (s1.trans s2).trans s3, ms ++ [own], by rw [h3]; simp⟩
  · rintro v H1 ⟨p, ms, rfl, _, s1, h1⟩
    refine ⟨p, rfl, ⟨_, sqL h1⟩, for_list (xs := ms.map V.int) (fun i σ H' => ∃ (st : Int) (v4 : Option V), σ = [some (.ref a), some (.int k), some (.int own), some (.int st), v4] ∧ Same H1 H') ⟨_, none, rfl, Same.refl _⟩ (fun i σ H' _ ⟨_, _, _, s'⟩ => sqL (s' _ _ h1)) ?_ ?_⟩
    · rintro i x σ H' hx ⟨st, v4, rfl, s'⟩
      obtain ⟨z, hz, rfl⟩ := int_at hx
      simp [tRet, tRetN, tSeq, tNext, tNever, tDrop, tIfS, tAsg, tPar, tAug, tAugS, gName, gNil, gCons, gTup, gSub, tAndV, tOrV, tNotV, tAnd, tOr, tNot, tB, tTest, tYes, tIf, tCall, tCallK, tCallN, tMake, tProp, tMeth, getSp, tCB, tCons, tNil, tVar, tC, tOp, tUn, tChain, tLst, tTup, tFld, sFld, tBM, tBM0, tSl, tPart, tNoPart, rI0, rI, rU, rEq, rNe, rIsi, tCut, tCutR, tCutS, rIntI, tSlH, tSlS, rSumH, rTupH, rSortH, tLstRg, tRg1, tRg2, rIxH, rIxHT, rLenH, rLenHT, rIxL, rIxT, rIx, rCat, rRep, rSetL, rAppend, rSum, rMax, rMin, rEqD, rNeD, rSlL, rPopAt, rSorted, rAll, rAny, rReprS, rNext, tCutT, rCatHT, rCatA, rSlA, RT.iRevA, scal, L2.start, List.replicate, and_assoc, CDiv, CMul, CPow, ipI, rSetLi, rSetTi, rSortedSetA, iAnyS, rMinT, tRevT, rLtU, rIsiI, RZ.iZipA, tDNewK, tDGet, sDPut, s']
    · rintro σ H' ⟨st, v4, rfl, s'⟩
      simp [tRet, tRetN, tSeq, tNext, tNever, tDrop, tIfS, tAsg, tPar, tAug, tAugS, gName, gNil, gCons, gTup, gSub, tAndV, tOrV, tNotV, tAnd, tOr, tNot, tB, tTest, tYes, tIf, tCall, tCallK, tCallN, tMake, tProp, tMeth, getSp, tCB, tCons, tNil, tVar, tC, tOp, tUn, tChain, tLst, tTup, tFld, sFld, tBM, tBM0, tSl, tPart, tNoPart, rI0, rI, rU, rEq, rNe, rIsi, tCut, tCutR, tCutS, rIntI, tSlH, tSlS, rSumH, rTupH, rSortH, tLstRg, tRg1, tRg2, rIxH, rIxHT, rLenH, rLenHT, rIxL, rIxT, rIx, rCat, rRep, rSetL, rAppend, rSum, rMax, rMin, rEqD, rNeD, rSlL, rPopAt, rSorted, rAll, rAny, rReprS, rNext, tCutT, rCatHT, rCatA, rSlA, RT.iRevA, scal, L2.start, List.replicate, and_assoc, CDiv, CMul, CPow, ipI, rSetLi, rSetTi, rSortedSetA, iAnyS, rMinT, tRevT, rLtU, rIsiI, RZ.iZipA, tDNewK, tDGet, sDPut]
      intro fig
      refine ⟨by decide, ?_⟩
      intro p5 n5
      generalize eH5 : upd H' p5 _ = H5
      have s5 : Same H' H5 := by rw [← eH5]; exact same_new n5
      have h5 := (congrFun eH5 p5).symm.trans upd_same
      clear eH5
      exact q p5 H5 ((s1.trans s').free n5) ((s1.trans s').trans s5) ⟨_, _, _, h5⟩

abbrev s_l_coins : Stmt := top 30
abbrev N_l_coins : List Str := ["_law_bowl_here", "_law_many_here", "_law_most", "_law_left", "_law_found", "_law_turn"]
theorem sc_l_coins : FnScope N_l_coins ["_law_bowl_here", "_law_many_here", "_law_most"] (defScope s_l_coins) := ⟨rfl, rfl, rfl, by decide +kernel, rfl, by decide +kernel, by decide +kernel⟩
theorem ok_l_coins (F : FnP K "_law_coins" "_law_coins" s_l_coins f fd) (B : Bi mg) (C_l_dip : Cal P w K mg base 1 "_law_dip" ["_law_bowl_here", "_law_many_here"] sp_l_dip) :
    FnOk P w K mg base CX0 2 f fd ["_law_bowl_here", "_law_many_here", "_law_most"] sp_l_coins2 := by
  refine okF F sc_l_coins (fun vs H Q E h => by repeat (first | (obtain ⟨rfl, _⟩ := h; rfl) | obtain ⟨_, h⟩ := h)) (fun cdv A outer s H vs Q E hr h => ?_)
  obtain ⟨b, n, m, rfl, hbw0, h1, hnm, h60, h15, q⟩ := h
  refine ⟨_, (pss_cons (ps_par (i := 3) (j := 4) (by rfl) sc_l_coins.nd rfl rfl (by decide) rfl rfl (pa_cons (pe_listRg rfl (by rfl) B.b_list (prg_2 (by rfl) B.b_range pe_int (pe_op op_add (pv 2) pe_int))) (pa_cons (pe_lst pa_nil) pa_nil)) (by rfl))
      (pss_cons (ps_for PassesOwn.never rfl (pi_range1 (by rfl) B.b_range (pa_cons (pv 1) pa_nil)) (pg_name (i := 5) sc_l_coins.nd rfl (Or.inl rfl))
        (pss_one (ps_expr (pe_bm PySem.F.plainAttrs_list PySem.F.slot_list_append PySem.F.type_list_append mt_append (pv 4) (pa_cons (pe_bm PySem.F.plainAttrs_list PySem.F.slot_list_pop PySem.F.type_list_pop mt_popAt (pv 3) (pa_cons (pe_cal C_l_dip hr (pa_cons (pv 0) (pa_cons (pe_callB len_H (by rfl) B.b_len (by decide +kernel) (pa_cons (pv 3) pa_nil)) pa_nil))) pa_nil)) pa_nil)))))
      (pss_one (ps_ret (pe_callTy tuple_H (by rfl) B.b_tuple (by decide +kernel) (pa_cons (pe_callB sorted_H (by rfl) B.b_sorted (by decide +kernel) (pa_cons (pv 4) pa_nil)) pa_nil)))))), ?_⟩
  simp [tRet, tRetN, tSeq, tNext, tNever, tDrop, tIfS, tAsg, tPar, tAug, tAugS, gName, gNil, gCons, gTup, gSub, tAndV, tOrV, tNotV, tAnd, tOr, tNot, tB, tTest, tYes, tIf, tCall, tCallK, tCallN, tMake, tProp, tMeth, getSp, tCB, tCons, tNil, tVar, tC, tOp, tUn, tChain, tLst, tTup, tFld, sFld, tBM, tBM0, tSl, tPart, tNoPart, rI0, rI, rU, rEq, rNe, rIsi, tCut, tCutR, tCutS, rIntI, tSlH, tSlS, rSumH, rTupH, rSortH, tLstRg, tRg1, tRg2, rIxH, rIxHT, rLenH, rLenHT, rIxL, rIxT, rIx, rCat, rRep, rSetL, rAppend, rSum, rMax, rMin, rEqD, rNeD, rSlL, rPopAt, rSorted, rAll, rAny, rReprS, rNext, tCutT, rCatHT, rCatA, rSlA, RT.iRevA, scal, L2.start, List.replicate, and_assoc, CDiv, CMul, CPow, ipI, rSetLi, rSetTi, rSortedSetA, iAnyS, rMinT, tRevT, rLtU, rIsiI, RZ.iZipA, tDNewK, tDGet, sDPut, sp_l_dip]
  refine ⟨RgOk.of_le (by omega) (by omega) (by omega) (by omega), ?_⟩
  rw [rgV_rl]
  intro pl na
  generalize eHa : upd H pl _ = Ha
  have sa : Same H Ha := by rw [← eHa]; exact same_new na
  have ha := (congrFun eHa pl).symm.trans upd_same
  clear eHa
  intro pf nb
  generalize eHb : upd Ha pf _ = Hb
  have sb : Same Ha Hb := by rw [← eHb]; exact same_new nb
  have hb := (congrFun eHb pf).symm.trans upd_same
  clear eHb
  have hb2 := hb
  have nf : H pf = none := sa.free nb
  have e1 : pl ≠ pf := ne_of_none ha nb
  have e2 : pl ≠ b := by obtain ⟨x, y, z, hb⟩ := hbw0; exact fun z => by rw [z, hb] at na; cases na
  have e3 : pf ≠ b := by obtain ⟨x, y, z, hb⟩ := hbw0; exact fun z => by rw [z, hb] at nf; cases nf
  refine ⟨_, rfl, (n : Int), rfl, by omega, by omega, for_range (lo := 0) (n := n) (fun i σ H' => ∃ (v5 : Option V) (fs ls : List Int), σ = [some (.ref b), some (.int n), some (.int m), some (.ref pl), some (.ref pf), v5] ∧
    H' pl = some (.lst (ls.map V.int)) ∧ H' pf = some (.lst (fs.map V.int)) ∧ (fs ++ ls).Perm (rl m) ∧ fs.length = i ∧ Bw H' b ∧ But b H H') ?_ ?_ ?_⟩
  · obtain ⟨x, y, z, hb⟩ := hbw0
    exact ⟨none, [], rl m, rfl, sb _ _ ha, hb2, List.Perm.refl _, rfl, ⟨x, y, z, sb _ _ (sa _ _ hb)⟩, But.of (sa.trans sb)⟩
  · rintro i σ H' hi ⟨v5, fs, ls, rfl, hl, hf, hp, hlen, hbw, bt⟩
    have hll : 0 < ls.length := by
      have e := hp.length_eq
      rw [List.length_append, rl_len] at e
      omega
    have hle : ls.length ≤ 60 := by
      have e := hp.length_eq
      rw [List.length_append, rl_len] at e
      omega
    simp [tRet, tRetN, tSeq, tNext, tNever, tDrop, tIfS, tAsg, tPar, tAug, tAugS, gName, gNil, gCons, gTup, gSub, tAndV, tOrV, tNotV, tAnd, tOr, tNot, tB, tTest, tYes, tIf, tCall, tCallK, tCallN, tMake, tProp, tMeth, getSp, tCB, tCons, tNil, tVar, tC, tOp, tUn, tChain, tLst, tTup, tFld, sFld, tBM, tBM0, tSl, tPart, tNoPart, rI0, rI, rU, rEq, rNe, rIsi, tCut, tCutR, tCutS, rIntI, tSlH, tSlS, rSumH, rTupH, rSortH, tLstRg, tRg1, tRg2, rIxH, rIxHT, rLenH, rLenHT, rIxL, rIxT, rIx, rCat, rRep, rSetL, rAppend, rSum, rMax, rMin, rEqD, rNeD, rSlL, rPopAt, rSorted, rAll, rAny, rReprS, rNext, tCutT, rCatHT, rCatA, rSlA, RT.iRevA, scal, L2.start, List.replicate, and_assoc, CDiv, CMul, CPow, ipI, rSetLi, rSetTi, rSortedSetA, iAnyS, rMinT, tRevT, rLtU, rIsiI, RZ.iZipA, tDNewK, tDGet, sDPut, sp_l_dip, rAppend, rPopAt, hl, hf, tyV]
    refine ⟨⟨_, sqL hf⟩, ⟨_, sqL hl⟩, hbw, hll, by omega, ?_⟩
    intro r H2 r0 r1 hbw2 bt2
    obtain ⟨j, rfl⟩ : ∃ j : Nat, r = j := ⟨r.toNat, by omega⟩
    have hj : j < ls.length := by omega
    have hz : ls[j]? = some ls[j] := List.getElem?_eq_getElem hj
    refine ⟨_, bt2 _ _ e2 hl, by omega, by omega, j, seqIndex_of (by omega) (by simpa using hj), _, mapI_at hz, _, (upd_ne e1.symm).trans (bt2 _ _ e3 hf), Nat.lt_of_le_of_lt (show _ ≤ 100 by simp; omega) (by decide), fs ++ [ls[j]], ls.eraseIdx j, ?_, ?_, ?_, ?_, ?_, ?_⟩
    · rw [upd_ne e1, upd_same, erase_map]
    · rw [upd_same]
      simp
    · rw [List.append_assoc]
      exact (List.Perm.append_left fs (erase_perm hj)).trans hp
    · simp [hlen]
    · obtain ⟨x, y, z, hb3⟩ := hbw2
      exact ⟨x, y, z, by rw [upd_ne e3.symm, upd_ne e2.symm]; exact hb3⟩
    · intro c o nc hc
      rw [upd_ne (ne_of_none hc nf), upd_ne (ne_of_none hc na)]
      exact bt2 c o nc (bt c o nc hc)
  · rintro σ H' ⟨v5, fs, ls, rfl, hl, hf, hp, hlen, hbw, bt⟩
    simp [tRet, tRetN, tSeq, tNext, tNever, tDrop, tIfS, tAsg, tPar, tAug, tAugS, gName, gNil, gCons, gTup, gSub, tAndV, tOrV, tNotV, tAnd, tOr, tNot, tB, tTest, tYes, tIf, tCall, tCallK, tCallN, tMake, tProp, tMeth, getSp, tCB, tCons, tNil, tVar, tC, tOp, tUn, tChain, tLst, tTup, tFld, sFld, tBM, tBM0, tSl, tPart, tNoPart, rI0, rI, rU, rEq, rNe, rIsi, tCut, tCutR, tCutS, rIntI, tSlH, tSlS, rSumH, rTupH, rSortH, tLstRg, tRg1, tRg2, rIxH, rIxHT, rLenH, rLenHT, rIxL, rIxT, rIx, rCat, rRep, rSetL, rAppend, rSum, rMax, rMin, rEqD, rNeD, rSlL, rPopAt, rSorted, rAll, rAny, rReprS, rNext, tCutT, rCatHT, rCatA, rSlA, RT.iRevA, scal, L2.start, List.replicate, and_assoc, CDiv, CMul, CPow, ipI, rSetLi, rSetTi, rSortedSetA, iAnyS, rMinT, tRevT, rLtU, rIsiI, RZ.iZipA, tDNewK, tDGet, sDPut, hf]
    refine ⟨fs, rfl, fun ns' p hperm hord np => ⟨_, upd_same, ?_⟩⟩
    have sc := same_new (o := .lst (ns'.map V.int)) np
    generalize upd H' p (.lst (ns'.map V.int)) = Hc at sc ⊢
    intro pt nd
    generalize eHd : upd Hc pt _ = Hd
    have sd : Same Hc Hd := by rw [← eHd]; exact same_new nd
    have hd := (congrFun eHd pt).symm.trans upd_same
    clear eHd
    obtain ⟨x, y, z, hb3⟩ := hbw
    exact q pt ns' Hd (bt.free hb3 (sc.free nd)) (drawn_lot h60 hp hperm hord (by omega) (by omega)) (by have := hperm.length_eq; omega) (fun c hc => (rl_mem (hp.mem_iff.mp (List.mem_append_left ls (hperm.mem_iff.mp hc)))).2) hd ⟨x, y, z, sd _ _ (sc _ _ hb3)⟩ (bt.trans (But.of (sc.trans sd)))

abbrev s_l_many : Stmt := top 31
abbrev N_l_many : List Str := ["_law_coins_here", "_law_most", "_law_found", "_law_coin", "_law_total"]
theorem sc_l_many : FnScope N_l_many ["_law_coins_here", "_law_most"] (defScope s_l_many) := ⟨rfl, rfl, rfl, by decide +kernel, rfl, by decide +kernel, by decide +kernel⟩
theorem ok_l_many (F : FnP K "_law_many" "_law_many" s_l_many f fd) (B : Bi mg) :
    FnOk P w K mg base CX0 1 f fd ["_law_coins_here", "_law_most"] sp_l_many2 := by
  refine okF F sc_l_many (fun vs H Q E h => by repeat (first | (obtain ⟨rfl, _⟩ := h; rfl) | obtain ⟨_, h⟩ := h)) (fun cdv A outer s H vs Q E hr h => ?_)
  obtain ⟨t, cs, m, rfl, ht, hc, hm, q⟩ := h
  refine ⟨_, (pss_cons (ps_set (i := 2) sc_l_many.nd rfl (Or.inr rfl) (pe_op op_cat (pe_lst (pa_cons pe_int pa_nil)) (pe_op op_rep (pe_lst (pa_cons pe_int pa_nil)) (pv 1))))
      (pss_cons (ps_for PassesOwn.never rfl (pi_tup (pv 0)) (pg_name (i := 3) sc_l_many.nd rfl (Or.inr rfl))
        (pss_one (ps_set (i := 2) sc_l_many.nd rfl (Or.inr rfl) (pe_lc (own := [("_law_total", 4)]) (g := gName 4) (tt := tYes) (by rfl) sc_l_many.nd (pi_range1 (by rfl) B.b_range (pa_cons (pe_op op_add (pv 1) pe_int) pa_nil)) (blkOk_by (own := [("_law_total", 4)]) (N := N_l_many) (sc := defScope s_l_many) (by decide +kernel)) (fun _ _ _ _ _ => pg_name (i := 4) sc_l_many.nd rfl (Or.inl rfl)) (fun _ _ _ _ _ => pts_nil) (fun _ _ _ _ _ => (pe_callB (sum_H rfl) (by rfl) B.b_sum (by decide +kernel) (pa_cons (pe_sliceH (pv 2) (po_some (pv 4)) po_none (po_some (pe_un un_neg (pv 3))) (by rintro σ H Q Q' h ⟨v, e, q⟩; exact ⟨v, e, h _ _ q⟩) (by rintro σ H Q Q' h ⟨v, e, i, e2, q⟩; exact ⟨v, e, i, e2, h _ _ q⟩) (by intro σ H Q Q' h q; exact h _ _ q) (by rintro σ H Q Q' h ⟨v, e, i, e1, j, e2, q⟩; exact ⟨v, e, i, e1, j, e2, h _ _ q⟩)) pa_nil)))))))
      (pss_one (ps_ret (pv 2))))), ?_⟩
  simp [tRet, tRetN, tSeq, tNext, tNever, tDrop, tIfS, tAsg, tPar, tAug, tAugS, gName, gNil, gCons, gTup, gSub, tAndV, tOrV, tNotV, tAnd, tOr, tNot, tB, tTest, tYes, tIf, tCall, tCallK, tCallN, tMake, tProp, tMeth, getSp, tCB, tCons, tNil, tVar, tC, tOp, tUn, tChain, tLst, tTup, tFld, sFld, tBM, tBM0, tSl, tPart, tNoPart, rI0, rI, rU, rEq, rNe, rIsi, tCut, tCutR, tCutS, rIntI, tSlH, tSlS, rSumH, rTupH, rSortH, tLstRg, tRg1, tRg2, rIxH, rIxHT, rLenH, rLenHT, rIxL, rIxT, rIx, rCat, rRep, rSetL, rAppend, rSum, rMax, rMin, rEqD, rNeD, rSlL, rPopAt, rSorted, rAll, rAny, rReprS, rNext, tCutT, rCatHT, rCatA, rSlA, RT.iRevA, scal, L2.start, List.replicate, and_assoc, CDiv, CMul, CPow, ipI, rSetLi, rSetTi, rSortedSetA, iAnyS, rMinT, tRevT, rLtU, rIsiI, RZ.iZipA, tDNewK, tDGet, sDPut]
  refine ⟨by decide, ?_⟩
  intro p1 n1
  generalize eH1 : upd H p1 _ = H1
  have s1 : Same H H1 := by rw [← eH1]; exact same_new n1
  have h1 := (congrFun eH1 p1).symm.trans upd_same
  clear eH1
  refine ⟨by decide, ?_⟩
  intro p2 n2
  generalize eH2 : upd H1 p2 _ = H2
  have s2 : Same H1 H2 := by rw [← eH2]; exact same_new n2
  have h2 := (congrFun eH2 p2).symm.trans upd_same
  clear eH2
  refine ⟨_, h2, by omega, Nat.le_trans (show 1 * m ≤ 60001 by omega) (by decide), ?_⟩
  intro p3 n3
  generalize eH3 : upd H2 p3 _ = H3
  have s3 : Same H2 H3 := by rw [← eH3]; exact same_new n3
  have h3 := (congrFun eH3 p3).symm.trans upd_same
  clear eH3
  refine ⟨_, s3 _ _ (s2 _ _ h1), _, h3, Nat.le_trans (show _ ≤ 60001 by simp; omega) (by decide), ?_⟩
  intro p4 n4
  generalize eH4 : upd H3 p4 _ = H4
  have s4 : Same H3 H4 := by rw [← eH4]; exact same_new n4
  have h4 := (congrFun eH4 p4).symm.trans upd_same
  clear eH4
  have s04 : Same H H4 := ((s1.trans s2).trans s3).trans s4
  have n4' : H p4 = none := ((s1.trans s2).trans s3).free n4
  have e4 : H4 p4 = some (.lst ((tab (m + 1) w0).map V.int)) := by
    rw [h4, ← tab_w0]
    simp
  refine ⟨_, rfl, t, rfl, ⟨_, sqT (s04 _ _ ht)⟩, for_tup (xs := cs.map V.int) (fun i σ H' => ∃ (v3 : Option V) (pl : Addr), σ = [some (.ref t), some (.int m), some (.ref pl), v3, none] ∧ Same H H' ∧ H pl = none ∧ H' pl = some (.lst ((tab (m + 1) ((cs.take i).foldl (fun w c => stp c.toNat w) w0)).map V.int)))
    ⟨none, p4, rfl, s04, n4', e4⟩ (fun i σ H' _ ⟨_, _, _, s', _⟩ => sqT (s' _ _ ht)) ?_ ?_⟩
  · rintro i x σ H' hx ⟨v3, pl, rfl, s', npl, hl⟩
    obtain ⟨z, hz, rfl⟩ := int_at hx
    have hb := hc z (List.mem_of_getElem? hz)
    obtain ⟨c, rfl⟩ : ∃ c : Nat, z = c := ⟨z.toNat, by omega⟩
    have hc0 : 0 < c := by omega
    generalize hg : (cs.take i).foldl (fun w c => stp c.toNat w) w0 = g at hl
    refine ⟨_, rfl, _, _, rfl, rfl, (m : Int) + 1, rfl, by omega, by omega, fun D nD => lc_range (lo := 0) (n := m + 1) (fun j H2 => Same H' H2 ∧ H2 D = some (.lst ((tab j (stp c g)).map V.int))) ⟨same_new nD, upd_same⟩ ?_ ?_⟩
    · rintro j H2 hj ⟨s2', hD⟩
      have hl2 := s2' _ _ hl
      simp [tRet, tRetN, tSeq, tNext, tNever, tDrop, tIfS, tAsg, tPar, tAug, tAugS, gName, gNil, gCons, gTup, gSub, tAndV, tOrV, tNotV, tAnd, tOr, tNot, tB, tTest, tYes, tIf, tCall, tCallK, tCallN, tMake, tProp, tMeth, getSp, tCB, tCons, tNil, tVar, tC, tOp, tUn, tChain, tLst, tTup, tFld, sFld, tBM, tBM0, tSl, tPart, tNoPart, rI0, rI, rU, rEq, rNe, rIsi, tCut, tCutR, tCutS, rIntI, tSlH, tSlS, rSumH, rTupH, rSortH, tLstRg, tRg1, tRg2, rIxH, rIxHT, rLenH, rLenHT, rIxL, rIxT, rIx, rCat, rRep, rSetL, rAppend, rSum, rMax, rMin, rEqD, rNeD, rSlL, rPopAt, rSorted, rAll, rAny, rReprS, rNext, tCutT, rCatHT, rCatA, rSlA, RT.iRevA, scal, L2.start, List.replicate, and_assoc, CDiv, CMul, CPow, ipI, rSetLi, rSetTi, rSortedSetA, iAnyS, rMinT, tRevT, rLtU, rIsiI, RZ.iZipA, tDNewK, tDGet, sDPut, wipe, hl2]
      refine ⟨by omega, ?_, ?_⟩
      · rw [pick_map, pick_down hc0 hj]
        refine Nat.le_trans (show _ ≤ 120000 from ?_) (by decide)
        simp
        have := Nat.div_le_self j c
        omega
      · rw [pick_map, pick_down hc0 hj]
        intro p5 n5
        generalize eH5 : upd H2 p5 _ = H5
        have s5 : Same H2 H5 := by rw [← eH5]; exact same_new n5
        have h5 := (congrFun eH5 p5).symm.trans upd_same
        clear eH5
        refine ⟨_, h5, _, s5 _ _ hD, Nat.lt_of_le_of_lt (show _ ≤ 120000 by simp [tab_len]; omega) (by decide), ?_, ?_⟩
        · intro a o ha
          rw [upd_ne (ne_of_none ha nD)]
          exact s5 _ _ (s2' _ _ ha)
        · rw [upd_same, down_sum hc0, tab_succ]
          simp
    · rintro H2 ⟨s2', hD⟩
      have hn : ((0 : Int) + ((m : Int) + 1)).toNat = m + 1 := by omega
      refine ⟨_, D, rfl, s'.trans s2', s'.free nD, ?_⟩
      rw [take_fold hz, hg]
      exact hD
  · rintro σ H' ⟨v3, pl, rfl, s', npl, hl⟩
    simp [tRet, tRetN, tSeq, tNext, tNever, tDrop, tIfS, tAsg, tPar, tAug, tAugS, gName, gNil, gCons, gTup, gSub, tAndV, tOrV, tNotV, tAnd, tOr, tNot, tB, tTest, tYes, tIf, tCall, tCallK, tCallN, tMake, tProp, tMeth, getSp, tCB, tCons, tNil, tVar, tC, tOp, tUn, tChain, tLst, tTup, tFld, sFld, tBM, tBM0, tSl, tPart, tNoPart, rI0, rI, rU, rEq, rNe, rIsi, tCut, tCutR, tCutS, rIntI, tSlH, tSlS, rSumH, rTupH, rSortH, tLstRg, tRg1, tRg2, rIxH, rIxHT, rLenH, rLenHT, rIxL, rIxT, rIx, rCat, rRep, rSetL, rAppend, rSum, rMax, rMin, rEqD, rNeD, rSlL, rPopAt, rSorted, rAll, rAny, rReprS, rNext, tCutT, rCatHT, rCatA, rSlA, RT.iRevA, scal, L2.start, List.replicate, and_assoc, CDiv, CMul, CPow, ipI, rSetLi, rSetTi, rSortedSetA, iAnyS, rMinT, tRevT, rLtU, rIsiI, RZ.iZipA, tDNewK, tDGet, sDPut]
    refine q pl H' npl s' ?_
    rw [hl]
    simp [cnt]

end
end Kx

-- SXEXT: rSetLi, rSetTi, rSortedSetA, iAnyS, rMinT, tRevT, rLtU, rIsiI, RZ.iZipA, tDNewK, tDGet, sDPut
namespace Kx
open PySem L2 MG KM
section
variable {P : Program} {w : World} {K : PySem.W.Frag} {mg : Str → Option Value} {base : Heap} {f : Addr} {fd : FuncData} {C : Addr}
abbrev s_l_all : Stmt := top 32
abbrev N_l_all : List Str := ["_law_coins_here", "_law_total", "_law_found", "_law_often", "_law_rest"]
theorem sc_l_all : FnScope N_l_all ["_law_coins_here", "_law_total"] (defScope s_l_all) := ⟨rfl, rfl, rfl, by decide +kernel, rfl, by decide +kernel, by decide +kernel⟩
theorem ok_l_all (F : FnP K "_law_all" "_law_all" s_l_all f fd) (B : Bi mg) (g : mg "_law_all" = some (.ref f)) (hb : Binds K fd ["_law_coins_here", "_law_total"] []) : ∀ d : Nat,
    FnOk P w K mg base CX0 (d + 1) f fd ["_law_coins_here", "_law_total"] (sp_l_all2 d) := by
  intro d
  induction d with
  | zero =>
    exact fnOk_no (by rintro a b c d ⟨t, cs, n, _, _, _, h1, h2, _⟩; exact h1 (List.length_eq_zero_iff.mp (by omega)))
  | succ d ih =>
  have C_l_all : Cal P w K mg base (d + 1) "_law_all" ["_law_coins_here", "_law_total"] (sp_l_all2 d) := calOf g F hb ih
  refine okF F sc_l_all (fun vs H Q E h => by repeat (first | (obtain ⟨rfl, _⟩ := h; rfl) | obtain ⟨_, h⟩ := h)) (fun cdv A outer s H vs Q E hr h => ?_)
  obtain ⟨t, cs, n, rfl, ht, hc, hne, hd, hd15, hn, h400, q⟩ := h
  refine ⟨_, (pss_cons (ps_if (pt_cmpR op_eq (pe_callB len_HT (by rfl) B.b_len (by decide +kernel) (pa_cons (pv 0) pa_nil)) pe_int (nomark _))
      (pss_one (ps_ret (pe_ifExp (pt_cmpR op_eq (pe_op op_mod (pe_callTy int_I (by rfl) B.b_int (by decide +kernel) (pa_cons (pv 1) pa_nil)) (pe_ix ix_HT (pv 0) pe_int (fun _ _ => rfl))) pe_int (nomark _)) (pe_lst (pa_cons (pe_tup (pa_cons (pe_op op_fdiv (pv 1) (pe_ix ix_HT (pv 0) pe_int (fun _ _ => rfl))) pa_nil)) pa_nil)) (pe_lst pa_nil))))
      pss_nil)
    (pss_cons (ps_set (i := 2) sc_l_all.nd rfl (Or.inl rfl) (pe_lst pa_nil))
    (pss_cons (ps_for PassesOwn.never rfl (pi_range1 (by rfl) B.b_range (pa_cons (pe_op op_add (pe_op op_fdiv (pv 1) (pe_ix ix_HT (pv 0) pe_int (fun _ _ => rfl))) pe_int) pa_nil)) (pg_name (i := 3) sc_l_all.nd rfl (Or.inr rfl))
      (pss_one (ps_expr (pe_bm PySem.F.plainAttrs_list PySem.F.slot_list_extend PySem.F.type_list_extend mt_extend (pv 2) (pa_cons (pe_lc (own := [("_law_rest", 4)]) (g := gName 4) (tt := tYes)  (by rfl) sc_l_all.nd (pi_list (pe_cal C_l_all hr (pa_cons (pe_slice sl_tupA (pv 0) (po_some pe_int) po_none) (pa_cons (pe_op op_sub (pv 1) (pe_op op_mul (pv 3) (pe_ix ix_HT (pv 0) pe_int (fun _ _ => rfl)))) pa_nil)) (hk := Nat.le_refl _))) (blkOk_by (own := [("_law_rest", 4)]) (N := N_l_all) (sc := defScope s_l_all) (by decide +kernel)) (fun _ _ _ _ _ => pg_name (i := 4) sc_l_all.nd rfl (Or.inl rfl)) (fun _ _ _ _ _ => pts_nil) (fun _ _ _ _ _ => (pe_op cat_HT (pe_tup (pa_cons (pv 3) pa_nil)) (pv 4)))) pa_nil)))))
    (pss_one (ps_ret (pv 2)))))), ?_⟩
  simp [tRet, tRetN, tSeq, tNext, tNever, tDrop, tIfS, tAsg, tPar, tAug, tAugS, gName, gNil, gCons, gTup, gSub, tAndV, tOrV, tNotV, tAnd, tOr, tNot, tB, tTest, tYes, tIf, tCall, tCallK, tCallN, tMake, tProp, tMeth, getSp, tCB, tCons, tNil, tVar, tC, tOp, tUn, tChain, tLst, tTup, tFld, sFld, tBM, tBM0, tSl, tPart, tNoPart, rI0, rI, rU, rEq, rNe, rIsi, tCut, tCutR, tCutS, rIntI, tSlH, tSlS, rSumH, rTupH, rSortH, tLstRg, tRg1, tRg2, rIxH, rIxHT, rLenH, rLenHT, rIxL, rIxT, rIx, rCat, rRep, rSetL, rAppend, rSum, rMax, rMin, rEqD, rNeD, rSlL, rPopAt, rSorted, rAll, rAny, rReprS, rNext, tCutT, rCatHT, rCatA, rSlA, RT.iRevA, scal, L2.start, List.replicate, and_assoc, CDiv, CMul, CPow, ipI, rSetLi, rSetTi, rSortedSetA, iAnyS, rMinT, tRevT, rLtU, rIsiI, RZ.iZipA, tDNewK, tDGet, sDPut]
  obtain ⟨c, cr, rfl⟩ : ∃ c cr, cs = c :: cr := by
    cases cs with
    | nil => exact absurd rfl hne
    | cons c cr => exact ⟨c, cr, rfl⟩
  have hc0 := hc c (by simp)
  have hcr : ∀ d ∈ cr, 1 ≤ d ∧ d ≤ 60 := fun d hd => hc d (by simp [hd])
  obtain ⟨k, rfl⟩ : ∃ k : Nat, c = k := ⟨c.toNat, by omega⟩
  have hat : atI (((k : Int) :: cr).map V.int) 0 = some (.int k) := atI_of (i := 0) rfl rfl
  refine ⟨_, ht, ?_⟩
  by_cases hcre : cr = []
  · subst hcre
    rw [if_pos (by simp)]
    refine ⟨_, ht, _, hat, k, rfl, by omega, ?_⟩
    rw [all_one (by omega), Int.toNat_natCast] at q
    by_cases hz : n % k = 0
    · rw [if_pos (by omega)]
      rw [if_pos hz] at q
      refine ⟨_, ht, _, hat, k, rfl, by omega, by omega, by decide, ?_⟩
      intro pa na
      generalize eHa : upd H pa _ = Ha
      have sa : Same H Ha := by rw [← eHa]; exact same_new na
      have ha := (congrFun eHa pa).symm.trans upd_same
      clear eHa
      refine ⟨by decide, ?_⟩
      intro pb nb
      generalize eHb : upd Ha pb _ = Hb
      have sb : Same Ha Hb := by rw [← eHb]; exact same_new nb
      have hb := (congrFun eHb pb).symm.trans upd_same
      clear eHb
      refine q pb Hb (sa.free nb) (sa.trans sb) ⟨[pa], hb, rfl, ?_⟩
      intro i p l e1 e2
      cases i with
      | zero =>
        simp at e1 e2
        subst e1 e2
        rw [sb _ _ ha]
        rfl
      | succ i => simp at e1
    · rw [if_neg (by omega)]
      rw [if_neg hz] at q
      intro pb nb
      generalize eHb : upd H pb _ = Hb
      have sb : Same H Hb := by rw [← eHb]; exact same_new nb
      have hb := (congrFun eHb pb).symm.trans upd_same
      clear eHb
      exact q pb Hb nb sb ⟨[], hb, Each.nil⟩
  · rw [if_neg (by have := List.length_pos_iff.mpr hcre; simp; omega)]
    intro pf n1
    generalize eH1 : upd H pf _ = H1
    have s1 : Same H H1 := by rw [← eH1]; exact same_new n1
    have h1 := (congrFun eH1 pf).symm.trans upd_same
    clear eH1
    have h1' := h1
    have ht1 := s1 _ _ ht
    refine ⟨_, rfl, _, rfl, t, _, 0, _, rfl, rfl, ht1, hat, n, k, rfl, rfl, ⟨by omega, by omega⟩, _, _, rfl, rfl, _, rfl, ?_, ?_, for_range (lo := 0) (fun i σ H' => ∃ (v3 : Option V) (ps : List Addr), σ = [some (.ref t), some (.int n), some (.ref pf), v3, none] ∧ Same H H' ∧ H' pf = some (.lst (ps.map V.ref)) ∧ Each H' ps ((List.range' 0 i).flatMap (blk k (allP cr) n))) ⟨none, [], rfl, s1, h1', Each.nil⟩ ?_ ?_⟩
    · have : (0 : Int) ≤ (n : Int) / (k : Int) := Int.ediv_nonneg (by omega) (by omega)
      omega
    · have := Nat.div_le_self n k
      have e : (n : Int) / (k : Int) = ((n / k : Nat) : Int) := rfl
      omega
    · rintro i σ H' hi ⟨v3, ps, rfl, s', hf, hE⟩
      have e : ((n : Int) / (k : Int) + 1).toNat = n / k + 1 := rfl
      have hi' : i ≤ n / k := by omega
      have hik : i * k ≤ n := (Nat.le_div_iff_mul_le (by omega)).mp hi'
      have ht' := s' _ _ ht
      simp [tRet, tRetN, tSeq, tNext, tNever, tDrop, tIfS, tAsg, tPar, tAug, tAugS, gName, gNil, gCons, gTup, gSub, tAndV, tOrV, tNotV, tAnd, tOr, tNot, tB, tTest, tYes, tIf, tCall, tCallK, tCallN, tMake, tProp, tMeth, getSp, tCB, tCons, tNil, tVar, tC, tOp, tUn, tChain, tLst, tTup, tFld, sFld, tBM, tBM0, tSl, tPart, tNoPart, rI0, rI, rU, rEq, rNe, rIsi, tCut, tCutR, tCutS, rIntI, tSlH, tSlS, rSumH, rTupH, rSortH, tLstRg, tRg1, tRg2, rIxH, rIxHT, rLenH, rLenHT, rIxL, rIxT, rIx, rCat, rRep, rSetL, rAppend, rSum, rMax, rMin, rEqD, rNeD, rSlL, rPopAt, rSorted, rAll, rAny, rReprS, rNext, tCutT, rCatHT, rCatA, rSlA, RT.iRevA, scal, L2.start, List.replicate, and_assoc, CDiv, CMul, CPow, ipI, rSetLi, rSetTi, rSortedSetA, iAnyS, rMinT, tRevT, rLtU, rIsiI, RZ.iZipA, tDNewK, tDGet, sDPut]
      refine ⟨.inl ⟨rfl, _, sqL hf⟩, _, rfl, 1, rfl, t, _, rfl, sqT ht', fun w => ?_, fun _ => ?_⟩
      · exfalso
        have := w.1
        simp [HT.sIx] at this
      · rw [show (((k : Int) :: cr).map V.int) = V.int k :: cr.map V.int from rfl, cut_tail]
        intro pc na
        generalize eHa : upd H' pc _ = Ha
        have sa : Same H' Ha := by rw [← eHa]; exact same_new na
        have ha := (congrFun eHa pc).symm.trans upd_same
        clear eHa
        refine ⟨_, rfl, _, rfl, _, rfl, t, _, 0, _, rfl, rfl, sa _ _ ht', hat, (i : Int), (k : Int), rfl, rfl, ?_, (n : Int), _, rfl, rfl, pc, cr, n - i * k, ?_, ha, hcr, hcre, ?_, by omega, by omega, ?_, fun l Hb nl sb hR => ?_⟩
        · have := Nat.div_le_self n k
          exact .inl ⟨by omega, by omega⟩
        · show [V.ref pc, V.int ((n : Int) - (i : Int) * (k : Int))] = _
          rw [Int.natCast_sub hik, Int.natCast_mul]
        · simp at hd
          omega
        · exact Nat.le_trans (all_less (c := (k : Int)) hi') h400
        · obtain ⟨qs, hl, hQ⟩ := hR
          have sab := sa.trans sb
          have hlen : (allP cr (n - i * k)).length ≤ 400000 := Nat.le_trans (all_less (c := (k : Int)) hi') h400
          refine ⟨l, rfl, ⟨_, sqL hl⟩, fun D nD => lc_list (xs := qs.map V.ref) (fun j H2 => Same Hb H2 ∧ ∃ rs : List Addr, H2 D = some (.lst (rs.map V.ref)) ∧ Each H2 rs (((allP cr (n - i * k)).take j).map (fun p => (i : Int) :: p))) ⟨same_new nD, [], upd_same, Each.nil⟩ (fun j H2 _ ⟨s2, _⟩ => sqL (s2 _ _ hl)) ?_ ?_⟩
          · rintro j x H2 hx ⟨s2, rs, hD, hR⟩
            obtain ⟨pr, hpr, rfl⟩ := ref_at hx
            have hj : j < (allP cr (n - i * k)).length := by
              have := (List.getElem?_eq_some_iff.mp hpr).1
              have := hQ.1
              omega
            have hr : (allP cr (n - i * k))[j]? = some (allP cr (n - i * k))[j] := List.getElem?_eq_getElem hj
            have hrow := s2 _ _ (hQ.2 j pr _ hpr hr)
            have hrl := all_len_of (fun d hd => (hcr d hd).1) hr
            generalize (allP cr (n - i * k))[j] = row at hr hrow hrl
            have hcr0 := List.length_pos_iff.mpr hcre
            have hrne : row ≠ [] := fun z => by rw [z] at hrl; simp at hrl; omega
            simp [tRet, tRetN, tSeq, tNext, tNever, tDrop, tIfS, tAsg, tPar, tAug, tAugS, gName, gNil, gCons, gTup, gSub, tAndV, tOrV, tNotV, tAnd, tOr, tNot, tB, tTest, tYes, tIf, tCall, tCallK, tCallN, tMake, tProp, tMeth, getSp, tCB, tCons, tNil, tVar, tC, tOp, tUn, tChain, tLst, tTup, tFld, sFld, tBM, tBM0, tSl, tPart, tNoPart, rI0, rI, rU, rEq, rNe, rIsi, tCut, tCutR, tCutS, rIntI, tSlH, tSlS, rSumH, rTupH, rSortH, tLstRg, tRg1, tRg2, rIxH, rIxHT, rLenH, rLenHT, rIxL, rIxT, rIx, rCat, rRep, rSetL, rAppend, rSum, rMax, rMin, rEqD, rNeD, rSlL, rPopAt, rSorted, rAll, rAny, rReprS, rNext, tCutT, rCatHT, rCatA, rSlA, RT.iRevA, scal, L2.start, List.replicate, and_assoc, CDiv, CMul, CPow, ipI, rSetLi, rSetTi, rSortedSetA, iAnyS, rMinT, tRevT, rLtU, rIsiI, RZ.iZipA, tDNewK, tDGet, sDPut, wipe]
            refine ⟨by decide, ?_⟩
            intro p1 n3
            generalize eH3 : upd H2 p1 _ = H3
            have s3 : Same H2 H3 := by rw [← eH3]; exact same_new n3
            have h3 := (congrFun eH3 p1).symm.trans upd_same
            clear eH3
            refine ⟨_, h3, _, s3 _ _ hrow, by simp, Nat.le_trans (show _ ≤ 100 by simp; simp at hd; omega) (by decide), fun z => absurd (by simpa using z) hrne, fun _ => ?_⟩
            intro p2 n4
            generalize eH4 : upd H3 p2 _ = H4
            have s4 : Same H3 H4 := by rw [← eH4]; exact same_new n4
            have h4 := (congrFun eH4 p2).symm.trans upd_same
            clear eH4
            have s24 := s3.trans s4
            have hD4 := s24 _ _ hD
            refine ⟨_, hD4, Nat.lt_of_le_of_lt (show _ ≤ 400000 by have := hR.1; simp at this; simp; omega) (by decide), Same.updN (s2.trans s24) nD, rs ++ [p2], ?_, ?_⟩
            · rw [upd_same]
              simp
            · rw [List.take_add_one, List.getElem?_map, hr]
              simp only [List.map_take] at hR
              exact ((hR.same s24).snoc (l := (i : Int) :: row) h4).upd hD4
          · rintro H2 ⟨s2, rs, hD, hR⟩
            have hl3 : (qs.map V.ref).length = (allP cr (n - i * k)).length := by simp [hQ.1]
            rw [hl3, List.take_length] at hR
            have hf2 := s2 _ _ (sab _ _ hf)
            have hE2 := hE.same (sab.trans s2)
            have hfin : Each H2 (ps ++ rs) ((List.range' 0 (i + 1)).flatMap (blk k (allP cr) n)) := by
              rw [from_take]
              exact hE2.append hR
            have hsz := part_le (c := k) (n := n) (q := allP cr) (k := i + 1) (m := n / k + 1) (by omega)
            rw [from_all] at hsz
            have hps : ps.length + rs.length ≤ 400000 := by
              have := hfin.1
              simp only [List.length_append] at this
              rw [this]
              exact Nat.le_trans hsz h400
            refine ⟨pf, D, _, _, rfl, rfl, hf2, hD, Nat.le_trans (show _ ≤ 400000 by simp; omega) (by decide), Same.updN (s'.trans (sab.trans s2)) n1, ps ++ rs, ?_, hfin.upd hf2⟩
            rw [upd_same]
            simp
    · rintro σ H' ⟨v3, ps, rfl, s', hf, hE⟩
      simp [tRet, tRetN, tSeq, tNext, tNever, tDrop, tIfS, tAsg, tPar, tAug, tAugS, gName, gNil, gCons, gTup, gSub, tAndV, tOrV, tNotV, tAnd, tOr, tNot, tB, tTest, tYes, tIf, tCall, tCallK, tCallN, tMake, tProp, tMeth, getSp, tCB, tCons, tNil, tVar, tC, tOp, tUn, tChain, tLst, tTup, tFld, sFld, tBM, tBM0, tSl, tPart, tNoPart, rI0, rI, rU, rEq, rNe, rIsi, tCut, tCutR, tCutS, rIntI, tSlH, tSlS, rSumH, rTupH, rSortH, tLstRg, tRg1, tRg2, rIxH, rIxHT, rLenH, rLenHT, rIxL, rIxT, rIx, rCat, rRep, rSetL, rAppend, rSum, rMax, rMin, rEqD, rNeD, rSlL, rPopAt, rSorted, rAll, rAny, rReprS, rNext, tCutT, rCatHT, rCatA, rSlA, RT.iRevA, scal, L2.start, List.replicate, and_assoc, CDiv, CMul, CPow, ipI, rSetLi, rSetTi, rSortedSetA, iAnyS, rMinT, tRevT, rLtU, rIsiI, RZ.iZipA, tDNewK, tDGet, sDPut]
      refine q pf H' n1 s' ⟨ps, hf, ?_⟩
      have e : (((n : Int) / (k : Int)) + 1).toNat = n / k + 1 := rfl
      rw [e] at hE
      exact hE

end
end Kx

-- SXEXT: rSetLi, rSetTi, rSortedSetA, iAnyS, rMinT, tRevT, rLtU, rIsiI, RZ.iZipA, tDNewK, tDGet, sDPut
namespace Kx
open PySem L2 MG KM
section
variable {P : Program} {w : World} {K : PySem.W.Frag} {mg : Str → Option Value} {base : Heap} {f : Addr} {fd : FuncData} {C : Addr}
abbrev s_check_number : Stmt := top 15
abbrev N_check_number : List Str := ["number", "low", "high"]
theorem sc_check_number : FnScope N_check_number ["number", "low", "high"] (defScope s_check_number) := ⟨rfl, rfl, rfl, by decide +kernel, rfl, by decide +kernel, by decide +kernel⟩
theorem ok_check_number (F : FnP K "check_number" "check_number" s_check_number f fd) (C_is_between : Cal P w K mg base 2 "is_between" ["value", "low", "high"] sp_is_between) :
    FnOk P w K mg base CX0 3 f fd ["number", "low", "high"] sp_check_number := by
  refine okF F sc_check_number (fun vs H Q E h => by repeat (first | (obtain ⟨rfl, _⟩ := h; rfl) | obtain ⟨_, h⟩ := h)) (fun cdv A outer s H vs Q E hr h => ?_)
  obtain ⟨n, a, b, rfl, h0, h1, q⟩ := h
  refine ⟨_, (pss_one (ps_if (pt_not (pt_val (pe_cal C_is_between hr (pa_cons (pv 0) (pa_cons (pv 1) (pa_cons (pv 2) pa_nil))))))
      (pss_one ps_never)
      pss_nil)), ?_⟩
  simp [tRet, tRetN, tSeq, tNext, tNever, tDrop, tIfS, tAsg, tPar, tAug, tAugS, gName, gNil, gCons, gTup, gSub, tAndV, tOrV, tNotV, tAnd, tOr, tNot, tB, tTest, tYes, tIf, tCall, tCallK, tCallN, tMake, tProp, tMeth, getSp, tCB, tCons, tNil, tVar, tC, tOp, tUn, tChain, tLst, tTup, tFld, sFld, tBM, tBM0, tSl, tPart, tNoPart, rI0, rI, rU, rEq, rNe, rIsi, tCut, tCutR, tCutS, rIntI, tSlH, tSlS, rSumH, rTupH, rSortH, tLstRg, tRg1, tRg2, rIxH, rIxHT, rLenH, rLenHT, rIxL, rIxT, rIx, rCat, rRep, rSetL, rAppend, rSum, rMax, rMin, rEqD, rNeD, rSlL, rPopAt, rSorted, rAll, rAny, rReprS, rNext, tCutT, rCatHT, rCatA, rSlA, RT.iRevA, scal, L2.start, List.replicate, and_assoc, CDiv, CMul, CPow, ipI, rSetLi, rSetTi, rSortedSetA, iAnyS, rMinT, tRevT, rLtU, rIsiI, RZ.iZipA, tDNewK, tDGet, sDPut, sp_is_between, h0, h1, q]

abbrev s_ways_by_coins : Stmt := top 22
abbrev N_ways_by_coins : List Str := ["rows", "coins", "most", "amount", "number", "row", "at", "coin"]
theorem sc_ways_by_coins : FnScope N_ways_by_coins ["rows", "coins", "most"] (defScope s_ways_by_coins) := ⟨rfl, rfl, rfl, by decide +kernel, rfl, by decide +kernel, by decide +kernel⟩
theorem ok_ways_by_coins (F : FnP K "ways_by_coins" "ways_by_coins" s_ways_by_coins f fd) (B : Bi mg) :
    FnOk P w K mg base CX0 1 f fd ["rows", "coins", "most"] sp_ways_by_coins := by
  refine okF F sc_ways_by_coins (fun vs H Q E h => by repeat (first | (obtain ⟨rfl, _⟩ := h; rfl) | obtain ⟨_, h⟩ := h)) (fun cdv A outer s H vs Q E hr h => ?_)
  obtain ⟨l, t, cs, W, ps, rfl, hl, hE, ht, hc, hW, hW2, hps, q⟩ := h
  refine ⟨_, (pss_cons (ps_set (i := 3) sc_ways_by_coins.nd rfl (Or.inl rfl) (pe_callB len_H (by rfl) B.b_len (by decide +kernel) (pa_cons (pv 0) pa_nil)))
    (pss_cons (ps_set (i := 4) sc_ways_by_coins.nd rfl (Or.inl rfl) (pe_ifExp (pt_cmpR op_eq (pv 3) pe_int (nomark _)) pe_int pe_int))
    (pss_cons (ps_set (i := 5) sc_ways_by_coins.nd rfl (Or.inl rfl) (pe_lst pa_nil))
    (pss_cons (ps_for PassesOwn.never rfl (pi_enumT (by rfl) B.b_enumerate (pa_cons (pv 1) pa_nil)) (pg_tup (by rfl) (pgs_cons (pg_name (i := 6) sc_ways_by_coins.nd rfl (Or.inl rfl)) (pgs_cons (pg_name (i := 7) sc_ways_by_coins.nd rfl (Or.inl rfl)) pgs_nil)))
      (pss_cons (ps_if (pt_cmpR op_le (pv 7) (pv 3) (nomark _))
        (pss_one (ps_set (i := 4) sc_ways_by_coins.nd rfl (Or.inl rfl) (pe_callB (call_min2 rfl) (by rfl) B.b_min (by decide +kernel) (pa_cons (pe_op op_add (pv 4) (pe_ix ix_H (pe_ix ix_H (pv 0) (pe_op op_sub (pv 3) (pv 7)) (fun _ _ => rfl)) (pv 6) (fun _ _ => rfl))) (pa_cons (pv 2) pa_nil)))))
        pss_nil)
      (pss_one (ps_expr (pe_bm PySem.F.plainAttrs_list PySem.F.slot_list_append PySem.F.type_list_append mt_append (pv 5) (pa_cons (pv 4) pa_nil))))))
    (pss_one (ps_ret (pv 5))))))), ?_⟩
  have h60 := lot_pos (Int.le_refl 0) hc.up
  have hc1 : ∀ d ∈ cs, 1 ≤ d := fun d hd => (h60 d hd).1
  have hfew := hc.few
  simp [tRet, tRetN, tSeq, tNext, tNever, tDrop, tIfS, tAsg, tPar, tAug, tAugS, gName, gNil, gCons, gTup, gSub, tAndV, tOrV, tNotV, tAnd, tOr, tNot, tB, tTest, tYes, tIf, tCall, tCallK, tCallN, tMake, tProp, tMeth, getSp, tCB, tCons, tNil, tVar, tC, tOp, tUn, tChain, tLst, tTup, tFld, sFld, tBM, tBM0, tSl, tPart, tNoPart, rI0, rI, rU, rEq, rNe, rIsi, tCut, tCutR, tCutS, rIntI, tSlH, tSlS, rSumH, rTupH, rSortH, tLstRg, tRg1, tRg2, rIxH, rIxHT, rLenH, rLenHT, rIxL, rIxT, rIx, rCat, rRep, rSetL, rAppend, rSum, rMax, rMin, rEqD, rNeD, rSlL, rPopAt, rSorted, rAll, rAny, rReprS, rNext, tCutT, rCatHT, rCatA, rSlA, RT.iRevA, scal, L2.start, List.replicate, and_assoc, CDiv, CMul, CPow, ipI, rSetLi, rSetTi, rSortedSetA, iAnyS, rMinT, tRevT, rLtU, rIsiI, RZ.iZipA, tDNewK, tDGet, sDPut]
  refine ⟨_, hl, ?_⟩
  split
  all_goals
    rename_i e0
    simp only [List.length_map]
    intro p1 n1
    generalize eH1 : upd H p1 _ = H1
    have s1 : Same H H1 := by rw [← eH1]; exact same_new n1
    have h1 := (congrFun eH1 p1).symm.trans upd_same
    clear eH1
    have ht1 := s1 _ _ ht
    refine ⟨_, rfl, t, _, rfl, sqT ht1, for_enT (xs := cs.map V.int) (fun i σ H' => ∃ (z : Int) (v6 v7 : Option V), σ = [some (.ref l), some (.ref t), some (.int ((W : Int) + 1)), some (.int ps.length), some (.int z), some (.ref p1), v6, v7] ∧ z = KF.cap (W + 1) (cnt (cs.take i) ps.length) ∧ Same H H' ∧ H' p1 = some (.lst (((KF.rowC (W + 1) cs ps.length).take i).map V.int))) ⟨_, none, none, rfl, ?_, s1, by simpa using h1⟩ (fun i σ H' ⟨_, _, _, _, _, s, _⟩ => sqT (s _ _ ht)) ?_ ?_⟩
    · first
        | (have : ps = [] := by simpa using e0
           subst this
           simp [KF.cap, cnt, w0]
           omega)
        | (have : ps.length ≠ 0 := fun z => e0 (by simp [List.length_eq_zero_iff.mp z])
           simp [KF.cap, cnt, w0, this]
           omega)
    · rintro i x T' σ H' hx ⟨z, v6, v7, rfl, hz, s, hr⟩ hT
      obtain ⟨c, hcc, rfl⟩ := int_at hx
      have hi : i < cs.length := (List.getElem?_eq_some_iff.mp hcc).1
      have s' : Same H (upd H' T' (.tup [.int (i : Nat), .int c])) := s.trans (same_new hT)
      have hr' := (same_new hT (o := .tup [.int (i : Nat), .int c])) _ _ hr
      refine ⟨T', _, rfl, sqT upd_same, rfl, ?_⟩
      generalize upd H' T' (.tup [.int (i : Nat), .int c]) = Ha at s' hr' ⊢
      have c1 := hc1 c (List.mem_of_getElem? hcc)
      have hlen : ((KF.rowC (W + 1) cs ps.length).take i).length ≤ 100 := by
        rw [List.length_take, KF.rowC_len]
        omega
      have hend : ∀ v : Int, v = KF.cap (W + 1) (cnt (cs.take (i + 1)) ps.length) → v = KF.cap (W + 1) (cnt (cs.take (i + 1)) ps.length) ∧ Same H (upd Ha p1 (.lst (((KF.rowC (W + 1) cs ps.length).take i).map V.int ++ [V.int v]))) ∧ upd Ha p1 (.lst (((KF.rowC (W + 1) cs ps.length).take i).map V.int ++ [V.int v])) p1 = some (.lst (List.take (i + 1) (List.map V.int (KF.rowC (W + 1) cs ps.length)))) := fun v hv => by
        refine ⟨hv, Same.updN s' n1, ?_⟩
        rw [upd_same, hv]
        have e := KF.rowC_at (M := (W : Int) + 1) (cs := cs) (n := ps.length) hi
        generalize KF.cap (W + 1) (cnt (cs.take (i + 1)) ps.length) = u at e ⊢
        generalize KF.rowC (W + 1) cs ps.length = ro at e ⊢
        rw [← List.map_take, List.take_add_one, e]
        simp
      simp [tRet, tRetN, tSeq, tNext, tNever, tDrop, tIfS, tAsg, tPar, tAug, tAugS, gName, gNil, gCons, gTup, gSub, tAndV, tOrV, tNotV, tAnd, tOr, tNot, tB, tTest, tYes, tIf, tCall, tCallK, tCallN, tMake, tProp, tMeth, getSp, tCB, tCons, tNil, tVar, tC, tOp, tUn, tChain, tLst, tTup, tFld, sFld, tBM, tBM0, tSl, tPart, tNoPart, rI0, rI, rU, rEq, rNe, rIsi, tCut, tCutR, tCutS, rIntI, tSlH, tSlS, rSumH, rTupH, rSortH, tLstRg, tRg1, tRg2, rIxH, rIxHT, rLenH, rLenHT, rIxL, rIxT, rIx, rCat, rRep, rSetL, rAppend, rSum, rMax, rMin, rEqD, rNeD, rSlL, rPopAt, rSorted, rAll, rAny, rReprS, rNext, tCutT, rCatHT, rCatA, rSlA, RT.iRevA, scal, L2.start, List.replicate, and_assoc, CDiv, CMul, CPow, ipI, rSetLi, rSetTi, rSortedSetA, iAnyS, rMinT, tRevT, rLtU, rIsiI, RZ.iZipA, tDNewK, tDGet, sDPut]
      by_cases hcn : c ≤ (ps.length : Int)
      · rw [if_pos hcn]
        have hk : ps[ps.length - c.toNat]? = some (ps[ps.length - c.toNat]'(by omega)) := List.getElem?_eq_getElem (by omega)
        refine ⟨_, s' _ _ hl, _, atI_of (i := ps.length - c.toNat) (by omega) (mapR_at hk), _, rfl, _, s' _ _ (hE _ _ hk), _, atI_of (i := i) rfl (mapI_at (KF.rowC_at hi)), _, rfl, .inl ⟨rfl, _, sqL hr'⟩, _, hr', Nat.lt_of_le_of_lt (show _ ≤ 100 by simpa using hlen) (by decide), ?_⟩
        refine hend _ ?_
        rw [hz, ← KF.cap_ge hc1 hcc (by omega) (show c.toNat ≤ ps.length by omega)]
        unfold KF.cap
        split <;> omega
      · rw [if_neg hcn]
        refine ⟨.inl ⟨rfl, _, sqL hr'⟩, _, hr', Nat.lt_of_le_of_lt (show _ ≤ 100 by simpa using hlen) (by decide), ?_⟩
        refine hend _ ?_
        rw [hz]
        exact KF.cap_lt hcc (by omega)
    · rintro σ H' ⟨z, v6, v7, rfl, hz, s, hr⟩
      simp [tRet, tRetN, tSeq, tNext, tNever, tDrop, tIfS, tAsg, tPar, tAug, tAugS, gName, gNil, gCons, gTup, gSub, tAndV, tOrV, tNotV, tAnd, tOr, tNot, tB, tTest, tYes, tIf, tCall, tCallK, tCallN, tMake, tProp, tMeth, getSp, tCB, tCons, tNil, tVar, tC, tOp, tUn, tChain, tLst, tTup, tFld, sFld, tBM, tBM0, tSl, tPart, tNoPart, rI0, rI, rU, rEq, rNe, rIsi, tCut, tCutR, tCutS, rIntI, tSlH, tSlS, rSumH, rTupH, rSortH, tLstRg, tRg1, tRg2, rIxH, rIxHT, rLenH, rLenHT, rIxL, rIxT, rIx, rCat, rRep, rSetL, rAppend, rSum, rMax, rMin, rEqD, rNeD, rSlL, rPopAt, rSorted, rAll, rAny, rReprS, rNext, tCutT, rCatHT, rCatA, rSlA, RT.iRevA, scal, L2.start, List.replicate, and_assoc, CDiv, CMul, CPow, ipI, rSetLi, rSetTi, rSortedSetA, iAnyS, rMinT, tRevT, rLtU, rIsiI, RZ.iZipA, tDNewK, tDGet, sDPut]
      refine q p1 H' n1 s ?_
      rw [List.length_map, ← KF.rowC_len (M := (W : Int) + 1) (n := ps.length), List.take_length] at hr
      exact hr

def R_few_sums1 : L2.St → Hp → Bool → Hp → Prop := fun σ H b H' => H' = H ∧ ∃ (l t : Addr) (xs ys : List V) (last G : Int), σ[3]? = some (some (.ref l)) ∧ σ[5]? = some (some (.int last)) ∧ σ[2]? = some (some (.ref t)) ∧ H l = some (.lst xs) ∧ H t = some (.tup ys) ∧ atI ys (-1) = some (.int G) ∧ b = decide ((xs.length : Int) ≤ last + G)
def muF (B : Nat) : L2.St → Hp → Nat := fun σ H => match σ[3]? with
  | some (some (V.ref l)) => (match H l with
    | some (HO.lst xs) => B - xs.length
    | _ => 0)
  | _ => 0
abbrev s_few_sums : Stmt := top 23
abbrev N_few_sums : List Str := ["lot", "ways", "coins", "rows", "found", "last", "row"]
theorem sc_few_sums : FnScope N_few_sums ["lot", "ways"] (defScope s_few_sums) := ⟨rfl, rfl, rfl, by decide +kernel, rfl, by decide +kernel, by decide +kernel⟩
theorem ok_few_sums (F : FnP K "few_sums" "few_sums" s_few_sums f fd) (C_check_lot : Cal P w K mg base 1 "check_lot" ["lot"] (sp_check_lot C)) (C_check_number : Cal P w K mg base 3 "check_number" ["number", "low", "high"] sp_check_number) (c_MOST_WAYS : ∃ t, mg "MOST_WAYS" = some (.int (4) t)) (TC : Tc K mg C) (PC : Prp P w K mg base C) (B : Bi mg) (C_ways_by_coins : Cal P w K mg base 1 "ways_by_coins" ["rows", "coins", "most"] sp_ways_by_coins) :
    FnOk P w K mg base CX0 4 f fd ["lot", "ways"] (sp_few_sums C) := by
  refine okF F sc_few_sums (fun vs H Q E h => by repeat (first | (obtain ⟨rfl, _⟩ := h; rfl) | obtain ⟨_, h⟩ := h)) (fun cdv A outer s H vs Q E hr h => ?_)
  obtain ⟨p, cs, W, rfl, hL, hl2, hW1, hW4, q⟩ := h
  obtain ⟨dx, t, hp, ht, hc⟩ := id hL
  obtain ⟨t_MOST_WAYS, d_MOST_WAYS⟩ := c_MOST_WAYS
  refine ⟨_, (pss_cons (ps_expr (pe_cal C_check_lot hr (pa_cons (pv 0) pa_nil)))
    (pss_cons (ps_expr (pe_cal C_check_number hr (pa_cons (pv 1) (pa_cons pe_int (pa_cons (pe_glob (v := .int (4)) rfl d_MOST_WAYS ⟨_, rfl⟩) pa_nil)))))
    (pss_cons (ps_set (i := 2) sc_few_sums.nd rfl (Or.inl rfl) (pe_coins PC TC.cl hr (pv 0)))
    (pss_cons (ps_if (pt_cmpR op_eq (pe_callB len_HT (by rfl) B.b_len (by decide +kernel) (pa_cons (pv 2) pa_nil)) pe_int (nomark _))
      (pss_one ps_never)
      pss_nil)
    (pss_cons (ps_set (i := 3) sc_few_sums.nd rfl (Or.inl rfl) (pe_lst pa_nil))
    (pss_cons (ps_set (i := 4) sc_few_sums.nd rfl (Or.inl rfl) (pe_lst pa_nil))
    (pss_cons (ps_set (i := 5) sc_few_sums.nd rfl (Or.inl rfl) pe_int)
    (pss_cons (ps_while PassesOwn.never (pt_cutR R_few_sums1 (pt_cmpR op_le (pe_callB len_H (by rfl) B.b_len (by decide +kernel) (pa_cons (pv 3) pa_nil)) (pe_op op_add (pv 5) (pe_ix ix_HT (pv 2) (pe_un un_neg pe_int) (fun _ _ => rfl))) (nomark _)))
      (pss_cons (ps_set (i := 6) sc_few_sums.nd rfl (Or.inl rfl) (pe_cal C_ways_by_coins hr (pa_cons (pv 3) (pa_cons (pv 2) (pa_cons (pe_op op_add (pv 1) pe_int) pa_nil)))))
      (pss_cons (ps_if (pt_chain op_le op_le pe_int (pe_ix ix_H (pv 6) (pe_un un_neg pe_int) (fun _ _ => rfl)) (pv 1))
        (pss_cons (ps_set (i := 5) sc_few_sums.nd rfl (Or.inl rfl) (pe_callB len_H (by rfl) B.b_len (by decide +kernel) (pa_cons (pv 3) pa_nil)))
        (pss_one (ps_expr (pe_bm PySem.F.plainAttrs_list PySem.F.slot_list_append PySem.F.type_list_append mt_append (pv 4) (pa_cons (pv 5) pa_nil)))))
        pss_nil)
      (pss_one (ps_expr (pe_bm PySem.F.plainAttrs_list PySem.F.slot_list_append PySem.F.type_list_append mt_append (pv 3) (pa_cons (pv 6) pa_nil)))))))
    (pss_one (ps_ret (pe_callTy tuple_H (by rfl) B.b_tuple (by decide +kernel) (pa_cons (pv 4) pa_nil)))))))))))), ?_⟩
  have h60 := lot_pos (Int.le_refl 0) hc.up
  have hc1 : ∀ d ∈ cs, 1 ≤ d := fun d hd => (h60 d hd).1
  have hfew := hc.few
  obtain ⟨G, hG⟩ : ∃ G : Nat, cs[cs.length - 1]? = some (G : Int) := ⟨(cs[cs.length - 1]'(by omega)).toNat, by
    rw [List.getElem?_eq_getElem (by omega)]
    have := hc1 _ (List.getElem_mem (l := cs) (n := cs.length - 1) (by omega))
    congr 1
    omega⟩
  have hG60 := h60 _ (List.mem_of_getElem? hG)
  have hGm := lastF_max hc hG
  have hat : atI (cs.map V.int) (-1) = some (.int G) := atI_lastF (by rw [List.length_map, List.getElem?_map, hG]; rfl)
  simp [tRet, tRetN, tSeq, tNext, tNever, tDrop, tIfS, tAsg, tPar, tAug, tAugS, gName, gNil, gCons, gTup, gSub, tAndV, tOrV, tNotV, tAnd, tOr, tNot, tB, tTest, tYes, tIf, tCall, tCallK, tCallN, tMake, tProp, tMeth, getSp, tCB, tCons, tNil, tVar, tC, tOp, tUn, tChain, tLst, tTup, tFld, sFld, tBM, tBM0, tSl, tPart, tNoPart, rI0, rI, rU, rEq, rNe, rIsi, tCut, tCutR, tCutS, rIntI, tSlH, tSlS, rSumH, rTupH, rSortH, tLstRg, tRg1, tRg2, rIxH, rIxHT, rLenH, rLenHT, rIxL, rIxT, rIx, rCat, rRep, rSetL, rAppend, rSum, rMax, rMin, rEqD, rNeD, rSlL, rPopAt, rSorted, rAll, rAny, rReprS, rNext, tCutT, rCatHT, rCatA, rSlA, RT.iRevA, scal, L2.start, List.replicate, and_assoc, CDiv, CMul, CPow, ipI, rSetLi, rSetTi, rSortedSetA, iAnyS, rMinT, tRevT, rLtU, rIsiI, RZ.iZipA, tDNewK, tDGet, sDPut, sp_check_lot, sp_check_number]
  refine ⟨⟨_, _, hp⟩, by omega, by omega, ⟨_, _, hp⟩, _, _, hp, _, rfl, t, rfl, _, ht, by simp; omega, ?_⟩
  intro lr n1
  generalize eH1 : upd H lr _ = H1
  have s1 : Same H H1 := by rw [← eH1]; exact same_new n1
  have h1 := (congrFun eH1 lr).symm.trans upd_same
  clear eH1
  intro lf n2
  generalize eH2 : upd H1 lf _ = H2
  have s2 : Same H1 H2 := by rw [← eH2]; exact same_new n2
  have h2 := (congrFun eH2 lf).symm.trans upd_same
  clear eH2
  have s02 := s1.trans s2
  have hr2 := s2 _ _ h1
  have ner : lr ≠ lf := ne_of_none h1 n2
  refine while_cut (fun σ H' => ∃ (ps : List Addr) (last : Nat) (v6 : Option V), σ = [some (.ref p), some (.int W), some (.ref t), some (.ref lr), some (.ref lf), some (.int last), v6] ∧ Same H H' ∧ H' lr = some (.lst (ps.map V.ref)) ∧ EachL H' ps (KF.rowC (W + 1) cs) ∧ (∀ r ∈ ps, r ≠ lr ∧ r ≠ lf) ∧
    H' lf = some (.lst ((KF.fewL cs W ps.length).map fun (n : Nat) => V.int n)) ∧ (∀ m ∈ KF.fewL cs W ps.length, m ≤ last) ∧ last ≤ cs.length * 3600 * W ∧ ps.length ≤ last + G + 1) (muF (cs.length * 3600 * W + G + 2)) ⟨[], 0, none, rfl, s02, hr2, fun i p e => by simp at e, by simp, by simpa [KF.fewL] using h2, by simp [KF.fewL], by omega, by simp⟩ ?_ ?_
  · rintro σ H' ⟨ps, last, v6, rfl, s, hr, hE, hne, hf, hm, hl, hn⟩
    have ht' := s _ _ ht
    simp [tRet, tRetN, tSeq, tNext, tNever, tDrop, tIfS, tAsg, tPar, tAug, tAugS, gName, gNil, gCons, gTup, gSub, tAndV, tOrV, tNotV, tAnd, tOr, tNot, tB, tTest, tYes, tIf, tCall, tCallK, tCallN, tMake, tProp, tMeth, getSp, tCB, tCons, tNil, tVar, tC, tOp, tUn, tChain, tLst, tTup, tFld, sFld, tBM, tBM0, tSl, tPart, tNoPart, rI0, rI, rU, rEq, rNe, rIsi, tCut, tCutR, tCutS, rIntI, tSlH, tSlS, rSumH, rTupH, rSortH, tLstRg, tRg1, tRg2, rIxH, rIxHT, rLenH, rLenHT, rIxL, rIxT, rIx, rCat, rRep, rSetL, rAppend, rSum, rMax, rMin, rEqD, rNeD, rSlL, rPopAt, rSorted, rAll, rAny, rReprS, rNext, tCutT, rCatHT, rCatA, rSlA, RT.iRevA, scal, L2.start, List.replicate, and_assoc, CDiv, CMul, CPow, ipI, rSetLi, rSetTi, rSortedSetA, iAnyS, rMinT, tRevT, rLtU, rIsiI, RZ.iZipA, tDNewK, tDGet, sDPut, R_few_sums1]
    exact ⟨_, hr, _, ht', _, hat, _, rfl, _, hr, _, ht', _, hat, Iff.rfl⟩
  · rintro σ H' b H2' ⟨ps, last, v6, rfl, s, hr, hE, hne, hf, hm, hl, hn⟩ ⟨eH, l', t', xs', ys', last', G', e1, e2, e3, e4, e5, e6, e7⟩
    have ht' := s _ _ ht
    subst eH
    cases (show l' = lr from by simpa using e1.symm)
    cases (show t' = t from by simpa using e3.symm)
    have el : last' = (last : Int) := by simpa using e2.symm
    subst el
    rw [hr] at e4
    rw [ht'] at e5
    cases (show xs' = ps.map V.ref from by simpa using e4.symm)
    cases (show ys' = cs.map V.int from by simpa using e5.symm)
    have eG : G' = (G : Int) := by
      rw [hat] at e6
      simpa using e6.symm
    subst eG
    cases b with
    | true =>
      have hlt : ps.length ≤ last + G := by
        have := e7.symm
        simp at this
        omega
      rw [if_pos rfl]
      have hB : cs.length * 3600 * W ≤ 216000 := by
        have := Nat.mul_le_mul (Nat.mul_le_mul_right 3600 hfew) hW4
        omega
      have hrow : atI ((KF.rowC (W + 1) cs ps.length).map V.int) (-1) = some (.int (KF.cap (W + 1) (cnt cs ps.length))) := atI_lastF (by
        rw [List.length_map, KF.rowC_len, List.getElem?_map, KF.rowC_at (by omega), show cs.length - 1 + 1 = cs.length by omega, List.take_length]
        rfl)
      simp [tRet, tRetN, tSeq, tNext, tNever, tDrop, tIfS, tAsg, tPar, tAug, tAugS, gName, gNil, gCons, gTup, gSub, tAndV, tOrV, tNotV, tAnd, tOr, tNot, tB, tTest, tYes, tIf, tCall, tCallK, tCallN, tMake, tProp, tMeth, getSp, tCB, tCons, tNil, tVar, tC, tOp, tUn, tChain, tLst, tTup, tFld, sFld, tBM, tBM0, tSl, tPart, tNoPart, rI0, rI, rU, rEq, rNe, rIsi, tCut, tCutR, tCutS, rIntI, tSlH, tSlS, rSumH, rTupH, rSortH, tLstRg, tRg1, tRg2, rIxH, rIxHT, rLenH, rLenHT, rIxL, rIxT, rIx, rCat, rRep, rSetL, rAppend, rSum, rMax, rMin, rEqD, rNeD, rSlL, rPopAt, rSorted, rAll, rAny, rReprS, rNext, tCutT, rCatHT, rCatA, rSlA, RT.iRevA, scal, L2.start, List.replicate, and_assoc, CDiv, CMul, CPow, ipI, rSetLi, rSetTi, rSortedSetA, iAnyS, rMinT, tRevT, rLtU, rIsiI, RZ.iZipA, tDNewK, tDGet, sDPut, sp_ways_by_coins]
      refine ⟨cs, W, rfl, ps, hr, hE, ht', hc, hW1, by omega, by omega, fun r H3 nr s3 h3 => ⟨_, h3, _, hrow, _, rfl, ?_⟩⟩
      have hr3 := s3 _ _ hr
      have hf3 := s3 _ _ hf
      have fl : (KF.fewL cs W ps.length).length ≤ ps.length := by
        have := List.length_filter_le (fun m => decide (KF.Few cs W m)) (List.range ps.length)
        simpa [KF.fewL] using this
      have nrr : r ≠ lr := fun z => by rw [z, hr] at nr; cases nr
      have nrf : r ≠ lf := fun z => by rw [z, hf] at nr; cases nr
      have fin : ∀ (Hx : Hp) (last' : Nat), Same H Hx → Hx lr = some (.lst (ps.map V.ref)) → EachL Hx ps (KF.rowC (W + 1) cs) → Hx r = some (.lst ((KF.rowC (W + 1) cs ps.length).map V.int)) → Hx lf = some (.lst ((KF.fewL cs W (ps.length + 1)).map fun (n : Nat) => V.int n)) → (∀ m ∈ KF.fewL cs W (ps.length + 1), m ≤ last') → last' ≤ cs.length * 3600 * W → ps.length + 1 ≤ last' + G + 1 →
          Same H (upd Hx lr (.lst (ps.map V.ref ++ [V.ref r]))) ∧ upd Hx lr (.lst (ps.map V.ref ++ [V.ref r])) lr = some (.lst ((ps ++ [r]).map V.ref)) ∧ EachL (upd Hx lr (.lst (ps.map V.ref ++ [V.ref r]))) (ps ++ [r]) (KF.rowC (W + 1) cs) ∧ (∀ x, x ∈ ps ++ [r] → ¬ x = lr ∧ ¬ x = lf) ∧
          upd Hx lr (.lst (ps.map V.ref ++ [V.ref r])) lf = some (.lst ((KF.fewL cs W (ps ++ [r]).length).map fun (n : Nat) => V.int n)) ∧ (∀ m, m ∈ KF.fewL cs W (ps ++ [r]).length → m ≤ last') ∧ last' ≤ cs.length * 3600 * W ∧ (ps ++ [r]).length ≤ last' + G + 1 := by
        intro Hx last' a1 a2 a3 a4 a5 a6 a7 a8
        have el : (ps ++ [r]).length = ps.length + 1 := by simp
        rw [el]
        refine ⟨Same.updN a1 n1, by rw [upd_same]; simp, ?_, ?_, (upd_ne ner.symm).trans a5, a6, a7, a8⟩
        · refine EachL.snoc (fun i x e => ?_) ?_
          · rw [upd_ne (hne x (List.mem_of_getElem? e)).1]
            exact a3 i x e
          · rw [upd_ne nrr]
            exact a4
        · intro x hx
          rcases List.mem_append.mp hx with hx | hx
          · exact hne x hx
          · have : x = r := by simpa using hx
            subst this
            exact ⟨nrr, nrf⟩
      have meas : ∀ (Hx : Hp) (a b : Option V) (o : Option V), muF (cs.length * 3600 * W + G + 2) [some (V.ref p), some (V.int W), some (V.ref t), some (V.ref lr), some (V.ref lf), a, b] (upd Hx lr (.lst (ps.map V.ref ++ [V.ref r]))) < muF (cs.length * 3600 * W + G + 2) [some (V.ref p), some (V.int W), some (V.ref t), some (V.ref lr), some (V.ref lf), some (V.int last), o] H2' := by
        intro Hx a b o
        have e1 : muF (cs.length * 3600 * W + G + 2) [some (V.ref p), some (V.int W), some (V.ref t), some (V.ref lr), some (V.ref lf), a, b] (upd Hx lr (.lst (ps.map V.ref ++ [V.ref r]))) = cs.length * 3600 * W + G + 2 - (ps.length + 1) := by
          simp [muF, upd_same]
        have e2 : muF (cs.length * 3600 * W + G + 2) [some (V.ref p), some (V.int W), some (V.ref t), some (V.ref lr), some (V.ref lf), some (V.int last), o] H2' = cs.length * 3600 * W + G + 2 - ps.length := by
          simp [muF, hr]
        rw [e1, e2]
        omega
      have stay : ¬ KF.Few cs W ps.length → (∃ (ps_1 : List Addr) (last_1 : Nat), (last : Int) = last_1 ∧ Same H (upd H3 lr (.lst (ps.map V.ref ++ [V.ref r]))) ∧ upd H3 lr (.lst (ps.map V.ref ++ [V.ref r])) lr = some (.lst (ps_1.map V.ref)) ∧ EachL (upd H3 lr (.lst (ps.map V.ref ++ [V.ref r]))) ps_1 (KF.rowC (W + 1) cs) ∧ (∀ x, x ∈ ps_1 → ¬ x = lr ∧ ¬ x = lf) ∧
          upd H3 lr (.lst (ps.map V.ref ++ [V.ref r])) lf = some (.lst ((KF.fewL cs W ps_1.length).map fun (n : Nat) => V.int n)) ∧ (∀ m, m ∈ KF.fewL cs W ps_1.length → m ≤ last_1) ∧ last_1 ≤ cs.length * 3600 * W ∧ ps_1.length ≤ last_1 + G + 1) ∧
          muF (cs.length * 3600 * W + G + 2) [some (V.ref p), some (V.int W), some (V.ref t), some (V.ref lr), some (V.ref lf), some (V.int last), some (V.ref r)] (upd H3 lr (.lst (ps.map V.ref ++ [V.ref r]))) < muF (cs.length * 3600 * W + G + 2) [some (V.ref p), some (V.int W), some (V.ref t), some (V.ref lr), some (V.ref lf), some (V.int last), v6] H2' := by
        intro hF
        have ef : KF.fewL cs W (ps.length + 1) = KF.fewL cs W ps.length := by rw [KF.fewL_succ, if_neg hF, List.append_nil]
        exact ⟨⟨ps ++ [r], last, rfl, fin H3 last (s.trans s3) hr3 (hE.same s3) h3 (by rw [ef]; exact hf3) (by rw [ef]; exact hm) hl (by omega)⟩, meas _ _ _ _⟩
      by_cases c1 : 1 ≤ KF.cap (W + 1) (cnt cs ps.length)
      · rw [if_pos c1]
        refine ⟨_, rfl, ?_⟩
        by_cases c2 : KF.cap (W + 1) (cnt cs ps.length) ≤ W
        · rw [if_pos c2]
          have hF := KF.cap_few.mp ⟨c1, c2⟩
          refine ⟨_, hr3, .inl ⟨rfl, _, sqL hf3⟩, _, hf3, Nat.lt_of_le_of_lt (show _ ≤ 300000 by simp; omega) (by decide), ?_⟩
          have hr4 : upd H3 lf (.lst ((KF.fewL cs W ps.length).map (fun (n : Nat) => V.int n) ++ [V.int ((ps.map V.ref).length : Nat)])) lr = some (.lst (ps.map V.ref)) := (upd_ne ner).trans hr3
          refine ⟨.inl ⟨rfl, _, sqL hr4⟩, _, hr4, Nat.lt_of_le_of_lt (show _ ≤ 300000 by simp; omega) (by decide), ?_⟩
          have hE4 : EachL (upd H3 lf (.lst ((KF.fewL cs W ps.length).map (fun (n : Nat) => V.int n) ++ [V.int ((ps.map V.ref).length : Nat)]))) ps (KF.rowC (W + 1) cs) := fun i x e => by
            rw [upd_ne (hne x (List.mem_of_getElem? e)).2]
            exact s3 _ _ (hE i x e)
          have s4 : Same H (upd H3 lf (.lst ((KF.fewL cs W ps.length).map (fun (n : Nat) => V.int n) ++ [V.int ((ps.map V.ref).length : Nat)]))) := Same.updN (s.trans s3) (s1.free n2)
          have e3 : upd H3 lf (.lst ((KF.fewL cs W ps.length).map (fun (n : Nat) => V.int n) ++ [V.int ((ps.map V.ref).length : Nat)])) r = some (.lst ((KF.rowC (W + 1) cs ps.length).map V.int)) := (upd_ne nrf).trans h3
          have e4 : upd H3 lf (.lst ((KF.fewL cs W ps.length).map (fun (n : Nat) => V.int n) ++ [V.int ((ps.map V.ref).length : Nat)])) lf = some (.lst ((KF.fewL cs W (ps.length + 1)).map fun (n : Nat) => V.int n)) := by
            rw [upd_same, KF.fewL_succ, if_pos hF]
            simp
          generalize upd H3 lf (.lst ((KF.fewL cs W ps.length).map (fun (n : Nat) => V.int n) ++ [V.int ((ps.map V.ref).length : Nat)])) = H4 at *
          refine ⟨⟨ps ++ [r], ps.length, by simp, fin H4 ps.length s4 hr4 hE4 e3 e4 ?_ ?_ (by omega)⟩, meas _ _ _ _⟩
          · intro m hm'
            have := (KF.fewL_mem.mp hm').1
            omega
          · exact few_top hc hl2 hF
        · rw [if_neg c2]
          refine ⟨.inl ⟨rfl, _, sqL hr3⟩, _, hr3, Nat.lt_of_le_of_lt (show _ ≤ 300000 by simp; omega) (by decide), ?_⟩
          exact stay fun z => c2 (KF.cap_few.mpr z).2
      · rw [if_neg c1]
        refine ⟨.inl ⟨rfl, _, sqL hr3⟩, _, hr3, Nat.lt_of_le_of_lt (show _ ≤ 300000 by simp; omega) (by decide), ?_⟩
        exact stay fun z => c1 (KF.cap_few.mpr z).1
    | false =>
      have hlt : last + G < ps.length := by
        have := e7.symm
        simp at this
        omega
      rw [if_neg (by decide)]
      simp [tRet, tRetN, tSeq, tNext, tNever, tDrop, tIfS, tAsg, tPar, tAug, tAugS, gName, gNil, gCons, gTup, gSub, tAndV, tOrV, tNotV, tAnd, tOr, tNot, tB, tTest, tYes, tIf, tCall, tCallK, tCallN, tMake, tProp, tMeth, getSp, tCB, tCons, tNil, tVar, tC, tOp, tUn, tChain, tLst, tTup, tFld, sFld, tBM, tBM0, tSl, tPart, tNoPart, rI0, rI, rU, rEq, rNe, rIsi, tCut, tCutR, tCutS, rIntI, tSlH, tSlS, rSumH, rTupH, rSortH, tLstRg, tRg1, tRg2, rIxH, rIxHT, rLenH, rLenHT, rIxL, rIxT, rIx, rCat, rRep, rSetL, rAppend, rSum, rMax, rMin, rEqD, rNeD, rSlL, rPopAt, rSorted, rAll, rAny, rReprS, rNext, tCutT, rCatHT, rCatA, rSlA, RT.iRevA, scal, L2.start, List.replicate, and_assoc, CDiv, CMul, CPow, ipI, rSetLi, rSetTi, rSortedSetA, iAnyS, rMinT, tRevT, rLtU, rIsiI, RZ.iZipA, tDNewK, tDGet, sDPut]
      refine ⟨_, hf, fun r nr => q r _ (s.free nr) (s.trans (same_new nr)) ?_⟩
      rw [upd_same, few_all hc hl2 fun m hF => ?_]
      have := KF.few_end (G := G) hc1 (lot_nodup hc) hGm (fun k hk hf' => hm k (KF.fewL_mem.mpr ⟨hk, hf'⟩)) hlt m hF
      omega

abbrev s_single_sums : Stmt := top 24
abbrev N_single_sums : List Str := ["lot"]
theorem sc_single_sums : FnScope N_single_sums ["lot"] (defScope s_single_sums) := ⟨rfl, rfl, rfl, by decide +kernel, rfl, by decide +kernel, by decide +kernel⟩
theorem ok_single_sums (F : FnP K "single_sums" "single_sums" s_single_sums f fd) (C_few_sums : Cal P w K mg base 4 "few_sums" ["lot", "ways"] (sp_few_sums C)) :
    FnOk P w K mg base CX0 5 f fd ["lot"] (sp_single_sums C) := by
  refine okF F sc_single_sums (fun vs H Q E h => by repeat (first | (obtain ⟨rfl, _⟩ := h; rfl) | obtain ⟨_, h⟩ := h)) (fun cdv A outer s H vs Q E hr h => ?_)
  obtain ⟨p, cs, rfl, hL, h2, q⟩ := h
  refine ⟨_, (pss_one (ps_ret (pe_cal C_few_sums hr (pa_cons (pv 0) (pa_cons pe_int pa_nil))))), ?_⟩
  simp [tRet, tRetN, tSeq, tNext, tNever, tDrop, tIfS, tAsg, tPar, tAug, tAugS, gName, gNil, gCons, gTup, gSub, tAndV, tOrV, tNotV, tAnd, tOr, tNot, tB, tTest, tYes, tIf, tCall, tCallK, tCallN, tMake, tProp, tMeth, getSp, tCB, tCons, tNil, tVar, tC, tOp, tUn, tChain, tLst, tTup, tFld, sFld, tBM, tBM0, tSl, tPart, tNoPart, rI0, rI, rU, rEq, rNe, rIsi, tCut, tCutR, tCutS, rIntI, tSlH, tSlS, rSumH, rTupH, rSortH, tLstRg, tRg1, tRg2, rIxH, rIxHT, rLenH, rLenHT, rIxL, rIxT, rIx, rCat, rRep, rSetL, rAppend, rSum, rMax, rMin, rEqD, rNeD, rSlL, rPopAt, rSorted, rAll, rAny, rReprS, rNext, tCutT, rCatHT, rCatA, rSlA, RT.iRevA, scal, L2.start, List.replicate, and_assoc, CDiv, CMul, CPow, ipI, rSetLi, rSetTi, rSortedSetA, iAnyS, rMinT, tRevT, rLtU, rIsiI, RZ.iZipA, tDNewK, tDGet, sDPut, sp_few_sums]
  exact ⟨cs, 1, rfl, hL, h2, by decide, by decide, q⟩

abbrev s_last_single : Stmt := top 25
abbrev N_last_single : List Str := ["lot"]
theorem sc_last_single : FnScope N_last_single ["lot"] (defScope s_last_single) := ⟨rfl, rfl, rfl, by decide +kernel, rfl, by decide +kernel, by decide +kernel⟩
theorem ok_last_single (F : FnP K "last_single" "last_single" s_last_single f fd) (C_single_sums : Cal P w K mg base 5 "single_sums" ["lot"] (sp_single_sums C)) :
    FnOk P w K mg base CX0 6 f fd ["lot"] (sp_last_single C) := by
  refine okF F sc_last_single (fun vs H Q E h => by repeat (first | (obtain ⟨rfl, _⟩ := h; rfl) | obtain ⟨_, h⟩ := h)) (fun cdv A outer s H vs Q E hr h => ?_)
  obtain ⟨p, cs, m, rfl, hL, h2, hm, q⟩ := h
  refine ⟨_, (pss_one (ps_ret (pe_ix ix_HT (pe_cal C_single_sums hr (pa_cons (pv 0) pa_nil)) (pe_un un_neg pe_int) (fun _ _ => rfl)))), ?_⟩
  simp [tRet, tRetN, tSeq, tNext, tNever, tDrop, tIfS, tAsg, tPar, tAug, tAugS, gName, gNil, gCons, gTup, gSub, tAndV, tOrV, tNotV, tAnd, tOr, tNot, tB, tTest, tYes, tIf, tCall, tCallK, tCallN, tMake, tProp, tMeth, getSp, tCB, tCons, tNil, tVar, tC, tOp, tUn, tChain, tLst, tTup, tFld, sFld, tBM, tBM0, tSl, tPart, tNoPart, rI0, rI, rU, rEq, rNe, rIsi, tCut, tCutR, tCutS, rIntI, tSlH, tSlS, rSumH, rTupH, rSortH, tLstRg, tRg1, tRg2, rIxH, rIxHT, rLenH, rLenHT, rIxL, rIxT, rIx, rCat, rRep, rSetL, rAppend, rSum, rMax, rMin, rEqD, rNeD, rSlL, rPopAt, rSorted, rAll, rAny, rReprS, rNext, tCutT, rCatHT, rCatA, rSlA, RT.iRevA, scal, L2.start, List.replicate, and_assoc, CDiv, CMul, CPow, ipI, rSetLi, rSetTi, rSortedSetA, iAnyS, rMinT, tRevT, rLtU, rIsiI, RZ.iZipA, tDNewK, tDGet, sDPut, sp_single_sums]
  exact ⟨cs, hL, h2, fun u H1 nu s1 hu => ⟨_, hu, _, atI_lastF (by rw [List.length_map, List.getElem?_map, hm]; rfl), q H1 s1⟩⟩

end
end Kx

-- SXEXT: rSetLi, rSetTi, rSortedSetA, iAnyS, rMinT, tRevT, rLtU, rIsiI, RZ.iZipA, tDNewK, tDGet, sDPut
namespace Kx
open PySem L2 MG KM
section
variable {P : Program} {w : World} {K : PySem.W.Frag} {mg : Str → Option Value} {base : Heap} {f : Addr} {fd : FuncData} {C : Addr}
abbrev s_l_divisor : Stmt := top 33
abbrev N_l_divisor : List Str := ["_law_one_here", "_law_other", "_law_by"]
theorem sc_l_divisor : FnScope N_l_divisor ["_law_one_here", "_law_other"] (defScope s_l_divisor) := ⟨rfl, rfl, rfl, by decide +kernel, rfl, by decide +kernel, by decide +kernel⟩
theorem ok_l_divisor (F : FnP K "_law_divisor" "_law_divisor" s_l_divisor f fd) (B : Bi mg) :
    FnOk P w K mg base CX0 1 f fd ["_law_one_here", "_law_other"] sp_l_divisor := by
  refine okF F sc_l_divisor (fun vs H Q E h => by repeat (first | (obtain ⟨rfl, _⟩ := h; rfl) | obtain ⟨_, h⟩ := h)) (fun cdv A outer s H vs Q E hr h => ?_)
  obtain ⟨a, b, rfl, ha1, ha, hb1, hb, q⟩ := h
  refine ⟨_, (pss_one (ps_ret (pe_callB (cr_max rfl) (by rfl) B.b_max (by decide +kernel) (pa_cons (pe_lc (own := [("_law_by", 2)]) (g := gName 2) (tt := (tAnd (tTest (tOp rEq (tOp _ (tCB rIntI (tCons (tVar 0) tNil)) (tVar 2)) (tC (.int 0)))) (tTest (tOp rEq (tOp _ (tCB rIntI (tCons (tVar 1) tNil)) (tVar 2)) (tC (.int 0))))))  (by rfl) sc_l_divisor.nd (pi_range2 (by rfl) B.b_range (pa_cons pe_int (pa_cons (pe_op op_add (pv 0) pe_int) pa_nil))) (blkOk_by (own := [("_law_by", 2)]) (N := N_l_divisor) (sc := defScope s_l_divisor) (by decide +kernel)) (fun _ _ _ _ _ => pg_name (i := 2) sc_l_divisor.nd rfl (Or.inl rfl)) (fun _ _ _ _ _ => (pts_one (PW.pt (pw_and (pt_cmpR op_eq (pe_op op_mod (pe_callTy int_I (by rfl) B.b_int (by decide +kernel) (pa_cons (pv 0) pa_nil)) (pv 2)) pe_int (nomark _)) (pw_and1 (pt_cmpR op_eq (pe_op op_mod (pe_callTy int_I (by rfl) B.b_int (by decide +kernel) (pa_cons (pv 1) pa_nil)) (pv 2)) pe_int (nomark _))))))) (fun _ _ _ _ _ => (pv 2))) pa_nil)))), ?_⟩
  simp [tRet, tRetN, tSeq, tNext, tNever, tDrop, tIfS, tAsg, tPar, tAug, tAugS, gName, gNil, gCons, gTup, gSub, tAndV, tOrV, tNotV, tAnd, tOr, tNot, tB, tTest, tYes, tIf, tCall, tCallK, tCallN, tMake, tProp, tMeth, getSp, tCB, tCons, tNil, tVar, tC, tOp, tUn, tChain, tLst, tTup, tFld, sFld, tBM, tBM0, tSl, tPart, tNoPart, rI0, rI, rU, rEq, rNe, rIsi, tCut, tCutR, tCutS, rIntI, tSlH, tSlS, rSumH, rTupH, rSortH, tLstRg, tRg1, tRg2, rIxH, rIxHT, rLenH, rLenHT, rIxL, rIxT, rIx, rCat, rRep, rSetL, rAppend, rSum, rMax, rMin, rEqD, rNeD, rSlL, rPopAt, rSorted, rAll, rAny, rReprS, rNext, tCutT, rCatHT, rCatA, rSlA, RT.iRevA, scal, L2.start, List.replicate, and_assoc, CDiv, CMul, CPow, ipI, rSetLi, rSetTi, rSortedSetA, iAnyS, rMinT, tRevT, rLtU, rIsiI, RZ.iZipA, tDNewK, tDGet, sDPut]
  refine ⟨_, rfl, _, _, rfl, rfl, (1 : Int), (a : Int) + 1, rfl, ⟨by omega, by omega, by omega, by omega⟩, fun D nD => ?_⟩
  refine lc_range (lo := 1) (n := ((a : Int) + 1 - 1).toNat) (fun i H' => Same H H' ∧ ∃ ms : List Int, H' D = some (.lst (ms.map V.int)) ∧ ms.length ≤ i ∧ (∀ x : Int, x ∈ ms ↔ 1 ≤ x ∧ x ≤ i ∧ (a : Int) % x = 0 ∧ (b : Int) % x = 0)) ⟨same_new nD, [], upd_same, by simp, by intro x; simp; omega⟩ ?_ ?_
  · rintro i H' hi ⟨s', ms, hD, hl, hms⟩
    simp [tRet, tRetN, tSeq, tNext, tNever, tDrop, tIfS, tAsg, tPar, tAug, tAugS, gName, gNil, gCons, gTup, gSub, tAndV, tOrV, tNotV, tAnd, tOr, tNot, tB, tTest, tYes, tIf, tCall, tCallK, tCallN, tMake, tProp, tMeth, getSp, tCB, tCons, tNil, tVar, tC, tOp, tUn, tChain, tLst, tTup, tFld, sFld, tBM, tBM0, tSl, tPart, tNoPart, rI0, rI, rU, rEq, rNe, rIsi, tCut, tCutR, tCutS, rIntI, tSlH, tSlS, rSumH, rTupH, rSortH, tLstRg, tRg1, tRg2, rIxH, rIxHT, rLenH, rLenHT, rIxL, rIxT, rIx, rCat, rRep, rSetL, rAppend, rSum, rMax, rMin, rEqD, rNeD, rSlL, rPopAt, rSorted, rAll, rAny, rReprS, rNext, tCutT, rCatHT, rCatA, rSlA, RT.iRevA, scal, L2.start, List.replicate, and_assoc, CDiv, CMul, CPow, ipI, rSetLi, rSetTi, rSortedSetA, iAnyS, rMinT, tRevT, rLtU, rIsiI, RZ.iZipA, tDNewK, tDGet, sDPut, wipe]
    have stay : ¬ ((a : Int) % (1 + (i : Int)) = 0 ∧ (b : Int) % (1 + (i : Int)) = 0) → ∀ x : Int, x ∈ ms ↔ 1 ≤ x ∧ x ≤ (i : Int) + 1 ∧ (a : Int) % x = 0 ∧ (b : Int) % x = 0 := fun z x => by
      rw [hms x]
      constructor
      · rintro ⟨h1, h2, h3⟩
        exact ⟨h1, by omega, h3⟩
      · rintro ⟨h1, h2, h3⟩
        by_cases e : x = 1 + (i : Int)
        · subst e
          exact absurd h3 z
        · exact ⟨h1, by omega, h3⟩
    refine ⟨by omega, ?_⟩
    by_cases ca : (a : Int) % (1 + (i : Int)) = 0
    · rw [if_pos ca]
      refine ⟨by omega, ?_⟩
      by_cases cb : (b : Int) % (1 + (i : Int)) = 0
      · rw [if_pos cb]
        refine ⟨_, hD, Nat.lt_of_le_of_lt (show _ ≤ 100 by simp; omega) (by decide), Same.updN s' nD, ms ++ [1 + (i : Int)], ?_, by simp; omega, ?_⟩
        · rw [upd_same]
          simp
        · intro x
          rw [List.mem_append, hms x]
          constructor
          · rintro (⟨h1, h2, h3⟩ | h)
            · exact ⟨h1, by omega, h3⟩
            · have : x = 1 + (i : Int) := by simpa using h
              subst this
              exact ⟨by omega, by omega, ca, cb⟩
          · rintro ⟨h1, h2, h3⟩
            by_cases e : x = 1 + (i : Int)
            · exact .inr (by simp [e])
            · exact .inl ⟨h1, by omega, h3⟩
      · rw [if_neg cb]
        exact ⟨s', ms, hD, by omega, stay fun z => cb z.2⟩
    · rw [if_neg ca]
      exact ⟨s', ms, hD, by omega, stay fun z => ca z.1⟩
  · rintro H' ⟨s', ms, hD, hl, hms⟩
    have e : ((a : Int) + 1 - 1).toNat = a := by omega
    rw [e] at hms
    have h1 : (1 : Int) ∈ ms := (hms 1).mpr ⟨by omega, by omega, Int.emod_one _, Int.emod_one _⟩
    refine ⟨D, rfl, ms, sqL hD, List.length_pos_of_mem h1, fun m hm hmx => ?_⟩
    have em : m = ((Nat.gcd a b : Nat) : Int) := gcd_of hms hm hmx ha1
    rw [em]
    exact q H' s'

end
end Kx

-- SXEXT: rSetLi, rSetTi, rSortedSetA, iAnyS, rMinT, tRevT, rLtU, rIsiI, RZ.iZipA, tDNewK, tDGet, sDPut
namespace Kx
open PySem L2 MG KM
section
variable {P : Program} {w : World} {K : PySem.W.Frag} {mg : Str → Option Value} {base : Heap} {f : Addr} {fd : FuncData} {C : Addr}
abbrev s_l_small_right : Stmt := top 34
abbrev N_l_small_right : List Str := ["_law_bowl_here", "_law_coins_here", "_law_lot", "_law_told", "_law_most", "_law_table", "_law_turn", "_law_total", "_law_coin"]
theorem sc_l_small_right : FnScope N_l_small_right ["_law_bowl_here"] (defScope s_l_small_right) := ⟨rfl, rfl, rfl, by decide +kernel, rfl, by decide +kernel, by decide +kernel⟩
theorem ok_l_small_right (F : FnP K "_law_small_right" "_law_small_right" s_l_small_right f fd) (C_l_coins : Cal P w K mg base 2 "_law_coins" ["_law_bowl_here", "_law_many_here", "_law_most"] sp_l_coins2) (C_l_one : Cal P w K mg base 2 "_law_one" ["_law_bowl_here", "_law_menu"] sp_l_one) (C_l_dip : Cal P w K mg base 1 "_law_dip" ["_law_bowl_here", "_law_many_here"] sp_l_dip) (C_single_sums : Cal P w K mg base 5 "single_sums" ["lot"] (sp_single_sums C)) (TC : Tc K mg C) (ML : MkL P w K mg base C) (B : Bi mg) (C_l_many : Cal P w K mg base 1 "_law_many" ["_law_coins_here", "_law_most"] sp_l_many2) (C_l_all : Cal P w K mg base 16 "_law_all" ["_law_coins_here", "_law_total"] (sp_l_all2 15)) (K_single_sums_lot : CalK P w K mg base 5 "single_sums" ["lot"] (sp_single_sums C) 0 ["lot"] (fun _ zs => gP [0] zs)) (K_last_single_lot : CalK P w K mg base 6 "last_single" ["lot"] (sp_last_single C) 0 ["lot"] (fun _ zs => gP [0] zs)) (C_last_single : Cal P w K mg base 6 "last_single" ["lot"] (sp_last_single C)) :
    GFn P w K mg base CX0 17 f fd ["_law_bowl_here"] sp_drawn := by
  refine okFG F sc_l_small_right (fun vs H Q E h => by repeat (first | (obtain ⟨rfl, _⟩ := h; rfl) | obtain ⟨_, h⟩ := h)) (fun cdv A outer s H vs Q E hr hgu h => ?_)
  obtain ⟨b, rfl, hbw, q⟩ := h
  refine ⟨_, (pss_cons (ps_set (i := 1) sc_l_small_right.nd rfl (Or.inr rfl) (pe_cal C_l_coins hr (pa_cons (pv 0) (pa_cons (pe_op op_add pe_int (pe_cal C_l_dip hr (pa_cons (pv 0) (pa_cons pe_int pa_nil)))) (pa_cons (pe_cal C_l_one hr (pa_cons (pv 0) (pa_cons (pe_lst (pa_cons pe_int (pa_cons pe_int pa_nil))) pa_nil))) pa_nil)))))
    (pss_cons (ps_par (i := 2) (j := 3) (by rfl) sc_l_small_right.nd rfl rfl (by decide) rfl rfl (pa_cons (pe_lot ML TC.gL hr (pa_cons (pv 1) pa_nil)) (pa_cons (pe_cal C_single_sums hr (pa_cons (pe_lot ML TC.gL hr (pa_cons (pv 1) pa_nil)) pa_nil)) pa_nil)) (by rfl))
    (pss_cons (ps_if (PW.pt (pw_or (pt_not (pt_val (pe_callB call_isi (by rfl) B.b_isinstance (by decide +kernel) (pa_cons (pv 3) (pa_cons (pe_bltn (v := .ty "tuple") (by rfl) B.b_tuple (by decide +kernel) rfl) pa_nil))))) (pw_or1 (pt_cmpR op_ne (pe_callB (repr_S hgu hr) (by rfl) B.b_repr (by decide +kernel) (pa_cons (pv 3) pa_nil)) (pe_callB (repr_S hgu hr) (by rfl) B.b_repr (by decide +kernel) (pa_cons (pe_callTy tuple_H (by rfl) B.b_tuple (by decide +kernel) (pa_cons (pe_callB (sortedSetA rfl) (by rfl) B.b_sorted (by decide +kernel) (pa_cons (pe_callTy (set_Ti rfl) (by rfl) B.b_set (by decide +kernel) (pa_cons (pv 3) pa_nil)) pa_nil)) pa_nil)) pa_nil)) (nomark _)))))
      (pss_one (ps_ret pe_bl))
      pss_nil)
    (pss_cons (ps_set (i := 4) sc_l_small_right.nd rfl (Or.inl rfl) (pe_callB (sum_H rfl) (by rfl) B.b_sum (by decide +kernel) (pa_cons (pe_lc (own := [("_law_coin", 8)]) (g := gName 8) (tt := tYes)  (by rfl) sc_l_small_right.nd (pi_tup (pv 1)) (blkOk_by (own := [("_law_coin", 8)]) (N := N_l_small_right) (sc := defScope s_l_small_right) (by decide +kernel)) (fun _ _ _ _ _ => pg_name (i := 8) sc_l_small_right.nd rfl (Or.inl rfl)) (fun _ _ _ _ _ => pts_nil) (fun _ _ _ _ _ => (pe_op op_mul (pv 8) (pe_ifExp (pt_cmpR op_gt (pv 8) (pe_ix ix_HT (pv 1) pe_int (fun _ _ => rfl)) (nomark _)) (pe_ix ix_HT (pv 1) pe_int (fun _ _ => rfl)) (pe_ix ix_HT (pv 1) pe_int (fun _ _ => rfl)))))) pa_nil)))
    (pss_cons (ps_set (i := 5) sc_l_small_right.nd rfl (Or.inr rfl) (pe_cal C_l_many hr (pa_cons (pv 1) (pa_cons (pv 4) pa_nil))))
    (pss_cons (ps_if (pt_cmpR op_ne (pe_callB (repr_S hgu hr) (by rfl) B.b_repr (by decide +kernel) (pa_cons (pv 3) pa_nil)) (pe_callB (repr_S hgu hr) (by rfl) B.b_repr (by decide +kernel) (pa_cons (pe_callTy tuple_H (by rfl) B.b_tuple (by decide +kernel) (pa_cons (pe_lc (own := [("_law_total", 7)]) (g := gName 7) (tt := tTest (tOp rEq (tOp _ (tVar 5) (tVar 7)) (tC (.int 1))))  (by rfl) sc_l_small_right.nd (pi_range1 (by rfl) B.b_range (pa_cons (pe_op op_add (pv 4) pe_int) pa_nil)) (blkOk_by (own := [("_law_total", 7)]) (N := N_l_small_right) (sc := defScope s_l_small_right) (by decide +kernel)) (fun _ _ _ _ _ => pg_name (i := 7) sc_l_small_right.nd rfl (Or.inl rfl)) (fun _ _ _ _ _ => (pts_one (pt_cmpR op_eq (pe_ix ix_H (pv 5) (pv 7) (fun _ _ => rfl)) pe_int (nomark _)))) (fun _ _ _ _ _ => (pv 7))) pa_nil)) pa_nil)) (nomark _))
      (pss_one (ps_ret pe_bl))
      pss_nil)
    (pss_cons (ps_for PassesOwn.never rfl (pi_range1 (by rfl) B.b_range (pa_cons pe_int pa_nil)) (pg_name (i := 6) sc_l_small_right.nd rfl (Or.inl rfl))
      (pss_cons (ps_set (i := 7) sc_l_small_right.nd rfl (Or.inl rfl) (pe_cal C_l_one hr (pa_cons (pv 0) (pa_cons (pe_lst (pa_cons (pe_cal C_l_one hr (pa_cons (pv 0) (pa_cons (pv 3) pa_nil))) (pa_cons (pe_cal C_l_dip hr (pa_cons (pv 0) (pa_cons (pe_op op_add (pe_callB (call_min2 rfl) (by rfl) B.b_min (by decide +kernel) (pa_cons (pv 4) (pa_cons pe_int pa_nil))) pe_int) pa_nil))) pa_nil))) pa_nil))))
      (pss_one (ps_if (pt_cmpR op_ne (pe_cmpR op_eq (pe_callB len_H (by rfl) B.b_len (by decide +kernel) (pa_cons (pe_cal C_l_all hr (pa_cons (pv 1) (pa_cons (pv 7) pa_nil))) pa_nil)) pe_int (nomark _)) (pe_cmpR op_in_seq (pv 7) (pv 3) (by rfl)) (nomark _))
        (pss_one (ps_ret pe_bl))
        pss_nil))))
    (pss_one (ps_ret (pe_and (pe_cmpR op_eq (pe_callB (repr_S hgu hr) (by rfl) B.b_repr (by decide +kernel) (pa_cons (pe_lst (pa_cons (pe_cal C_last_single hr (pa_cons (pv 2) pa_nil)) (pa_cons (pe_calK0 K_last_single_lot hr (pk_cons (pv 2) pk_nil)) pa_nil))) pa_nil)) (pe_callB (repr_S hgu hr) (by rfl) B.b_repr (by decide +kernel) (pa_cons (pe_op op_rep (pe_lst (pa_cons (pe_ix ix_HT (pv 3) (pe_un un_neg pe_int) (fun _ _ => rfl)) pa_nil)) pe_int) pa_nil)) (nomark _)) (pe_one (pe_cmpR (op_eqD hr.units) (pe_calK0 K_single_sums_lot hr (pk_cons (pv 2) pk_nil)) (pv 3) (nomark _))))))))))))), ?_⟩
  simp [tRet, tRetN, tSeq, tNext, tNever, tDrop, tIfS, tAsg, tPar, tAug, tAugS, gName, gNil, gCons, gTup, gSub, tAndV, tOrV, tNotV, tAnd, tOr, tNot, tB, tTest, tYes, tIf, tCall, tCallK, tCallN, tMake, tProp, tMeth, getSp, tCB, tCons, tNil, tVar, tC, tOp, tUn, tChain, tLst, tTup, tFld, sFld, tBM, tBM0, tSl, tPart, tNoPart, rI0, rI, rU, rEq, rNe, rIsi, tCut, tCutR, tCutS, rIntI, tSlH, tSlS, rSumH, rTupH, rSortH, tLstRg, tRg1, tRg2, rIxH, rIxHT, rLenH, rLenHT, rIxL, rIxT, rIx, rCat, rRep, rSetL, rAppend, rSum, rMax, rMin, rEqD, rNeD, rSlL, rPopAt, rSorted, rAll, rAny, rReprS, rNext, tCutT, rCatHT, rCatA, rSlA, RT.iRevA, scal, L2.start, List.replicate, and_assoc, CDiv, CMul, CPow, ipI, rSetLi, rSetTi, rSortedSetA, iAnyS, rMinT, tRevT, rLtU, rIsiI, RZ.iZipA, tDNewK, tDGet, sDPut, sp_l_dip]
  refine ⟨hbw, fun r1 H1 r10 r11 hb1 bt1 => ⟨by decide, ?_⟩⟩
  intro p1 n2
  generalize eH2 : upd H1 p1 _ = H2
  have s2 : Same H1 H2 := by rw [← eH2]; exact same_new n2
  have h2 := (congrFun eH2 p1).symm.trans upd_same
  clear eH2
  have hb2 := hb1.same s2
  refine ⟨b, p1, _, rfl, hb2, nb_new hb1 n2, .inl h2, by simp, by simp, fun x H3 hx hb3 bt3 => ?_⟩
  obtain ⟨m, rfl, hm8, hm12⟩ : ∃ m : Nat, x = .int m ∧ 8 ≤ m ∧ m ≤ 12 := by
    simp only [List.mem_cons, List.not_mem_nil, or_false] at hx
    rcases hx with rfl | rfl
    · exact ⟨12, rfl, by decide, by decide⟩
    · exact ⟨8, rfl, by decide, by decide⟩
  obtain ⟨k, rfl⟩ : ∃ k : Nat, r1 = k := ⟨r1.toNat, by omega⟩
  refine ⟨b, 2 + k, m, by simp, hb3, by omega, by omega, by omega, by omega, fun t cs H4 n4 hL hln hcm ht4 hb4 bt4 => ?_⟩
  have hl2 : 2 ≤ cs.length := by omega
  have h60 := lot_pos (Int.le_refl 0) hL.up
  have hc1 : ∀ d ∈ cs, 1 ≤ d := fun d hd => (h60 d hd).1
  have hfew := hL.few
  have hmost := most_bound hL hl2
  have hmo := most_small hL hl2 (by omega) (show m ≤ 12 from hm12) hcm
  have hfl : (fewA cs 1).length ≤ 577 := by
    rw [fewA_is hL hl2 hmost]
    have := fewL_len cs ((1 : Nat) : Int) (mostN cs + 1)
    omega
  have hsm : ∀ x ∈ fewA cs 1, x < 2 ^ 13 := fun x hx => by
    have := hmost x ((fewA_mem hL hl2).mp hx)
    omega
  have hshw := shw_rowT (n := 577) hsm (by decide) (by decide) hfl (by decide)
  refine made_lot ht4 hL fun pL H5 n5 s5 hLot => ?_
  refine made_lot (s5 _ _ ht4) hL fun pM H6 n6 s6 hLotM => ?_
  refine ⟨pM, cs, rfl, hLotM, hl2, fun u H7 nu s7 hu => ?_⟩
  refine ⟨_, _, .ty _, .base (.tup hu), .inr ⟨kit_ty (by decide +kernel), ?_⟩⟩
  refine ⟨u, rfl, _, dpN hu, hshw, u, rfl, (fewA cs 1).map fun (n : Nat) => (n : Int), by rw [List.map_map]; exact hu, by rw [List.length_map]; omega, fun ps cc nps hcc => ⟨_, _, upd_same, fun ns pl hord hiff hnl => ?_⟩⟩
  have ens := asc_row (xs := fewA cs 1) (KF.fewL_asc _ _ _) hord hiff
  change ns = (fewA cs 1).map _ at ens
  subst ens
  generalize eA : upd H7 ps _ = HA
  have sA : Same H7 HA := by rw [← eA]; exact same_new nps
  intro npl
  refine ⟨_, upd_same, fun q1 nq1 => ?_⟩
  have sB := same_new (o := .lst (((fewA cs 1).map fun (n : Nat) => (n : Int)).map V.int)) npl
  have sC := same_new (o := .tup (((fewA cs 1).map fun (n : Nat) => (n : Int)).map V.int)) nq1
  have s7z := sA.trans (sB.trans sC)
  have hq1 : upd (upd HA pl (.lst (((fewA cs 1).map fun (n : Nat) => (n : Int)).map V.int))) q1 (.tup (((fewA cs 1).map fun (n : Nat) => (n : Int)).map V.int)) q1 = some (.tup ((fewA cs 1).map fun (n : Nat) => V.int n)) := by
    rw [upd_same, List.map_map]
    rfl
  generalize upd (upd HA pl (.lst (((fewA cs 1).map fun (n : Nat) => (n : Int)).map V.int))) q1 (.tup (((fewA cs 1).map fun (n : Nat) => (n : Int)).map V.int)) = Hz at s7z hq1 ⊢
  have s4z : Same H4 Hz := s5.trans (s6.trans (s7.trans s7z))
  have htz := s4z _ _ ht4
  have huz := s7z _ _ hu
  have e0 : cs[0]? = some cs[0] := List.getElem?_eq_getElem (by omega)
  have e01 : cs[1]? = some cs[1] := List.getElem?_eq_getElem (by omega)
  have b0 := h60 _ (List.mem_of_getElem? e0)
  have b01 := h60 _ (List.mem_of_getElem? e01)
  refine ⟨_, dpN hq1, hshw, .inl ⟨rfl, ?_⟩⟩
  refine ⟨_, rfl, t, rfl, ⟨_, sqT htz⟩, fun D nD => lc_tup (xs := cs.map V.int) (fun j H' => Same Hz H' ∧ H' D = some (.lst (((cs.take j).map (mostF cs)).map V.int))) ⟨same_new nD, upd_same⟩ (fun j H' _ ⟨s', _⟩ => sqT (s' _ _ htz)) ?_ ?_⟩
  · rintro j x H8 hx ⟨s8, hD⟩
    obtain ⟨c, hcc, rfl⟩ := int_at hx
    have hj : j < cs.length := (List.getElem?_eq_some_iff.mp hcc).1
    have hcb := h60 c (List.mem_of_getElem? hcc)
    have ht8 := s8 _ _ htz
    have a0 : atI (cs.map V.int) 0 = some (.int cs[0]) := atI_of (i := 0) rfl (mapI_at e0)
    have a1 : atI (cs.map V.int) 1 = some (.int cs[1]) := atI_of (i := 1) rfl (mapI_at e01)
    have hlen : ((cs.take j).map (mostF cs)).length ≤ 100 := by
      rw [List.length_map, List.length_take]
      omega
    have fin : ∀ v : Int, v = mostF cs c → Same Hz (upd H8 D (.lst (((cs.take j).map (mostF cs)).map V.int ++ [V.int v]))) ∧ upd H8 D (.lst (((cs.take j).map (mostF cs)).map V.int ++ [V.int v])) D = some (.lst (List.take (j + 1) (List.map (V.int ∘ mostF cs) cs))) := fun v hv => by
      refine ⟨Same.updN s8 nD, ?_⟩
      rw [upd_same, hv, List.take_add_one, List.getElem?_map, hcc, List.map_map, List.map_take]
      rfl
    simp [tRet, tRetN, tSeq, tNext, tNever, tDrop, tIfS, tAsg, tPar, tAug, tAugS, gName, gNil, gCons, gTup, gSub, tAndV, tOrV, tNotV, tAnd, tOr, tNot, tB, tTest, tYes, tIf, tCall, tCallK, tCallN, tMake, tProp, tMeth, getSp, tCB, tCons, tNil, tVar, tC, tOp, tUn, tChain, tLst, tTup, tFld, sFld, tBM, tBM0, tSl, tPart, tNoPart, rI0, rI, rU, rEq, rNe, rIsi, tCut, tCutR, tCutS, rIntI, tSlH, tSlS, rSumH, rTupH, rSortH, tLstRg, tRg1, tRg2, rIxH, rIxHT, rLenH, rLenHT, rIxL, rIxT, rIx, rCat, rRep, rSetL, rAppend, rSum, rMax, rMin, rEqD, rNeD, rSlL, rPopAt, rSorted, rAll, rAny, rReprS, rNext, tCutT, rCatHT, rCatA, rSlA, RT.iRevA, scal, L2.start, List.replicate, and_assoc, CDiv, CMul, CPow, ipI, rSetLi, rSetTi, rSortedSetA, iAnyS, rMinT, tRevT, rLtU, rIsiI, RZ.iZipA, tDNewK, tDGet, sDPut, wipe, ht8]
    refine ⟨_, a0, _, rfl, ?_⟩
    by_cases q : cs[0] < c
    · rw [if_pos q]
      refine ⟨_, a0, _, rfl, .inl ⟨by omega, by omega⟩, _, hD, Nat.lt_of_le_of_lt (show _ ≤ 100 by simpa using hlen) (by decide), fin _ ?_⟩
      unfold mostF
      rw [e0]
      show _ = c * (if cs[0] < c then cs[0] else _)
      rw [if_pos q]
    · rw [if_neg q]
      refine ⟨_, a1, _, rfl, .inl ⟨by omega, by omega⟩, _, hD, Nat.lt_of_le_of_lt (show _ ≤ 100 by simpa using hlen) (by decide), fin _ ?_⟩
      unfold mostF
      rw [e0, e01]
      show _ = c * (if cs[0] < c then cs[0] else cs[1])
      rw [if_neg q]
  · rintro H8 ⟨s8, hD⟩
    rw [List.length_map, List.take_length] at hD
    have ht8 := s8 _ _ htz
    have hu8 := s8 _ _ huz
    have emo : (cs.map (mostF cs)).sum = ((mostN cs : Nat) : Int) := most_int hL
    refine ⟨D, rfl, _, hD, t, cs, mostN cs, by rw [emo], ht8, h60, by omega, fun l H9 nl s9 hl => ?_⟩
    have hu9 := s9 _ _ hu8
    rw [emo]
    refine ⟨u, rfl, _, dpN hu9, hshw, _, rfl, _, _, rfl, rfl, ((mostN cs : Nat) : Int) + 1, rfl, by omega, by omega, fun D2 nD2 => ?_⟩
    refine lc_range (lo := 0) (n := mostN cs + 1) (fun i H' => Same H9 H' ∧ H' D2 = some (.lst ((KF.fewL cs 1 i).map fun (n : Nat) => V.int n))) ⟨same_new nD2, by simp [KF.fewL, upd_same]⟩ ?_ ?_
    · rintro i H10 hi ⟨s10, hD2⟩
      have hl10 := s10 _ _ hl
      have hti : (tab (mostN cs + 1) (cnt cs))[i]? = some _ := tab_at hi
      have hlen := fewL_len cs 1 i
      simp [tRet, tRetN, tSeq, tNext, tNever, tDrop, tIfS, tAsg, tPar, tAug, tAugS, gName, gNil, gCons, gTup, gSub, tAndV, tOrV, tNotV, tAnd, tOr, tNot, tB, tTest, tYes, tIf, tCall, tCallK, tCallN, tMake, tProp, tMeth, getSp, tCB, tCons, tNil, tVar, tC, tOp, tUn, tChain, tLst, tTup, tFld, sFld, tBM, tBM0, tSl, tPart, tNoPart, rI0, rI, rU, rEq, rNe, rIsi, tCut, tCutR, tCutS, rIntI, tSlH, tSlS, rSumH, rTupH, rSortH, tLstRg, tRg1, tRg2, rIxH, rIxHT, rLenH, rLenHT, rIxL, rIxT, rIx, rCat, rRep, rSetL, rAppend, rSum, rMax, rMin, rEqD, rNeD, rSlL, rPopAt, rSorted, rAll, rAny, rReprS, rNext, tCutT, rCatHT, rCatA, rSlA, RT.iRevA, scal, L2.start, List.replicate, and_assoc, CDiv, CMul, CPow, ipI, rSetLi, rSetTi, rSortedSetA, iAnyS, rMinT, tRevT, rLtU, rIsiI, RZ.iZipA, tDNewK, tDGet, sDPut, wipe, hl10]
      refine ⟨_, atI_of rfl (mapI_at hti), rfl, ?_⟩
      by_cases q : cnt cs i = 1
      · rw [if_pos (by rw [q])]
        refine ⟨_, hD2, Nat.lt_of_le_of_lt (show _ ≤ 1000 by simp; omega) (by decide), Same.updN s10 nD2, ?_⟩
        rw [upd_same, KF.fewL_succ, if_pos ⟨by omega, by omega⟩]
        simp
      · rw [if_neg (fun z => q (by injection z))]
        refine ⟨s10, ?_⟩
        rw [KF.fewL_succ, if_neg (fun z => q (by have := z.1; have := z.2; omega)), List.append_nil]
        exact hD2
    · rintro H10 ⟨s10, hD2⟩
      rw [show (1 : Int) = ((1 : Nat) : Int) from rfl, few_all hL hl2 fun k hk => by have := hmost k hk; omega] at hD2
      refine ⟨D2, rfl, _, hD2, fun q2 nq2 => ?_⟩
      have hq2 : upd H10 q2 (.tup ((fewA cs 1).map fun (n : Nat) => V.int n)) q2 = some (.tup ((fewA cs 1).map fun (n : Nat) => V.int n)) := upd_same
      have s11 := same_new (o := .tup ((fewA cs 1).map fun (n : Nat) => V.int n)) nq2
      generalize upd H10 q2 (.tup ((fewA cs 1).map fun (n : Nat) => V.int n)) = H11 at hq2 s11 ⊢
      refine ⟨_, dpN hq2, hshw, .inl ⟨rfl, ?_⟩⟩
      have s411 : Same H4 H11 := s4z.trans (s8.trans (s9.trans (s10.trans s11)))
      have ht11 := s411 _ _ ht4
      have hb11 := hb4.same s411
      have hu11 := s11 _ _ (s10 _ _ hu9)
      have hLot11 := hLot.same (s6.trans (s7.trans (s7z.trans (s8.trans (s9.trans (s10.trans s11))))))
      have nbu : u ≠ b := nb_of hb11 hu11 (by intro l z; cases z)
      have nbt := nb_of hb11 ht11 (by intro l z; cases z)
      have hpos : 0 < (fewA cs 1).length := by
        have := (List.getElem?_eq_some_iff.mp (fewA_head cs (W := 1) (by decide))).1
        exact this
      refine ⟨4, rfl, by decide, by decide, for_range (lo := 0) (n := 4) (fun i σ H' => ∃ v6 v7 : Option V, σ = [some (.ref b), some (.ref t), some (.ref pL), some (.ref u), some (.int (mostN cs : Nat)), some (.ref l), v6, v7, none] ∧ Bw H' b ∧ But b H11 H') ⟨none, none, rfl, hb11, But.refl _ _⟩ ?_ ?_⟩
      · rintro i σ H12 hi ⟨v6, v7, rfl, hb12, bt12⟩
        have hu12 := bt12 _ _ nbu hu11
        simp [tRet, tRetN, tSeq, tNext, tNever, tDrop, tIfS, tAsg, tPar, tAug, tAugS, gName, gNil, gCons, gTup, gSub, tAndV, tOrV, tNotV, tAnd, tOr, tNot, tB, tTest, tYes, tIf, tCall, tCallK, tCallN, tMake, tProp, tMeth, getSp, tCB, tCons, tNil, tVar, tC, tOp, tUn, tChain, tLst, tTup, tFld, sFld, tBM, tBM0, tSl, tPart, tNoPart, rI0, rI, rU, rEq, rNe, rIsi, tCut, tCutR, tCutS, rIntI, tSlH, tSlS, rSumH, rTupH, rSortH, tLstRg, tRg1, tRg2, rIxH, rIxHT, rLenH, rLenHT, rIxL, rIxT, rIx, rCat, rRep, rSetL, rAppend, rSum, rMax, rMin, rEqD, rNeD, rSlL, rPopAt, rSorted, rAll, rAny, rReprS, rNext, tCutT, rCatHT, rCatA, rSlA, RT.iRevA, scal, L2.start, List.replicate, and_assoc, CDiv, CMul, CPow, ipI, rSetLi, rSetTi, rSortedSetA, iAnyS, rMinT, tRevT, rLtU, rIsiI, RZ.iZipA, tDNewK, tDGet, sDPut, sp_l_dip]
        refine ⟨b, u, _, rfl, hb12, nbu, .inr hu12, by rw [List.length_map]; exact hpos, by rw [List.length_map]; omega, fun x H13 hx hb13 bt13 => ?_⟩
        obtain ⟨n, hn, rfl⟩ := List.mem_map.mp hx
        refine ⟨hb13, by split <;> omega, by split <;> omega, fun r H14 r0 r1 hb14 bt14 => ⟨by decide, ?_⟩⟩
        have r70 : r ≤ 70 := by
          revert r1
          split <;> omega
        intro pm n15
        generalize eH15 : upd H14 pm _ = H15
        have s15 : Same H14 H15 := by rw [← eH15]; exact same_new n15
        have h15 := (congrFun eH15 pm).symm.trans upd_same
        clear eH15
        refine ⟨b, pm, _, rfl, hb14.same s15, nb_new hb14 n15, .inl h15, by simp, by simp, fun x H16 hx2 hb16 bt16 => ?_⟩
        have hfn := (fewA_mem hL hl2).mp hn
        obtain ⟨k, rfl, hk, hall⟩ : ∃ k : Nat, x = .int k ∧ k ≤ 400 * 1000 ∧ cnt cs k ≤ 400000 := by
          simp only [List.mem_cons, List.not_mem_nil, or_false] at hx2
          rcases hx2 with rfl | rfl
          · have := hmost n hfn
            have := hfn.2
            exact ⟨n, rfl, by omega, by omega⟩
          · obtain ⟨k, rfl⟩ : ∃ k : Nat, r = k := ⟨r.toNat, by omega⟩
            exact ⟨k, rfl, by omega, cnt_thin hc1 (by omega) (by omega)⟩
        have bt1116 : But b H11 H16 := bt12.trans (bt13.trans (bt14.trans ((But.of s15).trans bt16)))
        have ht16 := bt1116 _ _ nbt ht11
        have hu16 := bt1116 _ _ nbu hu11
        have hal := KF.cnt_len hc1 k
        refine ⟨t, cs, k, rfl, ht16, h60, hL.ne, hfew, by decide, by omega, by omega, fun l2 H17 nl2 s17 hR => ?_⟩
        obtain ⟨ps2, hl2', hE⟩ := hR
        have hpl : ps2.length = (allP cs k).length := hE.1
        have hu17 := s17 _ _ hu16
        refine ⟨l2, rfl, _, hl2', ?_⟩
        simp [tRet, tRetN, tSeq, tNext, tNever, tDrop, tIfS, tAsg, tPar, tAug, tAugS, gName, gNil, gCons, gTup, gSub, tAndV, tOrV, tNotV, tAnd, tOr, tNot, tB, tTest, tYes, tIf, tCall, tCallK, tCallN, tMake, tProp, tMeth, getSp, tCB, tCons, tNil, tVar, tC, tOp, tUn, tChain, tLst, tTup, tFld, sFld, tBM, tBM0, tSl, tPart, tNoPart, rI0, rI, rU, rEq, rNe, rIsi, tCut, tCutR, tCutS, rIntI, tSlH, tSlS, rSumH, rTupH, rSortH, tLstRg, tRg1, tRg2, rIxH, rIxHT, rLenH, rLenHT, rIxL, rIxT, rIx, rCat, rRep, rSetL, rAppend, rSum, rMax, rMin, rEqD, rNeD, rSlL, rPopAt, rSorted, rAll, rAny, rReprS, rNext, tCutT, rCatHT, rCatA, rSlA, RT.iRevA, scal, L2.start, List.replicate, and_assoc, CDiv, CMul, CPow, ipI, rSetLi, rSetTi, rSortedSetA, iAnyS, rMinT, tRevT, rLtU, rIsiI, RZ.iZipA, tDNewK, tDGet, sDPut, rIn]
        refine ⟨_, .inr (sqT hu17), rfl, fun x hx => ?_, .inl ⟨?_, hb16.same s17, bt1116.trans (But.of s17)⟩⟩
        · obtain ⟨z, _, rfl⟩ := List.mem_map.mp hx
          rfl
        · by_cases hf : KF.Few cs (1 : Nat) k
          · rw [inV_nat ((fewA_mem hL hl2).mpr hf)]
            have := hf.1
            have := hf.2
            exact decide_eq_true (by omega)
          · rw [inV_no fun z => hf ((fewA_mem hL hl2).mp z)]
            refine decide_eq_false fun z => hf ⟨by omega, by omega⟩
      · rintro σ H12 ⟨v6, v7, rfl, hb12, bt12⟩
        have hu12 := bt12 _ _ nbu hu11
        obtain ⟨M, hM⟩ : ∃ M, (fewA cs 1)[(fewA cs 1).length - 1]? = some M := ⟨_, List.getElem?_eq_getElem (by omega)⟩
        have hMm := hsm M (List.mem_of_getElem? hM)
        have hLot12 := hLot11.but hb11 bt12
        simp [tRet, tRetN, tSeq, tNext, tNever, tDrop, tIfS, tAsg, tPar, tAug, tAugS, gName, gNil, gCons, gTup, gSub, tAndV, tOrV, tNotV, tAnd, tOr, tNot, tB, tTest, tYes, tIf, tCall, tCallK, tCallN, tMake, tProp, tMeth, getSp, tCB, tCons, tNil, tVar, tC, tOp, tUn, tChain, tLst, tTup, tFld, sFld, tBM, tBM0, tSl, tPart, tNoPart, rI0, rI, rU, rEq, rNe, rIsi, tCut, tCutR, tCutS, rIntI, tSlH, tSlS, rSumH, rTupH, rSortH, tLstRg, tRg1, tRg2, rIxH, rIxHT, rLenH, rLenHT, rIxL, rIxT, rIx, rCat, rRep, rSetL, rAppend, rSum, rMax, rMin, rEqD, rNeD, rSlL, rPopAt, rSorted, rAll, rAny, rReprS, rNext, tCutT, rCatHT, rCatA, rSlA, RT.iRevA, scal, L2.start, List.replicate, and_assoc, CDiv, CMul, CPow, ipI, rSetLi, rSetTi, rSortedSetA, iAnyS, rMinT, tRevT, rLtU, rIsiI, RZ.iZipA, tDNewK, tDGet, sDPut, sp_last_single, sp_single_sums]
        refine ⟨cs, hLot12, hl2, M, hM, fun H13 s13 => ⟨pL, rfl, cs, hLot12.same s13, hl2, M, hM, fun H14 s14 => ⟨by decide, ?_⟩⟩⟩
        intro pa n15
        generalize eH15 : upd H14 pa _ = H15
        have s15 : Same H14 H15 := by rw [← eH15]; exact same_new n15
        have h15 := (congrFun eH15 pa).symm.trans upd_same
        clear eH15
        have hu15 := s15 _ _ (s14 _ _ (s13 _ _ hu12))
        have hsh : Shw 16000000 90 (.list [.int (M : Nat), .int (M : Nat)]) := (shw_ints (ns := [(M : Int), (M : Int)]) (m := 2) (by intro i hi; simp at hi; subst hi; exact Nat.lt_of_lt_of_le (show ((M : Int)).natAbs < 2 ^ 13 by simpa using hMm) (Nat.pow_le_pow_right (by decide) (by decide))) (by simp)).mono (by decide) (by decide)
        refine ⟨_, dpL (ns := [(M : Int), (M : Int)]) h15, hsh, _, hu15, _, atI_lastF (by rw [List.length_map, List.getElem?_map, hM]; rfl), by decide, ?_⟩
        intro pb n16
        generalize eH16 : upd H15 pb _ = H16
        have s16 : Same H15 H16 := by rw [← eH16]; exact same_new n16
        have h16 := (congrFun eH16 pb).symm.trans upd_same
        clear eH16
        refine ⟨_, h16, by simp; decide, ?_⟩
        intro pc n17
        generalize eH17 : upd H16 pc _ = H17
        have s17 : Same H16 H17 := by rw [← eH17]; exact same_new n17
        have h17 := (congrFun eH17 pc).symm.trans upd_same
        clear eH17
        refine ⟨_, dpL (ns := [(M : Int), (M : Int)]) h17, hsh, ?_⟩
        rw [if_pos rfl]
        have s1217 : Same H12 H17 := s13.trans (s14.trans (s15.trans (s16.trans s17)))
        refine ⟨pL, rfl, cs, hLot12.same s1217, hl2, fun u2 H18 nu2 s18 hu2 => ⟨_, dpN hu2, _, dpN (s18 _ _ (s17 _ _ (s16 _ _ hu15))), shapedN _, shapedN _, ?_⟩⟩
        rw [SeqAt.eqv_refl _ (SeqAt.canLay_of_shaped (shapedN _))]
        exact q _ (hb12.same (s1217.trans s18)) (bt1.trans ((But.of s2).trans (bt3.trans (bt4.trans ((But.of s411).trans (bt12.trans (But.of (s1217.trans s18))))))))

abbrev s_l_two_right : Stmt := top 35
abbrev N_l_two_right : List Str := ["_law_bowl_here", "_law_one_here", "_law_other", "_law_shared", "_law_lot", "_law_due", "_law_first", "_law_second"]
theorem sc_l_two_right : FnScope N_l_two_right ["_law_bowl_here"] (defScope s_l_two_right) := ⟨rfl, rfl, rfl, by decide +kernel, rfl, by decide +kernel, by decide +kernel⟩
theorem ok_l_two_right (F : FnP K "_law_two_right" "_law_two_right" s_l_two_right f fd) (C_l_coins : Cal P w K mg base 2 "_law_coins" ["_law_bowl_here", "_law_many_here", "_law_most"] sp_l_coins2) (C_l_one : Cal P w K mg base 2 "_law_one" ["_law_bowl_here", "_law_menu"] sp_l_one) (C_l_divisor : Cal P w K mg base 1 "_law_divisor" ["_law_one_here", "_law_other"] sp_l_divisor) (TC : Tc K mg C) (ML : MkL P w K mg base C) (B : Bi mg) (C_single_sums : Cal P w K mg base 5 "single_sums" ["lot"] (sp_single_sums C)) (C_last_single : Cal P w K mg base 6 "last_single" ["lot"] (sp_last_single C)) :
    GFn P w K mg base CX0 7 f fd ["_law_bowl_here"] sp_drawn := by
  refine okFG F sc_l_two_right (fun vs H Q E h => by repeat (first | (obtain ⟨rfl, _⟩ := h; rfl) | obtain ⟨_, h⟩ := h)) (fun cdv A outer s H vs Q E hr hgu h => ?_)
  obtain ⟨b, rfl, hbw, q⟩ := h
  refine ⟨_, (pss_cons (ps_asg (pe_cal C_l_coins hr (pa_cons (pv 0) (pa_cons pe_int (pa_cons (pe_cal C_l_one hr (pa_cons (pv 0) (pa_cons (pe_lst (pa_cons pe_int (pa_cons pe_int pa_nil))) pa_nil))) pa_nil)))) (pg_tup (by rfl) (pgs_cons (pg_name (i := 1) sc_l_two_right.nd rfl (Or.inr rfl)) (pgs_cons (pg_name (i := 2) sc_l_two_right.nd rfl (Or.inr rfl)) pgs_nil))))
    (pss_cons (ps_set (i := 3) sc_l_two_right.nd rfl (Or.inl rfl) (pe_cal C_l_divisor hr (pa_cons (pv 1) (pa_cons (pv 2) pa_nil))))
    (pss_cons (ps_par (i := 4) (j := 5) (by rfl) sc_l_two_right.nd rfl rfl (by decide) rfl rfl (pa_cons (pe_lot ML TC.gL hr (pa_cons (pe_tup (pa_cons (pv 1) (pa_cons (pv 2) pa_nil))) pa_nil)) (pa_cons (pe_lst pa_nil) pa_nil)) (by rfl))
    (pss_cons (ps_for PassesOwn.never rfl (pi_range1 (by rfl) B.b_range (pa_cons (pe_op op_fdiv (pv 2) (pv 3)) pa_nil)) (pg_name (i := 6) sc_l_two_right.nd rfl (Or.inr rfl))
      (pss_one (ps_expr (pe_bm PySem.F.plainAttrs_list PySem.F.slot_list_extend PySem.F.type_list_extend mt_extend (pv 5) (pa_cons (pe_lc (own := [("_law_second", 7)]) (g := gName 7) (tt := tYes)  (by rfl) sc_l_two_right.nd (pi_range1 (by rfl) B.b_range (pa_cons (pe_op op_fdiv (pv 1) (pv 3)) pa_nil)) (blkOk_by (own := [("_law_second", 7)]) (N := N_l_two_right) (sc := defScope s_l_two_right) (by decide +kernel)) (fun _ _ _ _ _ => pg_name (i := 7) sc_l_two_right.nd rfl (Or.inl rfl)) (fun _ _ _ _ _ => pts_nil) (fun _ _ _ _ _ => (pe_op op_add (pe_op op_mul (pv 6) (pv 1)) (pe_op op_mul (pv 7) (pv 2))))) pa_nil)))))
    (pss_cons (ps_if (pt_cmpR op_ne (pe_callB (repr_S hgu hr) (by rfl) B.b_repr (by decide +kernel) (pa_cons (pe_cal C_single_sums hr (pa_cons (pv 4) pa_nil)) pa_nil)) (pe_callB (repr_S hgu hr) (by rfl) B.b_repr (by decide +kernel) (pa_cons (pe_callTy tuple_H (by rfl) B.b_tuple (by decide +kernel) (pa_cons (pe_callB sorted_H (by rfl) B.b_sorted (by decide +kernel) (pa_cons (pv 5) pa_nil)) pa_nil)) pa_nil)) (nomark _))
      (pss_one (ps_ret pe_bl))
      pss_nil)
    (pss_one (ps_ret (pe_cmpR op_eq (pe_callB SkE.call_repr_int (by rfl) B.b_repr (by decide +kernel) (pa_cons (pe_cal C_last_single hr (pa_cons (pv 4) pa_nil)) pa_nil)) (pe_callB SkE.call_repr_int (by rfl) B.b_repr (by decide +kernel) (pa_cons (pe_op op_sub (pe_op op_sub (pe_op op_fdiv (pe_op op_mul (pe_op op_mul pe_int (pv 1)) (pv 2)) (pv 3)) (pv 1)) (pv 2)) pa_nil)) (nomark _))))))))), ?_⟩
  simp [tRet, tRetN, tSeq, tNext, tNever, tDrop, tIfS, tAsg, tPar, tAug, tAugS, gName, gNil, gCons, gTup, gSub, tAndV, tOrV, tNotV, tAnd, tOr, tNot, tB, tTest, tYes, tIf, tCall, tCallK, tCallN, tMake, tProp, tMeth, getSp, tCB, tCons, tNil, tVar, tC, tOp, tUn, tChain, tLst, tTup, tFld, sFld, tBM, tBM0, tSl, tPart, tNoPart, rI0, rI, rU, rEq, rNe, rIsi, tCut, tCutR, tCutS, rIntI, tSlH, tSlS, rSumH, rTupH, rSortH, tLstRg, tRg1, tRg2, rIxH, rIxHT, rLenH, rLenHT, rIxL, rIxT, rIx, rCat, rRep, rSetL, rAppend, rSum, rMax, rMin, rEqD, rNeD, rSlL, rPopAt, rSorted, rAll, rAny, rReprS, rNext, tCutT, rCatHT, rCatA, rSlA, RT.iRevA, scal, L2.start, List.replicate, and_assoc, CDiv, CMul, CPow, ipI, rSetLi, rSetTi, rSortedSetA, iAnyS, rMinT, tRevT, rLtU, rIsiI, RZ.iZipA, tDNewK, tDGet, sDPut]
  refine ⟨by decide, ?_⟩
  intro p1 n1
  generalize eH1 : upd H p1 _ = H1
  have s1 : Same H H1 := by rw [← eH1]; exact same_new n1
  have h1 := (congrFun eH1 p1).symm.trans upd_same
  clear eH1
  refine ⟨b, p1, _, rfl, hbw.same s1, nb_new hbw n1, .inl h1, by simp, by simp, fun x H2 hx hb2 bt2 => ?_⟩
  obtain ⟨m, rfl, hm12, hm60⟩ : ∃ m : Nat, x = .int m ∧ 12 ≤ m ∧ m ≤ 60 := by
    simp only [List.mem_cons, List.not_mem_nil, or_false] at hx
    rcases hx with rfl | rfl
    · exact ⟨60, rfl, by decide, by decide⟩
    · exact ⟨12, rfl, by decide, by decide⟩
  refine ⟨b, 2, m, rfl, hb2, by omega, by omega, by omega, by omega, fun t cs H3 n3 hL hln hcm ht3 hb3 bt3 => ?_⟩
  obtain ⟨A, B, rfl⟩ : ∃ A B, cs = [A, B] := match cs, hln with
    | [A, B], _ => ⟨A, B, rfl⟩
  obtain ⟨u1, u2, u3, u4, _⟩ := hL.up
  obtain ⟨A, rfl⟩ : ∃ k : Nat, A = k := ⟨A.toNat, by omega⟩
  obtain ⟨B, rfl⟩ : ∃ k : Nat, B = k := ⟨B.toNat, by omega⟩
  refine ⟨t, rfl, _, sqT ht3, rfl, _, _, rfl, _, _, rfl, rfl, A, B, rfl, by omega, by omega, by omega, by omega, fun H4 s4 => ⟨by decide, ?_⟩⟩
  intro p2 n5
  generalize eH5 : upd H4 p2 _ = H5
  have s5 : Same H4 H5 := by rw [← eH5]; exact same_new n5
  have h5 := (congrFun eH5 p2).symm.trans upd_same
  clear eH5
  refine made_lot (cs := [(A : Int), (B : Int)]) h5 hL fun pL H6 n6 s6 hLot => ?_
  intro pd n7
  generalize eH7 : upd H6 pd _ = H7
  have s7 : Same H6 H7 := by rw [← eH7]; exact same_new n7
  have h7 := (congrFun eH7 pd).symm.trans upd_same
  clear eH7
  have hg : 0 < Nat.gcd A B := Nat.gcd_pos_of_pos_left B (by omega)
  obtain ⟨a, ea⟩ := Nat.gcd_dvd_left A B
  obtain ⟨c, ec⟩ := Nat.gcd_dvd_right A B
  have hcop := Nat.gcd_div_gcd_div_gcd_of_pos_left (n := A) (m := B) (by omega)
  have da : A / Nat.gcd A B = a := Nat.div_eq_of_eq_mul_right hg ea
  have dc : B / Nat.gcd A B = c := Nat.div_eq_of_eq_mul_right hg ec
  rw [da, dc] at hcop
  have ha1 : 1 ≤ a := by
    rcases Nat.eq_zero_or_pos a with z | z
    · subst z; omega
    · exact z
  have hc1 : 1 ≤ c := by
    rcases Nat.eq_zero_or_pos c with z | z
    · subst z; omega
    · exact z
  have ha60 : a ≤ 60 := by rw [← da]; exact Nat.le_trans (Nat.div_le_self _ _) (by omega)
  have hc60 : c ≤ 60 := by rw [← dc]; exact Nat.le_trans (Nat.div_le_self _ _) (by omega)
  have hg60 := Nat.le_of_dvd (show 0 < A by omega) (Nat.gcd_dvd_left A B)
  have e1 : ((A : Int) / ((Nat.gcd A B : Nat) : Int)) = (a : Int) := by rw [← da]; rfl
  have e2 : ((B : Int) / ((Nat.gcd A B : Nat) : Int)) = (c : Int) := by rw [← dc]; rfl
  have hmem : ∀ n, n ∈ fewA [(A : Int), (B : Int)] 1 ↔ n ∈ dueL A B a c := fun n => by
    rw [fewA_mem hL (by simp), dueL_mem]
    have := KF.single_two (n := n) ha1 hc1 hg (fun z => by
      subst z
      omega) hcop
    rw [Nat.mul_comm a, Nat.mul_comm c, ← ea, ← ec] at this
    exact this
  refine ⟨_, rfl, _, rfl, (B : Int), ((Nat.gcd A B : Nat) : Int), rfl, rfl, ⟨by omega, by omega⟩, _, rfl, ?_, ?_, for_range (lo := 0) (fun i σ H' => ∃ v6 : Option V, σ = [some (.ref b), some (.int A), some (.int B), some (.int (Nat.gcd A B : Nat)), some (.ref pL), some (.ref pd), v6, none] ∧ Same H6 H' ∧ H' pd = some (.lst ((dueL A B a i).map fun (n : Nat) => V.int n))) ⟨none, rfl, s7, by simpa [dueL] using h7⟩ ?_ ?_⟩
  · rw [e2]; omega
  · rw [e2]; omega
  · rintro i σ H' hi ⟨v6, rfl, s, hd⟩
    rw [e2] at hi
    have hi' : i < c := by omega
    simp [tRet, tRetN, tSeq, tNext, tNever, tDrop, tIfS, tAsg, tPar, tAug, tAugS, gName, gNil, gCons, gTup, gSub, tAndV, tOrV, tNotV, tAnd, tOr, tNot, tB, tTest, tYes, tIf, tCall, tCallK, tCallN, tMake, tProp, tMeth, getSp, tCB, tCons, tNil, tVar, tC, tOp, tUn, tChain, tLst, tTup, tFld, sFld, tBM, tBM0, tSl, tPart, tNoPart, rI0, rI, rU, rEq, rNe, rIsi, tCut, tCutR, tCutS, rIntI, tSlH, tSlS, rSumH, rTupH, rSortH, tLstRg, tRg1, tRg2, rIxH, rIxHT, rLenH, rLenHT, rIxL, rIxT, rIx, rCat, rRep, rSetL, rAppend, rSum, rMax, rMin, rEqD, rNeD, rSlL, rPopAt, rSorted, rAll, rAny, rReprS, rNext, tCutT, rCatHT, rCatA, rSlA, RT.iRevA, scal, L2.start, List.replicate, and_assoc, CDiv, CMul, CPow, ipI, rSetLi, rSetTi, rSortedSetA, iAnyS, rMinT, tRevT, rLtU, rIsiI, RZ.iZipA, tDNewK, tDGet, sDPut]
    refine ⟨.inl ⟨rfl, _, sqL hd⟩, _, rfl, _, rfl, (A : Int), ((Nat.gcd A B : Nat) : Int), rfl, rfl, ⟨by omega, by omega⟩, _, rfl, ?_, ?_, fun D nD => lc_range (lo := 0) (fun j H2 => Same H' H2 ∧ H2 D = some (.lst (((List.range j).map fun j => i * A + j * B).map fun (n : Nat) => V.int n))) ⟨same_new nD, by simp [upd_same]⟩ ?_ ?_⟩
    · rw [e1]; omega
    · rw [e1]; omega
    · rintro j H2 hj ⟨s2, hD⟩
      rw [e1] at hj
      simp [tRet, tRetN, tSeq, tNext, tNever, tDrop, tIfS, tAsg, tPar, tAug, tAugS, gName, gNil, gCons, gTup, gSub, tAndV, tOrV, tNotV, tAnd, tOr, tNot, tB, tTest, tYes, tIf, tCall, tCallK, tCallN, tMake, tProp, tMeth, getSp, tCB, tCons, tNil, tVar, tC, tOp, tUn, tChain, tLst, tTup, tFld, sFld, tBM, tBM0, tSl, tPart, tNoPart, rI0, rI, rU, rEq, rNe, rIsi, tCut, tCutR, tCutS, rIntI, tSlH, tSlS, rSumH, rTupH, rSortH, tLstRg, tRg1, tRg2, rIxH, rIxHT, rLenH, rLenHT, rIxL, rIxT, rIx, rCat, rRep, rSetL, rAppend, rSum, rMax, rMin, rEqD, rNeD, rSlL, rPopAt, rSorted, rAll, rAny, rReprS, rNext, tCutT, rCatHT, rCatA, rSlA, RT.iRevA, scal, L2.start, List.replicate, and_assoc, CDiv, CMul, CPow, ipI, rSetLi, rSetTi, rSortedSetA, iAnyS, rMinT, tRevT, rLtU, rIsiI, RZ.iZipA, tDNewK, tDGet, sDPut, wipe]
      refine ⟨.inl ⟨by omega, by omega⟩, .inl ⟨by omega, by omega⟩, _, hD, Nat.lt_of_le_of_lt (show _ ≤ 100 by simp; omega) (by decide), Same.updN s2 nD, ?_⟩
      rw [upd_same, List.range_succ]
      simp
    · rintro H2 ⟨s2, hD⟩
      rw [e1, show (a : Int).toNat = a by omega] at hD
      have hcl : i * a ≤ 60 * 60 := Nat.mul_le_mul (by omega) ha60
      refine ⟨pd, D, _, _, rfl, rfl, s2 _ _ hd, hD, Nat.le_trans (show _ ≤ 10000 by simp [dueL_len]; omega) (by decide), Same.updN (s.trans s2) n7, ?_⟩
      rw [upd_same, dueL_succ]
      simp
  · rintro σ H' ⟨v6, rfl, s, hd⟩
    rw [e2, show (c : Int).toNat = c by omega] at hd
    have hdl : (dueL A B a c).length ≤ 3600 := by
      rw [dueL_len]
      exact Nat.mul_le_mul hc60 ha60
    have hnd : (dueL A B a c).Nodup := dueL_nodup fun i j i' j' h1 h2 h3 h4 e => by
      refine two_inj ha1 hc1 hg (fun z => by
        subst z
        omega) hcop h1 h2 h3 h4 ?_
      rw [Nat.mul_comm a, Nat.mul_comm c, ← ea, ← ec]
      exact e
    have hfl : (fewA [(A : Int), (B : Int)] 1).length ≤ 3600 := Nat.le_trans (KF.nodup_le ((KF.fewL_asc _ _ _).imp fun h => by omega) fun x hx => (hmem x).mp hx) hdl
    have hsm : ∀ x ∈ fewA [(A : Int), (B : Int)] 1, x < 2 ^ 13 := fun x hx => by
      obtain ⟨i, j, hi, hj, rfl⟩ := dueL_mem.mp ((hmem x).mp hx)
      have z1 : i * A ≤ 60 * 60 := Nat.mul_le_mul (by omega) (by omega)
      have z2 : j * B ≤ 60 * 60 := Nat.mul_le_mul (by omega) (by omega)
      omega
    have hshw := shw_rowT (n := 3600) hsm (by decide) (by decide) hfl (by decide)
    simp [tRet, tRetN, tSeq, tNext, tNever, tDrop, tIfS, tAsg, tPar, tAug, tAugS, gName, gNil, gCons, gTup, gSub, tAndV, tOrV, tNotV, tAnd, tOr, tNot, tB, tTest, tYes, tIf, tCall, tCallK, tCallN, tMake, tProp, tMeth, getSp, tCB, tCons, tNil, tVar, tC, tOp, tUn, tChain, tLst, tTup, tFld, sFld, tBM, tBM0, tSl, tPart, tNoPart, rI0, rI, rU, rEq, rNe, rIsi, tCut, tCutR, tCutS, rIntI, tSlH, tSlS, rSumH, rTupH, rSortH, tLstRg, tRg1, tRg2, rIxH, rIxHT, rLenH, rLenHT, rIxL, rIxT, rIx, rCat, rRep, rSetL, rAppend, rSum, rMax, rMin, rEqD, rNeD, rSlL, rPopAt, rSorted, rAll, rAny, rReprS, rNext, tCutT, rCatHT, rCatA, rSlA, RT.iRevA, scal, L2.start, List.replicate, and_assoc, CDiv, CMul, CPow, ipI, rSetLi, rSetTi, rSortedSetA, iAnyS, rMinT, tRevT, rLtU, rIsiI, RZ.iZipA, tDNewK, tDGet, sDPut, sp_single_sums]
    refine ⟨[(A : Int), (B : Int)], hLot.same s, by simp, fun u H8 nu s8 hu => ⟨_, dpN hu, hshw, (dueL A B a c).map fun (n : Nat) => (n : Int), ?_, fun ns' p hperm hord np => ⟨_, upd_same, fun q1 nq1 => ?_⟩⟩⟩
    · rw [List.map_map]
      exact s8 _ _ hd
    · obtain ⟨zs, rfl, hzp, hzo⟩ := nat_row hperm hord
      have ez : zs = fewA [(A : Int), (B : Int)] 1 := sorted_is (KF.fewL_asc _ _ _) hzp hzo hmem hnd
      subst ez
      have s9 := same_new (o := .lst ((((fewA [(A : Int), (B : Int)] 1)).map fun (n : Nat) => (n : Int)).map V.int)) np
      generalize upd H8 p (.lst ((((fewA [(A : Int), (B : Int)] 1)).map fun (n : Nat) => (n : Int)).map V.int)) = H9 at s9 nq1 ⊢
      have s10 := same_new (o := .tup ((((fewA [(A : Int), (B : Int)] 1)).map fun (n : Nat) => (n : Int)).map V.int)) nq1
      have hq1 : upd H9 q1 (.tup ((((fewA [(A : Int), (B : Int)] 1)).map fun (n : Nat) => (n : Int)).map V.int)) q1 = some (.tup ((fewA [(A : Int), (B : Int)] 1).map fun (n : Nat) => V.int n)) := by
        rw [upd_same, List.map_map]
        rfl
      generalize upd H9 q1 (.tup ((((fewA [(A : Int), (B : Int)] 1)).map fun (n : Nat) => (n : Int)).map V.int)) = H10 at s10 hq1 ⊢
      refine ⟨_, dpN hq1, hshw, .inl ⟨rfl, ?_⟩⟩
      have s610 : Same H6 H10 := s.trans (s8.trans (s9.trans s10))
      have hM : (c - 1) * A + (a - 1) * B ∈ fewA [(A : Int), (B : Int)] 1 := (hmem _).mpr (dueL_mem.mpr ⟨c - 1, a - 1, by omega, by omega, rfl⟩)
      have hMx : ∀ x ∈ fewA [(A : Int), (B : Int)] 1, x ≤ (c - 1) * A + (a - 1) * B := fun x hx => by
        obtain ⟨i, j, hi, hj, rfl⟩ := dueL_mem.mp ((hmem x).mp hx)
        have z1 : i * A ≤ (c - 1) * A := Nat.mul_le_mul_right A (by omega)
        have z2 : j * B ≤ (a - 1) * B := Nat.mul_le_mul_right B (by omega)
        omega
      have hMs := hsm _ hM
      have eM : (2 * (A : Int) * (B : Int) / ((Nat.gcd A B : Nat) : Int) - (A : Int) - (B : Int)) = (((c - 1) * A + (a - 1) * B : Nat) : Int) := by
        have q1 : 2 * A * B / Nat.gcd A B = c * A + a * B := by
          refine Nat.div_eq_of_eq_mul_right hg ?_
          have z1 : Nat.gcd A B * (c * A) = A * B := by rw [← Nat.mul_assoc, ← ec, Nat.mul_comm]
          have z2 : Nat.gcd A B * (a * B) = A * B := by rw [← Nat.mul_assoc, ← ea]
          rw [Nat.mul_add, z1, z2, Nat.mul_assoc]
          omega
        have q2 : (2 * (A : Int) * (B : Int) / ((Nat.gcd A B : Nat) : Int)) = ((2 * A * B / Nat.gcd A B : Nat) : Int) := by simp
        rw [q2, q1]
        obtain ⟨c', rfl⟩ : ∃ c', c = c' + 1 := ⟨c - 1, by omega⟩
        obtain ⟨a', rfl⟩ : ∃ a', a = a' + 1 := ⟨a - 1, by omega⟩
        rw [Nat.add_mul, Nat.add_mul, Nat.add_sub_cancel, Nat.add_sub_cancel]
        omega
      rw [eM]
      refine ⟨pL, [(A : Int), (B : Int)], _, rfl, hLot.same s610, by simp, last_is (KF.fewL_asc _ _ _) hM hMx, fun H11 s11 => ⟨_, rfl, lg_small (by omega), .inl ⟨by omega, by omega⟩, .inl (by omega), by omega, lg_small (by omega), ?_⟩⟩
      rw [decide_eq_true rfl]
      have s311 : Same H3 H11 := s4.trans (s5.trans (s6.trans (s610.trans s11)))
      exact q _ (hb3.same s311) ((But.of s1).trans (bt2.trans (bt3.trans (But.of s311))))

abbrev s_l_right : Stmt := top 36
abbrev N_l_right : List Str := ["_law_bowl_here"]
theorem sc_l_right : FnScope N_l_right ["_law_bowl_here"] (defScope s_l_right) := ⟨rfl, rfl, rfl, by decide +kernel, rfl, by decide +kernel, by decide +kernel⟩
theorem ok_l_right (F : FnP K "_law_right" "_law_right" s_l_right f fd) (C_l_two_right : CalG P w K mg base 7 "_law_two_right" ["_law_bowl_here"] sp_drawn) (C_l_small_right : CalG P w K mg base 17 "_law_small_right" ["_law_bowl_here"] sp_drawn) :
    GFn P w K mg base CX0 18 f fd ["_law_bowl_here"] sp_drawn := by
  refine okFG F sc_l_right (fun vs H Q E h => by repeat (first | (obtain ⟨rfl, _⟩ := h; rfl) | obtain ⟨_, h⟩ := h)) (fun cdv A outer s H vs Q E hr hgu h => ?_)
  obtain ⟨b, rfl, hbw, q⟩ := h
  refine ⟨_, (pss_one (ps_ret (pe_and (pe_calG C_l_small_right hr hgu (pa_cons (pv 0) pa_nil)) (pe_one (pe_calG C_l_two_right hr hgu (pa_cons (pv 0) pa_nil)))))), ?_⟩
  simp [tRet, tRetN, tSeq, tNext, tNever, tDrop, tIfS, tAsg, tPar, tAug, tAugS, gName, gNil, gCons, gTup, gSub, tAndV, tOrV, tNotV, tAnd, tOr, tNot, tB, tTest, tYes, tIf, tCall, tCallK, tCallN, tMake, tProp, tMeth, getSp, tCB, tCons, tNil, tVar, tC, tOp, tUn, tChain, tLst, tTup, tFld, sFld, tBM, tBM0, tSl, tPart, tNoPart, rI0, rI, rU, rEq, rNe, rIsi, tCut, tCutR, tCutS, rIntI, tSlH, tSlS, rSumH, rTupH, rSortH, tLstRg, tRg1, tRg2, rIxH, rIxHT, rLenH, rLenHT, rIxL, rIxT, rIx, rCat, rRep, rSetL, rAppend, rSum, rMax, rMin, rEqD, rNeD, rSlL, rPopAt, rSorted, rAll, rAny, rReprS, rNext, tCutT, rCatHT, rCatA, rSlA, RT.iRevA, scal, L2.start, List.replicate, and_assoc, CDiv, CMul, CPow, ipI, rSetLi, rSetTi, rSortedSetA, iAnyS, rMinT, tRevT, rLtU, rIsiI, RZ.iZipA, tDNewK, tDGet, sDPut, sp_drawn]
  exact ⟨hbw, fun H1 hb1 bt1 => ⟨hb1, fun H2 hb2 bt2 => q H2 hb2 (bt1.trans bt2)⟩⟩

abbrev s_law : Stmt := top 37
abbrev N_law : List Str := ["_law_script", "_law_k"]
theorem sc_law : FnScope N_law ["_law_script"] (defScope s_law) := ⟨rfl, rfl, rfl, by decide +kernel, rfl, by decide +kernel, by decide +kernel⟩
theorem ok_law (F : FnP K "law" "law" s_law f fd) (B : Bi mg) (C_l_right : CalG P w K mg base 18 "_law_right" ["_law_bowl_here"] sp_drawn) (C_l_bowl : Cal P w K mg base 1 "_law_bowl" ["_law_script", "_law_k"] (sp_l_bowl K)) :
    GFn P w K mg base CX0 19 f fd ["_law_script"] (sp_law K) := by
  refine okFG F sc_law (fun vs H Q E h => by repeat (first | (obtain ⟨rfl, _⟩ := h; rfl) | obtain ⟨_, h⟩ := h)) (fun cdv A outer s H vs Q E hr hgu h => ?_)
  obtain ⟨a, ns, rfl, ha, hn, q⟩ := h
  refine ⟨_, (pss_one (ps_ret (pe_callB (cr_all rfl) (by rfl) B.b_all (by decide +kernel) (pa_cons (pe_lc (own := [("_law_k", 1)]) (g := gName 1) (tt := tYes) (te := (tCall (sp_drawn) [] E0 (tCons (tCall (sp_l_bowl K) [] E0 (tCons (tVar 0) (tCons (tVar 1) tNil))) tNil))) (by rfl) sc_law.nd (pi_range1 (by rfl) B.b_range (pa_cons (pe_callB (call_max2 rfl) (by rfl) B.b_max (by decide +kernel) (pa_cons pe_int (pa_cons (pe_callB (call_min2 rfl) (by rfl) B.b_min (by decide +kernel) (pa_cons (pe_callB call_len_seq (by rfl) B.b_len (by decide +kernel) (pa_cons (pv 0) pa_nil)) (pa_cons pe_int pa_nil))) pa_nil))) pa_nil)) (blkOk_by (own := [("_law_k", 1)]) (N := N_law) (sc := defScope s_law) (by decide +kernel)) (fun _ _ _ _ _ => pg_name (i := 1) sc_law.nd rfl (Or.inl rfl)) (fun _ _ _ _ _ => pts_nil) (fun _ _ _ _ _ => (by exact (pe_calG C_l_right hr hgu (pa_cons (by exact (pe_cal C_l_bowl hr (pa_cons (pv 0) (pa_cons (pv 1) pa_nil)))) pa_nil))))) pa_nil)))), ?_⟩
  simp [tRet, tRetN, tSeq, tNext, tNever, tDrop, tIfS, tAsg, tPar, tAug, tAugS, gName, gNil, gCons, gTup, gSub, tAndV, tOrV, tNotV, tAnd, tOr, tNot, tB, tTest, tYes, tIf, tCall, tCallK, tCallN, tMake, tProp, tMeth, getSp, tCB, tCons, tNil, tVar, tC, tOp, tUn, tChain, tLst, tTup, tFld, sFld, tBM, tBM0, tSl, tPart, tNoPart, rI0, rI, rU, rEq, rNe, rIsi, tCut, tCutR, tCutS, rIntI, tSlH, tSlS, rSumH, rTupH, rSortH, tLstRg, tRg1, tRg2, rIxH, rIxHT, rLenH, rLenHT, rIxL, rIxT, rIx, rCat, rRep, rSetL, rAppend, rSum, rMax, rMin, rEqD, rNeD, rSlL, rPopAt, rSorted, rAll, rAny, rReprS, rNext, tCutT, rCatHT, rCatA, rSlA, RT.iRevA, scal, L2.start, List.replicate, and_assoc, CDiv, CMul, CPow, ipI, rSetLi, rSetTi, rSortedSetA, iAnyS, rMinT, tRevT, rLtU, rIsiI, RZ.iZipA, tDNewK, tDGet, sDPut]
  refine ⟨_, rfl, a, rfl, _, .inl ha, _, _, rfl, _, _, rfl, _, rfl, ?_, ?_, fun D nD => lc_range (lo := 0) (fun i H' => Same H H' ∧ H' D = some (.lst ((List.replicate i true).map V.bl))) ⟨same_new nD, upd_same⟩ ?_ ?_⟩
  · split <;> split <;> omega
  · split <;> split <;> omega
  · rintro i H1 hi ⟨s1, h1⟩
    have hi100 : i < 100 := by
      revert hi
      split <;> split <;> omega
    simp [tRet, tRetN, tSeq, tNext, tNever, tDrop, tIfS, tAsg, tPar, tAug, tAugS, gName, gNil, gCons, gTup, gSub, tAndV, tOrV, tNotV, tAnd, tOr, tNot, tB, tTest, tYes, tIf, tCall, tCallK, tCallN, tMake, tProp, tMeth, getSp, tCB, tCons, tNil, tVar, tC, tOp, tUn, tChain, tLst, tTup, tFld, sFld, tBM, tBM0, tSl, tPart, tNoPart, rI0, rI, rU, rEq, rNe, rIsi, tCut, tCutR, tCutS, rIntI, tSlH, tSlS, rSumH, rTupH, rSortH, tLstRg, tRg1, tRg2, rIxH, rIxHT, rLenH, rLenHT, rIxL, rIxT, rIx, rCat, rRep, rSetL, rAppend, rSum, rMax, rMin, rEqD, rNeD, rSlL, rPopAt, rSorted, rAll, rAny, rReprS, rNext, tCutT, rCatHT, rCatA, rSlA, RT.iRevA, scal, L2.start, List.replicate, and_assoc, CDiv, CMul, CPow, ipI, rSetLi, rSetTi, rSortedSetA, iAnyS, rMinT, tRevT, rLtU, rIsiI, RZ.iZipA, tDNewK, tDGet, sDPut, wipe, sp_l_bowl, sp_drawn]
    refine ⟨ns, i, rfl, s1.seq ha, hn, hi100, fun b H2 nb s2 hb2 => ⟨hb2, fun H3 hb3 bt3 => ?_⟩⟩
    have s3 : Same H1 H3 := fun c o hc => bt3 c o (ne_of_none hc nb) (s2 c o hc)
    refine ⟨_, s3 _ _ h1, Nat.lt_of_le_of_lt (show _ ≤ 100 by simp; omega) (by decide), ?_, ?_⟩
    · intro c o hc
      rw [upd_ne (ne_of_none hc nD)]
      exact s3 _ _ (s1 _ _ hc)
    · rw [upd_same, ← List.replicate_succ, List.replicate_succ']
      simp
  · rintro H1 ⟨s1, h1⟩
    refine ⟨D, rfl, _, sqL h1, ?_⟩
    have e : ∀ k, (List.replicate k true).all id = true := fun k => by induction k <;> simp_all [List.replicate_succ]
    rw [e]
    exact q H1

end
end Kx

-- SXEXT: rSetLi, rSetTi, rSortedSetA, iAnyS, rMinT, tRevT, rLtU, rIsiI, RZ.iZipA, tDNewK, tDGet, sDPut
namespace Kx
open PySem L2 MG KM
def fn : List Dm := [⟨(atG "_law_dip"), "_law_dip", "_law_dip", s_l_dip⟩,
  ⟨(atG "_law_coins"), "_law_coins", "_law_coins", s_l_coins⟩,
  ⟨(atG "_law_one"), "_law_one", "_law_one", s_l_one⟩,
  ⟨(atG "_law_divisor"), "_law_divisor", "_law_divisor", s_l_divisor⟩,
  ⟨(atG "is_integer"), "is_integer", "is_integer", s_is_integer⟩,
  ⟨(atG "is_between"), "is_between", "is_between", s_is_between⟩,
  ⟨(atG "count_ascending"), "count_ascending", "count_ascending", s_count_ascending⟩,
  ⟨(atG "count_right"), "count_right", "count_right", s_count_right⟩,
  ⟨(atM "Lot" "__init__"), "__init__", "Lot.__init__", s_Lot_init⟩,
  ⟨(atG "check_lot"), "check_lot", "check_lot", s_check_lot⟩,
  ⟨(atG "check_number"), "check_number", "check_number", s_check_number⟩,
  ⟨(atP "Lot" "coins"), "coins", "Lot.coins", s_Lot_coins⟩,
  ⟨(atG "ways_by_coins"), "ways_by_coins", "ways_by_coins", s_ways_by_coins⟩,
  ⟨(atG "few_sums"), "few_sums", "few_sums", s_few_sums⟩,
  ⟨(atG "single_sums"), "single_sums", "single_sums", s_single_sums⟩,
  ⟨(atG "last_single"), "last_single", "last_single", s_last_single⟩,
  ⟨(atG "_law_two_right"), "_law_two_right", "_law_two_right", s_l_two_right⟩,
  ⟨(atG "_law_many"), "_law_many", "_law_many", s_l_many⟩,
  ⟨(atG "_law_all"), "_law_all", "_law_all", s_l_all⟩,
  ⟨(atG "_law_small_right"), "_law_small_right", "_law_small_right", s_l_small_right⟩,
  ⟨(atG "_law_right"), "_law_right", "_law_right", s_l_right⟩,
  ⟨(atG "_law_bowl"), "_law_bowl", "_law_bowl", s_l_bowl⟩,
  ⟨(atG "law"), "law", "law", s_law⟩]
def fa : List He.Fa := [.glo "_law_dip", .glo "_law_coins", .glo "_law_one", .glo "_law_divisor", .glo "is_integer", .glo "is_between", .glo "count_ascending", .glo "count_right", .glo "check_lot", .glo "check_number", .glo "ways_by_coins", .glo "few_sums", .glo "single_sums", .glo "last_single", .glo "_law_two_right", .glo "_law_many", .glo "_law_all", .glo "_law_small_right", .glo "_law_right", .glo "_law_bowl", .glo "law", .glo "Lot", .free "isinstance", .free "int", .free "bool", .free "str", .free "tuple", .free "list", .free "len", .free "enumerate", .free "range", .free "zip", .free "reversed", .free "divmod", .free "abs", .free "sorted", .free "sum", .free "repr", .free "all", .free "any", .free "min", .free "max", .free "set", .free "dict", .int "MOST_COINS" (15), .int "MOST_COIN" (60), .int "MOST_WAYS" (4), .cls "Lot", .noat "Lot" "_coins", .mkr "Lot"]
def exOwn (K : PySem.W.Frag) : Bool := true
def ex (K : PySem.W.Frag) : Bool := isiB K (He.ga K "Lot") && (propB K (He.ga K "Lot") "coins" && exOwn K)
abbrev R : PySem.W.OpenRow := PySem.W.OpenLaw.row PySem.Challenge.rw_mintlots_k17_whole_single_sums
abbrev hk : PySem.W.Hook := hookM 7 fa fn ex
def ob (s : PySem.W.SharedT) : Bool × List He.FnW := obsMG 7 fa fn ex (HandSHeadRun.getT s)
theorem ob_eq (s : PySem.W.SharedT) : ob s = hk.obs s.abs := obsMG_eq (HandSHeadRun.getT_eq s)
abbrev loose : List Str := (["WrongValue", "NotPossible", "InvalidText", "InvalidNumber", "NotALot", "InvalidCoins", "NoEnd", "MOST_COIN", "MOST_COINS", "MOST_WAYS", "is_integer", "is_between", "count_ascending", "check_number", "Lot", "count_right", "coins_in", "check_lot", "ways_by_coins", "few_sums"] : List Str) ++ (["single_sums", "last_single", "_law_bowl", "_law_dip", "_law_one", "_law_coins", "_law_many", "_law_all", "_law_divisor", "_law_small_right", "_law_two_right", "_law_right"] : List Str)
theorem run (w : World) : HandSHeadRun.RunEq R (PySem.W.view R.prog [37]) hk ob 4000 loose w := by
  intro os
  kernel_rfl
theorem facts {P : Program} {w : World} {K : PySem.W.Frag} {h : Heap} {mg : Str → Option Value} {f : Addr} (X : K.In h) (G : h.Ns mainGlobals mg) (hfa : mg ("law" : Str) = some (.ref f)) (c : SaysM fa fn ex K) :
    ∃ fd : FuncData, (∀ (s : Shared) (v : Value), BindsTo s fd ⟨[v], []⟩ [("_law_script", v)]) ∧ ∀ base : Heap, K.In base → base.Ns mainGlobals mg → GFn P w K mg base CX0 19 f fd ["_law_script"] (sp_law K) := by
  obtain ⟨fd0, F0⟩ := c.def_ 0
  obtain ⟨fd1, F1⟩ := c.def_ 1
  obtain ⟨fd2, F2⟩ := c.def_ 2
  obtain ⟨fd3, F3⟩ := c.def_ 3
  obtain ⟨fd4, F4⟩ := c.def_ 4
  obtain ⟨fd5, F5⟩ := c.def_ 5
  obtain ⟨fd6, F6⟩ := c.def_ 6
  obtain ⟨fd7, F7⟩ := c.def_ 7
  obtain ⟨fd8, F8⟩ := c.def_ 8
  obtain ⟨fd9, F9⟩ := c.def_ 9
  obtain ⟨fd10, F10⟩ := c.def_ 10
  obtain ⟨fd11, F11⟩ := c.def_ 11
  obtain ⟨fd12, F12⟩ := c.def_ 12
  obtain ⟨fd13, F13⟩ := c.def_ 13
  obtain ⟨fd14, F14⟩ := c.def_ 14
  obtain ⟨fd15, F15⟩ := c.def_ 15
  obtain ⟨fd16, F16⟩ := c.def_ 16
  obtain ⟨fd17, F17⟩ := c.def_ 17
  obtain ⟨fd18, F18⟩ := c.def_ 18
  obtain ⟨fd19, F19⟩ := c.def_ 19
  obtain ⟨fd20, F20⟩ := c.def_ 20
  obtain ⟨fd21, F21⟩ := c.def_ 21
  obtain ⟨fd22, F22⟩ := c.def_ 22
  have b0 : Binds K fd0 ["_law_bowl_here", "_law_many_here"] [] := bindsP F0 fun _ _ _ _ _ _ us hl => match us, hl with | [_, _], _ => rfl
  have b1 : Binds K fd1 ["_law_bowl_here", "_law_many_here", "_law_most"] [] := bindsP F1 fun _ _ _ _ _ _ us hl => match us, hl with | [_, _, _], _ => rfl
  have b2 : Binds K fd2 ["_law_bowl_here", "_law_menu"] [] := bindsP F2 fun _ _ _ _ _ _ us hl => match us, hl with | [_, _], _ => rfl
  have b3 : Binds K fd3 ["_law_one_here", "_law_other"] [] := bindsP F3 fun _ _ _ _ _ _ us hl => match us, hl with | [_, _], _ => rfl
  have b4 : Binds K fd4 ["value"] [] := bindsP F4 fun _ _ _ _ _ _ us hl => match us, hl with | [_], _ => rfl
  have b5 : Binds K fd5 ["value", "low", "high"] [] := bindsP F5 fun _ _ _ _ _ _ us hl => match us, hl with | [_, _, _], _ => rfl
  have b6 : Binds K fd6 ["values", "low", "high", "most"] [] := bindsP F6 fun _ _ _ _ _ _ us hl => match us, hl with | [_, _, _, _], _ => rfl
  have b7 : Binds K fd7 ["coins"] [] := bindsP F7 fun _ _ _ _ _ _ us hl => match us, hl with | [_], _ => rfl
  have b8 : Binds K fd8 ["self", "coins"] [] := bindsP F8 fun _ _ _ _ _ _ us hl => match us, hl with | [_, _], _ => rfl
  have b9 : Binds K fd9 ["lot"] [] := bindsP F9 fun _ _ _ _ _ _ us hl => match us, hl with | [_], _ => rfl
  have b10 : Binds K fd10 ["number", "low", "high"] [] := bindsP F10 fun _ _ _ _ _ _ us hl => match us, hl with | [_, _, _], _ => rfl
  have b11 : Binds K fd11 ["self"] [] := bindsP F11 fun _ _ _ _ _ _ us hl => match us, hl with | [_], _ => rfl
  have b12 : Binds K fd12 ["rows", "coins", "most"] [] := bindsP F12 fun _ _ _ _ _ _ us hl => match us, hl with | [_, _, _], _ => rfl
  have b13 : Binds K fd13 ["lot", "ways"] [] := bindsP F13 fun _ _ _ _ _ _ us hl => match us, hl with | [_, _], _ => rfl
  have b14 : Binds K fd14 ["lot"] [] := bindsP F14 fun _ _ _ _ _ _ us hl => match us, hl with | [_], _ => rfl
  have b15 : Binds K fd15 ["lot"] [] := bindsP F15 fun _ _ _ _ _ _ us hl => match us, hl with | [_], _ => rfl
  have b16 : Binds K fd16 ["_law_bowl_here"] [] := bindsP F16 fun _ _ _ _ _ _ us hl => match us, hl with | [_], _ => rfl
  have b17 : Binds K fd17 ["_law_coins_here", "_law_most"] [] := bindsP F17 fun _ _ _ _ _ _ us hl => match us, hl with | [_, _], _ => rfl
  have b18 : Binds K fd18 ["_law_coins_here", "_law_total"] [] := bindsP F18 fun _ _ _ _ _ _ us hl => match us, hl with | [_, _], _ => rfl
  have b19 : Binds K fd19 ["_law_bowl_here"] [] := bindsP F19 fun _ _ _ _ _ _ us hl => match us, hl with | [_], _ => rfl
  have b20 : Binds K fd20 ["_law_bowl_here"] [] := bindsP F20 fun _ _ _ _ _ _ us hl => match us, hl with | [_], _ => rfl
  have b21 : Binds K fd21 ["_law_script", "_law_k"] [] := bindsP F21 fun _ _ _ _ _ _ us hl => match us, hl with | [_, _], _ => rfl
  have b22 : Binds K fd22 ["_law_script"] [] := bindsP F22 fun _ _ _ _ _ _ us hl => match us, hl with | [_], _ => rfl
  have g__law_dip : mg "_law_dip" = some (.ref (He.ga K "_law_dip")) := He.glo_ok X G (c.fact 0)
  have g__law_coins : mg "_law_coins" = some (.ref (He.ga K "_law_coins")) := He.glo_ok X G (c.fact 1)
  have g__law_one : mg "_law_one" = some (.ref (He.ga K "_law_one")) := He.glo_ok X G (c.fact 2)
  have g__law_divisor : mg "_law_divisor" = some (.ref (He.ga K "_law_divisor")) := He.glo_ok X G (c.fact 3)
  have g_is_integer : mg "is_integer" = some (.ref (He.ga K "is_integer")) := He.glo_ok X G (c.fact 4)
  have g_is_between : mg "is_between" = some (.ref (He.ga K "is_between")) := He.glo_ok X G (c.fact 5)
  have g_count_ascending : mg "count_ascending" = some (.ref (He.ga K "count_ascending")) := He.glo_ok X G (c.fact 6)
  have g_count_right : mg "count_right" = some (.ref (He.ga K "count_right")) := He.glo_ok X G (c.fact 7)
  have g_check_lot : mg "check_lot" = some (.ref (He.ga K "check_lot")) := He.glo_ok X G (c.fact 8)
  have g_check_number : mg "check_number" = some (.ref (He.ga K "check_number")) := He.glo_ok X G (c.fact 9)
  have g_ways_by_coins : mg "ways_by_coins" = some (.ref (He.ga K "ways_by_coins")) := He.glo_ok X G (c.fact 10)
  have g_few_sums : mg "few_sums" = some (.ref (He.ga K "few_sums")) := He.glo_ok X G (c.fact 11)
  have g_single_sums : mg "single_sums" = some (.ref (He.ga K "single_sums")) := He.glo_ok X G (c.fact 12)
  have g_last_single : mg "last_single" = some (.ref (He.ga K "last_single")) := He.glo_ok X G (c.fact 13)
  have g__law_two_right : mg "_law_two_right" = some (.ref (He.ga K "_law_two_right")) := He.glo_ok X G (c.fact 14)
  have g__law_many : mg "_law_many" = some (.ref (He.ga K "_law_many")) := He.glo_ok X G (c.fact 15)
  have g__law_all : mg "_law_all" = some (.ref (He.ga K "_law_all")) := He.glo_ok X G (c.fact 16)
  have g__law_small_right : mg "_law_small_right" = some (.ref (He.ga K "_law_small_right")) := He.glo_ok X G (c.fact 17)
  have g__law_right : mg "_law_right" = some (.ref (He.ga K "_law_right")) := He.glo_ok X G (c.fact 18)
  have g__law_bowl : mg "_law_bowl" = some (.ref (He.ga K "_law_bowl")) := He.glo_ok X G (c.fact 19)
  have g_law : mg "law" = some (.ref (He.ga K "law")) := He.glo_ok X G (c.fact 20)
  have g_Lot : mg "Lot" = some (.ref (He.ga K "Lot")) := He.glo_ok X G (c.fact 21)
  have c_MOST_COINS := He.int_ok X G (c.fact 44)
  have c_MOST_COIN := He.int_ok X G (c.fact 45)
  have c_MOST_WAYS := He.int_ok X G (c.fact 46)
  have B : Bi mg := ⟨He.free_ok X G (c.fact 22), He.free_ok X G (c.fact 23), He.free_ok X G (c.fact 24), He.free_ok X G (c.fact 25), He.free_ok X G (c.fact 26), He.free_ok X G (c.fact 27), He.free_ok X G (c.fact 28), He.free_ok X G (c.fact 29), He.free_ok X G (c.fact 30), He.free_ok X G (c.fact 31), He.free_ok X G (c.fact 32), He.free_ok X G (c.fact 33), He.free_ok X G (c.fact 34), He.free_ok X G (c.fact 35), He.free_ok X G (c.fact 36), He.free_ok X G (c.fact 37), He.free_ok X G (c.fact 38), He.free_ok X G (c.fact 39), He.free_ok X G (c.fact 40), He.free_ok X G (c.fact 41), He.free_ok X G (c.fact 42), He.free_ok X G (c.fact 43)⟩
  obtain ⟨e1, e0⟩ := He.ba c.more
  obtain ⟨e2, eO⟩ := He.ba e0
  obtain ⟨i1, i2, i3, i4⟩ := isiB_ok e1
  have TC : Tc K mg (He.ga K "Lot") := ⟨He.cls_ok (c.fact 47), He.noat_ok (c.fact 48), g_Lot, i1, i2, i3, i4⟩
  have MK := He.mkr_ok (c.fact 49)
  have e := hfa.symm.trans g_law
  cases e
  refine ⟨fd22, fun s v => ?_, fun base KB GB => ?_⟩
  · exact bindsA F22 (ps := ["_law_script"]) (fun _ _ _ _ _ _ us hl => match us, hl with | [_], _ => rfl) s [v] rfl
  · have k_l_dip := ok_l_dip (P := P) (w := w) (K := K) (mg := mg) (base := base) F0 B
    have o_l_dip := calOf g__law_dip F0 b0 k_l_dip
    have k_l_coins := ok_l_coins (P := P) (w := w) (K := K) (mg := mg) (base := base) F1 B o_l_dip
    have o_l_coins := calOf g__law_coins F1 b1 k_l_coins
    have k_l_one := ok_l_one (P := P) (w := w) (K := K) (mg := mg) (base := base) F2 o_l_dip B
    have o_l_one := calOf g__law_one F2 b2 k_l_one
    have k_l_divisor := ok_l_divisor (P := P) (w := w) (K := K) (mg := mg) (base := base) F3 B
    have o_l_divisor := calOf g__law_divisor F3 b3 k_l_divisor
    have k_is_integer := ok_is_integer (P := P) (w := w) (K := K) (mg := mg) (base := base) F4 B
    have o_is_integer := calOf g_is_integer F4 b4 k_is_integer
    have k_is_between := ok_is_between (P := P) (w := w) (K := K) (mg := mg) (base := base) F5 o_is_integer
    have o_is_between := calOf g_is_between F5 b5 k_is_between
    have k_count_ascending := ok_count_ascending (P := P) (w := w) (K := K) (mg := mg) (base := base) F6 B o_is_between
    have o_count_ascending := calOf g_count_ascending F6 b6 k_count_ascending
    have k_count_right := ok_count_right (P := P) (w := w) (K := K) (mg := mg) (base := base) F7 o_count_ascending c_MOST_COINS c_MOST_COIN
    have o_count_right := calOf g_count_right F7 b7 k_count_right
    have ML : MkL P w K mg base (He.ga K "Lot") := ⟨_, fd8, MK, ok_Lot_init (P := P) (w := w) (K := K) (mg := mg) (base := base) (C := He.ga K "Lot") F8 B o_count_right TC, b8⟩
    have k_check_lot := ok_check_lot (P := P) (w := w) (K := K) (mg := mg) (base := base) (C := He.ga K "Lot") F9 B TC
    have o_check_lot := calOf g_check_lot F9 b9 k_check_lot
    have k_check_number := ok_check_number (P := P) (w := w) (K := K) (mg := mg) (base := base) F10 o_is_between
    have o_check_number := calOf g_check_number F10 b10 k_check_number
    have PC : Prp P w K mg base (He.ga K "Lot") := by
      obtain ⟨oc, od, dV, kV, doc, pm, an, cdv, ct, osl, rfl, lk, hcd, hd, _⟩ := F11.ex
      exact ⟨_, _, _, propB_ok e2, fn_getter lk hcd (N := ["self"]) ⟨rfl, rfl, rfl, by decide +kernel, rfl, by decide +kernel, by decide +kernel⟩ rfl rfl TC.cl TC.nc, b11⟩
    have k_ways_by_coins := ok_ways_by_coins (P := P) (w := w) (K := K) (mg := mg) (base := base) F12 B
    have o_ways_by_coins := calOf g_ways_by_coins F12 b12 k_ways_by_coins
    have k_few_sums := ok_few_sums (P := P) (w := w) (K := K) (mg := mg) (base := base) (C := He.ga K "Lot") F13 o_check_lot o_check_number c_MOST_WAYS TC PC B o_ways_by_coins
    have o_few_sums := calOf g_few_sums F13 b13 k_few_sums
    have k_single_sums := ok_single_sums (P := P) (w := w) (K := K) (mg := mg) (base := base) (C := He.ga K "Lot") F14 o_few_sums
    have o_single_sums := calOf g_single_sums F14 b14 k_single_sums
    have k_last_single := ok_last_single (P := P) (w := w) (K := K) (mg := mg) (base := base) (C := He.ga K "Lot") F15 o_single_sums
    have o_last_single := calOf g_last_single F15 b15 k_last_single
    have k_l_two_right := ok_l_two_right (P := P) (w := w) (K := K) (mg := mg) (base := base) (C := He.ga K "Lot") F16 o_l_coins o_l_one o_l_divisor TC ML B o_single_sums o_last_single
    have o_l_two_right := calGOf g__law_two_right F16 b16 k_l_two_right
    have k_l_many := ok_l_many (P := P) (w := w) (K := K) (mg := mg) (base := base) F17 B
    have o_l_many := calOf g__law_many F17 b17 k_l_many
    have k_l_all := (show FnOk P w K mg base CX0 16 _ fd18 ["_law_coins_here", "_law_total"] (sp_l_all2 15) from ok_l_all (P := P) (w := w) (K := K) (mg := mg) (base := base) F18 B g__law_all b18 15)
    have o_l_all := calOf g__law_all F18 b18 k_l_all
    have q1 : CalK P w K mg base 5 "single_sums" ["lot"] _ 0 ["lot"] (fun _ zs => gP [0] zs) := ⟨_, fd14, fun _ ws => gP [0] ws, g_single_sums, F14.kp, bindsK F14 (fun _ _ _ _ _ _ us ws h1 h2 => match us, h1, ws, h2 with | [], _, [_], _ => rfl) (fun _ z => pick_vals z _), k_single_sums⟩
    have q2 : CalK P w K mg base 6 "last_single" ["lot"] _ 0 ["lot"] (fun _ zs => gP [0] zs) := ⟨_, fd15, fun _ ws => gP [0] ws, g_last_single, F15.kp, bindsK F15 (fun _ _ _ _ _ _ us ws h1 h2 => match us, h1, ws, h2 with | [], _, [_], _ => rfl) (fun _ z => pick_vals z _), k_last_single⟩
    have k_l_small_right := ok_l_small_right (P := P) (w := w) (K := K) (mg := mg) (base := base) (C := He.ga K "Lot") F19 o_l_coins o_l_one o_l_dip o_single_sums TC ML B o_l_many o_l_all q1 q2 o_last_single
    have o_l_small_right := calGOf g__law_small_right F19 b19 k_l_small_right
    have k_l_right := ok_l_right (P := P) (w := w) (K := K) (mg := mg) (base := base) F20 o_l_two_right o_l_small_right
    have o_l_right := calGOf g__law_right F20 b20 k_l_right
    have k_l_bowl := ok_l_bowl (P := P) (w := w) (K := K) (mg := mg) (base := base) F21 B
    have o_l_bowl := calOf g__law_bowl F21 b21 k_l_bowl
    exact ok_law F22 B o_l_right o_l_bowl
end Kx
open PySem PySem.W PySem.Calls PyProof.Rows
theorem PySem.Challenge.cw_mintlots_k17_whole_single_sums_holds : PySem.Challenge.rw_mintlots_k17_whole_single_sums.Holds := by
  w_on; o_law
  refine HandSHeadRun.head_any (r := OpenLaw.row PySem.Challenge.rw_mintlots_k17_whole_single_sums) (q := view (OpenLaw.row PySem.Challenge.rw_mintlots_k17_whole_single_sums).prog [37]) (H := Kx.hk) (ob := Kx.ob) (M := 4000) (loose := Kx.loose)
    (d := HandSHeadRun.topDef (OpenLaw.row PySem.Challenge.rw_mintlots_k17_whole_single_sums).prog 37) (kwd := []) Kx.ob_eq (by kernel_rfl) (fun s => by kernel_rfl) Kx.run (by kernel_rfl) (by kernel_rfl) (by kernel_rfl) (by rfl) (by first | assumption | decide +kernel) (by decide +kernel) ⟨rfl, rfl, rfl, rfl, rfl, by decide +kernel⟩ ?hw ?hc
  case hw => w_witness2
  case hc =>
    refine MG.law_end (l := PySem.Challenge.rw_mintlots_k17_whole_single_sums) (n := 63) (k := 19) (x := "_law_script") (C := L2.CX0) rfl (by decide) (by kernel_rfl) ⟨rfl, by decide, by decide⟩ ?F (fun _ _ _ _ z => z)
    intro w mg fa h Y G hmg0
    obtain ⟨K, KX, c⟩ := Y
    have hmg : mg ("law" : PySem.Str) = some (.ref fa) := by
      have e : (HandSHeadRun.topDef (OpenLaw.row PySem.Challenge.rw_mintlots_k17_whole_single_sums).prog 37).name = ("law" : PySem.Str) := by kernel_rfl
      rw [← e]
      exact hmg0
    obtain ⟨fd, hb, hF⟩ := Kx.facts (P := (PySem.Challenge.rw_mintlots_k17_whole_single_sums).prog) (w := w) KX G hmg c
    exact ⟨K, fd, Kx.sp_law K, KX, hb, fun H a ns hl _ _ hS => ⟨a, ns, rfl, hS, hl, fun _ => rfl⟩, hF⟩

