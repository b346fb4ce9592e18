import PyProof.Rows.All
import Wide.All
import OpenK.AllK
import Wide.FinOn
import KE.KStateDown
import Lean
import HandS.ForMost
import HandS.Exc
import HandS.WordsExc
import HandS.Defaults
import HandS.Head0
import HandS.Head1
import HandS.Head2
import HandS.HeadEnd
import HandS.EndBits
import HandS.HeadHook1
import HandS.HeadHook2
import HandS.HeadHook4
import HandS.IsInst
import HandS.Property
import HandS.Conv
import HandS.SortInts
import PyProof.ReprRoads
import KE.GoesEnum
import PyProof.ReprLen
import PyProof.FitsInt
import HandS.RaiseMore
import HandS.Rev
import HandS.TupAny
import HandS.TupLe
import HandS.Zip
import HandS.WideBits
import HandS.Wide
import HandS.OwnEq
import KE.KCallOwn
import HandS.SetFor
import HandS.Strs
import HandS.Gcd
import PyProof.StrLawsRepr
import PyProof.NeData
import KE.GoesMore
import KE.GoesZip
import HandS.Walk
import KE.KDictZip
import HandS.Iter
import PySem.Challenge.RW_mintlots_k30_whole_lags
set_option Elab.async false
set_option linter.all false
set_option maxRecDepth 100000
set_option maxHeartbeats 0
/-! Own layer: promises of defs that are kept where no guard stands around (repr of lists and tuples wants that). -/
namespace MG
open PySem PySem.Spec PyProof.Rows L2
/-- like a promise of the layer, asked for only where no guard is set -/
structure GFn (P : Program) (w : World) (K : PySem.W.Frag) (mg : Str → Option Value) (base : Heap) (C : CXT) (n : Nat) (g : Addr) (dat : FuncData) (pars : List Str) (pr : Sp) : Prop where
  lng : ∀ a b c d, pr a b c d → a.length = pars.length
  does : ∀ (A : Around) (out : List Env) (s : Shared) (H : Hp) (ar : Args) (us : List Value) (vs : List V) (Q : VK) (E : XK),
    Room n A → A.guards = some [] → Env0 P w K mg base A out s H → BindsTo s dat ar (pars.zip us) → Vals vs us → pr vs H Q E →
      codeAny (model P w) A (.call (.ref g) ar) (CR C out P w H s Q E) s
theorem GFn.of {P : Program} {w : World} {K : PySem.W.Frag} {mg : Str → Option Value} {base : Heap} {C : CXT} {n : Nat} {g : Addr} {dat : FuncData} {pars : List Str} {pr : Sp}
    (F : FnOk P w K mg base C n g dat pars pr) : GFn P w K mg base C n g dat pars pr :=
  ⟨F.len, fun A out s H ar us vs Q E h1 _ h2 h3 h4 h5 => F.run A out s H ar us vs Q E h1 h2 h3 h4 h5⟩
theorem deeper_guards {A : Around} {env : Env} (h : A.guards = some []) : (A.deeper env).guards = some [] := by
  first
    | exact h
    | simpa [Around.deeper] using h
section
variable {X : Cx} {C : CXT} {n : Nat} {g : Addr} {dat : FuncData} {pars : List Str} {pr : Sp} {dvs : List V} {ds : List Value} {E : XK} {x : Str} {p pos : Pos} {e : Expr} {es : List Expr} {t : TA}
theorem does_fn {pins : List (Addr × Obj)} {σ : L2.St} {H : Hp} {s : Shared} {Q : VK} {us : List Value} {vs : List V}
    (F : GFn X.prog X.w X.K X.mg X.base C n g dat pars pr) (rm : Room n X.A) (hg : X.A.guards = some []) (hb : Binds X.K dat pars ds) (hd : Vals dvs ds) (hx : Passes C X E)
    (I : Inv X pins σ H s) (r : Vals vs us) (h : pr (vs ++ dvs) H Q E) :
    wpAny (model X.prog X.w) X.A (call (.ref g) us) (EP X pins σ Q) X.xe s := by
  have both : Vals (vs ++ dvs) (us ++ ds) := Vals.append r hd
  have hl : (us ++ ds).length = pars.length := (both.length).symm.trans (F.lng _ _ _ _ h)
  have go := F.does X.A X.stack s H ⟨us, []⟩ (us ++ ds) (vs ++ dvs) Q E rm hg I.env0 (hb s us I.kIn hl) both h
  refine wpAny_call (codeAny_mono go ?_)
  intro res s' hq
  match res, hq with
  | .error er, hq => exact hx pins σ H s er s' I hq
  | .ok (.ret u), hq => exact I.after hq
  | .ok .next, hq => exact hq.elim
  | .ok .brk, hq => exact hq.elim
  | .ok .cont, hq => exact hq.elim
theorem pe_callG (F : GFn X.prog X.w X.K X.mg X.base C n g dat pars pr) (rm : Room n X.A) (hgu : X.A.guards = some []) (hg : Gl X x) (hm : X.mg x = some (.ref g)) (hk : PySem.W.keepIn X.K (.ref g) = true)
    (hb : Binds X.K dat pars ds) (hd : Vals dvs ds) (hx : Passes C X E) (ha : PA X (e :: es) t)
    (hdb : (x == ("__debug__" : Str)) = false := by decide) (he : starEach (e :: es) X.env = (false, eval e X.env) :: starEach es X.env := by rfl)
    (hpl : (backTo pos (starEach es X.env)).any (·.1) = false := by rfl) :
    PE X (.Call (.Name x p) (e :: es) [] pos) (tCall pr dvs E t) :=
  ⟨fun pins s σ H Q I h => wpAny_Call_Name_kw (ld_glob I hg hm
    (PySem.W.callWith_K (h₀ := X.base) I.ok.mod.kin hk
      (thn (ha.run pos pins s σ H _ I h) fun us s1 ⟨vs, H1, I1, r, q⟩ => ⟨I1.kIn, does_fn F rm hgu hb hd hx I1 r q⟩) he hpl) hdb)⟩
theorem pe_callG0 (F : GFn X.prog X.w X.K X.mg X.base C n g dat pars pr) (rm : Room n X.A) (hgu : X.A.guards = some []) (hg : Gl X x) (hm : X.mg x = some (.ref g)) (hk : PySem.W.keepIn X.K (.ref g) = true)
    (hb : Binds X.K dat pars ds) (hd : Vals dvs ds) (hx : Passes C X E)
    (hdb : (x == ("__debug__" : Str)) = false := by decide) : PE X (.Call (.Name x p) [] [] pos) (tCall pr dvs E tNil) :=
  ⟨fun pins s σ H Q I h => wpAny_Call_Name_kw (ld_glob I hg hm
    (PySem.W.callWith_K0 I.kIn hk (does_fn (us := []) F rm hgu hb hd hx I .nil h)) hdb)⟩
/-- repr of a list or a tuple of data -/
def rRepr (K : PySem.W.Frag) : List V → Hp → VK → Prop := fun xs H Q => ∃ (a : Addr) (d : PyData), xs = [.ref a] ∧ Dp K H (.ref a) d ∧ d.showable = true ∧ d.hasDict = false ∧ d.depth < 100 ∧ d.shown.length ≤ sizeLine ∧ Q (.str d.shown) H
theorem call_reprD (hg : X.A.guards = some []) (rm : Room n X.A) : CallR X (.builtin "repr") (rRepr X.K) := by
  intro pins s σ H xs us Q I r h
  obtain ⟨a, d, rfl, hd, hs, hdi, hdep, hsz, q⟩ := h
  obtain ⟨u, rfl, rx⟩ := vals1 r
  cases (show u = Value.ref a from rx)
  obtain ⟨as, rd⟩ := Dp.reads I d (.ref a) (.ref a) hd rfl
  have hu : X.A.units + (d.depth + 1) < cLine := by
    have z := rm.un
    omega
  exact repr_of_reads' rd hs (fun z => absurd (hdi.symm.trans z) (by decide)) hg hu (fun _ _ z => z)
    (fun h' u tk hk => ⟨.str d.shown, H, I.kept hk, ⟨_, rfl⟩, q⟩) hsz
end
section
variable {P : Program} {w : World} {K : PySem.W.Frag} {mg : Str → Option Value} {base : Heap} {nm qual : Str} {params : Arguments} {body : List Stmt} {scope : Scope} {dvs : List V} {kws : List (Str × V)} {f : Addr} {fd : FuncData}
theorem okG {C : CXT} {N ps : List Str} {k : Nat} {sp : Sp} (F : FunD K nm qual params body scope dvs kws f fd) (S : FnScope N ps scope)
    (lng : ∀ a b c d, sp a b c d → a.length = ps.length)
    (hbody : ∀ (cdv : Value) (A : Around) (outer : List Env) (s : Shared) (H : Hp) (vs : List V) (Q : VK) (E : XK),
      Room k (A.deeper (envOfC qual scope s.heap.objs.size f cdv)) → (A.deeper (envOfC qual scope s.heap.objs.size f cdv)).guards = some [] → sp vs H Q E →
      ∃ t, PSs (cxOf C P w K mg base N qual scope f cdv A outer s H E) body t ∧ t { nx := fun _ H' => Q .non H', rt := Q } (start N vs) H) :
    GFn P w K mg base C (k + 1) f fd ps sp := by
  obtain ⟨oc, od, dV, kV, doc, pm, an, cdv, ct, osl, rfl, lk, hcd, _, _⟩ := F.ex
  refine ⟨lng, ?_⟩
  intro A outer s H args us vs Q E rm gu e0 hb r hsp
  have hl := lng _ _ _ _ hsp
  have KX : K.In s.heap := e0.mod.kin.keeps fun b o z => (e0.bs b o z).1
  have lim : s.heap.NoLimit := e0.mod.nolimit.keeps fun b o z => (e0.bs b o z).1
  have kinds : ∀ y ∈ ps.zip us, scope.names.lookup y.1 = some .local ∨
      (scope.names.lookup y.1 = some .cell ∧ ((cellsFrom (s.heap.objs.size + 1) scope.names []).lookup y.1).isSome = true) := by
    rintro ⟨n, v⟩ hy
    rcases S.par n (List.of_mem_zip hy).1 with q | q
    · exact Or.inl q
    · exact Or.inr ⟨q, PySem.W.cellsFrom_some _ _ _ (Or.inl q)⟩
  refine codeAny_call_function rm.depth (KX _ _ lk) rfl S.co S.gen rfl (PySem.W.codeRec_of KX hcd) (hb _ _ _ _ ?_)
  refine wpAny_newFunctionEnv_cells S.kind kinds ?_
  intro env he s1 x
  subst he
  refine ⟨lim.keeps x.toInCall.keep, codeAny_func ?_⟩
  obtain ⟨t, ht, hq⟩ := hbody cdv A outer s H vs Q E (rm.deeper _) (deeper_guards gu) hsp
  have I : Inv (cxOf C P w K mg base N qual scope f cdv A outer s H E) [] (start N vs) H s1 := inv_start S rm.hd e0 hl r x
  refine wpAny_mono (ht.run [] s1 (start N vs) H _ I hq) ?_ (fun _ _ z => z)
  intro fl s' hs
  match fl, hs with
  | .ret u, hs =>
    obtain ⟨v, σ', H', J, rv, q⟩ := hs
    exact ⟨v, H', J.os, J.bare, J.base, J.hok, rv, q⟩
  | .next, hs =>
    obtain ⟨σ', H', J, q⟩ := hs
    exact ⟨V.non, H', J.os, J.bare, J.base, J.hok, rfl, q⟩
  | .brk, hs =>
    obtain ⟨_, _, _, q⟩ := hs
    exact q.elim
  | .cont, hs =>
    obtain ⟨_, _, _, q⟩ := hs
    exact q.elim
end
/-- the law's own call, its promise kept where no guard stands -/
theorem law_go {P : Program} {w : World} {K : PySem.W.Frag} {mg mb : Str → Option Value} {C : CXT} {k : Nat} {fa a : Addr} {fd : FuncData} {x : Str} {sp : Sp} {s : Shared} {vs : List Value} {ns : List Int}
    (KX : K.In s.heap) (hns : s.heap.Ns mainGlobals mg) (hb : s.heap.Ns builtinsNs mb) (hbb : ∀ y : Str, y ≠ "__name__" → mb y = bootBuiltins y) (hlim : s.heap.NoLimit) (hg : s.gens = #[])
    (ha : s.heap.get? a = some { cls := .type "list", data := .seq vs.toArray }) (hi : IntsAre vs ns) (hl : ns.length ≤ sizeLine) (rm : Room k callerA)
    (F : ∀ base : Heap, K.In base → base.Ns mainGlobals mg → GFn P w K mg base C k fa fd [x] sp) (hbind : ∀ (s : Shared) (u : Value), BindsTo s fd ⟨[u], []⟩ [(x, u)])
    (hsp : ∀ H : Hp, Only H → SqL K H a (ns.map V.int) → sp [.ref a] H (fun v _ => v = .bl true) fun _ _ _ => False)
    (hC : ∀ H e s', C [] H s (fun _ _ _ => False) e s' → False) :
    codeAny (model P w) callerA (.call (.ref fa) ⟨[.ref a], []⟩) (fun r s' => r = .ok (.ret (.bool true)) ∧ OldK s.heap s'.heap ∧ s'.os = s.os ∧ AllBare s'.gens) s := by
  have rv := vals_ints hi
  have core : ∀ H : Hp, Only H → SqL K H a (ns.map V.int) → HOk P w H s.heap → (∀ b, H b ≠ none → b = a) → (H a ≠ none → K.lookup a = none) →
      codeAny (model P w) callerA (.call (.ref fa) ⟨[.ref a], []⟩) (fun r s' => r = .ok (.ret (.bool true)) ∧ OldK s.heap s'.heap ∧ s'.os = s.os ∧ AllBare s'.gens) s := by
    intro H hO hS hok hA hK
    have noA : ∀ {b : Addr} {o : Obj} {es : Array DictEntry} {ep : Nat}, s.heap.get? b = some o → o.data = .dict es ep → H b = none := by
      intro b o es ep e d
      match q : H b with
      | none => rfl
      | some u =>
        obtain rfl : b = a := hA b (by rw [q]; simp)
        rw [ha] at e
        cases e
        exact nomatch (show Data.seq vs.toArray _ = Data.dict es ep from d)
    have nsK : ∀ {b : Addr} {m : Str → Option Value}, s.heap.Ns b m → (hidT s.heap H).Ns b m := by
      rintro b m ⟨o, es, ep, e, d, r⟩
      exact ⟨o, es, ep, hidT_get e (noA e d), d, r⟩
    have hKb : K.In (hidT s.heap H) := by
      intro b o e
      refine hidT_get (KX b o e) ?_
      match q : H b with
      | none => rfl
      | some u =>
        obtain rfl : b = a := hA b (by rw [q]; simp)
        rw [hK (by rw [q]; simp)] at e
        cases e
    have hM : Mod K mg (hidT s.heap H) := by
      obtain ⟨mc, h1, h2⟩ := hlim
      exact ⟨hKb, nsK hns, ⟨mb, nsK hb, hbb⟩, ⟨mc, nsK h1, h2⟩⟩
    have e0 : Env0 P w K mg (hidT s.heap H) callerA [] s H :=
      ⟨rfl, hM, fun b o e => of_hidT e, Nat.le_of_eq (hidT_size _ _), trivial, fun b hb => absurd (show b ∈ ([] : List Addr) from hb) (by simp), hok, .of_eq hg⟩
    have go := (F _ hKb (nsK hns)).does callerA [] s H ⟨[.ref a], []⟩ [.ref a] [.ref a] _ _ rm rfl e0 (hbind s (.ref a)) (.cons rfl .nil) (hsp H hO hS)
    refine codeAny_mono go ?_
    intro r s' h
    match r, h with
    | .error e, h => exact (hC H e s' h).elim
    | .ok .next, h => exact h.elim
    | .ok .brk, h => exact h.elim
    | .ok .cont, h => exact h.elim
    | .ok (.ret u), h =>
      obtain ⟨v, H', os, bare, un, hok', r', q⟩ := h
      obtain rfl : v = .bl true := q
      obtain rfl : u = Value.bool true := r'
      refine ⟨rfl, OldK.of_keep ?_, os, bare⟩
      intro b o e
      match q : H b with
      | none => exact un.keep b o e q (fun z => absurd (show b ∈ ([] : List Addr) from z) (by simp)) (by simp)
      | some u =>
        rcases hO b with z | ⟨ob, xs, z⟩
        · rw [q] at z
          cases z
        · have e1 := (hok b _ z).1
          have e2 := (hok' b _ (un.frzs b ob _ z)).1
          rw [e] at e1
          cases e1
          exact e2
  match hk : K.lookup a with
  | some o =>
    have e := KX a o hk
    rw [ha] at e
    cases e
    refine core (fun _ => none) (fun _ => .inl rfl) ?_ (fun b u z => nomatch (show (none : Option HO) = some u from z)) (fun b z => absurd rfl z) fun z => absurd rfl z
    exact .inr ⟨_, vs.toArray, _, hk, rfl, rfl, rfl, by rw [List.size_toArray, hi.length]; exact hl, by simpa using rv⟩
  | none =>
    refine core (fun b => if b = a then some (.frz { cls := .type "list", data := .seq vs.toArray } (.lst (ns.map V.int))) else none) ?_ (.inl (.inr ⟨_, if_pos rfl⟩)) ?_ ?_ fun _ => hk
    · intro b
      by_cases hb : b = a
      · exact .inr ⟨_, _, if_pos hb⟩
      · exact .inl (if_neg hb)
    · intro b u z
      by_cases hb : b = a
      · have z' := (if_pos hb).symm.trans z
        cases z'
        subst hb
        exact ⟨ha, (List.length_map (as := ns) V.int).symm ▸ hl, vs, _, rv, ha⟩
      · exact nomatch (if_neg hb).symm.trans z
    · intro b z
      by_cases hb : b = a
      · exact hb
      · exact absurd (if_neg hb) z
theorem law_end {l : PySem.W.OpenLaw} {n k : Nat} {q : Program} {loose : List Str} {XP : (Str → Option Value) → Heap → Prop} {YP : World → Heap → Prop} {d : DefRec} {C : CXT} {x : Str}
    (hn : l.most = some n) (hn2 : n ≤ sizeLine) (hdf : d.params.defaults = []) (rm : Room k callerA)
    (F : ∀ (w : World) (mg : Str → Option Value) (fa : Addr) (h : Heap), YP w h → h.Ns mainGlobals mg → mg d.name = some (.ref fa) →
      ∃ (K : PySem.W.Frag) (fd : FuncData) (sp : Sp), K.In h ∧ (∀ (s : Shared) (u : Value), BindsTo s fd ⟨[u], []⟩ [(x, u)]) ∧
        (∀ (H : Hp) (a : Addr) (ns : List Int), ns.length ≤ n → (∀ i : Int, i ∈ ns → Builtin.Int.intBits i ≤ 1048576) → Only H → SqL K H a (ns.map V.int) → sp [.ref a] H (fun v _ => v = .bl true) fun _ _ _ => False) ∧
        ∀ base : Heap, K.In base → base.Ns mainGlobals mg → GFn l.prog w K mg base C k fa fd [x] sp)
    (hC : ∀ (H : Hp) (s : Shared) (e : Value) (s' : Shared), C [] H s (fun _ _ _ => False) e s' → False) :
    PySem.W.WalkO q loose XP YP l.row.toRowW d [] (fun f vs => PySem.call f vs) := by
  refine Att.attach_callB hn hdf ?_
  intro w s₀ s₁ mg mb fa o pm cd doc a vs ns G Y ho hd hcd hmg hobj hints hlen hbits hg
  obtain ⟨K, fd, sp, KX, hb, hsp, hF⟩ := F w mg fa _ Y G.T.g hmg
  refine law_go KX G.T.g G.T.b G.T.builtins G.T.nolimit hg hobj hints (Nat.le_trans hlen hn2) rm hF hb ?_ fun H e s' => hC H s₁ e s'
  intro H hO hS
  exact hsp H a ns hlen hbits hO hS
end MG

/-! enumerate of a tuple -/
namespace MG
open PySem PySem.Spec PyProof.Rows L2
theorem enum_new1 {v : Value} {o : Obj} {G : Heap → Prop} (B : Begins v o G) :
    Meets (Builtin.«enumerate.__new__» ⟨[.type "enumerate", v], []⟩) (fun _ R s => G s.heap ∧
      R (.ok (.ret (.ref (s.heap.push o).objs.size)))
        { s with heap := (s.heap.push o).push { cls := .type "enumerate", data := .fields #[.none, .bool false, .ref s.heap.objs.size, rawInt 0, .none, .none] } }) := by
  refine Meets.of_wp ?_
  intro prog w A R s h
  obtain ⟨hp, g, d, tk, os⟩ := s
  obtain ⟨h1, h⟩ := h
  have sub := PySem.sub_enumerate
  have it : ∀ {A' : Around} {E : Value → Shared → Prop} {Q : Value → Shared → Prop}, Q (.ref hp.objs.size) ⟨hp.push o, g, d, tk, os⟩ → wpAny (model prog w) A' (pyIter v) Q E ⟨hp, g, d, tk, os⟩ :=
    fun {_ _ _} q => B.iter prog w _ _ ⟨hp, g, d, tk, os⟩ _ h1 q
  wp_walk using it
  refine wpAny_stack_any fun st => wpAny_pure ?_
  split
  · rename_i c _ _ _ _ _
    cases (c == Value.type "enumerate") <;> (wp_walk using it; exact ⟨_, rfl, h⟩)
  · (wp_walk using it; exact ⟨_, rfl, h⟩)
section
variable {prog : Program} {w : World} {A : Around} {E : Value → Shared → Prop} {s : Shared}
theorem enum_call1 {v : Value} {o : Obj} {G : Heap → Prop} {Q : Value → Shared → Prop} (B : Begins v o G) (h1 : G s.heap)
    (h : ∀ h', IsEnum h' (s.heap.objs.size + 1) s.heap.objs.size 0 .none → h'.get? s.heap.objs.size = some o →
      (∀ b o, s.heap.get? b = some o → h'.get? b = some o) → Q (.ref (s.heap.objs.size + 1)) { s with heap := h' }) :
    wpAny (model prog w) A (call (.type "enumerate") [v]) Q E s := by
  refine callType_new F.called_enumerate (by decide) (F.typeCall_enumerate_1 _) (F.newCall_enumerate_1 _) (fun obj => F.args_object_init_2 obj _) F.entry_enumerate_new (enum_new1 B) ⟨h1, ?_⟩
  have hz : (s.heap.push o).objs.size = s.heap.objs.size + 1 := Heap.size_push ..
  have he := Heap.get?_push_size (s.heap.push o) (o := { cls := .type "enumerate", data := .fields #[.none, .bool false, .ref s.heap.objs.size, rawInt 0, .none, .none] }) rfl
  show _ ∧ _
  rw [hz] at he ⊢
  exact ⟨⟨_, he, rfl⟩, h _ he (Heap.get?_push_of_some _ (Heap.get?_push_size _ B.free)) fun b o x => Heap.get?_push_of_some _ (Heap.get?_push_of_some _ x)⟩
end
/-- a tuple that stands, its items numbered, each in a new pair -/
def Iet (K : PySem.W.Frag) (a : Addr) (xs : List V) : It where
  go := fun i H => SqT K H a xs ∧ i < xs.length
  yld := fun i H v H' => ∃ T x, v = .ref T ∧ H T = none ∧ H' = upd H T (.tup [.int (i : Nat), x]) ∧ xs[i]? = some x
  stop := fun i H => SqT K H a xs ∧ xs.length = i
theorem turn_et {P : Program} {w : World} {K : PySem.W.Frag} {elts : List Expr} {kk : Nat} {tpos : Pos} (a e it : Addr) (xs : List V) :
    Turn P w K (.Tuple elts kk tpos) (Iet K a xs) [e, it] e (fun i h => (∃ old, IsEnum h e it ((i : Nat) : Int) old) ∧ h.IsTupleIter it a i ∧ e ≠ it) where
  mem := by simp
  obj := by
    rintro i h ⟨⟨old, he⟩, ⟨o, ho, hc, hd⟩, _⟩ b hb
    rcases (show b = e ∨ b = it by simpa using hb) with z | z
    · rw [z]
      exact ⟨_, he, fun v q => nomatch q⟩
    · exact ⟨o, by rw [z]; exact ho, fun v q => by rw [hd] at q; cases q⟩
  keep := by
    rintro i h h' ⟨⟨old, he⟩, hi, hne⟩ k
    exact ⟨⟨old, k e (by simp) _ he⟩, hi.at fun o q => k it (by simp) o q, hne⟩
  item := by
    intro X hP hw hK hc i pins s σ H E I hf st hgo
    subst hP hw hK
    obtain ⟨⟨old, he⟩, hit, hne⟩ := st
    obtain ⟨hq, hi⟩ := hgo
    obtain ⟨its, rv, p, hz⟩ := I.tuple hq
    have hln := rv.length
    have hel : e < s.heap.objs.size := Heap.lt_size he
    have hil : it < s.heap.objs.size := by obtain ⟨_, q, _⟩ := hit; exact Heap.lt_size q
    have nat' : a ≠ it := by
      intro z
      obtain ⟨o1, q1, c1, _⟩ := hit
      obtain ⟨o2, q2, c2, _⟩ := p
      rw [z, q1] at q2
      cases q2
      rw [c1] at c2
      exact absurd c2 (by decide)
    have nae : a ≠ e := by
      intro z
      obtain ⟨o2, q2, c2, _⟩ := p
      have he' : s.heap.get? e = some _ := he
      rw [z, he'] at q2
      cases q2
      exact absurd (show Value.type "enumerate" = Value.type "tuple" from c2) (by decide)
    have D := Draws.tuple (prog := X.prog) (w := X.w) (A := X.A.in1) (by have z := I.ok.hd hc; exact z) it a nat' its.toArray
    refine wpAny_pyNext_enum_itemC D he ⟨hit, p⟩ (show i < its.toArray.size by simp; omega) hne (by simp; exact ⟨hne, fun z => nae z.symm⟩) ?_
    intro u h' tk hu ho st' hT hsz hk
    have hu' : its[i]? = some u := by simpa using hu
    obtain ⟨x, hx⟩ : ∃ x, xs[i]? = some x := ⟨xs[i], List.getElem?_eq_getElem hi⟩
    obtain ⟨u2, hu2, ru⟩ := rv.get hx
    rw [hu'] at hu2
    cases hu2
    refine ⟨_, rfl, wpAny_letOwnedTupleGo_enum (s := { s with heap := h', toks := tk + 1 }) ho ?_⟩
    intro h'' he' sb
    have hT2 : h''.get? s.heap.objs.size = some { cls := .type "tuple", data := .seq #[.int i tk, u] } := (sb.2 _ (Nat.ne_of_gt hel)).trans hT
    have new : ObjOk X.prog X.w (upd H s.heap.objs.size (.tup [.int (i : Nat), x])) h'' s.heap.objs.size (.tup [.int (i : Nat), x]) :=
      ⟨by show 2 ≤ sizeLine; decide, [.int i tk, u], .cons ⟨_, rfl⟩ (.cons ru .nil), ⟨_, hT2, rfl, _, rfl⟩⟩
    have kp : ∀ b o, b ∉ [e, it] → s.heap.get? b = some o → h''.get? b = some o := fun b o hb q =>
      (sb.2 b (fun z => hb (by simp [z]))).trans (hk b o (fun z => hb (by simp [z])) (fun z => hb (by simp [z])) q)
    have I1 : Inv X pins σ (upd H s.heap.objs.size (.tup [.int (i : Nat), x])) { s with heap := h'', toks := tk + 1 } :=
      I.turnedNew (ch := [e, it]) kp hf (Nat.le_refl _) new
    refine ⟨.ref s.heap.objs.size, _, I1, rfl, ⟨_, x, rfl, I.hok.fresh (Nat.le_refl _), rfl, hx⟩, ⟨⟨u, ?_⟩, st'.1.at fun o q => (sb.2 it (Ne.symm hne)).trans q, hne⟩, ?_⟩
    · have e1 : ((i + 1 : Nat) : Int) = (i : Int) + 1 := by omega
      rw [e1]
      exact he'
    · intro b hb
      have hb' : b < s.heap.objs.size := by
        rcases (show b = e ∨ b = it by simpa using hb) with z | z <;> rw [z] <;> assumption
      rw [upd_ne (Nat.ne_of_lt hb')]
      exact (hf b hb).1
  done := by
    intro X hP hw hK hc i pins s σ H E I hf st hs
    subst hP hw hK
    obtain ⟨⟨old, he⟩, hit, hne⟩ := st
    obtain ⟨hq, hx⟩ := hs
    obtain ⟨its, rv, p, hz⟩ := I.tuple hq
    have hl := rv.length
    have nat' : a ≠ it := by
      intro z
      obtain ⟨o1, q1, c1, _⟩ := hit
      obtain ⟨o2, q2, c2, _⟩ := p
      rw [z, q1] at q2
      cases q2
      rw [c1] at c2
      exact absurd c2 (by decide)
    have D := Draws.tuple (prog := X.prog) (w := X.w) (A := X.A.in1) (by have z := I.ok.hd hc; exact z) it a nat' its.toArray
    obtain ⟨f0, f1, f2, f3, f4, f5⟩ := hf it (by simp)
    have e1 : its.toArray.size = i := by simp; omega
    refine wpAny_pyNext_enum_endD D he (by rw [e1]; exact ⟨hit, p⟩) ?_
    intro h' eb
    exact ⟨rfl, I.turned (t' := s.toks) (fun b o hb q => eb b o hb q) f0 f1 f3 f4 f5⟩
  self := by
    rintro A i s Q E ⟨⟨_, he⟩, _⟩ h
    exact wpAny_pyIter_enum he h
def iEnT (K : PySem.W.Frag) (ta : TA) : TI := fun σ H R => ta σ H fun vs H1 => ∃ a xs, vs = [.ref a] ∧ SqT K H1 a xs ∧ R (Iet K a xs) H1
theorem pi_enumT {X : Cx} {e : Expr} {ta : TA} {p pos tpos : Pos} {elts : List Expr} {kk : Nat} (hg : Gl X "enumerate") (hm : X.mg "enumerate" = none) (ha : PA X [e] ta)
    (hs : starEach [e] X.env = [(false, eval e X.env)] := by rfl) : PI X (.Tuple elts kk tpos) (.Call (.Name "enumerate" p) [e] [] pos) (iEnT X.K ta) := by
  refine ⟨?_⟩
  intro pins s σ H R I h
  refine Call_ (ld_blt I hg hm boot_enumerate (PyProof.Rows.callWith_type1 (thn (ha.run pos pins s σ H _ I h) ?_) hs rfl))
  rintro us s1 ⟨vs, H1, I1, r1, a, xs, rfl, hq, q⟩
  obtain ⟨u, rfl, rx⟩ := vals1 r1
  cases (show u = Value.ref a from rx)
  obtain ⟨its, rv, p', hz⟩ := I1.tuple hq
  refine enum_call1 (PySem.begins_tuple a its.toArray) p' ?_
  intro h' he hit hk
  refine wpAny_pyIter_enum he ?_
  have I2 : Inv X pins σ H1 { s1 with heap := h' } := I1.kept (t' := s1.toks) hk
  refine ⟨s1.heap.objs.size + 1, [s1.heap.objs.size + 1, s1.heap.objs.size], _, _, H1, rfl, I2, turn_et a (s1.heap.objs.size + 1) s1.heap.objs.size xs, ⟨⟨.none, he⟩, ⟨_, hit, rfl, rfl⟩, Nat.succ_ne_self _⟩, ?_, q⟩
  intro b hb
  have hle : s1.heap.objs.size ≤ b := by
    rcases (show b = s1.heap.objs.size + 1 ∨ b = s1.heap.objs.size by simpa using hb) with z | z <;> rw [z] <;> omega
  exact I1.fpOk hle (I1.hok.fresh hle)
/-- for i, x in enumerate(t): Pv i holds ahead of turn i -/
theorem for_enT {K : PySem.W.Frag} {a : Addr} {xs : List V} {g : TG} {tb : TS} {D : Ends} {σ : L2.St} {H : Hp} (Pv : Nat → L2.St → Hp → Prop) (h0 : Pv 0 σ H) (hl : ∀ i σ H, Pv i σ H → SqT K H a xs)
    (hs : ∀ i x T σ H, xs[i]? = some x → Pv i σ H → H T = none → g (.ref T) σ (upd H T (.tup [.int (i : Nat), x])) fun σ2 H2 => tb { D with nx := Pv (i + 1), ct := Pv (i + 1), bk := D.nx } σ2 H2)
    (hd : ∀ σ H, Pv xs.length σ H → D.nx σ H) :
    ∃ W : Nat → Nat → L2.St → Hp → Prop, (∃ m, W 0 m σ H) ∧ ∀ i m σ H, W i m σ H →
      ((Iet K a xs).stop i H ∧ D.nx σ H) ∨ ((Iet K a xs).go i H ∧ ∃ N : L2.St → Hp → Prop, (∀ σ' H', N σ' H' → ∃ m', m' < m ∧ W (i + 1) m' σ' H') ∧
        ∀ x H', (Iet K a xs).yld i H x H' → g x σ H' fun σ2 H2 => tb { D with nx := N, ct := N, bk := D.nx } σ2 H2) := by
  refine ⟨fun i m σ H => i + m = xs.length ∧ Pv i σ H, ⟨xs.length, by omega, h0⟩, ?_⟩
  rintro i m σ H ⟨hm, hp⟩
  have hq := hl i σ H hp
  by_cases hi : i < xs.length
  · refine Or.inr ⟨⟨hq, hi⟩, Pv (i + 1), fun σ' H' q => ⟨m - 1, by omega, by omega, q⟩, ?_⟩
    rintro x H' ⟨T, y, rfl, hT, rfl, hy⟩
    exact hs i y T σ H hy hp hT
  · have e : i = xs.length := by omega
    subst e
    exact Or.inl ⟨⟨hq, rfl⟩, hd σ H hp⟩
end MG

/-! what a caller needs of a def, in one word; heaps that only grow -/
namespace MG
open PySem PySem.Spec PyProof.Rows L2
abbrev FnP (K : PySem.W.Frag) (x q : Str) (st : Stmt) (f : Addr) (fd : FuncData) : Prop := FunD K x q (defArgs st) (defBody st) (defScope st) [] [] f fd
/-- the def of this name keeps this promise -/
def Cal (P : Program) (w : World) (K : PySem.W.Frag) (mg : Str → Option Value) (base : Heap) (k : Nat) (x : Str) (ps : List Str) (sp : Sp) : Prop :=
  ∃ (f : Addr) (fd : FuncData), mg x = some (.ref f) ∧ PySem.W.keepIn K (.ref f) = true ∧ Binds K fd ps [] ∧ FnOk P w K mg base CX0 k f fd ps sp
def CalG (P : Program) (w : World) (K : PySem.W.Frag) (mg : Str → Option Value) (base : Heap) (k : Nat) (x : Str) (ps : List Str) (sp : Sp) : Prop :=
  ∃ (f : Addr) (fd : FuncData), mg x = some (.ref f) ∧ PySem.W.keepIn K (.ref f) = true ∧ Binds K fd ps [] ∧ GFn P w K mg base CX0 k f fd ps sp
section
variable {X : Cx} {k n : Nat} {x : Str} {ps : List Str} {sp : Sp} {p pos : Pos} {e : Expr} {es : List Expr} {t : TA}
theorem pe_cal (c : Cal X.prog X.w X.K X.mg X.base k x ps sp) (rm : Room n X.A) (ha : PA X (e :: es) t) (hk : k ≤ n := by decide) (hg : Gl X x := by rfl)
    (hdb : (x == ("__debug__" : Str)) = false := by decide) (he : starEach (e :: es) X.env = (false, eval e X.env) :: starEach es X.env := by rfl)
    (hpl : (backTo pos (starEach es X.env)).any (·.1) = false := by rfl) : PE X (.Call (.Name x p) (e :: es) [] pos) (tCall sp [] E0 t) := by
  obtain ⟨f, fd, h1, h2, h3, h4⟩ := c
  exact pe_call h4 (rm.mono hk) hg h1 h2 h3 .nil pass0 ha hdb he hpl
theorem pe_cal0 (c : Cal X.prog X.w X.K X.mg X.base k x ps sp) (rm : Room n X.A) (hk : k ≤ n := by decide) (hg : Gl X x := by rfl)
    (hdb : (x == ("__debug__" : Str)) = false := by decide) : PE X (.Call (.Name x p) [] [] pos) (tCall sp [] E0 tNil) := by
  obtain ⟨f, fd, h1, h2, h3, h4⟩ := c
  exact pe_call0 h4 (rm.mono hk) hg h1 h2 h3 .nil pass0 hdb
theorem pe_calG (c : CalG X.prog X.w X.K X.mg X.base k x ps sp) (rm : Room n X.A) (gu : X.A.guards = some []) (ha : PA X (e :: es) t) (hk : k ≤ n := by decide) (hg : Gl X x := by rfl)
    (hdb : (x == ("__debug__" : Str)) = false := by decide) (he : starEach (e :: es) X.env = (false, eval e X.env) :: starEach es X.env := by rfl)
    (hpl : (backTo pos (starEach es X.env)).any (·.1) = false := by rfl) : PE X (.Call (.Name x p) (e :: es) [] pos) (tCall sp [] E0 t) := by
  obtain ⟨f, fd, h1, h2, h3, h4⟩ := c
  exact pe_callG h4 (rm.mono hk) gu hg h1 h2 h3 .nil pass0 ha hdb he hpl
end
section
variable {P : Program} {w : World} {K : PySem.W.Frag} {mg : Str → Option Value} {base : Heap} {nm q : Str} {st : Stmt} {f : Addr} {fd : FuncData}
theorem okF {N ps : List Str} {k : Nat} {sp : Sp} (F : FnP K nm q st f fd) (S : FnScope N ps (defScope st)) (lng : ∀ a b c d, sp a b c d → a.length = ps.length)
    (hbody : ∀ (cdv : Value) (A : Around) (outer : List Env) (s : Shared) (H : Hp) (vs : List V) (Q : VK) (E : XK),
      Room k (A.deeper (envOfC q (defScope st) s.heap.objs.size f cdv)) → sp vs H Q E →
      ∃ t, PSs (cxOf CX0 P w K mg base N q (defScope st) f cdv A outer s H E).nox (defBody st) t ∧ t { nx := fun _ H' => Q .non H', rt := Q } (L2.start N vs) H) :
    FnOk P w K mg base CX0 (k + 1) f fd ps sp :=
  F.ok S lng fun cdv A outer s H vs Q E rm h => by
    obtain ⟨t, ht, hq⟩ := hbody cdv A outer s H vs Q E rm h
    exact ⟨t, ht.nox, hq⟩
theorem okFG {N ps : List Str} {k : Nat} {sp : Sp} (F : FnP K nm q st f fd) (S : FnScope N ps (defScope st)) (lng : ∀ a b c d, sp a b c d → a.length = ps.length)
    (hbody : ∀ (cdv : Value) (A : Around) (outer : List Env) (s : Shared) (H : Hp) (vs : List V) (Q : VK) (E : XK),
      Room k (A.deeper (envOfC q (defScope st) s.heap.objs.size f cdv)) → (A.deeper (envOfC q (defScope st) s.heap.objs.size f cdv)).guards = some [] → sp vs H Q E →
      ∃ t, PSs (cxOf CX0 P w K mg base N q (defScope st) f cdv A outer s H E).nox (defBody st) t ∧ t { nx := fun _ H' => Q .non H', rt := Q } (L2.start N vs) H) :
    GFn P w K mg base CX0 (k + 1) f fd ps sp :=
  okG F S lng fun cdv A outer s H vs Q E rm gu h => by
    obtain ⟨t, ht, hq⟩ := hbody cdv A outer s H vs Q E rm gu h
    exact ⟨t, ht.nox, hq⟩
end
/-- xs[i] read ahead of xs[i] op= e -/
def rGetL (K : PySem.W.Frag) : V → V → Hp → VK → Prop := fun o i H Q => ∃ p xs k v, o = .ref p ∧ i = .int k ∧ SqL K H p xs ∧ 0 ≤ k ∧ xs[k.toNat]? = some v ∧ Q v H
theorem get_list {X : Cx} : PGet X (rGetL X.K) := by
  intro pins s σ H o i ov iv Q I ro ri h
  obtain ⟨p, xs, k, v, rfl, rfl, hq, h0, hv, q⟩ := h
  cases ro
  obtain ⟨t, rfl⟩ := ri
  obtain ⟨its, r, pl, hz⟩ := I.list hq
  obtain ⟨u, eu, ru⟩ := r.get hv
  have hl := r.length
  have hlt : k.toNat < xs.length := (List.getElem?_eq_some_iff.mp hv).1
  have hn := line63
  exact wpAny_getItem_list pl.isList h0 (by omega) (by simpa using eu) ⟨v, H, I, ru, q⟩
/-! cuts: what is behind an expression or a statement is told once -/
section
variable {X : Cx}
def tCut (J : V → Prop) (te : TE) : TE := fun σ H Q => te σ H (fun v H' => J v ∧ H' = H) ∧ ∀ v, J v → Q v H
theorem pe_cut {e : Expr} {te : TE} (J : V → Prop) (h : PE X e te) : PE X e (tCut J te) := by
  refine ⟨?_⟩
  rintro pins s σ H Q I ⟨a, b⟩
  refine wpAny_mono (h.run pins s σ H _ I a) ?_ (fun _ _ z => z)
  rintro u s' ⟨v, H', I', r, hJ, rfl⟩
  exact ⟨v, _, I', r, b v hJ⟩
def tCutR (R : L2.St → Hp → V → Hp → Prop) (te : TE) : TE := fun σ H Q => te σ H (R σ H) ∧ ∀ v H', R σ H v H' → Q v H'
theorem pe_cutR {e : Expr} {te : TE} (R : L2.St → Hp → V → Hp → Prop) (h : PE X e te) : PE X e (tCutR R te) := by
  refine ⟨?_⟩
  rintro pins s σ H Q I ⟨a, b⟩
  refine wpAny_mono (h.run pins s σ H _ I a) ?_ (fun _ _ z => z)
  rintro u s' ⟨v, H', I', r, hR⟩
  exact ⟨v, _, I', r, b v H' hR⟩
def tCutS (R : L2.St → Hp → L2.St → Hp → Prop) (ts : TS) : TS := fun D σ H => ts { D with nx := R σ H } σ H ∧ ∀ σ' H', R σ H σ' H' → D.nx σ' H'
theorem ps_cut {st : Stmt} {ts : TS} (R : L2.St → Hp → L2.St → Hp → Prop) (h : PS X st ts) : PS X st (tCutS R ts) := by
  refine ⟨?_⟩
  rintro pins s σ H D I ⟨a, b⟩
  refine wpAny_mono (h.run pins s σ H _ I a) ?_ (fun _ _ z => z)
  intro fl s' hs
  match fl, hs with
  | .next, ⟨σ', H', I', q⟩ => exact ⟨σ', H', I', b σ' H' q⟩
  | .brk, hs => exact hs
  | .cont, hs => exact hs
  | .ret u, hs => exact hs
/-- tuple of a list that is tracked -/
def rTupH : List V → Hp → VK → Prop := fun vs H Q => ∃ p xs, vs = [.ref p] ∧ H p = some (.lst xs) ∧ ∀ q, H q = none → Q (.ref q) (upd H q (.tup xs))
theorem tuple_H : CallR X (.type "tuple") rTupH := by
  intro pins s σ H vs us Q I r h
  obtain ⟨p, xs, h1, h2, q⟩ := h
  exact call_tuple_of pins s σ H vs us Q I r ⟨p, xs, h1, .inl ⟨.inl (.inl h2), q⟩⟩
def rSortH : List V → Hp → VK → Prop := fun vs H Q => ∃ (a : Addr) (ns : List Int), vs = [V.ref a] ∧ H a = some (.lst (ns.map V.int)) ∧
  ∀ (ns' : List Int) (p : Addr), ns'.Perm ns → ns'.Pairwise (· ≤ ·) → H p = none → Q (.ref p) (upd H p (.lst (ns'.map V.int)))
theorem sorted_H : CallR X (.builtin "sorted") rSortH := by
  intro pins s σ H vs us Q I r h
  obtain ⟨a, ns, h1, h2, q⟩ := h
  exact cr_sortedI pins s σ H vs us Q I r ⟨a, ns, h1, .inl (.inl h2), q⟩
/-- int of an int -/
def rIntI : List V → Hp → VK → Prop := fun xs H Q => ∃ i, xs = [.int i] ∧ Q (.int i) H
theorem int_I : CallR X (.type "int") rIntI := by
  intro pins s σ H xs us Q I r h
  exact call_int1 pins s σ H xs us Q I r (.inl h)
end
/-! the same rules read off the tracked heap alone -/
section
variable {X : Cx}
def rIxH : R2 := fun x y H Q => ∃ p xs i v, x = .ref p ∧ y = .int i ∧ H p = some (.lst xs) ∧ atI xs i = some v ∧ Q v H
theorem ix_H : IxR X rIxH := by
  intro value slice pins s σ H x y v u Q I rx ry h hs
  obtain ⟨p, xs, i, z, h1, h2, hq, he, q⟩ := h
  exact ix_list value slice pins s σ H x y v u Q I rx ry ⟨p, xs, i, z, h1, h2, .inl (.inl hq), he, q⟩ hs
def rIxHT : R2 := fun x y H Q => ∃ p xs i v, x = .ref p ∧ y = .int i ∧ H p = some (.tup xs) ∧ atI xs i = some v ∧ Q v H
theorem ix_HT : IxR X rIxHT := by
  intro value slice pins s σ H x y v u Q I rx ry h hs
  obtain ⟨p, xs, i, z, h1, h2, hq, he, q⟩ := h
  exact ix_tup value slice pins s σ H x y v u Q I rx ry ⟨p, xs, i, z, h1, h2, .inl (.inl hq), he, q⟩ hs
def rLenH : List V → Hp → VK → Prop := fun vs H Q => ∃ p xs, vs = [.ref p] ∧ H p = some (.lst xs) ∧ Q (.int xs.length) H
theorem len_H : CallR X (.builtin "len") rLenH := by
  intro pins s σ H xs us Q I r h
  obtain ⟨p, ys, h1, hq, q⟩ := h
  exact call_len_seq pins s σ H xs us Q I r ⟨p, ys, h1, .inl (.inl (.inl hq)), q⟩
def rLenHT : List V → Hp → VK → Prop := fun vs H Q => ∃ p xs, vs = [.ref p] ∧ H p = some (.tup xs) ∧ Q (.int xs.length) H
theorem len_HT : CallR X (.builtin "len") rLenHT := by
  intro pins s σ H xs us Q I r h
  obtain ⟨p, ys, h1, hq, q⟩ := h
  exact call_len_seq pins s σ H xs us Q I r ⟨p, ys, h1, .inr (.inl (.inl hq)), q⟩
end
/-- isinstance told for a value of a built-in type -/
theorem isi_ty {K : PySem.W.Frag} {H : Hp} {Q : VK} {x : V} {a b : String} {r : Bool} (ty : TyX K H x (.type a)) (h : kitB a b = some r) (q : Q (.bl r) H) : rIsi K [x, .ty b] H Q :=
  ⟨x, .ty b, .type a, .type b, r, rfl, ClsV.ty b, ty, kit_ty h, q⟩
/-- nothing tracked is changed but what stands at b -/
def But (b : Addr) (H H' : Hp) : Prop := ∀ c o, c ≠ b → H c = some o → H' c = some o
theorem But.refl (b : Addr) (H : Hp) : But b H H := fun _ _ _ h => h
theorem But.trans {b : Addr} {H H1 H2 : Hp} (x : But b H H1) (y : But b H1 H2) : But b H H2 := fun c o n h => y c o n (x c o n h)
theorem But.of {b : Addr} {H H' : Hp} (x : Same H H') : But b H H' := fun c o _ h => x c o h
theorem But.upd {b : Addr} {H : Hp} {o : HO} : But b H (upd H b o) := fun c u n h => by rw [upd_ne n]; exact h
theorem But.free {b : Addr} {H H' : Hp} {p : Addr} {o : HO} (x : But b H H') (hb : H' b = some o) (h : H' p = none) : H p = none := by
  have n : p ≠ b := fun z => by rw [z, hb] at h; cases h
  match e : H p with
  | none => rfl
  | some u =>
    rw [x p u n e] at h
    cases h
theorem But.ne {b : Addr} {H : Hp} {p c : Addr} {o : HO} (h : H c = some o) (n : H p = none) : c ≠ p := ne_of_none h n
theorem same_new {H : Hp} {p : Addr} {o : HO} (h : H p = none) : Same H (upd H p o) := fun a u e => by
  rw [upd_ne (ne_of_none e h)]
  exact e
theorem Same.tup {H H' : Hp} {a : Addr} {xs : List V} (x : Same H H') (h : H a = some (.tup xs)) : H' a = some (.tup xs) := x a _ h
theorem sqT {K : PySem.W.Frag} {H : Hp} {a : Addr} {xs : List V} (h : H a = some (.tup xs)) : SqT K H a xs := .inl (.inl h)
theorem sqL {K : PySem.W.Frag} {H : Hp} {a : Addr} {xs : List V} (h : H a = some (.lst xs)) : SqL K H a xs := .inl (.inl h)
theorem erase_map {α β : Type} (g : α → β) : ∀ (l : List α) (k : Nat), (l.map g).eraseIdx k = (l.eraseIdx k).map g
  | [], _ => rfl
  | _ :: _, 0 => rfl
  | a :: l, k + 1 => by
    show g a :: (l.map g).eraseIdx k = g a :: (l.eraseIdx k).map g
    rw [erase_map g l k]
theorem erase_perm {α : Type} : ∀ {l : List α} {k : Nat} (h : k < l.length), (l[k] :: l.eraseIdx k).Perm l
  | a :: l, 0, _ => List.Perm.refl _
  | a :: l, k + 1, h => by
    have hk : k < l.length := by simpa using h
    have ih := erase_perm (l := l) (k := k) hk
    show (l[k]'hk :: a :: l.eraseIdx k).Perm (a :: l)
    exact (List.Perm.swap _ _ _).trans (ih.cons a)
theorem ixN_of {m i : Nat} {k : Int} (hk : k = i) (hi : i < m) : ixN m k = some i := by
  subst hk
  unfold ixN
  rw [if_pos (by omega), if_pos (by omega)]
  simp
theorem atI_of {α : Type} {xs : List α} {k : Int} {i : Nat} {v : α} (hk : k = i) (h : xs[i]? = some v) : atI xs k = some v := by
  subst hk
  exact atI_nat h
theorem mapI_at {ns : List Int} {i : Nat} {z : Int} (h : ns[i]? = some z) : (ns.map V.int)[i]? = some (.int z) := by
  rw [List.getElem?_map, h]
  rfl
/-- an item of a list of ints -/
theorem int_at {ns : List Int} {i : Nat} {x : V} (h : (ns.map V.int)[i]? = some x) : ∃ z, ns[i]? = some z ∧ x = .int z := by
  rw [List.getElem?_map] at h
  cases e : ns[i]? with
  | none =>
    rw [e] at h
    cases h
  | some z =>
    rw [e] at h
    exact ⟨z, rfl, (Option.some.inj h).symm⟩
end MG

/-! slices of lists with a step -/
namespace MG
open PySem PySem.Spec PyProof.Rows L2
/-- the items of xs[lo:hi:st] -/
def pick {α : Type} (xs : List α) (lo hi st : Option Int) : List α :=
  (sliceRange (sliceBounds lo hi st xs.length).1 (sliceBounds lo hi st xs.length).2.1 (sliceBounds lo hi st xs.length).2.2).filterMap (xs[·]?)
theorem pick_vals {xs : List V} {its : List Value} (r : Vals xs its) (is : List Nat) : Vals (is.filterMap (xs[·]?)) (is.filterMap (its[·]?)) := by
  induction is with
  | nil => exact .nil
  | cons i is ih =>
    match e : xs[i]? with
    | none =>
      have e2 := r.none_of e
      rw [List.filterMap_cons_none e, List.filterMap_cons_none e2]
      exact ih
    | some x =>
      obtain ⟨u, e2, ru⟩ := r.get e
      rw [List.filterMap_cons_some e, List.filterMap_cons_some e2]
      exact .cons ru ih
/-- tracked lists -/
def tSlS (K : PySem.W.Frag) (te : TE) (tl th ts : TO) : TE := fun σ H Q => te σ H fun x H1 => tl σ H1 fun lo H2 => th σ H2 fun hi H3 => ts σ H3 fun st H4 =>
  ∃ a xs, x = .ref a ∧ SqL K H4 a xs ∧ st ≠ some 0 ∧ (pick xs lo hi st).length ≤ sizeLine ∧ ∀ p, H4 p = none → Q (.ref p) (upd H4 p (.lst (pick xs lo hi st)))
theorem pe_sliceS {X : Cx} {e : Expr} {lo hi st : Option Expr} {te : TE} {tl th ts : TO} {p2 pos : Pos} (he : PE X e te) (hl : PO X lo tl) (hu : PO X hi th) (hs : PO X st ts)
    (hsub : ∀ v u, subscripted (.Slice lo hi st p2) false v u = operate [v, u] (getItem v u) := by intros; with_unfolding_all rfl)
    (htmp : ∀ v r, letTemporaryGo e v r = pure () := by intros; with_unfolding_all rfl) :
    PE X (.Subscript e (.Slice lo hi st p2) pos) (tSlS X.K te tl th ts) := by
  refine ⟨?_⟩
  intro pins s σ H Q I h
  refine Subscript_ (thn (he.run pins s σ H _ I h) ?_)
  rintro v s1 ⟨x, H1, I1, r1, q1⟩
  refine wpAny_Slice (thn (hl.run pins s1 σ H1 _ I1 q1) ?_)
  rintro vl s2 ⟨l, H2, I2, pl, q2⟩
  refine thn (hu.run pins s2 σ H2 _ I2 q2) ?_
  rintro vu s3 ⟨u, H3, I3, pu, q3⟩
  refine thn (hs.run pins s3 σ H3 _ I3 q3) ?_
  rintro vs s4 ⟨o, H4, I4, ps, a, xs, rfl, hx, h0, hpz, q⟩
  cases r1
  have I5 : Inv X pins σ H4 { s4 with heap := s4.heap.push { cls := .type "slice", data := .fields #[vl, vu, vs] } } := I4.kept (t' := s4.toks) fun b ob q => Heap.get?_push_of_some _ q
  obtain ⟨its, r, ht, hz⟩ := I5.list hx
  have hlen := r.length
  show wpAny (model X.prog X.w) X.A (subscriptTail e (.Slice lo hi st p2) (.ref a) (.ref s4.heap.objs.size)) (EP X pins σ Q) X.xe { s4 with heap := s4.heap.push { cls := .type "slice", data := .fields #[vl, vu, vs] } }
  refine tail_any (ops := [.ref a, .ref s4.heap.objs.size]) ht.isList.typeIs (PySem.slot_list_getitem.lookup) ?_ (hsub _ _)
  refine wpAny_getItem_list_slice ht.isList (Heap.IsSliceOf.new _ vl vu vs) pl pu ps h0 ?_ (by rw [List.size_toArray]; omega)
  refine ⟨.ref _, _, I5.laid (t' := s4.toks) (o := .lst (pick xs l u o)) (fun b ob q => Heap.get?_push_of_some _ q) (Nat.le_refl _) ?_, rfl, q _ (I5.hok.fresh (Nat.le_refl _))⟩
  refine ⟨hpz, pick its l u o, 0, ?_, ?_⟩
  · unfold pick
    rw [← hlen]
    exact pick_vals r _
  · have e : slicePick its.toArray l u o = (pick its l u o).toArray := by
      unfold slicePick pick
      simp
    rw [e]
    exact Heap.get?_push_size _ rfl
def tSlH (te : TE) (tl th ts : TO) : TE := fun σ H Q => te σ H fun x H1 => tl σ H1 fun lo H2 => th σ H2 fun hi H3 => ts σ H3 fun st H4 =>
  ∃ a xs, x = .ref a ∧ H4 a = some (.lst xs) ∧ st ≠ some 0 ∧ (pick xs lo hi st).length ≤ sizeLine ∧ ∀ p, H4 p = none → Q (.ref p) (upd H4 p (.lst (pick xs lo hi st)))
theorem pe_sliceH {X : Cx} {e : Expr} {lo hi st : Option Expr} {te : TE} {tl th ts : TO} {p2 pos : Pos} (he : PE X e te) (hl : PO X lo tl) (hu : PO X hi th) (hs : PO X st ts)
    (mono : ∀ σ H (Q Q' : VK), (∀ v H', Q v H' → Q' v H') → te σ H Q → te σ H Q')
    (monl : ∀ σ H (Q Q' : Option Int → Hp → Prop), (∀ v H', Q v H' → Q' v H') → tl σ H Q → tl σ H Q')
    (monh : ∀ σ H (Q Q' : Option Int → Hp → Prop), (∀ v H', Q v H' → Q' v H') → th σ H Q → th σ H Q')
    (mons : ∀ σ H (Q Q' : Option Int → Hp → Prop), (∀ v H', Q v H' → Q' v H') → ts σ H Q → ts σ H Q')
    (hsub : ∀ v u, subscripted (.Slice lo hi st p2) false v u = operate [v, u] (getItem v u) := by intros; with_unfolding_all rfl)
    (htmp : ∀ v r, letTemporaryGo e v r = pure () := by intros; with_unfolding_all rfl) :
    PE X (.Subscript e (.Slice lo hi st p2) pos) (tSlH te tl th ts) := by
  refine ⟨fun pins s σ H Q I q => (pe_sliceS he hl hu hs hsub htmp).run pins s σ H Q I ?_⟩
  refine mono σ H _ _ (fun x H1 h1 => ?_) q
  refine monl σ H1 _ _ (fun lo H2 h2 => ?_) h1
  refine monh σ H2 _ _ (fun hi H3 h3 => ?_) h2
  refine mons σ H3 _ _ (fun st H4 h4 => ?_) h3
  obtain ⟨a, xs, h5, h6, h7⟩ := h4
  exact ⟨a, xs, h5, .inl (.inl h6), h7⟩
theorem pe_conv {X : Cx} {e : Expr} {t u : TE} (h : PE X e t) (i : ∀ σ H Q, u σ H Q → t σ H Q) : PE X e u :=
  ⟨fun pins s σ H Q I q => h.run pins s σ H Q I (i σ H Q q)⟩
def rSumH : List V → Hp → VK → Prop := fun vs H Q => ∃ (a : Addr) (ns : List Int), vs = [V.ref a] ∧ H a = some (.lst (ns.map V.int)) ∧ Q (.int ns.sum) H
theorem sum_H {X : Cx} (hc : X.calm = true) : CallR X (.builtin "sum") rSumH := by
  intro pins s σ H vs us Q I r h
  obtain ⟨a, ns, h1, h2, q⟩ := h
  exact cr_sum hc pins s σ H vs us Q I r ⟨a, ns, h1, .inl (.inl h2), q⟩
theorem pick_map {α β : Type} (g : α → β) (xs : List α) (lo hi st : Option Int) : pick (xs.map g) lo hi st = (pick xs lo hi st).map g := by
  unfold pick
  rw [List.length_map, List.map_filterMap]
  congr 1
  funext i
  rw [List.getElem?_map]
end MG

/-! calls by names alone -/
namespace MG
open PySem PySem.Spec PyProof.Rows L2
def CalK (P : Program) (w : World) (K : PySem.W.Frag) (mg : Str → Option Value) (base : Heap) (k : Nat) (x : Str) (ps : List Str) (sp : Sp) (n : Nat) (ks : List Str) (gV : List V → List V → List V) : Prop :=
  ∃ (f : Addr) (fd : FuncData) (g : List Value → List Value → List Value), mg x = some (.ref f) ∧ PySem.W.keepIn K (.ref f) = true ∧ KBn K fd ps n ks g gV ∧ FnOk P w K mg base CX0 k f fd ps sp
section
variable {X : Cx} {k m : Nat} {x : Str} {ps ks : List Str} {sp : Sp} {gV : List V → List V → List V} {p pos : Pos} {kws : List Keyword} {tk : TA}
theorem pe_calK0 (c : CalK X.prog X.w X.K X.mg X.base k x ps sp 0 ks gV) (rm : Room m X.A) (hkw : PK X kws tk) (hk : k ≤ m := by decide) (hg : Gl X x := by rfl)
    (hall : (backToKw pos (keywordEach kws X.env)).all (·.1.isSome) = true := by rfl) (hks : (backToKw pos (keywordEach kws X.env)).filterMap (·.1) = ks := by rfl)
    (hdb : (x == ("__debug__" : Str)) = false := by decide)
    (hpl : ((backTo pos (starEach [] X.env)).any (·.1) || (backToKw pos (keywordEach kws X.env)).any (·.1.isNone)) = false := by rfl) :
    PE X (.Call (.Name x p) [] kws pos) (tCallN 0 ks.length sp gV E0 tNil tk) := by
  obtain ⟨f, fd, g, h1, h2, h3, h4⟩ := c
  refine ⟨?_⟩
  intro pins s σ H Q I h
  refine wpAny_Call_Name_kw (ld_glob I hg h1 ?_ hdb)
  refine PySem.W.callWith_KW0 (h₀ := X.base) I.ok.mod.kin h2 hall ?_ hpl
  refine thn (hkw.run pos pins s σ H _ I h) ?_
  rintro ws s2 ⟨zs, H2, I2, rz, l1, l2, q2⟩
  refine ⟨I2.kIn, ?_⟩
  rw [hks]
  exact run_fnN (us := []) h4 (rm.mono hk) h3 pass0 I2 .nil rz l1 l2 q2
end
end MG

/-! repr: data that can be shown, the text not above n signs, k levels deep -/
namespace MG
open PySem PySem.Spec PyProof.Rows L2
structure Shw (n k : Nat) (d : PyData) : Prop where
  can : d.showable = true
  nod : d.hasDict = false
  dep : d.depth ≤ k
  len : d.shown.length ≤ n
theorem Shw.mono {n n' k k' : Nat} {d : PyData} (h : Shw n k d) (hn : n ≤ n') (hk : k ≤ k') : Shw n' k' d := ⟨h.can, h.nod, Nat.le_trans h.dep hk, Nat.le_trans h.len hn⟩
theorem shw_int {i : Int} (h : i.natAbs < 2 ^ 1000) : Shw 1001 0 (.int i) := by
  have z : i.natAbs.log2 < 1000 := by
    by_cases z : i.natAbs = 0
    · rw [z]
      decide
    · exact (Nat.log2_lt z).mpr h
  refine ⟨?_, rfl, Nat.le_refl _, ?_⟩
  · have z2 : i.natAbs.log2 < 1920 := Nat.lt_trans z (by decide)
    simp [PyData.showable, z2]
  · show (Str.ofString (toString i)).length ≤ 1001
    rw [PySem.ofString_length]
    exact int_text_length_le (by decide) z
theorem shw_none : Shw 4 0 .none := ⟨rfl, rfl, Nat.le_refl _, by decide⟩
theorem shw_bool {b : Bool} : Shw 5 0 (.bool b) := ⟨rfl, rfl, Nat.le_refl _, by cases b <;> decide⟩
theorem shw_all {n k : Nat} : ∀ {ds : List PyData}, (∀ d ∈ ds, Shw n k d) → PyData.showableAll ds = true ∧ PyData.hasDictAll ds = false ∧ PyData.depthAll ds ≤ k ∧ ((PyData.shownAll ds).map (·.length)).sum ≤ ds.length * n
  | [], _ => ⟨rfl, rfl, Nat.zero_le _, Nat.zero_le _⟩
  | d :: ds, h => by
    have h1 := h d (by simp)
    obtain ⟨a, b, c, e⟩ := shw_all (ds := ds) fun x hx => h x (by simp [hx])
    refine ⟨?_, ?_, ?_, ?_⟩
    · show (d.showable && PyData.showableAll ds) = true
      rw [h1.can, a]
      rfl
    · show (d.hasDict || PyData.hasDictAll ds) = false
      rw [h1.nod, b]
      rfl
    · exact Nat.max_le.mpr ⟨h1.dep, c⟩
    · show (d.shown.length + ((PyData.shownAll ds).map (·.length)).sum) ≤ (ds.length + 1) * n
      rw [Nat.add_mul, Nat.one_mul]
      have := h1.len
      omega
theorem shw_list {n k m : Nat} {ds : List PyData} (h : ∀ d ∈ ds, Shw n k d) (hm : ds.length ≤ m) : Shw (m * (n + 2) + 3) (k + 1) (.list ds) := by
  obtain ⟨a, b, c, e⟩ := shw_all h
  refine ⟨a, b, Nat.succ_le_succ c, ?_⟩
  have l := listText_len_le (PyData.shownAll ds)
  rw [PyData.shownAll_length] at l
  have z : ds.length * (n + 2) ≤ m * (n + 2) := Nat.mul_le_mul_right _ hm
  rw [Nat.mul_add] at z
  show (listText (PyData.shownAll ds)).length ≤ _
  omega
theorem shw_tuple {n k m : Nat} {ds : List PyData} (h : ∀ d ∈ ds, Shw n k d) (hm : ds.length ≤ m) : Shw (m * (n + 2) + 3) (k + 1) (.tuple ds) := by
  obtain ⟨a, b, c, e⟩ := shw_all h
  refine ⟨a, b, Nat.succ_le_succ c, ?_⟩
  have l := tupleText_len_le (PyData.shownAll ds)
  rw [PyData.shownAll_length] at l
  have z : ds.length * (n + 2) ≤ m * (n + 2) := Nat.mul_le_mul_right _ hm
  rw [Nat.mul_add] at z
  show (tupleText (PyData.shownAll ds)).length ≤ _
  omega
theorem shw_ints {ns : List Int} {m : Nat} (h : ∀ i ∈ ns, i.natAbs < 2 ^ 1000) (hm : ns.length ≤ m) : Shw (m * 1003 + 3) 1 (.list (ns.map .int)) :=
  shw_list (fun d hd => by obtain ⟨i, hi, rfl⟩ := List.mem_map.mp hd; exact shw_int (h i hi)) (by simpa using hm)
theorem shw_intsT {ns : List Int} {m : Nat} (h : ∀ i ∈ ns, i.natAbs < 2 ^ 1000) (hm : ns.length ≤ m) : Shw (m * 1003 + 3) 1 (.tuple (ns.map .int)) :=
  shw_tuple (fun d hd => by obtain ⟨i, hi, rfl⟩ := List.mem_map.mp hd; exact shw_int (h i hi)) (by simpa using hm)
/-- repr, told by Shw -/
def rReprS (K : PySem.W.Frag) : List V → Hp → VK → Prop := fun xs H Q => ∃ (a : Addr) (d : PyData), xs = [.ref a] ∧ Dp K H (.ref a) d ∧ Shw 16000000 90 d ∧ Q (.str d.shown) H
theorem repr_S {X : Cx} {n : Nat} (hg : X.A.guards = some []) (rm : Room n X.A) : CallR X (.builtin "repr") (rReprS X.K) := by
  intro pins s σ H xs us Q I r h
  obtain ⟨a, d, h1, h2, h3, q⟩ := h
  exact call_reprD hg rm pins s σ H xs us Q I r ⟨a, d, h1, h2, h3.can, h3.nod, Nat.lt_of_le_of_lt h3.dep (by decide), Nat.le_trans h3.len (by decide), q⟩
theorem dpI {K : PySem.W.Frag} {H : Hp} : ∀ ns : List Int, DpAll K H (ns.map V.int) (ns.map PyData.int)
  | [] => .nil
  | n :: ns => .cons (.int n) (dpI ns)
theorem dpL {K : PySem.W.Frag} {H : Hp} {a : Addr} {ns : List Int} (h : H a = some (.lst (ns.map V.int))) : Dp K H (.ref a) (.list (ns.map .int)) := .lst (.inl (.inl h)) (dpI ns)
theorem dpT {K : PySem.W.Frag} {H : Hp} {a : Addr} {ns : List Int} (h : H a = some (.tup (ns.map V.int))) : Dp K H (.ref a) (.tuple (ns.map .int)) := .tup (.inl (.inl h)) (dpI ns)
theorem layI : ∀ ns : List Int, PyData.canLayAll0 (ns.map PyData.int) = true ∧ PyData.depthAll (ns.map PyData.int) = 0
  | [] => ⟨rfl, rfl⟩
  | n :: ns => by
    obtain ⟨a, b⟩ := layI ns
    refine ⟨?_, ?_⟩
    · show (PyData.canLay0 (.int n) && PyData.canLayAll0 (ns.map PyData.int)) = true
      rw [a]
      rfl
    · show max (PyData.depth (.int n)) (PyData.depthAll (ns.map PyData.int)) = 0
      rw [b]
      rfl
theorem shapedI (ns : List Int) : SeqAt.shaped (.tuple (ns.map .int)) = true := by
  obtain ⟨a, b⟩ := layI ns
  have d : (PyData.tuple (ns.map .int)).depth ≤ 64 := by
    show PyData.depthAll (ns.map PyData.int) + 1 ≤ 64
    omega
  have c : (PyData.tuple (ns.map .int)).canLay0 = true := a
  unfold SeqAt.shaped
  rw [c]
  simpa using d
/-- a statement behind which only new things stand -/
def rNext : L2.St → Hp → L2.St → Hp → Prop := fun σ H σ' H' => σ' = σ ∧ Same H H'
end MG

/-! the head: defs by any address that the written part tells, and one more test of it -/
namespace MG
open PySem PySem.Spec PyProof.Rows L2
structure Dm where
  ad : PySem.W.Frag → Addr
  nm : Str
  ql : Str
  st : Stmt
def atG (x : Str) : PySem.W.Frag → Addr := fun K => He.ga K x
def atM (x m : Str) : PySem.W.Frag → Addr := fun K => He.ma K (He.ga K x) m
/-- a property's getter -/
def atP (x m : Str) : PySem.W.Frag → Addr := fun K => match PySem.W.recIn K (He.ma K (He.ga K x) m) "property" with
  | some (.ref g :: _) => g
  | _ => 0
def fnAt (K : PySem.W.Frag) (a : Addr) : He.FnW := match K.lookup a with
  | some ⟨_, _, .func d, _⟩ => some (d.name, d.qualname, d.params, d.body, d.scope, d.globals, d.closure, d.builtins)
  | _ => none
def Dm.val (d : Dm) : He.FnW := some (d.nm, d.ql, defArgs d.st, .stmts (defBody d.st), defScope d.st, mainGlobals, [], builtinsNs)
def noneB : Value → Bool
  | .none => true
  | _ => false
theorem noneB_ok : ∀ {v : Value}, noneB v = true → v = .none
  | .none, _ => rfl
def Dm.ok (K : PySem.W.Frag) (d : Dm) : Bool := PySem.W.keepIn K (.ref (d.ad K)) && (match K.lookup (d.ad K) with
  | some ⟨_, _, .func e, _⟩ => PySem.W.codeIn K e.code d.ql && noneB e.defaults
  | _ => false)
theorem Dm.fun_ {K : PySem.W.Frag} {d : Dm} (e : fnAt K (d.ad K) = d.val) (c : d.ok K = true) : ∃ fd, FnP K d.nm d.ql d.st (d.ad K) fd := by
  obtain ⟨kp, c2⟩ := He.ba c
  unfold fnAt at e
  cases q : K.lookup (d.ad K) with
  | none =>
    rw [q] at c2
    cases c2
  | some o =>
    obtain ⟨oc, od, dt, osl⟩ := o
    rw [q] at c2 e
    cases dt with
    | func fd =>
      obtain ⟨n1, n2, n3, n4, n5, n6, n7, n8, n9, n10, n11, n12, n13, n14, n15⟩ := fd
      have e2 : (some (n1, n2, n3, n4, n5, n6, n7, n15) : He.FnW) = some (d.nm, d.ql, defArgs d.st, .stmts (defBody d.st), defScope d.st, mainGlobals, [], builtinsNs) := e
      simp only [Option.some.injEq, Prod.mk.injEq] at e2
      obtain ⟨h1, h2, h3, h4, h5, h6, h7, h8⟩ := e2
      subst h1 h2 h3 h4 h5 h6 h7 h8
      have c3 : (PySem.W.codeIn K n13 d.ql && noneB n8) = true := c2
      obtain ⟨k1, k2⟩ := He.ba c3
      exact ⟨_, ⟨oc, od, n8, n9, n10, n11, n12, n13, n14, osl, rfl, q, k1, .inl ⟨rfl, noneB_ok k2⟩, .inl rfl⟩, kp⟩
    | _ => cases c2
def obsM (fa : List He.Fa) (fn : List Dm) (ex : PySem.W.Frag → Bool) (K : PySem.W.Frag) : Bool × List He.FnW := (((fa.all fun f => f.ok K) && fn.all fun d => d.ok K) && ex K, fn.map fun d => fnAt K (d.ad K))
def SaysM (fa : List He.Fa) (fn : List Dm) (ex : PySem.W.Frag → Bool) (K : PySem.W.Frag) : Prop := obsM fa fn ex K = (true, fn.map Dm.val)
def obsMG (n : Nat) (fa : List He.Fa) (fn : List Dm) (ex : PySem.W.Frag → Bool) (g : Addr → Option Obj) : Bool × List He.FnW := obsM fa fn ex (He.frG g (He.asD g n))
def hookM (n : Nat) (fa : List He.Fa) (fn : List Dm) (ex : PySem.W.Frag → Bool) : PySem.W.Hook where
  α := Bool × List He.FnW
  obs := fun s => obsMG n fa fn ex s.heap.get?
  val := fun _ => (true, fn.map Dm.val)
  says := fun _ h => ∃ K : PySem.W.Frag, K.In h ∧ SaysM fa fn ex K
  of := fun _ _ e => ⟨_, He.frG_in, e⟩
  keeps := fun _ _ _ ⟨K, hK, c⟩ k => ⟨K, PySem.W.Frag.In.keeps hK k, c⟩
theorem obsMG_eq {n : Nat} {fa : List He.Fa} {fn : List Dm} {ex : PySem.W.Frag → Bool} {g : Addr → Option Obj} {s : Shared} (h : ∀ a, g a = s.heap.get? a) : obsMG n fa fn ex g = (hookM n fa fn ex).obs s := by
  have e : g = s.heap.get? := funext h
  rw [e]
  rfl
section
variable {fa : List He.Fa} {fn : List Dm} {ex : PySem.W.Frag → Bool} {K : PySem.W.Frag}
theorem SaysM.all (c : SaysM fa fn ex K) : ((fa.all fun f => f.ok K) = true ∧ (fn.all fun d => d.ok K) = true) ∧ ex K = true := by
  have z : (((fa.all fun f => f.ok K) && fn.all fun d => d.ok K) && ex K) = true := congrArg (fun z : Bool × List He.FnW => z.1) c
  obtain ⟨a, b⟩ := He.ba z
  exact ⟨He.ba a, b⟩
theorem SaysM.fact (c : SaysM fa fn ex K) (i : Nat) {f : He.Fa} (h : fa[i]? = some f := by rfl) : f.ok K = true :=
  List.all_eq_true.mp c.all.1.1 f (List.mem_of_getElem? h)
theorem SaysM.def_ (c : SaysM fa fn ex K) (i : Nat) {d : Dm} (h : fn[i]? = some d := by rfl) : ∃ fd, FnP K d.nm d.ql d.st (d.ad K) fd := by
  have e : fn.map (fun d => fnAt K (d.ad K)) = fn.map Dm.val := congrArg (fun z : Bool × List He.FnW => z.2) c
  have e2 : (fn.map fun d => fnAt K (d.ad K))[i]? = (fn.map Dm.val)[i]? := by rw [e]
  rw [List.getElem?_map, List.getElem?_map, h] at e2
  exact Dm.fun_ (Option.some.inj e2) (List.all_eq_true.mp c.all.1.2 d (List.mem_of_getElem? h))
theorem SaysM.more (c : SaysM fa fn ex K) : ex K = true := c.all.2
end
/-- the class's own getattr facts that isinstance asks for -/
def isiB (K : PySem.W.Frag) (C : Addr) : Bool := He.eqO (PySem.W.findIn K (.ref C) "__class__") (some (some (.builtin "object.__class__"))) &&
  (He.eqO (PySem.W.specialIn K (.builtin "object.__class__") "__get__") (some (some (.builtin "getset_descriptor.__get__"))) && (decide (PySem.W.takesIn K (.builtin "object.__class__") = some true) && decide (PySem.W.mroIn K C (.type "object") = some true)))
theorem isiB_ok {K : PySem.W.Frag} {C : Addr} (h : isiB K C = true) : PySem.W.findIn K (.ref C) "__class__" = some (some (.builtin "object.__class__")) ∧ PySem.W.specialIn K (.builtin "object.__class__") "__get__" = some (some (.builtin "getset_descriptor.__get__")) ∧
    PySem.W.takesIn K (.builtin "object.__class__") = some true ∧ PySem.W.mroIn K C (.type "object") = some true := by
  obtain ⟨a, h⟩ := He.ba h
  obtain ⟨b, h⟩ := He.ba h
  obtain ⟨c, d⟩ := He.ba h
  exact ⟨He.eqO_ok a, He.eqO_ok b, of_decide_eq_true c, of_decide_eq_true d⟩
/-- a property -/
def propB (K : PySem.W.Frag) (C : Addr) (m : Str) : Bool := He.eqO (PySem.W.findIn K (.ref C) m) (some (some (.ref (He.ma K C m)))) &&
  (He.eqO (PySem.W.specialIn K (.ref (He.ma K C m)) "__get__") (some (some (.builtin "property.__get__"))) && (decide (PySem.W.takesIn K (.ref (He.ma K C m)) = some true) &&
    (match PySem.W.recIn K (He.ma K C m) "property" with
      | some (.ref _ :: _) => true
      | _ => false)))
theorem propB_ok {K : PySem.W.Frag} {x m : Str} (h : propB K (He.ga K x) m = true) : PropOf K (He.ga K x) m (He.ma K (He.ga K x) m) (atP x m K) := by
  obtain ⟨a, h⟩ := He.ba h
  obtain ⟨b, h⟩ := He.ba h
  obtain ⟨c, d⟩ := He.ba h
  refine ⟨He.eqO_ok a, He.eqO_ok b, of_decide_eq_true c, ?_⟩
  unfold atP
  match q : PySem.W.recIn K (He.ma K (He.ga K x) m) "property", d with
  | some (.ref g :: r), _ => exact ⟨r, rfl⟩
/-- a call by position binds -/
theorem bindsP {K : PySem.W.Frag} {x q : Str} {st : Stmt} {f : Addr} {fd : FuncData} {ps : List Str} (F : FnP K x q st f fd)
    (h : ∀ (kV doc pm : Value) (an : Option Addr) (cdv ct : Value) (us : List Value), us.length = ps.length → bindArgs (PySem.W.fnOf x q (defArgs st) (defBody st) (defScope st) .none kV doc pm an cdv ct) ⟨us, []⟩ = pure (ps.zip us)) : Binds K fd ps [] := by
  obtain ⟨oc, od, dV, kV, doc, pm, an, cdv, ct, osl, rfl, lk, hcd, hd, _⟩ := F.ex
  rcases hd with ⟨_, rfl⟩ | ⟨z, _⟩
  · exact .all (h kV doc pm an cdv ct)
  · exact absurd rfl z
theorem bindsA {K : PySem.W.Frag} {x q : Str} {st : Stmt} {f : Addr} {fd : FuncData} {ps : List Str} (F : FnP K x q st f fd)
    (h : ∀ (kV doc pm : Value) (an : Option Addr) (cdv ct : Value) (us : List Value), us.length = ps.length → bindArgs (PySem.W.fnOf x q (defArgs st) (defBody st) (defScope st) .none kV doc pm an cdv ct) ⟨us, []⟩ = pure (ps.zip us)) (s : Shared) (us : List Value) (hl : us.length = ps.length) : BindsTo s fd ⟨us, []⟩ (ps.zip us) := by
  obtain ⟨oc, od, dV, kV, doc, pm, an, cdv, ct, osl, rfl, lk, hcd, hd, _⟩ := F.ex
  rcases hd with ⟨_, rfl⟩ | ⟨z, _⟩
  · exact .of_eq (h kV doc pm an cdv ct us hl)
  · exact absurd rfl z
def sw2 {α : Type} : List α → List α
  | [a, b] => [b, a]
  | l => l
theorem sw2_vals {zs : List V} {ws : List Value} (r : Vals zs ws) : Vals (sw2 zs) (sw2 ws) := by
  cases r with
  | nil => exact .nil
  | cons a r =>
    cases r with
    | nil => exact .cons a .nil
    | cons b r =>
      cases r with
      | nil => exact .cons b (.cons a .nil)
      | cons c r => exact .cons a (.cons b (.cons c r))
/-- a call by names -/
theorem bindsK {K : PySem.W.Frag} {x q : Str} {st : Stmt} {f : Addr} {fd : FuncData} {ps ks : List Str} {n : Nat} {g : List Value → List Value → List Value} {gV : List V → List V → List V} (F : FnP K x q st f fd)
    (h : ∀ (kV doc pm : Value) (an : Option Addr) (cdv ct : Value) (us ws : List Value), us.length = n → ws.length = ks.length → bindArgs (PySem.W.fnOf x q (defArgs st) (defBody st) (defScope st) .none kV doc pm an cdv ct) ⟨us, ks.zip ws⟩ = pure (ps.zip (g us ws)))
    (r : ∀ {vs : List V} {us : List Value} {zs : List V} {ws : List Value}, Vals vs us → Vals zs ws → Vals (gV vs zs) (g us ws)) : KBn K fd ps n ks g gV := by
  obtain ⟨oc, od, dV, kV, doc, pm, an, cdv, ct, osl, rfl, lk, hcd, hd, _⟩ := F.ex
  rcases hd with ⟨_, rfl⟩ | ⟨z, _⟩
  · exact ⟨fun s us ws _ h1 h2 => .of_eq (h kV doc pm an cdv ct us ws h1 h2), r⟩
  · exact absurd rfl z
theorem calOf {P : Program} {w : World} {K : PySem.W.Frag} {mg : Str → Option Value} {base : Heap} {k : Nat} {x : Str} {ps : List Str} {sp : Sp} {f : Addr} {fd : FuncData} {q : Str} {st : Stmt}
    (g : mg x = some (.ref f)) (F : FnP K x q st f fd) (b : Binds K fd ps []) (o : FnOk P w K mg base CX0 k f fd ps sp) : Cal P w K mg base k x ps sp := ⟨f, fd, g, F.kp, b, o⟩
theorem calGOf {P : Program} {w : World} {K : PySem.W.Frag} {mg : Str → Option Value} {base : Heap} {k : Nat} {x : Str} {ps : List Str} {sp : Sp} {f : Addr} {fd : FuncData} {q : Str} {st : Stmt}
    (g : mg x = some (.ref f)) (F : FnP K x q st f fd) (b : Binds K fd ps []) (o : GFn P w K mg base CX0 k f fd ps sp) : CalG P w K mg base k x ps sp := ⟨f, fd, g, F.kp, b, o⟩
end MG

/-! numbers of payments: tables of functions on the naturals -/
namespace KM
def stp (c : Nat) (w : Nat → Int) (n : Nat) : Int := w n + (if h : 0 < c ∧ c ≤ n then stp c w (n - c) else 0)
termination_by n
decreasing_by omega
theorem stp_lt {c n : Nat} {w : Nat → Int} (h : n < c) : stp c w n = w n := by
  rw [stp, dif_neg (by omega)]
  omega
theorem stp_ge {c n : Nat} {w : Nat → Int} (h0 : 0 < c) (h : c ≤ n) : stp c w n = w n + stp c w (n - c) := by
  rw [stp, dif_pos ⟨h0, h⟩]
theorem stp_zero {c : Nat} {w : Nat → Int} : stp c w 0 = w 0 := by
  rw [stp, dif_neg (by omega)]
  omega
theorem stp_uniq {c : Nat} {w u : Nat → Int} (h0 : 0 < c) (h : ∀ n, u n = w n + (if c ≤ n then u (n - c) else 0)) (n : Nat) : u n = stp c w n := by
  induction n using Nat.strongRecOn with
  | ind n ih =>
    rw [h n]
    by_cases q : c ≤ n
    · rw [if_pos q, stp_ge h0 q, ih (n - c) (by omega)]
    · rw [if_neg q, stp_lt (by omega)]
      omega
theorem stp_congr {c : Nat} {w v : Nat → Int} (h : ∀ n, w n = v n) (n : Nat) : stp c w n = stp c v n := by
  have e : w = v := funext h
  rw [e]
theorem stp_comm {a b : Nat} {w : Nat → Int} (ha : 0 < a) (hb : 0 < b) (n : Nat) : stp a (stp b w) n = stp b (stp a w) n := by
  -- the left one, less its shift by b, is stp a w
  refine stp_uniq (c := b) hb ?_ n
  intro n
  induction n using Nat.strongRecOn with
  | ind n ih =>
    by_cases qa : a ≤ n
    · have e1 := stp_ge (w := stp b w) ha qa
      have e2 := stp_ge (w := w) ha qa
      have i1 := ih (n - a) (by omega)
      rw [e1, e2]
      by_cases qb : b ≤ n
      · rw [if_pos qb, stp_ge hb qb]
        by_cases qab : a + b ≤ n
        · rw [if_pos (by omega)] at i1
          have e3 : stp a (stp b w) (n - b) = stp b w (n - b) + stp a (stp b w) (n - b - a) := stp_ge ha (by omega)
          have e4 : n - a - b = n - b - a := by omega
          rw [e4] at i1
          omega
        · rw [if_neg (by omega)] at i1
          have e3 : stp a (stp b w) (n - b) = stp b w (n - b) := stp_lt (by omega)
          omega
      · rw [if_neg qb, stp_lt (by omega)]
        rw [if_neg (by omega)] at i1
        omega
    · rw [stp_lt (w := stp b w) (by omega), stp_lt (w := w) (c := a) (by omega)]
      by_cases qb : b ≤ n
      · rw [if_pos qb, stp_ge hb qb]
        have e3 : stp a (stp b w) (n - b) = stp b w (n - b) := stp_lt (by omega)
        omega
      · rw [if_neg qb, stp_lt (by omega)]
        omega
def w0 (n : Nat) : Int := if n = 0 then 1 else 0
/-- by the coins, one after the other -/
def cnt (cs : List Int) : Nat → Int := cs.foldl (fun w c => stp c.toNat w) w0
theorem fold_comm {c : Nat} (hc : 0 < c) : ∀ (cs : List Int) (w : Nat → Int), (∀ d ∈ cs, 1 ≤ d) → ∀ n, cs.foldl (fun w c => stp c.toNat w) (stp c w) n = stp c (cs.foldl (fun w c => stp c.toNat w) w) n
  | [], w, _, n => rfl
  | d :: cs, w, h, n => by
    have hd : 0 < d.toNat := by have := h d (by simp); omega
    show cs.foldl (fun w c => stp c.toNat w) (stp d.toNat (stp c w)) n = _
    have e : stp d.toNat (stp c w) = stp c (stp d.toNat w) := funext fun n => stp_comm hd hc n
    rw [e]
    exact fold_comm hc cs (stp d.toNat w) (fun x hx => h x (by simp [hx])) n
theorem cnt_zero (cs : List Int) : cnt cs 0 = 1 := by
  have key : ∀ (cs : List Int) (w : Nat → Int), cs.foldl (fun w c => stp c.toNat w) w 0 = w 0 := by
    intro cs
    induction cs with
    | nil => intro w; rfl
    | cons c cs ih => intro w; exact (ih _).trans stp_zero
  exact key cs w0
/-- a coin taken out of the row -/
theorem cnt_mem {c : Int} : ∀ (cs : List Int) (w : Nat → Int), (∀ d ∈ cs, 1 ≤ d) → cs.Nodup → c ∈ cs → ∀ n,
    cs.foldl (fun w c => stp c.toNat w) w n = stp c.toNat ((cs.filter (fun d => !decide (d = c))).foldl (fun w c => stp c.toNat w) w) n
  | [], w, _, _, h, n => by cases h
  | d :: cs, w, h1, hn, h, n => by
    have hnd := List.nodup_cons.mp hn
    by_cases e : d = c
    · subst e
      have hf : (d :: cs).filter (fun x => !decide (x = d)) = cs := by
        rw [List.filter_cons_of_neg (by simp)]
        refine List.filter_eq_self.mpr ?_
        intro x hx
        have hxd : x ≠ d := fun z => hnd.1 (z ▸ hx)
        simp [hxd]
      rw [hf]
      exact fold_comm (by have := h1 d (by simp); omega) cs w (fun x hx => h1 x (by simp [hx])) n
    · have hm : c ∈ cs := by
        rcases List.mem_cons.mp h with z | z
        · exact absurd z.symm e
        · exact z
      rw [List.filter_cons_of_pos (by simp [e])]
      exact cnt_mem cs (stp d.toNat w) (fun x hx => h1 x (by simp [hx])) hnd.2 hm n
theorem cnt_take {c : Int} {cs : List Int} (h1 : ∀ d ∈ cs, 1 ≤ d) (hn : cs.Nodup) (h : c ∈ cs) {n : Nat} (hc : c.toNat ≤ n) :
    cnt cs n = cnt cs (n - c.toNat) + cnt (cs.filter (fun d => !decide (d = c))) n := by
  have hp : 0 < c.toNat := by have := h1 c h; omega
  have e := cnt_mem cs w0 h1 hn h
  show cs.foldl _ w0 n = cs.foldl _ w0 (n - c.toNat) + _
  rw [e n, e (n - c.toNat), stp_ge hp hc]
  show _ + _ = _ + List.foldl _ w0 _ n
  omega
theorem stp_bound {c : Nat} {w : Nat → Int} {B : Int} {N : Nat} (hc : 0 < c) (hB : 0 ≤ B) (h : ∀ n, n ≤ N → 0 ≤ w n ∧ w n ≤ B) : ∀ n, n ≤ N → 0 ≤ stp c w n ∧ stp c w n ≤ B * ((n : Int) + 1) := by
  intro n
  induction n using Nat.strongRecOn with
  | ind n ih =>
    intro hn
    have h1 := h n hn
    have e0 : B * ((n : Int) + 1) = B * n + B := by rw [Int.mul_add, Int.mul_one]
    have z0 : 0 ≤ B * (n : Int) := Int.mul_nonneg hB (by omega)
    by_cases q : c ≤ n
    · rw [stp_ge hc q]
      obtain ⟨i1, i2⟩ := ih (n - c) (by omega) (by omega)
      have e1 : B * (((n - c : Nat) : Int) + 1) ≤ B * n := Int.mul_le_mul_of_nonneg_left (by omega) hB
      omega
    · rw [stp_lt (by omega)]
      omega
theorem cnt_bound {N : Nat} : ∀ (cs : List Int) (w : Nat → Int) (B : Int), (∀ d ∈ cs, 1 ≤ d) → 0 ≤ B → (∀ n, n ≤ N → 0 ≤ w n ∧ w n ≤ B) →
    ∀ n, n ≤ N → 0 ≤ cs.foldl (fun w c => stp c.toNat w) w n ∧ cs.foldl (fun w c => stp c.toNat w) w n ≤ B * ((N : Int) + 1) ^ cs.length
  | [], w, B, _, _, h, n, hn => by
    have := h n hn
    simpa using this
  | c :: cs, w, B, h1, hB, h, n, hn => by
    have hc : 0 < c.toNat := by have := h1 c (by simp); omega
    have hB2 : 0 ≤ B * ((N : Int) + 1) := Int.mul_nonneg hB (by omega)
    have key := cnt_bound cs (stp c.toNat w) (B * ((N : Int) + 1)) (fun d hd => h1 d (by simp [hd])) hB2 (fun n hn => by
      obtain ⟨a, b⟩ := stp_bound hc hB h n hn
      exact ⟨a, Int.le_trans b (Int.mul_le_mul_of_nonneg_left (by omega) hB)⟩) n hn
    refine ⟨key.1, Int.le_trans key.2 (Int.le_of_eq ?_)⟩
    show B * ((N : Int) + 1) * ((N : Int) + 1) ^ cs.length = B * ((N : Int) + 1) ^ (cs.length + 1)
    rw [Int.pow_succ, Int.mul_assoc, Int.mul_comm (((N : Int) + 1) ^ cs.length)]
theorem cnt_small {cs : List Int} (h1 : ∀ d ∈ cs, 1 ≤ d) (hl : cs.length ≤ 15) {n : Nat} (hn : n ≤ 400) : 0 ≤ cnt cs n ∧ (cnt cs n).natAbs < 2 ^ 1000 := by
  have h := cnt_bound (N := 400) cs w0 1 h1 (by decide) (fun n _ => by unfold w0; split <;> decide) n hn
  refine ⟨h.1, ?_⟩
  have h2 : cnt cs n ≤ 1 * ((400 : Nat) + 1 : Int) ^ cs.length := h.2
  have h3 : ((400 : Nat) + 1 : Int) ^ cs.length ≤ ((401 : Nat) : Int) ^ 15 := by
    have : (401 : Nat) ^ cs.length ≤ 401 ^ 15 := Nat.pow_le_pow_right (by decide) hl
    exact_mod_cast this
  have h4 : (401 : Nat) ^ 15 < 2 ^ 1000 := by decide +kernel
  have h5 : ((401 : Nat) : Int) ^ 15 = ((401 ^ 15 : Nat) : Int) := by exact_mod_cast rfl
  have h0 : 0 ≤ cnt cs n := h.1
  rw [h5] at h3
  omega
/-! tables -/
def tab (n : Nat) (f : Nat → Int) : List Int := (List.range n).map f
theorem tab_len (n : Nat) (f : Nat → Int) : (tab n f).length = n := by simp [tab]
theorem tab_at {n i : Nat} {f : Nat → Int} (h : i < n) : (tab n f)[i]? = some (f i) := by
  simp [tab, h]
theorem tab_set {n i : Nat} {f : Nat → Int} {v : Int} : (tab n f).set i v = tab n (fun j => if j = i then v else f j) := by
  apply List.ext_getElem?
  intro j
  rw [List.getElem?_set, tab_len]
  by_cases hj : j < n
  · rw [tab_at (f := fun j => if j = i then v else f j) hj, tab_at (f := f) hj]
    by_cases e : i = j
    · rw [if_pos e, if_pos (by omega), if_pos e.symm]
    · rw [if_neg e, if_neg (fun z => e z.symm)]
  · have h1 : (tab n fun j => if j = i then v else f j)[j]? = none := by
      rw [List.getElem?_eq_none_iff, tab_len]; omega
    have h2 : (tab n f)[j]? = none := by
      rw [List.getElem?_eq_none_iff, tab_len]; omega
    rw [h1, h2]
    by_cases e : i = j
    · rw [if_pos e, if_neg (by omega)]
    · rw [if_neg e]
theorem tab_w0 (n : Nat) : ([1] ++ (List.replicate n 0) : List Int) = tab (n + 1) w0 := by
  apply List.ext_getElem?
  intro j
  by_cases hj : j < n + 1
  · rw [tab_at hj]
    cases j with
    | zero => rfl
    | succ j =>
      rw [show ([1] ++ List.replicate n (0 : Int))[j + 1]? = (List.replicate n (0 : Int))[j]? from rfl, List.getElem?_replicate, if_pos (by omega)]
      rfl
  · have h1 : (tab (n + 1) w0)[j]? = none := by
      rw [List.getElem?_eq_none_iff, tab_len]; omega
    rw [h1, List.getElem?_eq_none_iff]
    simp
    omega
/-- a table half way through a coin's step -/
def half (c : Nat) (w : Nat → Int) (m : Nat) (n : Nat) : Int := if n < m then stp c w n else w n
theorem half_start (c : Nat) (w : Nat → Int) (n : Nat) : half c w c n = w n := by
  unfold half
  by_cases h : n < c
  · rw [if_pos h, stp_lt h]
  · rw [if_neg h]
theorem half_step {c : Nat} (hc : 0 < c) (w : Nat → Int) {m : Nat} (hm : c ≤ m) (n : Nat) : (if n = m then half c w m m + half c w m (m - c) else half c w m n) = half c w (m + 1) n := by
  unfold half
  by_cases e : n = m
  · subst e
    rw [if_pos rfl, if_neg (by omega), if_pos (by omega), if_pos (by omega), stp_ge hc hm]
  · rw [if_neg e]
    by_cases h : n < m
    · rw [if_pos h, if_pos (by omega)]
    · rw [if_neg h, if_neg (by omega)]
theorem half_end {c : Nat} {w : Nat → Int} {k n : Nat} (h : n < k) : half c w k n = stp c w n := if_pos h
theorem tab_congr {n : Nat} {f g : Nat → Int} (h : ∀ i, i < n → f i = g i) : tab n f = tab n g := by
  apply List.map_congr_left
  intro i hi
  exact h i (List.mem_range.mp hi)
end KM

/-! lots as the heap has them; what the program's defs promise of them; draws -/
namespace Kx
open PySem L2 MG KM
structure Bi (mg : Str → Option Value) : Prop where
  b_isinstance : mg "isinstance" = none
  b_int : mg "int" = none
  b_bool : mg "bool" = none
  b_str : mg "str" = none
  b_tuple : mg "tuple" = none
  b_list : mg "list" = none
  b_len : mg "len" = none
  b_enumerate : mg "enumerate" = none
  b_range : mg "range" = none
  b_zip : mg "zip" = none
  b_reversed : mg "reversed" = none
  b_divmod : mg "divmod" = none
  b_abs : mg "abs" = none
  b_sorted : mg "sorted" = none
  b_sum : mg "sum" = none
  b_repr : mg "repr" = none
  b_all : mg "all" = none
  b_any : mg "any" = none
  b_min : mg "min" = none
  b_max : mg "max" = none
  b_set : mg "set" = none
  b_dict : mg "dict" = none
/-- some of the items, by their places -/
def gP {α : Type} (is : List Nat) (zs : List α) : List α := is.filterMap (zs[·]?)
def sp_is_integer : Sp := fun vs H Q _ => ∃ n : Int, vs = [.int n] ∧ Q (.bl true) H
def sp_is_between : Sp := fun vs H Q _ => ∃ n a b : Int, vs = [.int n, .int a, .int b] ∧ Q (.bl (decide (a ≤ n) && decide (n ≤ b))) H
def sp_check_small : Sp := fun vs H Q _ => ∃ n : Int, vs = [.int n] ∧ 0 ≤ n ∧ n ≤ 400 ∧ Q .non H
/-! ### lots -/
def asc : Int → List Int → Prop
  | _, [] => True
  | a, c :: r => a < c ∧ c ≤ 60 ∧ asc c r
def ahd : Int → List Int → Nat → Int
  | a, _, 0 => a
  | a, [], _ => a
  | _, c :: r, i + 1 => ahd c r i
theorem asc_at : ∀ {cs : List Int} {a : Int} {i : Nat} {c : Int}, asc a cs → cs[i]? = some c → ahd a cs i < c ∧ c ≤ 60 ∧ ahd a cs (i + 1) = c
  | [], _, _, _, _, h => by simp at h
  | d :: r, a, 0, c, h, e => by
    have e' : d = c := by simpa using e
    subst e'
    obtain ⟨h1, h2, h3⟩ := h
    refine ⟨h1, h2, ?_⟩
    cases r <;> rfl
  | d :: r, a, i + 1, c, h, e => by
    obtain ⟨h1, h2, h3⟩ := h
    exact asc_at (cs := r) (a := d) h3 (by simpa using e)
def asch (hi : Int) : Int → List Int → Prop
  | _, [] => True
  | a, c :: r => a < c ∧ c ≤ hi ∧ asch hi c r
theorem asch_at : ∀ {hi : Int} {cs : List Int} {a : Int} {i : Nat} {c : Int}, asch hi a cs → cs[i]? = some c → ahd a cs i < c ∧ c ≤ hi ∧ ahd a cs (i + 1) = c
  | _, [], _, _, _, _, h => by simp at h
  | hi, d :: r, a, 0, c, h, e => by
    have e' : d = c := by simpa using e
    subst e'
    obtain ⟨h1, h2, h3⟩ := h
    refine ⟨h1, h2, ?_⟩
    cases r <;> rfl
  | hi, d :: r, a, i + 1, c, h, e => by
    obtain ⟨h1, h2, h3⟩ := h
    exact asch_at (cs := r) (a := d) h3 (by simpa using e)
theorem asch_of : ∀ {cs : List Int} {a : Int}, asc a cs → asch 60 a cs
  | [], _, _ => True.intro
  | _ :: _, _, ⟨h1, h2, h3⟩ => ⟨h1, h2, asch_of h3⟩
def sp_is_number : Sp := fun vs H Q _ => ∃ n : Int, vs = [.int n] ∧ Q (.bl (decide (0 ≤ n))) H
def sp_is_small : Sp := fun vs H Q _ => ∃ n : Int, vs = [.int n] ∧ 0 ≤ n ∧ n ≤ 400 ∧ Q (.bl true) H
def sp_count_ascending : Sp := fun vs H Q _ => ∃ (t : Addr) (cs : List Int) (lo hi : Int) (m : Nat), vs = [.ref t, .int lo, .int hi, .int m] ∧ H t = some (.tup (cs.map V.int)) ∧ cs.length ≤ m ∧ m ≤ 1000 ∧ asch hi (lo - 1) cs ∧ ∀ H', Same H H' → Q (.int cs.length) H'
structure Lotc (cs : List Int) : Prop where
  ne : cs ≠ []
  few : cs.length ≤ 15
  up : asc 0 cs
def sp_count_right : Sp := fun vs H Q _ => ∃ (t : Addr) (cs : List Int), vs = [.ref t] ∧ H t = some (.tup (cs.map V.int)) ∧ Lotc cs ∧ ∀ H', Same H H' → Q (.int cs.length) H'
/-! the class Lot: at C; its one field -/
structure Tc (K : PySem.W.Frag) (mg : Str → Option Value) (C : Addr) : Prop where
  cl : Cls K C
  nc : NoAttr K C "_coins"
  gL : mg "Lot" = some (.ref C)
  k1 : PySem.W.findIn K (.ref C) "__class__" = some (some (.builtin "object.__class__"))
  k2 : PySem.W.specialIn K (.builtin "object.__class__") "__get__" = some (some (.builtin "getset_descriptor.__get__"))
  k3 : PySem.W.takesIn K (.builtin "object.__class__") = some true
  k4 : PySem.W.mroIn K C (.type "object") = some true
/-- a lot stands at p, with the coins cs -/
def LotAt (C : Addr) (H : Hp) (p : Addr) (cs : List Int) : Prop := ∃ dx t, H p = some (.ins C dx [("_coins", .ref t)]) ∧ H t = some (.tup (cs.map V.int)) ∧ Lotc cs
theorem LotAt.same {C : Addr} {H H' : Hp} {p : Addr} {cs : List Int} (h : LotAt C H p cs) (s : Same H H') : LotAt C H' p cs := by
  obtain ⟨dx, t, h1, h2, h3⟩ := h
  exact ⟨dx, t, s _ _ h1, s _ _ h2, h3⟩
def sp_Lot_init (C : Addr) : Sp := fun vs H Q _ => ∃ (p dx t : Addr) (cs : List Int), vs = [.ref p, .ref t] ∧ H p = some (.ins C dx []) ∧ H t = some (.tup (cs.map V.int)) ∧ Lotc cs ∧
  ∀ H', But p H H' → H' p = some (.ins C dx [("_coins", .ref t)]) → Q .non H'
def sp_check_lot (C : Addr) : Sp := fun vs H Q _ => ∃ (p dx : Addr) (fs : List (Str × V)), vs = [.ref p] ∧ H p = some (.ins C dx fs) ∧ Q .non H
def sp_put_ways : Sp := fun vs H Q _ => ∃ (l : Addr) (c : Int) (n : Nat) (g : Nat → Int), vs = [.ref l, .int c] ∧ H l = some (.lst ((tab n g).map V.int)) ∧ 1 ≤ c ∧ c ≤ 60 ∧ n ≤ 100000 ∧
  ∀ H', But l H H' → H' l = some (.lst ((tab n (stp c.toNat g)).map V.int)) → Q .non H'
theorem set_map {ns : List Int} {i : Nat} {v : Int} : (ns.map V.int).set i (.int v) = (ns.set i v).map V.int := by
  rw [List.map_set]
def sp_count_ways : Sp := fun vs H Q _ => ∃ (t : Addr) (cs : List Int) (m : Nat), vs = [.ref t, .int m] ∧ H t = some (.tup (cs.map V.int)) ∧ (∀ c ∈ cs, 1 ≤ c ∧ c ≤ 60) ∧ m ≤ 50000 ∧
  ∀ l H', H l = none → Same H H' → H' l = some (.lst ((tab (m + 1) (cnt cs)).map V.int)) → Q (.ref l) H'
theorem take_fold {cs : List Int} {i : Nat} {z : Int} (h : cs[i]? = some z) (g : Nat → Int) : (cs.take (i + 1)).foldl (fun w c => stp c.toNat w) g = stp z.toNat ((cs.take i).foldl (fun w c => stp c.toNat w) g) := by
  rw [List.take_add_one, h, List.foldl_append]
  rfl
def sp_count_payments (C : Addr) : Sp := fun vs H Q _ => ∃ (p : Addr) (cs : List Int) (n : Nat), vs = [.ref p, .int n] ∧ LotAt C H p cs ∧ n ≤ 400 ∧ ∀ H', Same H H' → Q (.int (cnt cs n)) H'
/-- lot.coins -/
def Prp (P : Program) (w : World) (K : PySem.W.Frag) (mg : Str → Option Value) (base : Heap) (C : Addr) : Prop :=
  ∃ (p g : Addr) (fd : FuncData), PropOf K C "coins" p g ∧ FnOk P w K mg base CX0 1 g fd ["self"] (getSp C "_coins") ∧ Binds K fd ["self"] []
theorem pe_coins {X : Cx} {C : Addr} {n : Nat} {e : Expr} {ta : TE} {pos : Pos} (c : Prp X.prog X.w X.K X.mg X.base C) (cl : Cls X.K C) (rm : Room n X.A) (he : PE X e ta) (h2 : 2 ≤ n := by decide)
    (hab : attributeBase e "coins" X.env (eval e X.env) = eval e X.env := by rfl) : PE X (.Attribute e "coins" pos) (tProp C (getSp C "_coins") [] E0 ta) := by
  obtain ⟨p, g, fd, h1, h3, h4⟩ := c
  exact pe_prop he cl h1 h3 (rm.mono h2) h4 .nil pass0 hab
theorem lot_pos : ∀ {cs : List Int} {a : Int}, 0 ≤ a → asc a cs → ∀ c ∈ cs, 1 ≤ c ∧ c ≤ 60
  | [], _, _, _, c, h => by cases h
  | d :: r, a, ha, ⟨h1, h2, h3⟩, c, h => by
    rcases List.mem_cons.mp h with rfl | h
    · exact ⟨by omega, h2⟩
    · exact lot_pos (by omega) h3 c h
/-- where draws come from: three numbers -/
def Bw (H : Hp) (b : Addr) : Prop := ∃ x y z : Int, H b = some (.lst [.int x, .int y, .int z])
def sp_l_dip : Sp := fun vs H Q _ => ∃ (b : Addr) (m : Int), vs = [.ref b, .int m] ∧ Bw H b ∧ 0 < m ∧ m < 1000000000000000000000000000000000000000000000000000000000000 ∧ ∀ r H', 0 ≤ r → r < m → Bw H' b → But b H H' → Q (.int r) H'
/-- one item of a list or a tuple -/
def sp_l_one : Sp := fun vs H Q _ => ∃ (b a : Addr) (xs : List V), vs = [.ref b, .ref a] ∧ Bw H b ∧ a ≠ b ∧ (H a = some (.lst xs) ∨ H a = some (.tup xs)) ∧ 0 < xs.length ∧ xs.length < 1000000 ∧ ∀ x H', x ∈ xs → Bw H' b → But b H H' → Q x H'
/-- a new list of ints -/
def rInts : L2.St → Hp → V → Hp → Prop := fun _ H v H' => ∃ (p : Addr) (ms : List Int), v = .ref p ∧ H p = none ∧ Same H H' ∧ H' p = some (.lst (ms.map V.int))
theorem cut_ints (ns : List Int) (a b : Option Int) : ∃ ms : List Int, cutV (ns.map V.int) a b = ms.map V.int ∧ ms.length ≤ ns.length := by
  refine ⟨(ns.drop (HT.sIx ns.length 0 a)).take (HT.sIx ns.length ns.length b - HT.sIx ns.length 0 a), ?_, ?_⟩
  · unfold cutV
    rw [List.length_map, List.map_take, List.map_drop]
  · rw [List.length_take, List.length_drop]
    omega
def sp_l_bowl (K : PySem.W.Frag) : Sp := fun vs H Q _ => ∃ (a : Addr) (ns : List Int) (k : Nat), vs = [.ref a, .int k] ∧ SqL K H a (ns.map V.int) ∧ ns.length ≤ 63 ∧ k < 100 ∧ ∀ b H', H b = none → Same H H' → Bw H' b → Q (.ref b) H'
theorem asc_of : ∀ {cs : List Int} {a : Int}, cs.Pairwise (· < ·) → (∀ c ∈ cs, a < c ∧ c ≤ 60) → asc a cs
  | [], _, _, _ => True.intro
  | c :: r, a, h, hb => by
    have hp := List.pairwise_cons.mp h
    have h1 := hb c (by simp)
    exact ⟨h1.1, h1.2, asc_of hp.2 fun d hd => ⟨hp.1 d hd, (hb d (by simp [hd])).2⟩⟩
def rl (m : Nat) : List Int := (List.range m).map fun (i : Nat) => 1 + (i : Int)
theorem rl_mem {m : Nat} {c : Int} (h : c ∈ rl m) : 1 ≤ c ∧ c ≤ m := by
  obtain ⟨i, hi, rfl⟩ := List.mem_map.mp h
  have := List.mem_range.mp hi
  omega
theorem rl_nodup (m : Nat) : (rl m).Nodup := by
  unfold rl List.Nodup
  rw [List.pairwise_map]
  exact List.nodup_range.imp fun h => by omega
theorem rl_len (m : Nat) : (rl m).length = m := by simp [rl]
theorem drawn_lot {fs ls fs' : List Int} {m : Nat} (hm : m ≤ 60) (hp : (fs ++ ls).Perm (rl m)) (hs : fs'.Perm fs) (ho : fs'.Pairwise (· ≤ ·)) (h0 : 0 < fs.length) (h15 : fs.length ≤ 15) : Lotc fs' := by
  have nd : fs'.Nodup := hs.nodup_iff.mpr ((hp.nodup_iff.mpr (rl_nodup m)).sublist (List.sublist_append_left fs ls))
  have mem : ∀ c ∈ fs', 0 < c ∧ c ≤ 60 := fun c hc => by
    have := rl_mem (hp.mem_iff.mp (List.mem_append_left ls (hs.mem_iff.mp hc)))
    omega
  have el := hs.length_eq
  refine ⟨?_, by omega, asc_of ?_ mem⟩
  · intro z
    rw [z] at el
    simp at el
    omega
  · have := ho.and nd
    exact this.imp fun h => by omega
theorem rgV_rl (m : Nat) : rgV 1 ((m : Int) + 1) = (rl m).map V.int := by
  unfold rgV rl
  rw [List.map_map, show ((m : Int) + 1 - 1).toNat = m by omega]
  rfl
def sp_l_coins : Sp := fun vs H Q _ => ∃ (b : Addr) (n m : Nat), vs = [.ref b, .int n, .int m] ∧ Bw H b ∧ 1 ≤ n ∧ n ≤ m ∧ m ≤ 60 ∧ n ≤ 15 ∧
  ∀ t cs H', H t = none → Lotc cs → H' t = some (.tup (cs.map V.int)) → Bw H' b → But b H H' → Q (.ref t) H'
theorem down_sum {c : Nat} (hc : 0 < c) (g : Nat → Int) (n : Nat) : ((List.range (n / c + 1)).map fun k => g (n - c * k)).sum = stp c g n := by
  induction n using Nat.strongRecOn with
  | ind n ih =>
    rw [List.range_succ_eq_map, List.map_cons, List.sum_cons, List.map_map]
    by_cases h : c ≤ n
    · have e : n / c = (n - c) / c + 1 := by
        rw [← Nat.div_eq_sub_div hc h]
      have i := ih (n - c) (by omega)
      rw [stp_ge hc h, ← i, e]
      congr 1
      congr 1
      apply List.map_congr_left
      intro k _
      show g (n - c * (k + 1)) = g (n - c - c * k)
      congr 1
      rw [Nat.mul_add, Nat.mul_one]
      omega
    · rw [stp_lt (by omega), Nat.div_eq_of_lt (by omega)]
      simp
theorem pick_down {n t c : Nat} (hc : 0 < c) (ht : t < n) (g : Nat → Int) : pick (tab n g) (some (t : Int)) none (some (-(c : Int))) = (List.range (t / c + 1)).map fun k => g (t - c * k) := by
  have hb : sliceBounds (some (t : Int)) none (some (-(c : Int))) n = ((t : Int), -1, -(c : Int)) := by
    unfold sliceBounds
    have h1 : ¬ (-(c : Int) > 0) := by omega
    simp only [Option.getD_some, h1, if_false]
    rw [if_neg (by omega)]
    have e : max (-1) (min (t : Int) ((n : Int) - 1)) = t := by omega
    rw [e]
  unfold pick
  rw [tab_len, hb]
  show (sliceRange (t : Int) (-1) (-(c : Int))).filterMap _ = _
  have hr : sliceRange (t : Int) (-1) (-(c : Int)) = (List.range (t / c + 1)).map fun k => t - c * k := by
    unfold sliceRange
    have h1 : ¬ (-(c : Int) > 0) := by omega
    have h2 : (t : Int) > -1 := by omega
    have e : ((t : Int) - -1 - -(c : Int) - 1) / (- -(c : Int)) = ((t / c + 1 : Nat) : Int) := by
      rw [show (t : Int) - -1 - -(c : Int) - 1 = t + 1 * c by omega, Int.neg_neg, Int.add_mul_ediv_right _ _ (by omega)]
      omega
    simp only [h1, if_false, h2, if_true, e, Int.toNat_natCast]
    apply List.map_congr_left
    intro k hk
    have hk' := List.mem_range.mp hk
    have : c * k ≤ t := by
      have : c * k ≤ c * (t / c) := Nat.mul_le_mul_left c (by omega)
      exact Nat.le_trans this (Nat.mul_div_le t c)
    have e2 : -(c : Int) * (k : Int) = -((c * k : Nat) : Int) := by
      rw [Int.neg_mul]
      omega
    rw [e2]
    omega
  rw [hr, List.filterMap_map]
  have key : ∀ ks : List Nat, ks.filterMap ((fun x => (tab n g)[x]?) ∘ fun k => t - c * k) = ks.map fun k => g (t - c * k) := by
    intro ks
    induction ks with
    | nil => rfl
    | cons k ks ih =>
      have e : ((fun x => (tab n g)[x]?) ∘ fun k => t - c * k) k = some (g (t - c * k)) := tab_at (n := n) (show t - c * k < n by omega)
      rw [List.filterMap_cons_some e, List.map_cons, ih]
  exact key _
theorem tab_succ (n : Nat) (g : Nat → Int) : tab (n + 1) g = tab n g ++ [g n] := by
  unfold tab
  rw [List.range_succ, List.map_append]
  rfl
def sp_l_many : Sp := fun vs H Q _ => ∃ (t : Addr) (cs : List Int) (m : Nat), vs = [.ref t, .int m] ∧ H t = some (.tup (cs.map V.int)) ∧ (∀ c ∈ cs, 1 ≤ c ∧ c ≤ 60) ∧ m ≤ 1000 ∧
  ∀ l H', H l = none → Same H H' → H' l = some (.lst ((tab (m + 1) (cnt cs)).map V.int)) → Q (.ref l) H'
/-- Lot(coins) -/
def MkL (P : Program) (w : World) (K : PySem.W.Frag) (mg : Str → Option Value) (base : Heap) (C : Addr) : Prop :=
  ∃ (f : Addr) (fd : FuncData), Mk K C f ∧ FnOk P w K mg base CX0 5 f fd ["self", "coins"] (sp_Lot_init C) ∧ Binds K fd ["self", "coins"] []
theorem pe_lot {X : Cx} {C : Addr} {n : Nat} {e : Expr} {t : TA} {p pos : Pos} (c : MkL X.prog X.w X.K X.mg X.base C) (g : X.mg "Lot" = some (.ref C)) (rm : Room n X.A) (ha : PA X [e] t) (h5 : 6 ≤ n := by decide) (hg : Gl X "Lot" := by rfl)
    (he : starEach [e] X.env = [(false, eval e X.env)] := by rfl) : PE X (.Call (.Name "Lot" p) [e] [] pos) (tMake C (sp_Lot_init C) [] E0 t) := by
  obtain ⟨f, fd, h1, h2, h3⟩ := c
  exact pe_make h1 h2 (rm.mono h5) hg g h3 .nil pass0 ha (by decide) he rfl
/-- what making a lot leaves -/
theorem made_lot {C : Addr} {H : Hp} {t : Addr} {cs : List Int} {R : Addr → Hp → Prop} (ht : H t = some (.tup (cs.map V.int))) (hc : Lotc cs) (q : ∀ p H', H p = none → Same H H' → LotAt C H' p cs → R p H') :
    ∀ x dx, H x = none → H dx = none → ¬ dx = x → sp_Lot_init C [.ref x, .ref t] (upd (upd H dx (.own x)) x (.ins C dx [])) (fun v H2 => v = .non ∧ R x H2) E0 := by
  intro x dx nx ndx ne
  have s0 : Same H (upd H dx (.own x)) := same_new ndx
  have nt : t ≠ x := ne_of_none ht nx
  refine ⟨x, dx, t, cs, rfl, upd_same, ?_, hc, ?_⟩
  · rw [upd_ne nt]
    exact s0 _ _ ht
  · intro H' bt h'
    have s1 : Same H H' := fun a o ha => bt a o (ne_of_none ha nx) (by rw [upd_ne (ne_of_none ha nx)]; exact s0 _ _ ha)
    exact ⟨rfl, q x H' nx s1 ⟨dx, t, h', s1 _ _ ht, hc⟩⟩
theorem Bw.same {H H' : Hp} {b : Addr} (h : Bw H b) (s : Same H H') : Bw H' b := by
  obtain ⟨x, y, z, e⟩ := h
  exact ⟨x, y, z, s _ _ e⟩
theorem LotAt.but {C : Addr} {H H' : Hp} {p b : Addr} {cs : List Int} (h : LotAt C H p cs) (hb : Bw H b) (x : But b H H') : LotAt C H' p cs := by
  obtain ⟨dx, t, h1, h2, h3⟩ := h
  obtain ⟨i, j, k, e⟩ := hb
  exact ⟨dx, t, x _ _ (ne_of h1 e (by intro z; cases z)) h1, x _ _ (ne_of h2 e (by intro z; cases z)) h2, h3⟩
theorem asc_pw : ∀ {cs : List Int} {a : Int}, asc a cs → cs.Pairwise (· < ·) ∧ ∀ c ∈ cs, a < c ∧ c ≤ 60
  | [], _, _ => ⟨List.Pairwise.nil, fun c h => by cases h⟩
  | d :: r, a, ⟨h1, h2, h3⟩ => by
    obtain ⟨p, q⟩ := asc_pw h3
    refine ⟨List.pairwise_cons.mpr ⟨fun c hc => (q c hc).1, p⟩, fun c hc => ?_⟩
    rcases List.mem_cons.mp hc with rfl | hc
    · exact ⟨h1, h2⟩
    · have := q c hc
      exact ⟨by omega, this.2⟩
theorem lot_nodup {cs : List Int} (h : Lotc cs) : cs.Nodup := (asc_pw h.up).1.imp fun h => by omega
theorem lot_less {cs : List Int} {c : Int} (h : Lotc cs) (h2 : 1 < cs.length) : Lotc (cs.filter (fun d => !decide (d = c))) := by
  obtain ⟨p, q⟩ := asc_pw h.up
  have nd := lot_nodup h
  have hf := h.few
  refine ⟨?_, ?_, asc_of (p.filter _) fun d hd => q d (List.mem_filter.mp hd).1⟩
  · match cs, h2, nd with
    | x :: y :: r, _, nd =>
      have ne : x ≠ y := fun e => (List.nodup_cons.mp nd).1 (by simp [e])
      intro z
      have hx : x = c := by
        have := (List.filter_eq_nil_iff.mp z) x (by simp)
        simpa using this
      have hy : y = c := by
        have := (List.filter_eq_nil_iff.mp z) y (by simp)
        simpa using this
      exact ne (hx.trans hy.symm)
  · exact Nat.le_trans (List.length_filter_le _ _) hf
def sp_law (K : PySem.W.Frag) : Sp := fun vs H Q _ => ∃ (a : Addr) (ns : List Int), vs = [.ref a] ∧ SqL K H a (ns.map V.int) ∧ ns.length ≤ 63 ∧ ∀ H', Q (.bl true) H'
end Kx

namespace MG
open PySem PySem.Spec PyProof.Rows L2
/-- a test told once -/
def tCutT (R : L2.St → Hp → Bool → Hp → Prop) (tt : TT) : TT := fun σ H Q => tt σ H (R σ H) ∧ ∀ b H', R σ H b H' → Q b H'
theorem pt_cutR {X : Cx} {e : Expr} {tt : TT} (R : L2.St → Hp → Bool → Hp → Prop) (h : PT X e tt) : PT X e (tCutT R tt) := by
  refine ⟨?_⟩
  rintro pins s σ H Q I ⟨a, b⟩
  refine wpAny_mono (h.run pins s σ H _ I a) ?_ (fun _ _ z => z)
  intro u s' hz
  obtain ⟨H', I', q⟩ := hz
  exact ⟨H', I', b _ H' q⟩
/-- a while whose test is told once -/
theorem while_cut {R : L2.St → Hp → Bool → Hp → Prop} {c : TT} {tb : TS} {D : Ends} {σ : L2.St} {H : Hp} (Pv : L2.St → Hp → Prop) (μ : L2.St → Hp → Nat) (h0 : Pv σ H)
    (ht : ∀ σ H, Pv σ H → c σ H (R σ H))
    (hs : ∀ σ H b H1, Pv σ H → R σ H b H1 → if b = true then tb { D with nx := fun σ' H' => Pv σ' H' ∧ μ σ' H' < μ σ H, ct := fun σ' H' => Pv σ' H' ∧ μ σ' H' < μ σ H, bk := D.nx } σ H1 else D.nx σ H1) : tWhile (tCutT R c) tb D σ H :=
  while_by Pv μ h0 (fun σ H p => ⟨ht σ H p, fun b H' r => hs σ H b H' p r⟩) (fun σ H Q Q' m h => ⟨h.1, fun b H' r => m _ _ (h.2 b H' r)⟩)
/-- t + u of tracked tuples, t not empty -/
def rCatHT : R2 := fun x y H Q => ∃ a b xs ys, x = .ref a ∧ y = .ref b ∧ H a = some (.tup xs) ∧ H b = some (.tup ys) ∧ xs ≠ [] ∧ xs.length + ys.length ≤ sizeLine ∧
  (ys = [] → Q (.ref a) H) ∧ (ys ≠ [] → ∀ p, H p = none → Q (.ref p) (upd H p (.tup (xs ++ ys))))
theorem cat_HT {X : Cx} : OpR X (binaryOp .Add) rCatHT := by
  intro pins s σ H x y v u Q I rx ry h
  obtain ⟨a, b, xs, ys, h1, h2, ha, hb, hx, hz, q1, q2⟩ := h
  exact op_catT pins s σ H x y v u Q I rx ry ⟨a, b, xs, ys, h1, h2, sqT ha, sqT hb, hx, hz, q1, q2⟩
theorem pick_rev {α : Type} (xs : List α) : pick xs none none (some (-1)) = xs.reverse := by
  have hb : sliceBounds none none (some (-1)) xs.length = ((xs.length : Int) - 1, -1, -1) := by
    unfold sliceBounds
    simp
  unfold pick
  rw [hb]
  have hr : sliceRange ((xs.length : Int) - 1) (-1) (-1) = (List.range xs.length).map fun k => xs.length - 1 - k := by
    unfold sliceRange
    have h1 : ¬ ((-1 : Int) > 0) := by omega
    simp only [h1, if_false]
    by_cases h0 : xs.length = 0
    · rw [if_neg (by omega), h0]
      rfl
    · rw [if_pos (by omega)]
      have e : (((xs.length : Int) - 1 - -1 - -1 - 1) / - -1).toNat = xs.length := by
        rw [Int.neg_neg, Int.ediv_one]
        omega
      rw [e]
      apply List.map_congr_left
      intro k hk
      have := List.mem_range.mp hk
      omega
  show (sliceRange ((xs.length : Int) - 1) (-1) (-1)).filterMap (xs[·]?) = _
  rw [hr, List.filterMap_map]
  apply List.ext_getElem?
  intro i
  have key : ∀ (n : Nat), n ≤ xs.length → (List.range n).filterMap ((fun x => xs[x]?) ∘ fun k => xs.length - 1 - k) = xs.reverse.take n := by
    intro n
    induction n with
    | zero => intro _; rfl
    | succ n ih =>
      intro hn
      have hlt : n < xs.reverse.length := by rw [List.length_reverse]; omega
      rw [List.range_succ, List.filterMap_append, ih (by omega), List.take_add_one]
      congr 1
      have e1 : xs.reverse[n]? = xs[xs.length - 1 - n]? := List.getElem?_reverse (by omega)
      rw [e1]
      have hx : xs[xs.length - 1 - n]? = some xs[xs.length - 1 - n] := List.getElem?_eq_getElem (by omega)
      simp [hx]
  rw [key _ (Nat.le_refl _)]
  rw [show xs.length = xs.reverse.length from (List.length_reverse).symm, List.take_length]
theorem fnOk_no {P : Program} {w : World} {K : PySem.W.Frag} {mg : Str → Option Value} {base : Heap} {C : CXT} {n : Nat} {g : Addr} {dat : FuncData} {pars : List Str} {pr : Sp} (h : ∀ a b c d, ¬ pr a b c d) : FnOk P w K mg base C n g dat pars pr :=
  ⟨fun a b c d z => (h a b c d z).elim, fun A out s H ar us vs Q E _ _ _ _ z => (h _ _ _ _ z).elim⟩
/-! lists and tuples of rows of ints -/
def Each (H : Hp) (ps : List Addr) (L : List (List Int)) : Prop := ps.length = L.length ∧ ∀ (i : Nat) (p : Addr) (l : List Int), ps[i]? = some p → L[i]? = some l → H p = some (.tup (l.map V.int))
theorem Each.same {H H' : Hp} {ps : List Addr} {L : List (List Int)} (h : Each H ps L) (s : Same H H') : Each H' ps L := ⟨h.1, fun i p l a b => s _ _ (h.2 i p l a b)⟩
theorem Each.nil {H : Hp} : Each H [] [] := ⟨rfl, fun i p l a _ => by simp at a⟩
theorem Each.snoc {H : Hp} {ps : List Addr} {L : List (List Int)} {p : Addr} {l : List Int} (h : Each H ps L) (e : H p = some (.tup (l.map V.int))) : Each H (ps ++ [p]) (L ++ [l]) := by
  refine ⟨by simp [h.1], ?_⟩
  intro i q m a b
  by_cases hi : i < ps.length
  · rw [List.getElem?_append_left hi] at a
    rw [List.getElem?_append_left (h.1 ▸ hi)] at b
    exact h.2 i q m a b
  · rw [List.getElem?_append_right (by omega)] at a
    rw [List.getElem?_append_right (by have := h.1; omega)] at b
    have e1 : i - ps.length = 0 := by
      match z : i - ps.length, a with
      | 0, _ => rfl
      | k + 1, a => simp at a
    have e2 : i - L.length = 0 := by have := h.1; omega
    rw [e1] at a
    rw [e2] at b
    simp at a b
    subst a b
    exact e
theorem Each.append {H : Hp} {ps qs : List Addr} {L M : List (List Int)} (h : Each H ps L) (g : Each H qs M) : Each H (ps ++ qs) (L ++ M) := by
  refine ⟨by simp [h.1, g.1], ?_⟩
  intro i q m a b
  by_cases hi : i < ps.length
  · rw [List.getElem?_append_left hi] at a
    rw [List.getElem?_append_left (h.1 ▸ hi)] at b
    exact h.2 i q m a b
  · rw [List.getElem?_append_right (by omega)] at a
    rw [List.getElem?_append_right (by have := h.1; omega), ← h.1] at b
    exact g.2 _ q m a b
theorem Each.dp {K : PySem.W.Frag} {H : Hp} : ∀ {ps : List Addr} {L : List (List Int)}, Each H ps L → DpAll K H (ps.map V.ref) (L.map fun l => PyData.tuple (l.map .int))
  | [], [], _ => .nil
  | [], _ :: _, h => by have := h.1; simp at this
  | _ :: _, [], h => by have := h.1; simp at this
  | p :: ps, l :: L, h => .cons (dpT (h.2 0 p l rfl rfl)) (Each.dp ⟨by have := h.1; simpa using this, fun i q m a b => h.2 (i + 1) q m (by simpa using a) (by simpa using b)⟩)
theorem Each.upd {H : Hp} {ps : List Addr} {L : List (List Int)} {D : Addr} {xs : List V} {o : HO} (h : Each H ps L) (e : H D = some (.lst xs)) : Each (upd H D o) ps L :=
  ⟨h.1, fun i p l a b => by
    have := h.2 i p l a b
    rw [upd_ne (ne_of this e (by intro z; cases z))]
    exact this⟩
theorem Same.updN {H H' : Hp} {D : Addr} {o : HO} (s : Same H H') (n : H D = none) : Same H (upd H' D o) := fun a u e => by
  rw [upd_ne (ne_of_none e n)]
  exact s _ _ e
def RowsT (H : Hp) (t : Addr) (L : List (List Int)) : Prop := ∃ ps : List Addr, H t = some (.tup (ps.map V.ref)) ∧ Each H ps L
def RowsL (H : Hp) (t : Addr) (L : List (List Int)) : Prop := ∃ ps : List Addr, H t = some (.lst (ps.map V.ref)) ∧ Each H ps L
theorem RowsT.same {H H' : Hp} {t : Addr} {L : List (List Int)} (h : RowsT H t L) (s : Same H H') : RowsT H' t L := let ⟨ps, a, b⟩ := h; ⟨ps, s _ _ a, b.same s⟩
theorem RowsL.same {H H' : Hp} {t : Addr} {L : List (List Int)} (h : RowsL H t L) (s : Same H H') : RowsL H' t L := let ⟨ps, a, b⟩ := h; ⟨ps, s _ _ a, b.same s⟩
theorem RowsT.dp {K : PySem.W.Frag} {H : Hp} {t : Addr} {L : List (List Int)} (h : RowsT H t L) : Dp K H (.ref t) (.tuple (L.map fun l => PyData.tuple (l.map .int))) := let ⟨ps, a, b⟩ := h; .tup (sqT a) b.dp
theorem shw_rows {L : List (List Int)} {m k : Nat} (h : ∀ l ∈ L, l.length ≤ k ∧ ∀ i ∈ l, i.natAbs < 2 ^ 1000) (hm : L.length ≤ m) : Shw (m * (k * 1003 + 5) + 3) 2 (.tuple (L.map fun l => PyData.tuple (l.map .int))) := by
  refine (shw_tuple (n := k * 1003 + 3) (k := 1) (m := m) (fun d hd => ?_) (by simpa using hm)).mono (Nat.le_refl _) (Nat.le_refl _)
  obtain ⟨l, hl, rfl⟩ := List.mem_map.mp hd
  exact shw_intsT (h l hl).2 (h l hl).1
theorem ref_at {ps : List Addr} {i : Nat} {x : V} (h : (ps.map V.ref)[i]? = some x) : ∃ p, ps[i]? = some p ∧ x = .ref p := by
  rw [List.getElem?_map] at h
  cases e : ps[i]? with
  | none => rw [e] at h; cases h
  | some z => rw [e] at h; exact ⟨z, rfl, (Option.some.inj h).symm⟩
theorem mapR_at {ps : List Addr} {i : Nat} {z : Addr} (h : ps[i]? = some z) : (ps.map V.ref)[i]? = some (.ref z) := by
  rw [List.getElem?_map, h]
  rfl
end MG

/-! all payments of a sum, ascending; which of them stands at a place; the place of one -/
namespace KM
/-- how many there are by the coins from here on -/
def tw : List Int → Nat → Int
  | [] => w0
  | c :: cs => stp c.toNat (tw cs)
theorem tw_cnt : ∀ {cs : List Int}, (∀ d ∈ cs, 1 ≤ d) → ∀ n, tw cs n = cnt cs n := by
  intro cs
  induction cs with
  | nil => intro _ n; rfl
  | cons c cs ih =>
    intro h n
    have hc : 1 ≤ c := h c (by simp)
    have hr : ∀ d ∈ cs, 1 ≤ d := fun d z => h d (List.mem_cons_of_mem _ z)
    show stp c.toNat (tw cs) n = (c :: cs).foldl (fun w c => stp c.toNat w) w0 n
    rw [List.foldl_cons, fold_comm (by omega) cs w0 hr n]
    exact stp_congr (fun n => ih hr n) n
def blk (c : Nat) (q : Nat → List (List Int)) (n m : Nat) : List (List Int) := (q (n - m * c)).map (fun p => (m : Int) :: p)
/-- those in which the first coin stands m times or more -/
def from_ (c : Nat) (q : Nat → List (List Int)) (n m : Nat) : List (List Int) := (List.range' m (n / c + 1 - m)).flatMap (blk c q n)
def allP : List Int → Nat → List (List Int)
  | [], n => if n = 0 then [[]] else []
  | c :: cs, n => from_ c.toNat (allP cs) n 0
theorem from_step {c n m : Nat} {q : Nat → List (List Int)} (h : m ≤ n / c) : from_ c q n m = blk c q n m ++ from_ c q n (m + 1) := by
  unfold from_
  rw [show n / c + 1 - m = (n / c + 1 - (m + 1)) + 1 from by omega, List.range'_succ, List.flatMap_cons]
theorem from_end {c n m : Nat} {q : Nat → List (List Int)} (h : n / c < m) : from_ c q n m = [] := by
  unfold from_
  rw [show n / c + 1 - m = 0 from by omega]
  rfl
theorem blk_len {c n m : Nat} {q : Nat → List (List Int)} : (blk c q n m).length = (q (n - m * c)).length := by simp [blk]
theorem from_shift {c n m : Nat} {q : Nat → List (List Int)} (hc : 0 < c) (hn : c ≤ n) : (from_ c q n (m + 1)).length = (from_ c q (n - c) m).length := by
  unfold from_
  have e : n / c = (n - c) / c + 1 := by
    have := Nat.sub_add_cancel hn
    rw [← this, Nat.add_div_right _ hc, Nat.add_sub_cancel]
  rw [show n / c + 1 - (m + 1) = (n - c) / c + 1 - m from by omega, List.range'_eq_map_range, List.range'_eq_map_range (s := m)]
  simp only [List.length_flatMap, List.map_map]
  congr 1
  apply List.map_congr_left
  intro j _
  simp only [Function.comp, blk_len]
  rw [show n - (m + 1 + j) * c = n - c - (m + j) * c from by
    rw [show m + 1 + j = (m + j) + 1 from by omega, Nat.add_mul]
    omega]
theorem all_len : ∀ {cs : List Int}, (∀ d ∈ cs, 1 ≤ d) → ∀ n, ((allP cs n).length : Int) = tw cs n := by
  intro cs
  induction cs with
  | nil =>
    intro _ n
    by_cases h : n = 0 <;> simp [allP, tw, w0, h]
  | cons c cs ih =>
    intro h n
    have hc : 1 ≤ c := h c (by simp)
    have hr : ∀ d ∈ cs, 1 ≤ d := fun d z => h d (List.mem_cons_of_mem _ z)
    refine stp_uniq (c := c.toNat) (w := tw cs) (u := fun n => ((allP (c :: cs) n).length : Int)) (by omega) ?_ n
    intro n
    show ((from_ c.toNat (allP cs) n 0).length : Int) = _
    rw [from_step (Nat.zero_le _), List.length_append, blk_len, Nat.zero_mul, Nat.sub_zero, Int.natCast_add, ih hr n]
    by_cases q : c.toNat ≤ n
    · rw [if_pos q, from_shift (by omega) q]
      rfl
    · rw [if_neg q, from_end (by rw [Nat.div_eq_of_lt (by omega)]; omega)]
      rfl
/-- a turn of the search: this first number is too small -/
theorem from_more {c n m k : Nat} {q : Nat → List (List Int)} {p : List Int} (hm : m ≤ n / c) (h : (from_ c q n m)[k]? = some p) (hk : (q (n - m * c)).length ≤ k) :
    m + 1 ≤ n / c ∧ (from_ c q n (m + 1))[k - (q (n - m * c)).length]? = some p := by
  rw [from_step hm, List.getElem?_append_right (by rw [blk_len]; exact hk), blk_len] at h
  refine ⟨?_, h⟩
  rcases Nat.lt_or_ge (n / c) (m + 1) with z | z
  · rw [from_end z] at h
    simp at h
  · exact z
/-- the search ends -/
theorem from_here {c n m k : Nat} {q : Nat → List (List Int)} {p : List Int} (hm : m ≤ n / c) (h : (from_ c q n m)[k]? = some p) (hk : k < (q (n - m * c)).length) :
    ∃ r, (q (n - m * c))[k]? = some r ∧ p = (m : Int) :: r := by
  rw [from_step hm, List.getElem?_append_left (by rw [blk_len]; exact hk)] at h
  unfold blk at h
  rw [List.getElem?_map] at h
  match e : (q (n - m * c))[k]?, h with
  | some r, h => exact ⟨r, rfl, by simpa using h.symm⟩
/-- what is left stays a number -/
theorem from_left {c n m : Nat} (hc : 0 < c) (hm : m + 1 ≤ n / c) : c ≤ n - m * c ∧ n - (m + 1) * c = n - m * c - c := by
  have h := (Nat.le_div_iff_mul_le hc).mp hm
  rw [Nat.add_mul] at *
  omega
/-- what a payment comes to -/
def wrt : List Int → List Int → Int
  | c :: cs, m :: p => c * m + wrt cs p
  | _, _ => 0
theorem wrt_nn : ∀ (cs p : List Int), (∀ d ∈ cs, 1 ≤ d) → (∀ m ∈ p, 0 ≤ m) → 0 ≤ wrt cs p
  | [], [], _, _ => Int.le_refl _
  | [], _ :: _, _, _ => Int.le_refl _
  | _ :: _, [], _, _ => Int.le_refl _
  | d :: ds, x :: xs, h, h0 => by
    have a := wrt_nn ds xs (fun y hy => h y (by simp [hy])) (fun y hy => h0 y (by simp [hy]))
    have b : 0 ≤ d * x := Int.mul_nonneg (by have := h d (by simp); omega) (h0 x (by simp))
    show 0 ≤ d * x + wrt ds xs
    omega
/-- each of them is a payment of the sum -/
theorem all_is : ∀ {cs : List Int}, (∀ d ∈ cs, 1 ≤ d) → ∀ {n : Nat} {p : List Int}, p ∈ allP cs n → p.length = cs.length ∧ (∀ m ∈ p, 0 ≤ m) ∧ wrt cs p = n := by
  intro cs
  induction cs with
  | nil =>
    intro _ n p h
    by_cases z : n = 0
    · simp [allP, z] at h
      subst h
      simp [wrt, z]
    · simp [allP, z] at h
  | cons c cs ih =>
    intro h n p hp
    have hc : 1 ≤ c := h c (by simp)
    have hr : ∀ d ∈ cs, 1 ≤ d := fun d z => h d (List.mem_cons_of_mem _ z)
    obtain ⟨m, hm, hb⟩ := List.mem_flatMap.mp (show p ∈ (List.range' 0 (n / c.toNat + 1 - 0)).flatMap (blk c.toNat (allP cs) n) from hp)
    obtain ⟨r, hr1, rfl⟩ := List.mem_map.mp hb
    obtain ⟨l1, l2, l3⟩ := ih hr hr1
    have hm' : m ≤ n / c.toNat := by
      have := List.mem_range'_1.mp hm
      omega
    have hle : m * c.toNat ≤ n := (Nat.le_div_iff_mul_le (by omega)).mp hm'
    refine ⟨by simp [l1], ?_, ?_⟩
    · intro x hx
      rcases List.mem_cons.mp hx with rfl | hx
      · omega
      · exact l2 x hx
    · show c * m + wrt cs r = n
      rw [l3, Int.natCast_sub hle, Int.natCast_mul, Int.toNat_of_nonneg (by omega), Int.mul_comm c]
      omega
/-- the place of a payment -/
def rk : List Int → List Int → Nat → Nat
  | c :: cs, m :: p, n => ((List.range m.toNat).map fun j => (allP cs (n - j * c.toNat)).length).sum + rk cs p (n - m.toNat * c.toNat)
  | _, _, _ => 0
theorem from_at {c n : Nat} {q : Nat → List (List Int)} : ∀ (d m k : Nat), m + d ≤ n / c → (from_ c q n m)[((List.range d).map fun j => (q (n - (m + j) * c)).length).sum + k]? = (from_ c q n (m + d))[k]? := by
  intro d
  induction d with
  | zero => intro m k _; simp
  | succ d ih =>
    intro m k h
    rw [from_step (show m ≤ n / c by omega), List.range_succ_eq_map, List.map_cons, List.map_map, List.sum_cons]
    rw [List.getElem?_append_right (by rw [blk_len]; simp only [Nat.add_zero]; omega), blk_len]
    have e := ih (m + 1) k (by omega)
    rw [show m + (d + 1) = m + 1 + d from by omega, ← e]
    congr 1
    have e2 : ((List.range d).map ((fun j => (q (n - (m + j) * c)).length) ∘ Nat.succ)) = (List.range d).map fun j => (q (n - (m + 1 + j) * c)).length := by
      apply List.map_congr_left
      intro j _
      simp only [Function.comp]
      rw [show m + j.succ = m + 1 + j from by omega]
    rw [e2]
    simp only [Nat.add_zero]
    omega
/-- a payment of a sum stands at its place -/
theorem rk_at : ∀ {cs : List Int}, (∀ d ∈ cs, 1 ≤ d) → ∀ {p : List Int} {n : Nat}, p.length = cs.length → (∀ m ∈ p, 0 ≤ m) → wrt cs p = n → (allP cs n)[rk cs p n]? = some p := by
  intro cs
  induction cs with
  | nil =>
    intro _ p n hl _ hw
    match p, hl with
    | [], _ =>
      have z : n = 0 := by
        have : (0 : Int) = n := hw
        omega
      subst z
      rfl
  | cons c cs ih =>
    intro h p n hl h0 hw
    match p, hl with
    | m :: p, hl =>
      have hc : 1 ≤ c := h c (by simp)
      have hr : ∀ d ∈ cs, 1 ≤ d := fun d z => h d (List.mem_cons_of_mem _ z)
      have hm : 0 ≤ m := h0 m (by simp)
      have hw' : c * m + wrt cs p = n := hw
      have wn : 0 ≤ wrt cs p := wrt_nn cs p hr fun y hy => h0 y (by simp [hy])
      have em : ((m.toNat * c.toNat : Nat) : Int) = c * m := by
        rw [Int.natCast_mul, Int.toNat_of_nonneg hm, Int.toNat_of_nonneg (by omega), Int.mul_comm]
      have hle : m.toNat * c.toNat ≤ n := by omega
      have hd : 0 + m.toNat ≤ n / c.toNat := by
        rw [Nat.zero_add]
        exact (Nat.le_div_iff_mul_le (by omega)).mpr hle
      have i := ih hr (p := p) (n := n - m.toNat * c.toNat) (by simpa using hl) (fun y hy => h0 y (by simp [hy])) (by omega)
      have f := from_at (c := c.toNat) (n := n) (q := allP cs) m.toNat 0 (rk cs p (n - m.toNat * c.toNat)) hd
      simp only [Nat.zero_add] at f
      show (from_ c.toNat (allP cs) n 0)[_]? = _
      refine f.trans ?_
      rw [from_step (by omega)]
      have lt : rk cs p (n - m.toNat * c.toNat) < (allP cs (n - m.toNat * c.toNat)).length := by
        rcases Nat.lt_or_ge (rk cs p (n - m.toNat * c.toNat)) (allP cs (n - m.toNat * c.toNat)).length with z | z
        · exact z
        · rw [List.getElem?_eq_none z] at i
          cases i
      rw [List.getElem?_append_left (by rw [blk_len]; exact lt)]
      unfold blk
      rw [List.getElem?_map, i]
      simp [Int.toNat_of_nonneg hm]
/-- lesser, as tuples of numbers are compared -/
def lx : List Int → List Int → Bool
  | a :: p, b :: q => a < b || (a == b && lx p q)
  | [], _ :: _ => true
  | _, [] => false
theorem all_asc : ∀ {cs : List Int}, (∀ d ∈ cs, 1 ≤ d) → ∀ n, (allP cs n).Pairwise fun p q => lx p q = true := by
  intro cs
  induction cs with
  | nil =>
    intro _ n
    by_cases z : n = 0 <;> simp [allP, z]
  | cons c cs ih =>
    intro h n
    have hr : ∀ d ∈ cs, 1 ≤ d := fun d z => h d (List.mem_cons_of_mem _ z)
    have go : ∀ d m, n / c.toNat + 1 - m = d → (from_ c.toNat (allP cs) n m).Pairwise (fun p q => lx p q = true) ∧ ∀ p ∈ from_ c.toNat (allP cs) n m, ∃ x r, p = x :: r ∧ (m : Int) ≤ x := by
      intro d
      induction d with
      | zero =>
        intro m e
        rw [from_end (by omega)]
        simp
      | succ d id =>
        intro m e
        obtain ⟨i1, i2⟩ := id (m + 1) (by omega)
        rw [from_step (by omega)]
        refine ⟨List.pairwise_append.mpr ⟨?_, i1, ?_⟩, ?_⟩
        · unfold blk
          rw [List.pairwise_map]
          refine (ih hr (n - m * c.toNat)).imp ?_
          intro a b hab
          simp [lx, hab]
        · intro a ha b hb
          obtain ⟨r, _, rfl⟩ := List.mem_map.mp ha
          obtain ⟨x, r', rfl, hx⟩ := i2 b hb
          have : (m : Int) < x := by omega
          simp [lx, this]
        · intro p hp
          rcases List.mem_append.mp hp with hp | hp
          · obtain ⟨r, _, rfl⟩ := List.mem_map.mp hp
            exact ⟨_, r, rfl, Int.le_refl _⟩
          · obtain ⟨x, r, rfl, hx⟩ := i2 p hp
            exact ⟨x, r, rfl, by omega⟩
    exact (go _ 0 rfl).1
end KM

/-! all payments, by the law's own recursion; bounds -/
namespace KM
theorem all_one {c : Int} (hc : 1 ≤ c) (n : Nat) : allP [c] n = if n % c.toNat = 0 then [[((n / c.toNat : Nat) : Int)]] else [] := by
  have h0 : 0 < c.toNat := by omega
  have hm : n - n / c.toNat * c.toNat = n % c.toNat := by
    have := Nat.div_add_mod n c.toNat
    rw [Nat.mul_comm] at this
    omega
  have go : ∀ d m, m + d = n / c.toNat → from_ c.toNat (allP []) n m = if n % c.toNat = 0 then [[((n / c.toNat : Nat) : Int)]] else [] := by
    intro d
    induction d with
    | zero =>
      intro m e
      have e' : m = n / c.toNat := by omega
      subst e'
      rw [from_step (Nat.le_refl _), from_end (Nat.lt_succ_self _), List.append_nil]
      unfold blk allP
      rw [hm]
      by_cases z : n % c.toNat = 0
      · rw [if_pos z, if_pos z]
        rfl
      · rw [if_neg z, if_neg z]
        rfl
    | succ d ih =>
      intro m e
      rw [from_step (by omega), ih (m + 1) (by omega)]
      have hl : (m + 1) * c.toNat ≤ n := (Nat.le_div_iff_mul_le h0).mp (by omega)
      have hb : blk c.toNat (allP []) n m = [] := by
        unfold blk allP
        rw [if_neg (by rw [Nat.add_mul] at hl; omega)]
        rfl
      rw [hb]
      rfl
  exact go _ 0 (Nat.zero_add _)
theorem from_take {c n : Nat} {q : Nat → List (List Int)} {j : Nat} : (List.range' 0 (j + 1)).flatMap (blk c q n) = (List.range' 0 j).flatMap (blk c q n) ++ blk c q n j := by
  rw [List.range'_concat, List.flatMap_append]
  simp
theorem from_all {c n : Nat} {q : Nat → List (List Int)} : (List.range' 0 (n / c + 1)).flatMap (blk c q n) = from_ c q n 0 := rfl
theorem blk_le {c n j : Nat} {q : Nat → List (List Int)} : ∀ {k : Nat}, j < k → (blk c q n j).length ≤ ((List.range' 0 k).flatMap (blk c q n)).length := by
  intro k
  induction k with
  | zero => intro h; omega
  | succ k ih =>
    intro h
    rw [from_take, List.length_append]
    by_cases e : j = k
    · subst e; omega
    · have := ih (by omega)
      omega
theorem part_le {c n : Nat} {q : Nat → List (List Int)} : ∀ {k m : Nat}, k ≤ m → ((List.range' 0 k).flatMap (blk c q n)).length ≤ ((List.range' 0 m).flatMap (blk c q n)).length := by
  intro k m h
  induction m with
  | zero =>
    have : k = 0 := by omega
    subst this
    exact Nat.le_refl _
  | succ m ih =>
    by_cases e : k = m + 1
    · subst e; exact Nat.le_refl _
    · rw [from_take (j := m), List.length_append]
      have := ih (by omega)
      omega
/-- the payments by fewer coins are no more -/
theorem all_less {c : Int} {cs : List Int} {n j : Nat} (h : j ≤ n / c.toNat) : (allP cs (n - j * c.toNat)).length ≤ (allP (c :: cs) n).length := by
  have := blk_le (c := c.toNat) (n := n) (q := allP cs) (k := n / c.toNat + 1) (j := j) (by omega)
  rw [blk_len] at this
  exact this
theorem all_small {cs : List Int} (h : ∀ d ∈ cs, 1 ≤ d) {n : Nat} {m : Nat} (hb : tw cs n ≤ m) : (allP cs n).length ≤ m := by
  have := all_len h n
  omega
theorem tw_nn {cs : List Int} (h : ∀ d ∈ cs, 1 ≤ d) (n : Nat) : 0 ≤ tw cs n := by
  have := all_len h n
  omega
theorem drop_cons {cs : List Int} {i : Nat} {c : Int} (h : cs[i]? = some c) : cs.drop i = c :: cs.drop (i + 1) := by
  obtain ⟨hi, e⟩ := List.getElem?_eq_some_iff.mp h
  rw [List.drop_eq_getElem_cons hi, e]
/-- numbers of a payment are small -/
theorem all_mem {cs : List Int} (h : ∀ d ∈ cs, 1 ≤ d) : ∀ {n : Nat} {p : List Int}, p ∈ allP cs n → ∀ m ∈ p, 0 ≤ m ∧ m ≤ n := by
  induction cs with
  | nil =>
    intro n p hp m hm
    by_cases z : n = 0
    · simp [allP, z] at hp
      subst hp
      cases hm
    · simp [allP, z] at hp
  | cons c cs ih =>
    intro n p hp x hx
    have hc : 1 ≤ c := h c (by simp)
    have hr : ∀ d ∈ cs, 1 ≤ d := fun d z => h d (List.mem_cons_of_mem _ z)
    obtain ⟨m, hm, hb⟩ := List.mem_flatMap.mp (show p ∈ (List.range' 0 (n / c.toNat + 1 - 0)).flatMap (blk c.toNat (allP cs) n) from hp)
    obtain ⟨r, hr1, rfl⟩ := List.mem_map.mp hb
    have hm' : m ≤ n / c.toNat := by
      have := List.mem_range'_1.mp hm
      omega
    have : n / c.toNat ≤ n := Nat.div_le_self _ _
    rcases List.mem_cons.mp hx with rfl | hx
    · omega
    · have := ih hr hr1 x hx
      omega
theorem tab_take {n k : Nat} {g : Nat → Int} (h : k ≤ n) : (tab n g).take k = tab k g := by
  unfold tab
  rw [← List.map_take, List.take_range, Nat.min_eq_left h]
end KM
namespace KM
theorem drop_is {α : Type} {p : List α} {i : Nat} {x : α} {r : List α} (h : p.drop i = x :: r) : p[i]? = some x ∧ p.take (i + 1) = p.take i ++ [x] ∧ p.drop (i + 1) = r := by
  have e : p[i]? = some x := by
    have := congrArg (fun l : List α => l[0]?) h
    simpa [List.getElem?_drop] using this
  refine ⟨e, ?_, ?_⟩
  · rw [List.take_add_one, e]
    rfl
  · have := congrArg List.tail h
    rw [List.tail_drop] at this
    exact this
theorem all_len_of {cs : List Int} (h : ∀ d ∈ cs, 1 ≤ d) {n k : Nat} {p : List Int} (e : (allP cs n)[k]? = some p) : p.length = cs.length := (all_is h (List.mem_of_getElem? e)).1
end KM

namespace Kx
open PySem L2 MG KM
/-- for each index the numbers of payments by the coins from there on -/
def Tabs (H : Hp) (l : Addr) (cs : List Int) (m : Nat) : Prop := ∃ ps : List Addr, H l = some (.lst (ps.map V.ref)) ∧ ps.length = cs.length + 1 ∧ ∀ i p, ps[i]? = some p → H p = some (.lst ((tab (m + 1) (tw (cs.drop i))).map V.int))
theorem Tabs.same {H H' : Hp} {l : Addr} {cs : List Int} {m : Nat} (h : Tabs H l cs m) (s : Same H H') : Tabs H' l cs m := by
  obtain ⟨ps, a, b, c⟩ := h
  exact ⟨ps, s _ _ a, b, fun i p e => s _ _ (c i p e)⟩
theorem Tabs.at {H : Hp} {l : Addr} {cs : List Int} {m : Nat} (h : Tabs H l cs m) {i : Nat} (hi : i ≤ cs.length) : ∃ xs p, H l = some (.lst xs) ∧ xs[i]? = some (.ref p) ∧ H p = some (.lst ((tab (m + 1) (tw (cs.drop i))).map V.int)) := by
  obtain ⟨ps, a, b, c⟩ := h
  have hx : ps[i]? = some ps[i] := List.getElem?_eq_getElem (by omega)
  exact ⟨_, _, a, mapR_at hx, c _ _ hx⟩
def sp_tail_ways : Sp := fun vs H Q _ => ∃ (t : Addr) (cs : List Int) (m : Nat), vs = [.ref t, .int m] ∧ H t = some (.tup (cs.map V.int)) ∧ (∀ c ∈ cs, 1 ≤ c ∧ c ≤ 60) ∧ cs.length ≤ 15 ∧ m ≤ 50000 ∧
  ∀ l H', H l = none → Same H H' → Tabs H' l cs m → Q (.ref l) H'
def sp_payment_at : Sp := fun vs H Q _ => ∃ (t l : Addr) (cs : List Int) (m n k : Nat) (p : List Int), vs = [.ref t, .ref l, .int n, .int k] ∧ H t = some (.tup (cs.map V.int)) ∧ (∀ c ∈ cs, 1 ≤ c ∧ c ≤ 60) ∧ cs.length ≤ 15 ∧
  Tabs H l cs m ∧ n ≤ m ∧ m ≤ 50000 ∧ (allP cs n)[k]? = some p ∧ ∀ q H', H q = none → Same H H' → H' q = some (.tup (p.map V.int)) → Q (.ref q) H'
def sp_payments (C : Addr) : Sp := fun vs H Q _ => ∃ (p : Addr) (cs : List Int) (n : Nat), vs = [.ref p, .int n] ∧ LotAt C H p cs ∧ n ≤ 400 ∧ tw cs n ≤ 400 ∧
  ∀ t H', H t = none → Same H H' → RowsT H' t (allP cs n) → Q (.ref t) H'
def sp_l_all (d : Nat) : Sp := fun vs H Q _ => ∃ (t : Addr) (cs : List Int) (n : Nat), vs = [.ref t, .int n] ∧ H t = some (.tup (cs.map V.int)) ∧ (∀ c ∈ cs, 1 ≤ c ∧ c ≤ 60) ∧ cs ≠ [] ∧ cs.length ≤ d ∧ d ≤ 15 ∧ n ≤ 400 ∧ (allP cs n).length ≤ 400 ∧
  ∀ l H', H l = none → Same H H' → RowsL H' l (allP cs n) → Q (.ref l) H'
def sp_l_sum_with_few : Sp := fun vs H Q _ => ∃ (b t : Addr) (cs : List Int) (m : Nat), vs = [.ref b, .ref t, .int m] ∧ Bw H b ∧ H t = some (.tup (cs.map V.int)) ∧ Lotc cs ∧ 1 ≤ m ∧ m ≤ 400 ∧
  ∀ (n : Nat) H', n ≤ 400 → cnt cs n ≤ m → Bw H' b → But b H H' → Q (.int n) H'
/-- a def that draws and says True -/
def sp_drawn : Sp := fun vs H Q _ => ∃ b : Addr, vs = [.ref b] ∧ Bw H b ∧ ∀ H', Bw H' b → But b H H' → Q (.bl true) H'
theorem nb_of {H : Hp} {b t : Addr} {o : HO} (hb : Bw H b) (h : H t = some o) (n : ∀ l, o ≠ .lst l) : t ≠ b := by
  obtain ⟨x, y, z, e⟩ := hb
  exact ne_of h e (n _)
theorem nb_new {H : Hp} {b p : Addr} (hb : Bw H b) (h : H p = none) : p ≠ b := by
  obtain ⟨x, y, z, e⟩ := hb
  exact fun w => by rw [w, e] at h; cases h
end Kx
namespace Kx
open PySem L2 MG KM
theorem ref_int_ne {ps : List Addr} {ns : List Int} (h : ns ≠ []) : HO.lst (ps.map V.ref) ≠ HO.lst (ns.map V.int) := by
  intro e
  injection e with e
  match ps, ns, h, e with
  | [], _ :: _, _, e => simp at e
  | _ :: _, _ :: _, _, e => simp at e
theorem tab_ne {n : Nat} {g : Nat → Int} : tab (n + 1) g ≠ [] := by
  intro z
  have := congrArg List.length z
  rw [tab_len] at this
  simp at this
end Kx
namespace Kx
open PySem L2 MG KM
theorem cut_tail (x : V) (xs : List V) : cutV (x :: xs) (some 1) none = xs := by
  simp [cutV, HT.sIx]
theorem cut_init (xs : List V) : cutV xs none (some (-1)) = xs.dropLast := by
  unfold cutV
  rw [List.dropLast_eq_take]
  simp [HT.sIx]
  congr 1
  omega
theorem cut_to (xs : List V) {k : Nat} (h : k ≤ xs.length) : cutV xs none (some (k : Int)) = xs.take k := by
  unfold cutV
  have h0 : ¬ ((k : Int) < 0) := by omega
  simp [HT.sIx, h0, Nat.min_eq_left h]
end Kx

/-! t[::-1] of a tuple; t < u -/
namespace MG
open PySem PySem.Spec PyProof.Rows L2 HT
section
variable {prog : Program} {w : World} {A : Around} {E : Value → Shared → Prop} {s : Shared}
theorem applied_rev {sl : Addr} {vs : Value} {n : Nat} {Q : Int × Int × Nat → Shared → Prop} (hs : s.heap.IsSliceOf sl .none .none vs) (ps : IsPart vs (some (-1)))
    (h : Q ((n : Int) - 1, -1, n) s) : wpAny (model prog w) A (Builtin.Slice.sliceApplied (.ref sl) (pure (n : Int))) Q E s := by
  obtain ⟨os, hos, hcs, hds⟩ := id hs
  unfold Builtin.Slice.sliceApplied Builtin.Slice.sliceFields
  refine wpAny_bind (wpAny_bind (wpAny_field hos hds (x := .none) rfl (wpAny_bind (wpAny_field hos hds (x := .none) rfl (wpAny_bind (wpAny_field hos hds (x := vs) rfl (wpAny_pure ?_)))))))
  refine wpAny_bind (slicePart_ ps ?_)
  show wpAny _ _ (if ((-1 : Int) == 0) = true then _ else _) _ _ s
  rw [if_neg (by decide)]
  refine wpAny_bind (slicePart_none (wpAny_bind (slicePart_none (wpAny_bind (wpAny_pure ?_)))))
  have e : Builtin.Slice.sliceAdjust none none (-1) (n : Int) = ((n : Int) - 1, -1) := rfl
  show wpAny _ _ (match Builtin.Slice.sliceAdjust none none (-1) (n : Int) with | (lo, hi) => pure (lo, (-1 : Int), Builtin.Slice.slicePlaces lo hi (-1))) _ _ s
  rw [e]
  have e2 : Builtin.Slice.slicePlaces ((n : Int) - 1) (-1) (-1) = n := by
    unfold Builtin.Slice.slicePlaces
    rw [if_neg (by decide)]
    by_cases h0 : n = 0
    · subst h0; rfl
    · rw [if_pos (by omega), Int.neg_neg, Int.ediv_one]
      omega
  show wpAny _ _ (pure ((n : Int) - 1, (-1 : Int), Builtin.Slice.slicePlaces ((n : Int) - 1) (-1) (-1))) _ _ s
  rw [e2]
  exact wpAny_pure h
theorem pick_back (xs : Array Value) : ((List.range xs.size).filterMap fun (m : Nat) => xs[(((xs.size : Int) - 1) + (m : Int) * -1).toNat]?).toArray = xs.toList.reverse.toArray := by
  have e : (fun (m : Nat) => xs[(((xs.size : Int) - 1) + (m : Int) * -1).toNat]?) = fun (m : Nat) => xs.toList[((xs.size : Int) - 1 + (m : Int) * -1).toNat]? := by
    funext m
    simp
  rw [e]
  congr 1
  have p := pick_rev xs.toList
  have hb : sliceBounds none none (some (-1)) xs.toList.length = ((xs.toList.length : Int) - 1, -1, -1) := by
    unfold sliceBounds
    simp
  rw [← p]
  unfold pick
  rw [hb]
  have hr : sliceRange ((xs.toList.length : Int) - 1) (-1) (-1) = (List.range xs.size).map fun (m : Nat) => (((xs.size : Int) - 1) + (m : Int) * -1).toNat := by
    unfold sliceRange
    have h1 : ¬ ((-1 : Int) > 0) := by omega
    simp only [h1, if_false, Array.length_toList]
    by_cases h0 : xs.size = 0
    · rw [if_neg (by omega), h0]
      rfl
    · rw [if_pos (by omega)]
      have e : (((xs.size : Int) - 1 - -1 - -1 - 1) / - -1).toNat = xs.size := by
        rw [Int.neg_neg, Int.ediv_one]
        omega
      rw [e]
      apply List.map_congr_left
      intro k hk
      have := List.mem_range.mp hk
      omega
  show _ = (sliceRange ((xs.toList.length : Int) - 1) (-1) (-1)).filterMap (xs.toList[·]?)
  rw [hr, List.filterMap_map]
  rfl
theorem getItem_tuple_rev {t sl : Addr} {items : Array Value} {vs : Value} {Q : Value → Shared → Prop} (ht : IsTup s.heap t items) (hs : s.heap.IsSliceOf sl .none .none vs) (ps : IsPart vs (some (-1)))
    (h : Q (.ref s.heap.objs.size) { s with heap := s.heap.push { cls := .type "tuple", data := .seq items.toList.reverse.toArray } })
    (hsz : items.size ≤ sizeLine) : wpAny (model prog w) A (getItem (.ref t) (.ref sl)) Q E s := by
  have htake : sizeOk (.seq items.toList.reverse.toArray) := by
    show items.toList.reverse.toArray.size ≤ sizeLine
    rw [List.size_toArray, List.length_reverse, Array.length_toList]
    exact hsz
  obtain ⟨os, hos, hcs, hds⟩ := id hs
  have hTs : s.TypeIs (.ref sl) "slice" := ⟨os, hos, hcs⟩
  unfold getItem
  try with_reducible refine wpAny_holding ?_
  first | refine wpAny_bind (wpAny_pure ?_) | skip
  refine wpAny_bind (wpAny_sequenceKey ht.typeIs (by decide) ?_)
  refine wpAny_bind (wpAny_callSpecial?_slot (name := Str.ofString "__getitem__") ht.typeIs PyProof.Rows.slot_tuple_getitem
    (wpAny_call_entry PyProof.Rows.slot_tuple_getitem ht.typeIs entry_tuple_getitem ?_ (args_tuple_getitem _ _)))
  show wpAny _ _ (Builtin.Tuple.tupleItemsOf (.ref t) >>= _) _ _ s
  refine wpAny_bind (tupleItemsOf_ ht ?_)
  refine wpAny_bind (wpAny_typeOf hTs ?_)
  rw [if_pos (by decide)]
  refine wpAny_bind (applied_rev hs ps ?_)
  have hno : ¬ ((((items.size : Int) - 1 == 0) && ((-1 : Int) == 1) && (items.size == items.size)) = true) := by
    intro q
    rw [Bool.and_eq_true, Bool.and_eq_true] at q
    exact absurd q.1.2 (by decide)
  show wpAny _ _ (if (((items.size : Int) - 1 == 0) && ((-1 : Int) == 1) && (items.size == items.size)) = true then _ else _) _ _ s
  rw [if_neg hno, pick_back]
  first
    | exact wpAny_bind (m := Builtin.Tuple.tupleExact _) (wpAny_newObj_type (wpAny_pure ⟨_, rfl, wpAny_pure h⟩) htake)
    | exact wpAny_bind (m := Builtin.Tuple.tupleExact _) (wpAny_newObj_type (wpAny_bind (wpAny_pure (wpAny_pure ⟨_, rfl, wpAny_pure h⟩))) htake)
    | exact wpAny_bind (wpAny_bind (m := Builtin.Tuple.tupleExact _) (wpAny_newObj_type (wpAny_pure (wpAny_pure ⟨_, rfl, wpAny_pure h⟩)) htake))
    | exact wpAny_bind (wpAny_bind (m := Builtin.Tuple.tupleExact _) (wpAny_newObj_type (wpAny_pure ⟨_, rfl, wpAny_pure h⟩) htake))
end
/-- t[::-1] -/
def tRevT (K : PySem.W.Frag) (te : TE) (ts : TO) : TE := fun σ H Q => te σ H fun x H1 => ts σ H1 fun st H2 => ∃ a xs, x = .ref a ∧ SqT K H2 a xs ∧ st = some (-1) ∧ ∀ p, H2 p = none → Q (.ref p) (upd H2 p (.tup xs.reverse))
theorem vals_reverse {xs : List V} {its : List Value} (r : Vals xs its) : Vals xs.reverse its.reverse := by
  induction r with
  | nil => exact .nil
  | cons h r ih =>
    rw [List.reverse_cons, List.reverse_cons]
    exact ih.append (.cons h .nil)
theorem pe_revT {X : Cx} {e : Expr} {st : Option Expr} {te : TE} {ts : TO} {p2 pos : Pos} (he : PE X e te) (hs : PO X st ts)
    (hsub : ∀ v u, subscripted (.Slice none none st p2) false v u = operate [v, u] (getItem v u) := by intros; with_unfolding_all rfl) :
    PE X (.Subscript e (.Slice none none st p2) pos) (tRevT X.K te ts) := by
  refine ⟨?_⟩
  intro pins s σ H Q I h
  refine Subscript_ (thn (he.run pins s σ H _ I h) ?_)
  rintro v s1 ⟨x, H1, I1, r1, q1⟩
  refine wpAny_Slice (thn ((po_none (X := X)).run pins s1 σ H1 (fun o H2 => o = none ∧ H2 = H1) I1 ⟨rfl, rfl⟩) ?_)
  rintro vl s2 ⟨l, H2, I2, pl, rfl, rfl⟩
  refine thn ((po_none (X := X)).run pins s2 σ H2 (fun o H3 => o = none ∧ H3 = H2) I2 ⟨rfl, rfl⟩) ?_
  rintro vu s3 ⟨u, H3, I3, pu, rfl, rfl⟩
  refine thn (hs.run pins s3 σ H3 _ I3 q1) ?_
  rintro vs s4 ⟨o, H4, I4, ps, a, xs, rfl, hx, rfl, q⟩
  cases r1
  cases pl
  cases pu
  have I5 : Inv X pins σ H4 { s4 with heap := s4.heap.push { cls := .type "slice", data := .fields #[.none, .none, vs] } } := I4.kept (t' := s4.toks) fun b ob q => Heap.get?_push_of_some _ q
  obtain ⟨its, r, ht, hz⟩ := I5.tuple hx
  have hlen := r.length
  show wpAny (model X.prog X.w) X.A (subscriptTail e (.Slice none none st p2) (.ref a) (.ref s4.heap.objs.size)) (EP X pins σ Q) X.xe { s4 with heap := s4.heap.push { cls := .type "slice", data := .fields #[.none, .none, vs] } }
  refine tail_any (ops := [.ref a, .ref s4.heap.objs.size]) ht.typeIs (PyProof.Rows.slot_tuple_getitem.lookup) ?_ (hsub _ _)
  refine getItem_tuple_rev ht (Heap.IsSliceOf.new _ .none .none vs) ps ?_ (by rw [List.size_toArray]; omega)
  refine ⟨.ref _, _, I5.laid (t' := s4.toks) (o := .tup xs.reverse) (fun b ob q => Heap.get?_push_of_some _ q) (Nat.le_refl _) ?_, rfl, q _ (I5.hok.fresh (Nat.le_refl _))⟩
  refine ⟨by rw [List.length_reverse]; omega, its.reverse, vals_reverse r, ?_⟩
  have e : (its.toArray.toList.reverse).toArray = its.reverse.toArray := by simp
  rw [← e]
  exact IsTup.new _ _
/-- t < u, tuples of ints -/
def lxI : List Int → List Int → Bool
  | a :: p, b :: q => a < b || (a == b && lxI p q)
  | [], _ :: _ => true
  | _, [] => false
def rLtU (K : PySem.W.Frag) : R2 := fun x y H Q => ∃ (a b : Addr) (ns ms : List Int), x = .ref a ∧ y = .ref b ∧ SqT K H a (ns.map V.int) ∧ SqT K H b (ms.map V.int) ∧ Q (.bl (lxI ns ms)) H
theorem lex_lx (ns ms : List Int) : ∀ (d i : Nat), i ≤ min ns.length ms.length → min ns.length ms.length - i = d →
    Ob.lexAt (fun j => decide (ns.getD j 0 = ms.getD j 0)) (fun j => decide (ns.getD j 0 < ms.getD j 0)) (decide (ns.length < ms.length)) i d = lxI (ns.drop i) (ms.drop i) := by
  intro d
  induction d with
  | zero =>
    intro i hi e
    rw [Ob.lexAt_zero]
    rcases Nat.lt_or_ge i ms.length with h | h
    · have hn : ns.length ≤ i := by omega
      rw [List.drop_eq_nil_of_le hn, List.drop_eq_getElem_cons h]
      simp [lxI]
      omega
    · rw [List.drop_eq_nil_of_le h]
      have : lxI (ns.drop i) [] = false := by cases ns.drop i <;> rfl
      rw [this]
      simp
      omega
  | succ d ih =>
    intro i hi e
    rw [Ob.lexAt_succ, ih (i + 1) (by omega) (by omega)]
    have h1 : i < ns.length := by omega
    have h2 : i < ms.length := by omega
    rw [List.drop_eq_getElem_cons h1, List.drop_eq_getElem_cons h2]
    have e1 : ns.getD i 0 = ns[i] := by simp [h1]
    have e2 : ms.getD i 0 = ms[i] := by simp [h2]
    rw [e1, e2]
    by_cases q : ns[i] = ms[i]
    · simp [lxI, q]
    · simp [lxI, q]
theorem op_ltU {X : Cx} (hu : X.A.units < cLine) : OpR X (compareOp .Lt) (rLtU X.K) := by
  intro pins s σ H x y v u Q I rx ry h
  obtain ⟨a, b, ns, ms, rfl, rfl, ha, hb, q⟩ := h
  cases rx
  cases ry
  obtain ⟨its, r1, p1, _⟩ := I.tuple ha
  obtain ⟨its2, r2, p2, _⟩ := I.tuple hb
  have i1 : IntsAre its ns := Vals.ints r1
  have i2 : IntsAre its2 ms := Vals.ints r2
  have e1 : its.toArray.size = ns.length := by rw [List.size_toArray]; exact i1.length
  have e2 : its2.toArray.size = ms.length := by rw [List.size_toArray]; exact i2.length
  have at1 : ∀ j (h1 : j < its.toArray.size), ∃ t, its.toArray[j] = .int (ns.getD j 0) t := fun j h1 => PyProof.Rows.IntsAre.int_at i1 _ _ (by simp at h1; simp [h1])
  have at2 : ∀ j (h1 : j < its2.toArray.size), ∃ t, its2.toArray[j] = .int (ms.getD j 0) t := fun j h1 => PyProof.Rows.IntsAre.int_at i2 _ _ (by simp at h1; simp [h1])
  have R := Ob.RcOp.tuples_lt (A := X.A) (s := s) (e := fun j => decide (ns.getD j 0 = ms.getD j 0)) (r := fun j => decide (ns.getD j 0 < ms.getD j 0)) p1 p2 hu (fun j h1 h2 => by
    obtain ⟨t, et⟩ := at1 j h1
    obtain ⟨t', et'⟩ := at2 j h2
    rw [et, et']
    have z : (ns.getD j 0 == ms.getD j 0) = decide (ns.getD j 0 = ms.getD j 0) := by
      by_cases q : ns.getD j 0 = ms.getD j 0
      · rw [decide_eq_true q]; exact beq_iff_eq.mpr q
      · rw [decide_eq_false q]; exact beq_eq_false_iff_ne.mpr q
    rw [← z]
    exact SeqAt.EqAt.int_int _ _ _ _) (fun j h1 h2 _ => by
    obtain ⟨t, et⟩ := at1 j h1
    obtain ⟨t', et'⟩ := at2 j h2
    rw [et, et']
    exact Ob.RcOp.lt_int _ _ _ _)
  rw [e1, e2] at R
  have z0 := lex_lx ns ms (min ns.length ms.length) 0 (Nat.zero_le _) (Nat.sub_zero _)
  rw [List.drop_zero, List.drop_zero] at z0
  rw [z0] at R
  exact R X.prog X.w X.xe (EP X pins σ Q) ⟨.bl _, H, I, rfl, q⟩
end MG
namespace MG
open PySem PySem.Spec PyProof.Rows L2
/-- a comprehension over zip of two tuples of one length -/
theorem lc_zipT {K : PySem.W.Frag} {a b : Addr} {xs ys : List V} {g : TG} {tt : TT} {te : TE} {vs : List Nat} {σ : L2.St} {H1 : Hp} {D : Addr} {Qd : Hp → Prop} (hl : xs.length = ys.length) (Pv : Nat → Hp → Prop) (h0 : Pv 0 (upd H1 D (.lst [])))
    (hq : ∀ i H, Pv i H → SqT K H a xs ∧ SqT K H b ys)
    (hs : ∀ i x y T H, xs[i]? = some x → ys[i]? = some y → Pv i H → H T = none → g (.ref T) (wipe σ vs) (upd H T (.tup [x, y])) fun σ2 H2 => wipe σ2 vs = wipe σ vs ∧ tt σ2 H2 fun b H3 =>
      if b = true then te σ2 H3 fun z H4 => ∃ acc, H4 D = some (.lst acc) ∧ acc.length < sizeLine ∧ Pv (i + 1) (upd H4 D (.lst (acc ++ [z]))) else Pv (i + 1) H3) (hd : ∀ H, Pv xs.length H → Qd H) :
    ∃ W : Nat → Nat → Hp → Prop, (∃ m, W 0 m (upd H1 D (.lst []))) ∧ ∀ i m H, W i m H →
      ((RZ.ItzT K a b).stop i H ∧ Qd H) ∨ ((RZ.ItzT K a b).go i H ∧ ∃ Nx : Hp → Prop, (∀ H', Nx H' → ∃ m', m' < m ∧ W (i + 1) m' H') ∧ ∀ x H', (RZ.ItzT K a b).yld i H x H' → g x (wipe σ vs) H' fun σ2 H2 => wipe σ2 vs = wipe σ vs ∧ tt σ2 H2 fun b H3 =>
        if b = true then te σ2 H3 fun y H4 => ∃ acc, H4 D = some (.lst acc) ∧ acc.length < sizeLine ∧ Nx (upd H4 D (.lst (acc ++ [y]))) else Nx H3) := by
  refine ⟨fun i m H => m = xs.length - i ∧ i ≤ xs.length ∧ Pv i H, ⟨xs.length, by simp, Nat.zero_le _, h0⟩, ?_⟩
  rintro i m H ⟨rfl, hi, p⟩
  obtain ⟨q1, q2⟩ := hq i H p
  by_cases hlt : i < xs.length
  · have e1 : xs[i]? = some xs[i] := List.getElem?_eq_getElem hlt
    have e2 : ys[i]? = some (ys[i]'(hl ▸ hlt)) := List.getElem?_eq_getElem (hl ▸ hlt)
    refine .inr ⟨⟨xs, ys, _, _, q1, q2, e1, e2⟩, Pv (i + 1), fun H' p' => ⟨xs.length - (i + 1), by omega, rfl, hlt, p'⟩, fun x H' z => ?_⟩
    obtain ⟨T, u, v, rfl, hT, rfl, f1, f2⟩ := z
    exact hs i u v T H (f1 xs q1) (f2 ys q2) p hT
  · have e : i = xs.length := by omega
    subst e
    exact .inl ⟨⟨xs, ys, q1, q2, .inl (Nat.le_refl _)⟩, hd H p⟩
/-- isinstance of an int, a built-in class -/
def rIsiI : List V → Hp → VK → Prop := fun xs H Q => ∃ (i : Int) (n : String) (b : Bool), xs = [.int i, .ty n] ∧ kitB "int" n = some b ∧ Q (.bl b) H
theorem isi_I {X : Cx} : CallR X (.builtin "isinstance") rIsiI := by
  intro pins s σ H xs us Q I r h
  obtain ⟨i, n, b, h1, h2, q⟩ := h
  exact call_isi pins s σ H xs us Q I r ⟨_, _, .type "int", .type n, b, h1, .ty _, .base (.int i), kit_ty h2, q⟩
end MG
namespace MG
open PySem PySem.Spec PyProof.Rows L2
/-- divmod by a positive divisor of at most sixty digits -/
theorem divmod_B {X : Cx} : CallR X (.builtin "divmod") (fun xs H Q => ∃ i j, xs = [.int i, .int j] ∧ (0 < j ∧ j < 1000000000000000000000000000000000000000000000000000000000000) ∧ ∀ p, H p = none → Q (.ref p) (upd H p (.tup [.int (i / j), .int (i % j)]))) := by
  intro pins s σ H xs us Q I r h
  obtain ⟨i, j, h1, ⟨h2, h3⟩, q⟩ := h
  refine call_divmodW pins s σ H xs us Q I r ⟨i, j, h1, ⟨h2, PyProof.noPylong_of_log2 ?_⟩, q⟩
  have : j.natAbs < 2 ^ 200 := by
    have e : (1000000000000000000000000000000000000000000000000000000000000 : Nat) < 2 ^ 200 := by decide +kernel
    omega
  exact Nat.lt_of_lt_of_le (PySem.Flt.log2_lt_of (by decide) this) (by decide)
end MG

/-! == by an own __eq__, whatever it answers -/
namespace MG
open PySem PySem.Spec PyProof.Rows L2
section
variable {X : Cx}
/-- x == y, both instances of the class at C whose __eq__ keeps sp -/
def rEqO (C : Addr) (sp : Sp) : R2 := fun x y H Q => ∃ a b dx dy fs gs, x = .ref a ∧ y = .ref b ∧ H a = some (.ins C dx fs) ∧ H b = some (.ins C dy gs) ∧ sp [.ref a, .ref b] H Q E0
theorem op_eqO {C f : Addr} {fd : FuncData} {ps : List Str} {sp : Sp} {k n : Nat} (F : FnOk X.prog X.w X.K X.mg X.base CX0 k f fd ps sp)
    (hs : PySem.W.findIn X.K (.ref C) "__eq__" = some (some (.ref f))) (hf : PySem.W.isFn X.K (.ref f) = true) (hb : Binds X.K fd ps []) (rm : Room n X.A) (hk : k ≤ n) : OpR X (compareOp .Eq) (rEqO C sp) := by
  intro pins s σ H x y v u Q I rx ry h
  obtain ⟨a, b, dx, dy, fs, gs, rfl, rfl, ha, hb', hsp⟩ := h
  cases rx
  cases ry
  show wpAny (model X.prog X.w) X.A (richCompare .Eq (.ref a) (.ref b)) (EP X pins σ Q) X.xe s
  obtain ⟨mA, J, _⟩ := ins_get I.hok ha
  obtain ⟨mB, J', _⟩ := ins_get I.hok hb'
  obtain ⟨od, J, _⟩ := J.look
  obtain ⟨od', J', _⟩ := J'.look
  obtain ⟨m, hF⟩ := I.fr
  refine PySem.W.cmp_K (op := .Eq) (tb := .ref C) rm.units0 hF I.ok.mod.kin J J'.type (by simp [PySem.W.notFirst]) hs hf ?_
  have r2 : Vals [V.ref a, V.ref b] [Value.ref a, Value.ref b] := .cons rfl (.cons rfl .nil)
  refine wpAny_mono (run_fn (dvs := []) (ds := []) (E := E0) F (rm.mono hk) hb .nil pass0 I r2 (by simpa using hsp)) ?_ (fun _ _ z => z)
  intro r s' z
  obtain ⟨v, H', I', rv, q⟩ := id z
  cases v with
  | non => cases (show r = Value.none from rv); exact z
  | bl b => cases (show r = Value.bool b from rv); exact z
  | int i => obtain ⟨t, rfl⟩ := (show ∃ t, r = Value.int i t from rv); exact z
  | str i => obtain ⟨t, rfl⟩ := (show ∃ t, r = Value.str i t from rv); exact z
  | byt i => obtain ⟨t, rfl⟩ := (show ∃ t, r = Value.bytes i t from rv); exact z
  | flt i => obtain ⟨t, rfl⟩ := (show ∃ t, r = Value.float i t from rv); exact z
  | ref c => cases (show r = Value.ref c from rv); exact z
  | ty n => cases (show r = Value.type n from rv); exact z
end
end MG

/-! str(x) by an own __str__ -/
namespace MG
open PySem PySem.Spec PyProof.Rows L2
section
variable {X : Cx}
def rStrO (C : Addr) (sp : Sp) : List V → Hp → VK → Prop := fun vs H Q => ∃ a dx fs, vs = [.ref a] ∧ H a = some (.ins C dx fs) ∧ sp [.ref a] H (fun v H' => (∃ t, v = .str t) ∧ Q v H') E0
theorem str_O {C f : Addr} {fd : FuncData} {ps : List Str} {sp : Sp} {k n : Nat} (F : FnOk X.prog X.w X.K X.mg X.base CX0 k f fd ps sp)
    (hs : PySem.W.findIn X.K (.ref C) "__str__" = some (some (.ref f))) (hf : PySem.W.isFn X.K (.ref f) = true) (hb : Binds X.K fd ps []) (rm : Room n X.A) (hk : k + 3 ≤ n) : CallR X (.type "str") (rStrO C sp) := by
  intro pins s σ H vs us Q I r h
  obtain ⟨a, dx, fs, rfl, ha, hsp⟩ := h
  obtain ⟨u, rfl, rx⟩ := vals1 r
  cases (show u = Value.ref a from rx)
  obtain ⟨mA, J, _⟩ := ins_get I.hok ha
  obtain ⟨od, J, _⟩ := J.look
  have r3 : Room k X.A.in1.in1 := (rm.mono (show k + 2 ≤ n by omega)).in1.in1
  have r2 : Vals [V.ref a] [Value.ref a] := .cons rfl .nil
  have hl := F.len _ _ _ _ hsp
  refine PySem.W.kso_call ((rm.mono (show 2 ≤ n by omega)).in1.in1).units0 I.kIn J hs hf ?_
  have e0 := I.env0.in1.in1
  refine wpAny_call (codeAny_mono (F.run X.A.in1.in1 X.stack s H ⟨[.ref a], []⟩ [.ref a] [.ref a] _ E0 r3 e0 (by
    have z := hb s [.ref a] I.kIn (by simpa using hl)
    simpa using z) r2 hsp) ?_)
  intro res s' hq
  match res, hq with
  | .error er, hq => exact hq.elim
  | .ok .next, hq => exact hq.elim
  | .ok .brk, hq => exact hq.elim
  | .ok .cont, hq => exact hq.elim
  | .ok (.ret u), hq =>
    obtain ⟨z, H', I', rz, ⟨t, rfl⟩, q⟩ := I.after hq
    obtain ⟨tk, rfl⟩ := (show ∃ tk, u = Value.str t tk from rz)
    exact ⟨.str t, H', I', ⟨_, rfl⟩, q⟩
end
end MG

/-! set of a list of ints -/
namespace MG
open PySem PySem.Spec PyProof.Rows L2
section
variable {P : Program} {w : World} {A : Around} {E : Value → Shared → Prop} {s : Shared}
/-- an empty set as it is laid -/
abbrev emp (w : World) : Obj := { cls := .type "set", dict := none, data := .set #[] 0 (.fresh 0 0 (!w.params.followText "set-order")) }
theorem ints_val {items : Array Value} {ns : List Int} (hit : IntsAre items.toList ns) (hz : items.size = ns.length) (i : Nat) (v : Value) (hv : items[i]? = some v) : ∃ k t, ns[i]? = some k ∧ v = .int k t := by
  have hi : i < ns.length := hz ▸ (Array.getElem?_eq_some_iff.mp hv).1
  obtain ⟨t, e⟩ := IntsAre.int_at hit i v ((Array.getElem?_toList ..).trans hv)
  exact ⟨ns[i], t, List.getElem?_eq_getElem hi, by rw [e, List.getD_eq_getElem?_getD, List.getElem?_eq_getElem hi]; rfl⟩
theorem set_of_list {l : Addr} {items : Array Value} (ns : List Int) {Q : Value → Shared → Prop} (hh : A.handled = none) (hl : s.heap.IsList l items) (hit : IntsAre items.toList ns) (hb : ns.length + 1 < scanBound)
    (h : ∀ (h' : Heap) (tk c : Nat), SetR w h' s.heap.objs.size (fun j => decide (j ∈ ns)) c → c ≤ ns.length → (∀ b o, s.heap.get? b = some o → h'.get? b = some o) → Q (.ref s.heap.objs.size) { s with heap := h', toks := tk }) :
    wpAny (model P w) A (call (.type "set") [.ref l]) Q E s := by
  have hisz : items.size = ns.length := (Array.length_toList ..).symm.trans (IntsAre.length hit)
  obtain ⟨c, tl, hmro⟩ := F.called_set.mro
  have hmade := F.called_set.made
  have hsub := F.called_set.sub
  refine wpAny_call (codeAny_of_tree ?_)
  show wpAny _ _ (callAny (.type "set") _) _ _ _
  refine wpAny_pure ⟨Code.quiet_builtin _ (by decide +kernel), codeAny_builtin F.entry_type_call ?_⟩
  rw [Around.under_plain (weight_type_call_type "set" [.ref l] []) rfl]
  have h1 := F.called_set.notType
  have h2 := F.called_set.canCreate
  have hct := F.typeCall_set_1 (.ref l)
  repeat (any_goals (first | assumption | wp_step))
  refine codeAny_mono (code_set_led1 (.ref l) (E := E) (Q₁ := fun ob s₁ => ob = .ref s.heap.objs.size ∧ s₁ = { s with heap := s.heap.push (emp w) }) ⟨rfl, rfl⟩) ?_
  intro r s₁ hr
  cases r with
  | error e => exact hr
  | ok fl =>
    cases fl with
    | ret ob =>
      obtain ⟨rfl, rfl⟩ := hr
      have hS : (s.heap.push (emp w)).get? s.heap.objs.size = some (emp w) := Heap.get?_push_size _ rfl
      have hT : Shared.TypeIs { s with heap := s.heap.push (emp w) } (.ref s.heap.objs.size) "set" := ⟨_, hS, rfl⟩
      have hli := F.called_set.init.lookup
      have hbi := F.called_set.init.bind (.ref s.heap.objs.size)
      repeat (any_goals (first | assumption | wp_step))
      refine codeAny_mono (codeAny_call_builtin (R := wants (fun r s₂ => r = .none ∧ ∃ h' tk c, s₂ = { s with heap := h', toks := tk } ∧ SetR w h' s.heap.objs.size (fun j => decide (j ∈ ns)) c ∧ c ≤ ns.length ∧
          (∀ b o, s.heap.get? b = some o → h'.get? b = some o)) E) F.called_set.init.plain F.entry_set_init (check_set_init_1 hT ?_)) ?_
      · obtain ⟨⟨ocls, odict, odata, oslots⟩, hol, hcl, nl, hdl⟩ := hl
        simp only at hcl hdl
        subst hcl hdl
        have hol' : (s.heap.push (emp w)).get? l = some { cls := .type "list", dict := odict, data := .seq items nl, slots := oslots } := Heap.get?_push_of_some _ hol
        have hsls := F.sub_list_set
        have hslf := F.sub_list_frozenset
        have hne : (Value.type "list" == Value.type "dict") = false := by decide
        have hl1 : (s.heap.push (emp w)).IsList l items := ⟨_, hol', rfl, nl, rfl⟩
        unfold Builtin.«set.__init__» noKeywords Builtin.Frozenset.updateFrom
        generalize hPI : pyIter = PI
        wp_walk
        subst hPI
        refine wpAny_pyIter_list hl1 ?_
        refine wpAny_bind (wpAny_runValue ?_)
        have hlS : l < s.heap.objs.size := Heap.lt_size hol
        have hh3 : A.in1.in1.in1.handled = none := by simp [hh]
        have hz1 : (s.heap.push (emp w)).objs.size = s.heap.objs.size + 1 := Heap.size_push ..
        have hneI : l ≠ (s.heap.push (emp w)).objs.size := by
          rw [hz1]
          exact Nat.ne_of_lt (Nat.lt_succ_of_lt hlS)
        have hSf : s.heap.objs.size ∉ [(s.heap.push (emp w)).objs.size, l] := by
          rw [hz1]
          simp only [List.mem_cons, List.not_mem_nil, or_false, not_or]
          exact ⟨Nat.ne_of_lt (Nat.lt_succ_self _), Nat.ne_of_gt hlS⟩
        refine set_update_ints ((Walks.list hh3 _ l hneI items).toS) s.heap.objs.size hSf ns hisz hb (ints_val hit hisz) (items.size - 0) 0 _ (by omega) (Nat.zero_le _)
          ⟨⟨_, Heap.get?_push_size _ rfl, rfl, rfl⟩, (hl1.push _)⟩ ?hS0 ?hR
        case hS0 => exact ⟨0, Nat.le_refl 0, setR_new_at (Heap.get?_push_of_some _ hS)⟩
        case hR =>
          intro s' c' hm hc' hS'
          obtain ⟨h', g2, d', tk', os'⟩ := s'
          obtain rfl : g2 = s.gens := hm.gens
          obtain rfl : d' = s.drawn := hm.drawn
          obtain rfl : os' = s.os := hm.os
          show wpAny _ _ _ _ _ _
          refine wpAny_pure ?_
          show wpAny _ _ (ret Value.none) _ _ _
          refine wpAny_pure ⟨rfl, h', tk', c', rfl, hS', hisz ▸ hc', ?_⟩
          intro b o e
          have hb0 : b < s.heap.objs.size := Heap.lt_size e
          refine hm.heap b o ?_ (Heap.get?_push_of_some _ (Heap.get?_push_of_some _ e))
          rw [hz1]
          simp only [List.mem_cons, List.not_mem_nil, or_false, not_or]
          exact ⟨Nat.ne_of_lt hb0, Nat.ne_of_lt (Nat.lt_succ_of_lt hb0)⟩
      · intro r₂ s₂ hr₂
        cases r₂ with
        | error e => exact hr₂
        | ok fl₂ =>
          cases fl₂ with
          | ret r =>
            obtain ⟨rfl, h', tk, c', rfl, hS', hc', hk'⟩ := hr₂
            repeat (any_goals (first | assumption | wp_step))
            exact h _ _ _ hS' hc' hk'
          | _ => exact hr₂.elim
    | _ => exact hr.elim
end
section
variable {X : Cx}
def rSetLi (w : World) : List V → Hp → VK → Prop := fun vs H Q => ∃ (a : Addr) (ns : List Int), vs = [.ref a] ∧ H a = some (.lst (ns.map V.int)) ∧ ns.length < 1000 ∧
  ∀ p c, H p = none → c ≤ ns.length → Q (.ref p) (upd H p (SetO w p (fun j => decide (j ∈ ns)) c))
theorem set_L (hc : X.calm = true) : CallR X (.type "set") (rSetLi X.w) := by
  intro pins s σ H vs us Q I r h
  obtain ⟨a, ns, rfl, ha, hl, q⟩ := h
  obtain ⟨u, rfl, rx⟩ := vals1 r
  cases (show u = Value.ref a from rx)
  obtain ⟨its, rv, p, hz⟩ := I.list (a := a) (xs := ns.map V.int) (.inl (.inl ha))
  refine set_of_list ns (I.ok.hd hc) p.isList (by simpa using intsAre_of rv) (Nat.lt_of_le_of_lt (show ns.length + 1 ≤ 1000 by omega) (by decide)) ?_
  intro h' tk c hS hc' hk
  exact ⟨.ref _, _, I.laid (t' := tk) hk (Nat.le_refl _) (setO_new hS), rfl, q _ c (I.hok.fresh (Nat.le_refl _)) hc'⟩
end
end MG

/-! min of a tuple; walks of lists or tuples; data compared -/
namespace MG
open PySem PySem.Spec PyProof.Rows L2
section
variable {prog : Program} {w : World} {A : Around} {E : Value → Shared → Prop} {s : Shared} {l : Addr} {xs : Array (Int × Tok)}
theorem min_intTup {Q : Value → Shared → Prop} (hh : A.handled = none) (hl : s.heap.IsTuple l (intItems xs)) (hne : 0 < xs.size)
    (h : ∀ v h' tk, (intItems xs)[argBest (fun i j => decide (numAt xs i < numAt xs j)) (xs.size - 1)]? = some v → (∀ b o, s.heap.get? b = some o → h'.get? b = some o) → Q v { s with heap := h', toks := tk }) :
    wpAny (model prog w) A (call (.builtin "min") [.ref l]) Q E s := by
  have hlt : l < s.heap.objs.size := by obtain ⟨_, e, _⟩ := hl; exact Heap.lt_size e
  refine call_min_walk (wpAny_pyIter_tuple hl ?_)
  have st : Heap.IsTupleIter (s.heap.push { cls := .type "tuple_iterator", data := .fields #[.ref l, .int 0 0] }) s.heap.objs.size l 0 := ⟨_, Heap.get?_push_size _ rfl, rfl, rfl⟩
  have tp : Heap.IsTuple (s.heap.push { cls := .type "tuple_iterator", data := .fields #[.ref l, .int 0 0] }) l (intItems xs) := by
    obtain ⟨o, e, r⟩ := hl
    exact ⟨o, Heap.get?_push_of_some _ e, r⟩
  refine ⟨_, _, _, _, _, _, _, rfl, Walks.tuple (A := A.in1) hh _ l (Nat.ne_of_lt hlt) (intItems xs), ⟨st, tp⟩, fun b hb => ?_, by simpa [intItems] using hne, CmpOf.ints_lt (numAt xs) (fun _ _ => intItems_at), fun v h' tk hP hk => ?_⟩
  · show b < (s.heap.push _).objs.size
    rw [Heap.size_push]
    rcases List.mem_cons.mp hb with rfl | hb
    · exact Nat.lt_succ_self _
    · rcases List.mem_cons.mp hb with rfl | hb
      · exact Nat.lt_succ_of_lt hlt
      · cases hb
  · refine h v h' tk (by simpa [intItems] using hP) fun b o e => hk b o (fun hm => ?_) (Heap.get?_push_of_some _ e)
    rcases List.mem_cons.mp hm with e1 | hm
    · exact absurd (e1 ▸ Heap.lt_size e) (Nat.lt_irrefl _)
    · cases hm
theorem min_rawT {its : List Value} {ns : List Int} {Q : Value → Shared → Prop} (hh : A.handled = none) (hl : s.heap.IsTuple l its.toArray) (hi : IntsAre its ns) (hne : 0 < ns.length)
    (h : ∀ h' tk M t', (∀ b o, s.heap.get? b = some o → h'.get? b = some o) → M ∈ ns → (∀ a, a ∈ ns → M ≤ a) → Q (.int M t') { s with heap := h', toks := tk }) : wpAny (model prog w) A (call (.builtin "min") [.ref l]) Q E s := by
  obtain ⟨xs, e⟩ := hi.allInts.items
  have hn : numsOf (intItems xs).toList = ns := by rw [← e]; exact hi.numsOf
  rw [nums_intItems] at hn
  subst hn
  rw [e] at hl
  refine min_intTup hh hl (by simpa using hne) fun v h' tk hv hk => ?_
  obtain ⟨t, rfl⟩ := intItems_at hv
  obtain ⟨h1, h2⟩ := argBest_lt (numAt xs) (xs.size - 1)
  have hsz : 0 < xs.size := by simpa using hne
  refine h h' tk _ t hk ?_ fun a ha => ?_
  · rw [numAt_eq]; exact PySem.getD_mem (by rw [List.length_map, Array.length_toList]; omega)
  · obtain ⟨j, hj, rfl⟩ := mem_getD ha
    rw [List.length_map, Array.length_toList] at hj
    rw [← numAt_eq]; exact h2 j (by omega)
end
section
variable {X : Cx}
/-- min of a tuple of ints -/
def rMinT (K : PySem.W.Frag) : List V → Hp → VK → Prop := fun vs H Q => ∃ (a : Addr) (ns : List Int), vs = [V.ref a] ∧ SqT K H a (ns.map V.int) ∧ 0 < ns.length ∧ ∀ m, m ∈ ns → (∀ y, y ∈ ns → m ≤ y) → Q (.int m) H
theorem min_T (hc : X.calm = true) : CallR X (.builtin "min") (rMinT X.K) := by
  intro pins s σ H vs us Q I r h
  obtain ⟨a, ns, rfl, hs, hne, q⟩ := h
  obtain ⟨its, rv, hl, _⟩ := I.tuple hs
  rw [Vals.ref1 r]
  exact min_rawT (I.ok.hd hc) hl rv.ints hne fun h' tk m t' hk h1 h2 => ⟨.int _, H, I.kept hk, ⟨_, rfl⟩, q m h1 h2⟩
/-- a walk over a list or a tuple -/
def iAnyS (K : PySem.W.Frag) (tl : TE) : TI := fun σ H R => tl σ H fun x H1 => ∃ a, x = .ref a ∧ (((∃ xs, SqL K H1 a xs) ∧ R (Itl K a) H1) ∨ ((∃ xs, SqT K H1 a xs) ∧ R (Itt K a) H1))
theorem pi_anyS {tg l : Expr} {tl : TE} (hl : PE X l tl) : PI X tg l (iAnyS X.K tl) := by
  refine ⟨fun pins s σ H R I h => ?_⟩
  refine thn (hl.run pins s σ H _ I h) fun v s1 ⟨x, H1, I1, r1, q1⟩ => ?_
  obtain ⟨a, e, q⟩ := q1
  subst e
  cases r1
  rcases q with ⟨⟨xs, hq⟩, q⟩ | ⟨⟨xs, hq⟩, q⟩
  · obtain ⟨its, rv, p, hz⟩ := I1.list hq
    refine wpAny_pyIter_list p.isList ?_
    refine ⟨s1.heap.objs.size, [s1.heap.objs.size], _, _, H1, rfl, I1.kept (t' := s1.toks) fun b o e => Heap.get?_push_of_some _ e, turn_list a _, ⟨_, Heap.get?_push_size _ rfl, rfl, rfl⟩, fun b hb => ?_, q⟩
    obtain rfl : b = s1.heap.objs.size := by simpa using hb
    exact I1.fpOk (Nat.le_refl _) (I1.hok.fresh (Nat.le_refl _))
  · obtain ⟨its, rv, p, hz⟩ := I1.tuple hq
    refine wpAny_pyIter_tuple (show s1.heap.IsTuple a its.toArray from p) ?_
    refine ⟨s1.heap.objs.size, [s1.heap.objs.size], _, _, H1, rfl, I1.kept (t' := s1.toks) fun b o e => Heap.get?_push_of_some _ e, turn_tuple a _, ⟨_, Heap.get?_push_size _ rfl, rfl, rfl⟩, fun b hb => ?_, q⟩
    obtain rfl : b = s1.heap.objs.size := by simpa using hb
    exact I1.fpOk (Nat.le_refl _) (I1.hok.fresh (Nat.le_refl _))
end
/-- an int, new things beside it -/
def rIntS : L2.St → Hp → V → Hp → Prop := fun _ H v H' => (∃ i : Int, v = .int i) ∧ Same H H'
/-- rows of ints, compared -/
theorem eqv_ints : ∀ (cs ds : List Int), PyData.eqvAll (cs.map PyData.int) (ds.map PyData.int) = decide (cs = ds)
  | [], [] => by simp [PyData.eqvAll]
  | [], _ :: _ => by simp [PyData.eqvAll]
  | _ :: _, [] => by simp [PyData.eqvAll]
  | c :: cs, d :: ds => by
    have ih := eqv_ints cs ds
    simp only [List.map_cons, PyData.eqvAll, ih]
    by_cases h : c = d
    · subst h
      simp [PyData.eqv]
    · simp [PyData.eqv, h]
theorem eqv_tup (cs ds : List Int) : (PyData.tuple (cs.map .int)).eqv (.tuple (ds.map .int)) = decide (cs = ds) := by
  rw [PyData.eqv]
  exact eqv_ints cs ds
theorem shw_str {x : Str} {n : Nat} (hx : ∀ c ∈ x.cps.toList, c < 16 ^ 8) (h : x.length ≤ n) : Shw (10 * n + 2) 0 (.str x) := by
  refine ⟨rfl, rfl, Nat.le_refl _, ?_⟩
  have := StrLaws.reprText_len x hx
  show (reprText x).length ≤ _
  omega
/-! bools in a row -/
def tabB (n : Nat) (f : Nat → Bool) : List V := (List.range n).map fun i => .bl (f i)
theorem tabB_len {n : Nat} {f : Nat → Bool} : (tabB n f).length = n := by simp [tabB]
theorem tabB_at {n i : Nat} {f : Nat → Bool} (h : i < n) : (tabB n f)[i]? = some (.bl (f i)) := by simp [tabB, h]
theorem tabB_succ {n : Nat} {f : Nat → Bool} : tabB (n + 1) f = tabB n f ++ [.bl (f n)] := by
  unfold tabB
  rw [List.range_succ, List.map_append]
  rfl
theorem tabB_congr {n : Nat} {f g : Nat → Bool} (h : ∀ i, i < n → f i = g i) : tabB n f = tabB n g := by
  apply List.map_congr_left
  intro i hi
  rw [h i (List.mem_range.mp hi)]
theorem tabB_set {n i : Nat} {f : Nat → Bool} {v : Bool} : (tabB n f).set i (.bl v) = tabB n (fun j => if j = i then v else f j) := by
  apply List.ext_getElem?
  intro j
  rw [List.getElem?_set, tabB_len]
  by_cases hj : j < n
  · rw [tabB_at (f := fun j => if j = i then v else f j) hj, tabB_at (f := f) hj]
    by_cases e : i = j
    · rw [if_pos e, if_pos (by omega), if_pos e.symm]
    · rw [if_neg e, if_neg (fun z => e z.symm)]
  · have h1 : (tabB n fun j => if j = i then v else f j)[j]? = none := by
      rw [List.getElem?_eq_none_iff, tabB_len]; omega
    have h2 : (tabB n f)[j]? = none := by
      rw [List.getElem?_eq_none_iff, tabB_len]; omega
    rw [h1, h2]
    by_cases e : i = j
    · rw [if_pos e, if_neg (by omega)]
    · rw [if_neg e]
end MG

/-! what coins pay; lean rows -/
namespace KL
def pd (cs : List Nat) (n : Nat) : Bool := n == 0 || cs.attach.any fun ⟨c, _⟩ => if h : 0 < c ∧ c ≤ n then pd cs (n - c) else false
termination_by n
decreasing_by omega
inductive Paid (cs : List Nat) : Nat → Prop
  | zero : Paid cs 0
  | add {c n : Nat} (h : c ∈ cs) (p : Paid cs n) : Paid cs (n + c)
theorem pd_iff {cs : List Nat} (n : Nat) : pd cs n = true ↔ n = 0 ∨ ∃ c ∈ cs, 0 < c ∧ c ≤ n ∧ pd cs (n - c) = true := by
  rw [pd]
  simp only [Bool.or_eq_true, beq_iff_eq, List.any_eq_true]
  constructor
  · rintro (h | ⟨⟨c, hc⟩, _, h⟩)
    · exact .inl h
    · by_cases q : 0 < c ∧ c ≤ n
      · simp only [q, and_self, dite_true] at h
        exact .inr ⟨c, hc, q.1, q.2, h⟩
      · simp [q] at h
  · rintro (h | ⟨c, hc, h1, h2, h3⟩)
    · exact .inl h
    · refine .inr ⟨⟨c, hc⟩, List.mem_attach _ _, ?_⟩
      simp [h1, h2, h3]
theorem paid_of {cs : List Nat} (n : Nat) (h : pd cs n = true) : Paid cs n := by
  induction n using Nat.strongRecOn with
  | ind n ih =>
    rcases (pd_iff n).mp h with h | ⟨c, hc, h1, h2, h3⟩
    · rw [h]; exact .zero
    · have := Paid.add hc (ih (n - c) (by omega) h3)
      rwa [Nat.sub_add_cancel h2] at this
theorem pd_of {cs : List Nat} (hp : ∀ c ∈ cs, 0 < c) {n : Nat} (h : Paid cs n) : pd cs n = true := by
  induction h with
  | zero => exact (pd_iff 0).mpr (.inl rfl)
  | @add c n hc p ih => exact (pd_iff _).mpr (.inr ⟨c, hc, hp c hc, by omega, by rw [Nat.add_sub_cancel]; exact ih⟩)
theorem pd_paid {cs : List Nat} (hp : ∀ c ∈ cs, 0 < c) (n : Nat) : pd cs n = true ↔ Paid cs n := ⟨paid_of n, pd_of hp⟩
theorem Paid.mono {cs ds : List Nat} (h : ∀ c ∈ cs, c ∈ ds) {n : Nat} (p : Paid cs n) : Paid ds n := by
  induction p with
  | zero => exact .zero
  | add hc _ ih => exact .add (h _ hc) ih
theorem Paid.sum {cs : List Nat} {m n : Nat} (p : Paid cs m) (q : Paid cs n) : Paid cs (m + n) := by
  induction q with
  | zero => exact p
  | @add c k hc _ ih => rw [← Nat.add_assoc]; exact .add hc ih
/-- one coin more -/
theorem paid_more {cs : List Nat} {c n : Nat} : Paid (cs ++ [c]) n ↔ Paid cs n ∨ (c ≤ n ∧ Paid (cs ++ [c]) (n - c)) := by
  constructor
  · intro p
    induction p with
    | zero => exact .inl .zero
    | @add d k hd p ih =>
      rcases List.mem_append.mp hd with h | h
      · rcases ih with i | ⟨i1, i2⟩
        · exact .inl (.add h i)
        · refine .inr ⟨by omega, ?_⟩
          have e : k + d - c = (k - c) + d := by omega
          rw [e]
          exact .add hd i2
      · have e : d = c := by simpa using h
        subst e
        exact .inr ⟨by omega, by rw [Nat.add_sub_cancel]; exact p⟩
  · rintro (p | ⟨h, p⟩)
    · exact p.mono fun x hx => List.mem_append_left _ hx
    · have := Paid.add (c := c) (by simp) p
      rwa [Nat.sub_add_cancel h] at this
theorem pd_more {cs : List Nat} {c : Nat} (hp : ∀ d ∈ cs, 0 < d) (hc : 0 < c) (n : Nat) : pd (cs ++ [c]) n = (pd cs n || (decide (c ≤ n) && pd (cs ++ [c]) (n - c))) := by
  have hp2 : ∀ d ∈ cs ++ [c], 0 < d := fun d hd => by
    rcases List.mem_append.mp hd with h | h
    · exact hp d h
    · have : d = c := by simpa using h
      omega
  have a := pd_paid hp2 n
  have b := pd_paid hp n
  have d := pd_paid hp2 (n - c)
  have e := paid_more (cs := cs) (c := c) (n := n)
  rw [← a, ← b, ← d] at e
  apply Bool.eq_iff_iff.mpr
  simpa using e
/-- the coins that the kept ones ahead do not pay -/
def step (ks : List Nat) (c : Nat) : List Nat := if pd ks c then ks else ks ++ [c]
def leanN (cs : List Nat) : List Nat := cs.foldl step []
theorem step_sub {ks : List Nat} {c : Nat} : ∀ x ∈ step ks c, x ∈ ks ∨ x = c := by
  intro x hx
  unfold step at hx
  split at hx
  · exact .inl hx
  · rcases List.mem_append.mp hx with h | h
    · exact .inl h
    · exact .inr (by simpa using h)
theorem fold_sub : ∀ (cs ks : List Nat), ∀ x ∈ cs.foldl step ks, x ∈ ks ∨ x ∈ cs
  | [], ks, x, h => .inl h
  | c :: cs, ks, x, h => by
    rcases fold_sub cs (step ks c) x h with h | h
    · rcases step_sub x h with h | h
      · exact .inl h
      · exact .inr (by simp [h])
    · exact .inr (by simp [h])
theorem fold_len : ∀ (cs ks : List Nat), (cs.foldl step ks).length ≤ ks.length + cs.length
  | [], ks => Nat.le_refl _
  | c :: cs, ks => by
    have h := fold_len cs (step ks c)
    have : (step ks c).length ≤ ks.length + 1 := by
      unfold step
      split <;> simp
    show (cs.foldl step (step ks c)).length ≤ ks.length + (cs.length + 1)
    omega
/-- no coin is paid by those ahead -/
def Ln (ks : List Nat) : Prop := ∀ i c, ks[i]? = some c → pd (ks.take i) c = false
theorem ln_step {ks : List Nat} {c : Nat} (h : Ln ks) : Ln (step ks c) := by
  unfold step
  split
  · exact h
  · rename_i q
    intro i d e
    by_cases hi : i < ks.length
    · rw [List.getElem?_append_left hi] at e
      rw [List.take_append_of_le_length (by omega)]
      exact h i d e
    · have hi2 : i = ks.length := by
        have := (List.getElem?_eq_some_iff.mp e).1
        simp at this
        omega
      subst hi2
      have : d = c := by simpa using e.symm
      subst this
      rw [List.take_append_of_le_length (Nat.le_refl _), List.take_length]
      simpa using q
theorem ln_fold : ∀ (cs ks : List Nat), Ln ks → Ln (cs.foldl step ks)
  | [], _, h => h
  | _ :: cs, _, h => ln_fold cs _ (ln_step h)
theorem ln_lean (cs : List Nat) : Ln (leanN cs) := ln_fold cs [] (by intro i c h; simp at h)
theorem lean_of_ln {ks : List Nat} (h : Ln ks) : ∀ n, n ≤ ks.length → (ks.take n).foldl step [] = ks.take n
  | 0, _ => rfl
  | n + 1, hn => by
    have hl : n < ks.length := by omega
    have e : ks[n]? = some ks[n] := List.getElem?_eq_getElem hl
    rw [List.take_add_one, e, List.foldl_append, lean_of_ln h n (by omega)]
    show step (ks.take n) ks[n] = ks.take n ++ [ks[n]]
    unfold step
    rw [h n _ e]
    simp
theorem lean_lean (cs : List Nat) : leanN (leanN cs) = leanN cs := by
  have := lean_of_ln (ln_lean cs) (leanN cs).length (Nat.le_refl _)
  rwa [List.take_length] at this
/-- what is divided by the kept ones divides all that they pay -/
theorem paid_dvd {cs : List Nat} {g n : Nat} (h : ∀ c ∈ cs, g ∣ c) (p : Paid cs n) : g ∣ n := by
  induction p with
  | zero => exact Nat.dvd_zero _
  | add hc _ ih => exact Nat.dvd_add ih (h _ hc)
theorem fold_mem : ∀ (cs ks : List Nat), ∀ x ∈ ks, x ∈ cs.foldl step ks
  | [], _, x, h => h
  | c :: cs, ks, x, h => fold_mem cs (step ks c) x (by unfold step; split; exact h; simp [h])
theorem fold_pays : ∀ (cs ks : List Nat), ∀ x ∈ cs, Paid (cs.foldl step ks) x
  | c :: cs, ks, x, h => by
    rcases List.mem_cons.mp h with rfl | h
    · show Paid (cs.foldl step (step ks x)) x
      by_cases q : pd ks x = true
      · have e : step ks x = ks := by unfold step; rw [if_pos q]
        rw [e]
        exact (paid_of x q).mono (fold_mem cs ks)
      · have e : x ∈ step ks x := by unfold step; rw [if_neg q]; simp
        have := Paid.add (fold_mem cs _ x e) .zero
        simpa using this
    · exact fold_pays cs (step ks c) x h
def gcdL (cs : List Nat) : Nat := cs.foldl Nat.gcd 0
theorem gcdL_dvd : ∀ (cs : List Nat) (g : Nat), cs.foldl Nat.gcd g ∣ g ∧ ∀ c ∈ cs, cs.foldl Nat.gcd g ∣ c
  | [], g => ⟨Nat.dvd_refl _, fun c h => by cases h⟩
  | d :: cs, g => by
    obtain ⟨a, b⟩ := gcdL_dvd cs (Nat.gcd g d)
    refine ⟨Nat.dvd_trans a (Nat.gcd_dvd_left g d), fun c hc => ?_⟩
    rcases List.mem_cons.mp hc with rfl | hc
    · exact Nat.dvd_trans a (Nat.gcd_dvd_right g c)
    · exact b c hc
theorem dvd_gcdL : ∀ (cs : List Nat) (g k : Nat), k ∣ g → (∀ c ∈ cs, k ∣ c) → k ∣ cs.foldl Nat.gcd g
  | [], _, _, h, _ => h
  | d :: cs, g, k, h, h2 => dvd_gcdL cs _ k (Nat.dvd_gcd h (h2 d (by simp))) fun c hc => h2 c (by simp [hc])
theorem gcdL_iff {cs : List Nat} {k : Nat} : k ∣ gcdL cs ↔ ∀ c ∈ cs, k ∣ c :=
  ⟨fun h c hc => Nat.dvd_trans h ((gcdL_dvd cs 0).2 c hc), fun h => dvd_gcdL cs 0 k (Nat.dvd_zero k) h⟩
theorem gcdL_lean (cs : List Nat) : gcdL (leanN cs) = gcdL cs := by
  apply Nat.dvd_antisymm
  · refine gcdL_iff.mpr fun c hc => paid_dvd (cs := leanN cs) (gcdL_iff.mp (Nat.dvd_refl _)) (fold_pays cs [] c hc)
  · refine gcdL_iff.mpr fun c hc => gcdL_iff.mp (Nat.dvd_refl _) c ?_
    rcases fold_sub cs [] c hc with h | h
    · cases h
    · exact h
end KL

namespace Kx
open PySem L2 MG KM
def natL (cs : List Int) : List Nat := cs.map Int.toNat
def intL (ks : List Nat) : List Int := ks.map fun (n : Nat) => (n : Int)
theorem int_nat {cs : List Int} (h : ∀ c ∈ cs, 1 ≤ c ∧ c ≤ 60) : intL (natL cs) = cs := by
  unfold intL natL
  rw [List.map_map]
  have : ∀ c ∈ cs, ((fun (n : Nat) => (n : Int)) ∘ Int.toNat) c = c := fun c hc => by
    have := (h c hc).1
    show ((c.toNat : Nat) : Int) = c
    omega
  rw [List.map_congr_left this, List.map_id']
theorem nat_int (ks : List Nat) : natL (intL ks) = ks := by
  unfold intL natL
  rw [List.map_map]
  have : ∀ k ∈ ks, (Int.toNat ∘ (fun (n : Nat) => (n : Int))) k = k := fun k _ => by simp
  rw [List.map_congr_left this, List.map_id']
def pdI (cs : List Int) (n : Nat) : Bool := KL.pd (natL cs) n
def leanI (cs : List Int) : List Int := intL (KL.leanN (natL cs))
def gcdI (cs : List Int) : Int := ((KL.gcdL (natL cs) : Nat) : Int)
theorem step_subl (ks : List Nat) (c : Nat) : (KL.step ks c).Sublist (ks ++ [c]) := by
  unfold KL.step
  split
  · exact List.sublist_append_left ks [c]
  · exact List.Sublist.refl _
theorem fold_subl : ∀ (cs ks : List Nat), (cs.foldl KL.step ks).Sublist (ks ++ cs)
  | [], ks => by simp
  | c :: cs, ks => by
    have h := fold_subl cs (KL.step ks c)
    refine h.trans ?_
    have e : ks ++ c :: cs = (ks ++ [c]) ++ cs := by simp
    rw [e]
    exact (step_subl ks c).append_right cs
theorem lean_subl (cs : List Nat) : (KL.leanN cs).Sublist cs := by
  have := fold_subl cs []
  rwa [List.nil_append] at this
theorem lean_ne {c : Nat} {cs : List Nat} (hc : 0 < c) : KL.leanN (c :: cs) ≠ [] := by
  have h : KL.step [] c = [c] := by
    unfold KL.step
    have : KL.pd [] c = false := by
      cases e : KL.pd [] c with
      | false => rfl
      | true =>
        rcases (KL.pd_iff c).mp e with z | ⟨d, hd, _⟩
        · omega
        · cases hd
    rw [this]
    simp
  intro z
  have hm : c ∈ KL.leanN (c :: cs) := by
    show c ∈ cs.foldl KL.step (KL.step [] c)
    rw [h]
    exact KL.fold_mem cs [c] c (by simp)
  rw [z] at hm
  cases hm
theorem lean_lot {cs : List Int} (h : Lotc cs) : Lotc (leanI cs) := by
  obtain ⟨p, q⟩ := asc_pw h.up
  have hb := lot_pos (Int.le_refl 0) h.up
  have hs : (leanI cs).Sublist cs := by
    have := (lean_subl (natL cs)).map (fun (n : Nat) => (n : Int))
    have e := int_nat hb
    unfold intL at e
    rw [e] at this
    exact this
  refine ⟨?_, Nat.le_trans hs.length_le h.few, asc_of (p.sublist hs) fun d hd => q d (hs.subset hd)⟩
  intro z
  have hne := h.ne
  match cs, hne, hb with
  | c :: r, _, hb =>
    have hc := hb c (by simp)
    have : KL.leanN (natL (c :: r)) = [] := by
      unfold leanI intL at z
      exact List.map_eq_nil_iff.mp z
    exact lean_ne (cs := natL r) (show 0 < c.toNat by omega) this
theorem lean_mem {cs : List Int} (hb : ∀ c ∈ cs, 1 ≤ c ∧ c ≤ 60) : ∀ c ∈ leanI cs, c ∈ cs := by
  have := (lean_subl (natL cs)).map (fun (n : Nat) => (n : Int))
  have e := int_nat hb
  unfold intL at e
  rw [e] at this
  exact fun c hc => this.subset hc
theorem lean_idem (cs : List Int) : leanI (leanI cs) = leanI cs := by
  unfold leanI
  rw [nat_int, KL.lean_lean]
theorem gcd_lean (cs : List Int) : gcdI (leanI cs) = gcdI cs := by
  unfold gcdI leanI
  rw [nat_int, KL.gcdL_lean]
/-! promises -/
def sp_divisor (C : Addr) : Sp := fun vs H Q _ => ∃ (p : Addr) (cs : List Int), vs = [.ref p] ∧ LotAt C H p cs ∧ ∀ H', Same H H' → Q (.int (gcdI cs)) H'
def sp_lean_coins : Sp := fun vs H Q _ => ∃ (t : Addr) (cs : List Int), vs = [.ref t] ∧ H t = some (.tup (cs.map V.int)) ∧ Lotc cs ∧ ∀ q H', H q = none → Same H H' → H' q = some (.tup ((leanI cs).map V.int)) → Q (.ref q) H'
def sp_lean (C : Addr) : Sp := fun vs H Q _ => ∃ (p : Addr) (cs : List Int), vs = [.ref p] ∧ LotAt C H p cs ∧ ∀ q H', H q = none → Same H H' → LotAt C H' q (leanI cs) → Q (.ref q) H'
def sp_Lot_eq (C : Addr) : Sp := fun vs H Q _ => ∃ (p q : Addr) (cs ds : List Int), vs = [.ref p, .ref q] ∧ LotAt C H p cs ∧ LotAt C H q ds ∧ Q (.bl (decide (cs = ds))) H
def tx1 (c : Int) : Str := Str.ofString c.repr
def txt (cs : List Int) : Str := Txt.join " " (cs.map tx1)
theorem tx1_len {c : Int} (h : 1 ≤ c ∧ c ≤ 60) : (tx1 c).length ≤ 1001 := by
  have z : c.natAbs.log2 < 1000 := by
    have := Nat.log2_le_self c.natAbs
    omega
  unfold tx1
  rw [PySem.ofString_length]
  exact int_text_length_le (by decide) z
theorem tx_sum : ∀ {cs : List Int}, (∀ c ∈ cs, 1 ≤ c ∧ c ≤ 60) → ((cs.map tx1).map (·.length)).sum ≤ cs.length * 1001
  | [], _ => by simp
  | c :: cs, h => by
    have h1 := tx1_len (h c (by simp))
    have h2 := tx_sum (cs := cs) fun d hd => h d (List.mem_cons_of_mem _ hd)
    simp only [List.map_cons, List.sum_cons, List.length_cons, Nat.add_mul]
    omega
theorem atI_last {α : Type} {xs : List α} {v : α} (h : xs[xs.length - 1]? = some v) : atI xs (-1) = some v := by
  have hl := (List.getElem?_eq_some_iff.mp h).1
  have e : ixN xs.length (-1) = some (xs.length - 1) := by
    unfold ixN
    rw [if_neg (by omega), if_pos (by omega)]
    congr 1
    omega
  unfold atI
  rw [e]
  exact h
theorem nat_take (cs : List Int) (i : Nat) : natL (cs.take i) = (natL cs).take i := by
  unfold natL
  rw [List.map_take]
theorem last_max {cs : List Int} (hc : Lotc cs) {G : Int} (h : cs[cs.length - 1]? = some G) : ∀ c ∈ cs, c ≤ G := by
  intro c hm
  obtain ⟨i, hi, rfl⟩ := List.mem_iff_getElem.mp hm
  obtain ⟨hl, e⟩ := List.getElem?_eq_some_iff.mp h
  rw [← e]
  by_cases z : i = cs.length - 1
  · subst z; exact Int.le_refl _
  · have := List.pairwise_iff_getElem.mp (asc_pw hc.up).1 i (cs.length - 1) hi hl (by omega)
    omega
def sp_Lot_str (C : Addr) : Sp := fun vs H Q _ => ∃ (p : Addr) (cs : List Int), vs = [.ref p] ∧ LotAt C H p cs ∧ ∀ H', Same H H' → Q (.str (txt cs)) H'
def EqL (P : Program) (w : World) (K : PySem.W.Frag) (mg : Str → Option Value) (base : Heap) (C : Addr) : Prop :=
  ∃ (f : Addr) (fd : FuncData), FnOk P w K mg base CX0 1 f fd ["self", "other"] (sp_Lot_eq C) ∧ PySem.W.findIn K (.ref C) "__eq__" = some (some (.ref f)) ∧ PySem.W.isFn K (.ref f) = true ∧ Binds K fd ["self", "other"] []
def StrL (P : Program) (w : World) (K : PySem.W.Frag) (mg : Str → Option Value) (base : Heap) (C : Addr) : Prop :=
  ∃ (f : Addr) (fd : FuncData), FnOk P w K mg base CX0 1 f fd ["self"] (sp_Lot_str C) ∧ PySem.W.findIn K (.ref C) "__str__" = some (some (.ref f)) ∧ PySem.W.isFn K (.ref f) = true ∧ Binds K fd ["self"] []
/-- one == other, both lots -/
def rLotEq (C : Addr) : R2 := fun x y H Q => ∃ (p q : Addr) (cs ds : List Int), x = .ref p ∧ y = .ref q ∧ LotAt C H p cs ∧ LotAt C H q ds ∧ Q (.bl (decide (cs = ds))) H
theorem op_lotEq {X : Cx} {C : Addr} {n : Nat} (c : EqL X.prog X.w X.K X.mg X.base C) (rm : Room n X.A) (h : 1 ≤ n := by decide) : OpR X (compareOp .Eq) (rLotEq C) := by
  obtain ⟨f, fd, h1, h2, h3, h4⟩ := c
  intro pins s σ H x y v u Q I rx ry hh
  obtain ⟨p, q, cs, ds, e1, e2, hp, hq, k⟩ := hh
  obtain ⟨dx, t, a1, a2, a3⟩ := id hp
  obtain ⟨dy, t', b1, b2, b3⟩ := id hq
  exact op_eqO h1 h2 h3 h4 rm h pins s σ H x y v u Q I rx ry ⟨p, q, dx, dy, _, _, e1, e2, a1, b1, p, q, cs, ds, rfl, hp, hq, k⟩
def rLotStr (C : Addr) : List V → Hp → VK → Prop := fun vs H Q => ∃ (p : Addr) (cs : List Int), vs = [.ref p] ∧ LotAt C H p cs ∧ ∀ H', Same H H' → Q (.str (txt cs)) H'
theorem str_lot {X : Cx} {C : Addr} {n : Nat} (c : StrL X.prog X.w X.K X.mg X.base C) (rm : Room n X.A) (h : 4 ≤ n := by decide) : CallR X (.type "str") (rLotStr C) := by
  obtain ⟨f, fd, h1, h2, h3, h4⟩ := c
  intro pins s σ H vs us Q I r hh
  obtain ⟨p, cs, e1, hp, k⟩ := hh
  obtain ⟨dx, t, a1, a2, a3⟩ := id hp
  exact str_O h1 h2 h3 h4 rm h pins s σ H vs us Q I r ⟨p, dx, _, e1, a1, p, cs, rfl, hp, fun H' s' => ⟨⟨_, rfl⟩, k H' s'⟩⟩
/-! draws -/
def sp_l_coinsU : Sp := fun vs H Q _ => ∃ (b : Addr) (n m : Nat), vs = [.ref b, .int n, .int m] ∧ Bw H b ∧ 1 ≤ n ∧ n ≤ 15 ∧ 6 ≤ m ∧ m ≤ 60 ∧
  ∀ t cs H', H t = none → Lotc cs → cs.length ≤ n → (∀ c ∈ cs, c ≤ m) → H' t = some (.tup (cs.map V.int)) → Bw H' b → But b H H' → Q (.ref t) H'
def sp_l_paid : Sp := fun vs H Q _ => ∃ (t : Addr) (cs : List Int) (m : Nat), vs = [.ref t, .int m] ∧ (H t = some (.lst (cs.map V.int)) ∨ H t = some (.tup (cs.map V.int))) ∧ (∀ c ∈ cs, 1 ≤ c ∧ c ≤ 60) ∧ cs.length ≤ 1000 ∧ m ≤ 10000 ∧
  ∀ l H', H l = none → Same H H' → H' l = some (.lst (tabB (m + 1) (pdI cs))) → Q (.ref l) H'
def sp_l_shared : Sp := fun vs H Q _ => ∃ (t : Addr) (cs : List Int), vs = [.ref t] ∧ H t = some (.tup (cs.map V.int)) ∧ Lotc cs ∧ ∀ H', Same H H' → Q (.int (gcdI cs)) H'
def sp_l_lean : Sp := fun vs H Q _ => ∃ (t : Addr) (cs : List Int), vs = [.ref t] ∧ H t = some (.tup (cs.map V.int)) ∧ Lotc cs ∧ ∀ q H', H q = none → Same H H' → H' q = some (.tup ((leanI cs).map V.int)) → Q (.ref q) H'
def sp_l_with_sums : Sp := fun vs H Q _ => ∃ (b t : Addr) (cs : List Int), vs = [.ref b, .ref t] ∧ Bw H b ∧ H t = some (.tup (cs.map V.int)) ∧ Lotc cs ∧ ∀ q ds H', H q = none → Lotc ds → H' q = some (.tup (ds.map V.int)) → Bw H' b → But b H H' → Q (.ref q) H'
def sp_l_lean_right : Sp := fun vs H Q _ => ∃ (t : Addr) (cs : List Int), vs = [.ref t] ∧ H t = some (.tup (cs.map V.int)) ∧ Lotc cs ∧ ∀ H', Same H H' → Q (.bl true) H'
end Kx
namespace Kx
open PySem L2 MG KM
theorem pd_nil (n : Nat) : KL.pd [] n = (n == 0) := by
  rw [KL.pd]
  simp
theorem tabB_nil (g : Nat) : ([V.bl true] ++ List.replicate g (V.bl false)) = tabB (g + 1) (KL.pd []) := by
  apply List.ext_getElem?
  intro j
  by_cases hj : j < g + 1
  · rw [tabB_at hj, pd_nil]
    cases j with
    | zero => rfl
    | succ j =>
      rw [show ([V.bl true] ++ List.replicate g (V.bl false))[j + 1]? = (List.replicate g (V.bl false))[j]? from rfl, List.getElem?_replicate, if_pos (by omega)]
      rfl
  · rw [List.getElem?_eq_none (by simp; omega), List.getElem?_eq_none (by rw [tabB_len]; omega)]
def kp (cs : List Int) (i : Nat) : List Nat := (natL (cs.take i)).foldl KL.step []
theorem kp_pos {cs : List Int} (h : ∀ c ∈ cs, 1 ≤ c ∧ c ≤ 60) (i : Nat) : ∀ x ∈ kp cs i, 0 < x := by
  intro x hx
  rcases KL.fold_sub _ [] x hx with z | z
  · cases z
  · obtain ⟨c, hc, rfl⟩ := List.mem_map.mp z
    have := h c (List.mem_of_mem_take hc)
    omega
theorem kp_succ {cs : List Int} {i : Nat} {c : Nat} (h : cs[i]? = some (c : Int)) : kp cs (i + 1) = KL.step (kp cs i) c := by
  unfold kp natL
  rw [List.take_add_one, h, List.map_append, List.foldl_append]
  rfl
theorem kp_len (cs : List Int) (i : Nat) : (kp cs i).length ≤ cs.length := by
  unfold kp
  refine Nat.le_trans (KL.fold_len _ _) ?_
  simp [natL]
  omega
def halfB (ks : List Nat) (c m n : Nat) : Bool := if n < m then KL.pd (ks ++ [c]) n else KL.pd ks n
theorem halfB_start {ks : List Nat} {c : Nat} (hp : ∀ d ∈ ks, 0 < d) (hc : 0 < c) (n : Nat) : halfB ks c c n = KL.pd ks n := by
  unfold halfB
  by_cases h : n < c
  · rw [if_pos h, KL.pd_more hp hc]
    simp
    omega
  · rw [if_neg h]
theorem halfB_step {ks : List Nat} {c m : Nat} (hp : ∀ d ∈ ks, 0 < d) (hc : 0 < c) (hm : c ≤ m) (n : Nat) : (if n = m then (halfB ks c m m || halfB ks c m (m - c)) else halfB ks c m n) = halfB ks c (m + 1) n := by
  unfold halfB
  by_cases e : n = m
  · subst e
    rw [if_pos rfl, if_neg (by omega), if_pos (by omega), if_pos (by omega), KL.pd_more hp hc n]
    simp [hm]
  · rw [if_neg e]
    by_cases h : n < m
    · rw [if_pos h, if_pos (by omega)]
    · rw [if_neg h, if_neg (by omega)]
theorem halfB_end {ks : List Nat} {c k n : Nat} (h : n < k) : halfB ks c k n = KL.pd (ks ++ [c]) n := if_pos h
end Kx
namespace Kx
open PySem L2 MG KM
def bsf (cs : List Int) (T : Nat) (c : Int) : Bool := decide (c ≤ (T : Int)) && pdI cs (T - c.toNat)
theorem any_pd {cs : List Int} (h : ∀ c ∈ cs, 1 ≤ c ∧ c ≤ 60) {T : Nat} (hT : 0 < T) : ((cs.map (bsf cs T)).any id) = pdI cs T := by
  rw [Bool.eq_iff_iff]
  unfold pdI
  rw [KL.pd_iff]
  simp only [List.any_map, List.any_eq_true, Function.comp, id, bsf, Bool.and_eq_true, decide_eq_true_eq]
  constructor
  · rintro ⟨c, hc, h1, h2⟩
    have := h c hc
    exact .inr ⟨c.toNat, List.mem_map.mpr ⟨c, hc, rfl⟩, by omega, by omega, h2⟩
  · rintro (z | ⟨k, hk, h1, h2, h3⟩)
    · omega
    · obtain ⟨c, hc, rfl⟩ := List.mem_map.mp hk
      have := h c hc
      exact ⟨c, hc, by omega, h3⟩
theorem pdI_zero (cs : List Int) : pdI cs 0 = true := (KL.pd_iff 0).mpr (.inl rfl)
end Kx
namespace Kx
open PySem L2 MG KM
theorem kp_in {cs : List Int} (h : ∀ c ∈ cs, 1 ≤ c ∧ c ≤ 60) (i : Nat) : ∀ x ∈ intL (kp cs i), 1 ≤ x ∧ x ≤ 60 := by
  intro x hx
  obtain ⟨k, hk, rfl⟩ := List.mem_map.mp hx
  rcases KL.fold_sub _ [] k hk with z | z
  · cases z
  · obtain ⟨c, hc, rfl⟩ := List.mem_map.mp z
    have := h c (List.mem_of_mem_take hc)
    omega
theorem pdI_intL (ks : List Nat) : pdI (intL ks) = KL.pd ks := by
  funext n
  unfold pdI
  rw [nat_int]
end Kx
namespace Kx
open PySem L2 MG KM
theorem gcd_max {cs : List Int} (h : ∀ c ∈ cs, 1 ≤ c ∧ c ≤ 60) {k : Nat} (hk : (k : Int) ∈ cs) {ms : List Int} (hms : ∀ x : Int, x ∈ ms ↔ 1 ≤ x ∧ x ≤ k ∧ ∀ c ∈ cs, c % x = 0) {m : Int} (hm : m ∈ ms) (hmax : ∀ y ∈ ms, y ≤ m) : m = gcdI cs := by
  have hd : ∀ x : Nat, (∀ c ∈ cs, c % (x : Int) = 0) ↔ x ∣ KL.gcdL (natL cs) := fun x => by
    rw [KL.gcdL_iff]
    constructor
    · intro hx c hc
      obtain ⟨d, hd, rfl⟩ := List.mem_map.mp hc
      have h1 := hx d hd
      have h2 := h d hd
      have : (x : Int) ∣ d := Int.dvd_of_emod_eq_zero h1
      have e : ((d.toNat : Nat) : Int) = d := by omega
      rw [← e] at this
      exact Int.natCast_dvd_natCast.mp this
    · intro hx c hc
      have h1 := hx c.toNat (List.mem_map.mpr ⟨c, hc, rfl⟩)
      have h2 := h c hc
      have : ((x : Nat) : Int) ∣ ((c.toNat : Nat) : Int) := Int.natCast_dvd_natCast.mpr h1
      rw [show ((c.toNat : Nat) : Int) = c by omega] at this
      exact Int.emod_eq_zero_of_dvd this
  obtain ⟨m1, m2, m3⟩ := (hms m).mp hm
  obtain ⟨m', rfl⟩ : ∃ m' : Nat, m = m' := ⟨m.toNat, by omega⟩
  have hg : ∀ c ∈ cs, c % ((KL.gcdL (natL cs) : Nat) : Int) = 0 := (hd _).mpr (Nat.dvd_refl _)
  have hk1 := h _ hk
  have hgk : KL.gcdL (natL cs) ∣ k := by
    have := (KL.gcdL_iff (cs := natL cs) (k := KL.gcdL (natL cs))).mp (Nat.dvd_refl _) k (List.mem_map.mpr ⟨_, hk, by simp⟩)
    exact this
  have hgle : KL.gcdL (natL cs) ≤ k := Nat.le_of_dvd (by omega) hgk
  have hgpos : 0 < KL.gcdL (natL cs) := Nat.pos_of_dvd_of_pos hgk (by omega)
  have h1 := hmax ((KL.gcdL (natL cs) : Nat) : Int) ((hms _).mpr ⟨by omega, by omega, hg⟩)
  have h2 : m' ≤ KL.gcdL (natL cs) := Nat.le_of_dvd hgpos ((hd m').mp m3)
  unfold gcdI
  omega
end Kx
namespace Kx
open PySem L2 MG KM
theorem cut_take (xs : List V) (k : Nat) : cutV xs none (some (k : Int)) = xs.take k := by
  by_cases h : k ≤ xs.length
  · exact cut_to xs h
  · unfold cutV
    have h0 : ¬ ((k : Int) < 0) := by omega
    simp [HT.sIx, h0]
    try rw [List.take_of_length_le (by omega), List.take_of_length_le (by omega)]
theorem sum_pos : ∀ {xs : List Int}, (∀ x ∈ xs, 1 ≤ x) → (xs.length : Int) ≤ xs.sum
  | [], _ => by simp
  | a :: xs, h => by
    have h1 := h a (by simp)
    have h2 := sum_pos (xs := xs) fun x hx => h x (List.mem_cons_of_mem _ hx)
    rw [List.sum_cons, List.length_cons]
    omega
end Kx
namespace Kx
open PySem L2 MG KM
theorem fold_ok {g : Str} {B : Nat} (hg : ∀ c ∈ g.cps.toList, c < B) : ∀ (ps : List Str) (acc : Array Nat), (∀ c ∈ acc.toList, c < B) → (∀ p ∈ ps, ∀ c ∈ p.cps.toList, c < B) →
    (∀ c ∈ (ps.foldl (fun acc p => acc ++ g.cps ++ p.cps) acc).toList, c < B) ∧ (ps.foldl (fun acc p => acc ++ g.cps ++ p.cps) acc).size ≤ acc.size + ps.length * g.length + (ps.map (·.length)).sum
  | [], acc, h, _ => ⟨h, by simp⟩
  | p :: ps, acc, h, hp => by
    have h1 : ∀ c ∈ (acc ++ g.cps ++ p.cps).toList, c < B := by
      intro c hc
      simp only [Array.toList_append, List.mem_append] at hc
      rcases hc with (hc | hc) | hc
      · exact h c hc
      · exact hg c hc
      · exact hp p (by simp) c hc
    obtain ⟨a, b⟩ := fold_ok hg ps (acc ++ g.cps ++ p.cps) h1 fun q hq => hp q (List.mem_cons_of_mem _ hq)
    refine ⟨a, ?_⟩
    rw [List.foldl_cons]
    refine Nat.le_trans b ?_
    simp only [Array.size_append, List.length_cons, List.map_cons, List.sum_cons, Nat.add_mul]
    show acc.size + g.length + p.length + ps.length * g.length + _ ≤ _
    omega
theorem tx1_ok (c : Int) : ∀ x ∈ (tx1 c).cps.toList, x < 16 ^ 8 := by
  intro x hx
  unfold tx1 at hx
  rw [Str.ofString_eq_toList] at hx
  simp only [List.mem_map] at hx
  obtain ⟨ch, _, rfl⟩ := hx
  have : ch.toNat < 2 ^ 32 := ch.val.toNat_lt
  omega
theorem txt_ok {cs : List Int} (h : ∀ c ∈ cs, 1 ≤ c ∧ c ≤ 60) (hl : cs.length ≤ 15) : (∀ x ∈ (txt cs).cps.toList, x < 16 ^ 8) ∧ (txt cs).length ≤ 20000 := by
  have hs := tx_sum h
  unfold txt
  show (∀ x ∈ ((List.drop 1 (cs.map tx1)).foldl (fun acc p => acc ++ (Str.ofString " ").cps ++ p.cps) ((cs.map tx1).headD Str.empty).cps).toList, x < 16 ^ 8) ∧ ((List.drop 1 (cs.map tx1)).foldl (fun acc p => acc ++ (Str.ofString " ").cps ++ p.cps) ((cs.map tx1).headD Str.empty).cps).size ≤ 20000
  have hg : ∀ c ∈ (Str.ofString " ").cps.toList, c < 16 ^ 8 := by decide +kernel
  match cs, hs, hl with
  | [], _, _ => exact ⟨(by intro x hx; cases hx), by decide⟩
  | c :: cs, hs, hl =>
    obtain ⟨a, b⟩ := fold_ok hg (cs.map tx1) (tx1 c).cps (tx1_ok c) (fun p hp => by obtain ⟨d, _, rfl⟩ := List.mem_map.mp hp; exact tx1_ok d)
    refine ⟨a, Nat.le_trans b ?_⟩
    have e : (Str.ofString " ").length = 1 := rfl
    have e2 : (tx1 c).cps.size = (tx1 c).length := rfl
    simp only [List.map_cons, List.sum_cons, List.length_cons, List.length_map] at hs hl ⊢
    rw [e, e2]
    omega
end Kx
namespace Kx
open PySem L2 MG KM
theorem gcd_small {cs : List Int} (h : Lotc cs) : (gcdI cs).natAbs ≤ 60 := by
  have hb := lot_pos (Int.le_refl 0) h.up
  match cs, h.ne, hb with
  | c :: r, _, hb =>
    have hc := hb c (by simp)
    have hd := (KL.gcdL_iff (cs := natL (c :: r)) (k := KL.gcdL (natL (c :: r)))).mp (Nat.dvd_refl _) c.toNat (by simp [natL])
    have := Nat.le_of_dvd (by omega) hd
    unfold gcdI
    omega
end Kx

/-! a comprehension over a range with a step -/
namespace MG
open PySem PySem.Spec PyProof.Rows L2
theorem lc_rangeC {lo c : Int} {n : Nat} {g : TG} {tt : TT} {te : TE} {vs : List Nat} {σ : L2.St} {H1 : Hp} {D : Addr} {Qd : Hp → Prop} (Pv : Nat → Hp → Prop) (h0 : Pv 0 (upd H1 D (.lst [])))
    (hs : ∀ i H, i < n → Pv i H → g (.int (lo + (i : Int) * c)) (wipe σ vs) H fun σ2 H2 => wipe σ2 vs = wipe σ vs ∧ tt σ2 H2 fun b H3 =>
      if b = true then te σ2 H3 fun z H4 => ∃ acc, H4 D = some (.lst acc) ∧ acc.length < sizeLine ∧ Pv (i + 1) (upd H4 D (.lst (acc ++ [z]))) else Pv (i + 1) H3) (hd : ∀ H, Pv n H → Qd H) :
    ∃ W : Nat → Nat → Hp → Prop, (∃ m, W 0 m (upd H1 D (.lst []))) ∧ ∀ i m H, W i m H →
      ((Itc lo c n).stop i H ∧ Qd H) ∨ ((Itc lo c n).go i H ∧ ∃ Nx : Hp → Prop, (∀ H', Nx H' → ∃ m', m' < m ∧ W (i + 1) m' H') ∧ ∀ x H', (Itc lo c n).yld i H x H' → g x (wipe σ vs) H' fun σ2 H2 => wipe σ2 vs = wipe σ vs ∧ tt σ2 H2 fun b H3 =>
        if b = true then te σ2 H3 fun y H4 => ∃ acc, H4 D = some (.lst acc) ∧ acc.length < sizeLine ∧ Nx (upd H4 D (.lst (acc ++ [y]))) else Nx H3) := by
  refine ⟨fun i m H => m = n - i ∧ i ≤ n ∧ Pv i H, ⟨n, by simp, Nat.zero_le _, h0⟩, ?_⟩
  rintro i m H ⟨rfl, hi, p⟩
  by_cases hlt : i < n
  · refine .inr ⟨hlt, Pv (i + 1), fun H' p' => ⟨n - (i + 1), by omega, rfl, hlt, p'⟩, fun x H' z => ?_⟩
    obtain ⟨rfl, rfl⟩ := z
    exact hs i _ hlt p
  · have e : i = n := by omega
    subst e
    exact .inl ⟨Nat.le_refl _, hd H p⟩
theorem rgC {i j c : Nat} (hc : 0 < c) (h1 : i < 2 ^ 40) (h2 : j < 2 ^ 40) (h3 : c < 2 ^ 29) (hij : i < j) : RgC (i : Int) (j : Int) (c : Int) ((j - i - 1) / c + 1) := by
  have e : Builtin.Range.rangeSize (i : Int) (j : Int) (c : Int) = (((j - i - 1) / c + 1 : Nat) : Int) := by
    unfold Builtin.Range.rangeSize
    rw [if_pos (by omega), if_pos (by omega)]
    have : (j : Int) - i - 1 = ((j - i - 1 : Nat) : Int) := by omega
    rw [this]
    rfl
  have hle : (j - i - 1) / c ≤ j - i - 1 := Nat.div_le_self _ _
  refine ⟨by omega, by omega, ?_, e⟩
  unfold Builtin.Range.small
  rw [e, if_pos (by omega)]
  clear e
  generalize (j - i - 1) / c = k at hle ⊢
  simp only [Builtin.Range.rangeFitsLong, Bool.and_eq_true, Bool.or_eq_true, decide_eq_true_eq]
  omega
theorem shapedL (ns : List Int) : SeqAt.shaped (.list (ns.map .int)) = true := by
  obtain ⟨a, b⟩ := layI ns
  have d : (PyData.list (ns.map .int)).depth ≤ 64 := by
    show PyData.depthAll (ns.map PyData.int) + 1 ≤ 64
    omega
  have c : (PyData.list (ns.map .int)).canLay0 = true := a
  unfold SeqAt.shaped
  rw [c]
  simpa using d
theorem eqv_lst (cs ds : List Int) : (PyData.list (cs.map .int)).eqv (.list (ds.map .int)) = decide (cs = ds) := by
  rw [PyData.eqv]
  exact eqv_ints cs ds
end MG

/-! least sums by rests: a coin more, by going round -/
namespace KC
abbrev Tb := Nat → Option Nat
def lq (T : Tb) (p q d : Nat) : Prop := ∀ v, T p = some v → ∃ u, T q = some u ∧ u ≤ v + d
theorem lq.refl {T : Tb} {p d : Nat} : lq T p p d := fun v h => ⟨v, h, by omega⟩
theorem lq.trans {T : Tb} {p q r d e : Nat} (a : lq T p q d) (b : lq T q r e) : lq T p r (d + e) := fun v h => by
  obtain ⟨u, hu, h1⟩ := a v h
  obtain ⟨x, hx, h2⟩ := b u hu
  exact ⟨x, hx, by omega⟩
theorem lq.mono {T : Tb} {p q d e : Nat} (a : lq T p q d) (h : d ≤ e) : lq T p q e := fun v hv => by
  obtain ⟨u, hu, h1⟩ := a v hv
  exact ⟨u, hu, by omega⟩
/-- one step: what q has, or what p has and c -/
def bst (T : Tb) (p q c : Nat) : Option Nat := match T p with
  | none => T q
  | some v => match T q with
    | none => some (v + c)
    | some u => if v + c < u then some (v + c) else some u
def rl (T : Tb) (p q c : Nat) : Tb := fun r => if r = q then bst T p q c else T r
theorem rl_other {T : Tb} {p q c r : Nat} (h : r ≠ q) : rl T p q c r = T r := if_neg h
theorem rl_at {T : Tb} {p q c : Nat} : rl T p q c q = bst T p q c := if_pos rfl
theorem rl_cases (T : Tb) (p q c : Nat) : rl T p q c q = T q ∨ ∃ v, T p = some v ∧ rl T p q c q = some (v + c) := by
  rw [rl_at]
  unfold bst
  cases hp : T p with
  | none => exact .inl rfl
  | some v =>
    cases hq : T q with
    | none => exact .inr ⟨v, rfl, rfl⟩
    | some u =>
      simp only
      by_cases h : v + c < u
      · rw [if_pos h]; exact .inr ⟨v, rfl, rfl⟩
      · rw [if_neg h]; exact .inl rfl
theorem rl_mono {T : Tb} {p q c r v : Nat} (h : T r = some v) : ∃ u, rl T p q c r = some u ∧ u ≤ v := by
  by_cases e : r = q
  · subst e
    rw [rl_at]
    unfold bst
    rw [h]
    cases hp : T p with
    | none => exact ⟨v, rfl, Nat.le_refl _⟩
    | some w =>
      simp only
      by_cases z : w + c < v
      · rw [if_pos z]; exact ⟨_, rfl, by omega⟩
      · rw [if_neg z]; exact ⟨_, rfl, Nat.le_refl _⟩
  · rw [rl_other e]; exact ⟨v, h, Nat.le_refl _⟩
theorem rl_edge {T : Tb} {p q c : Nat} : lq (rl T p q c) p q c := by
  by_cases e : p = q
  · subst e; exact lq.refl
  · intro v hv
    rw [rl_other e] at hv
    rw [rl_at]
    unfold bst
    rw [hv]
    cases hq : T q with
    | none => exact ⟨_, rfl, Nat.le_refl _⟩
    | some u =>
      simp only
      by_cases z : v + c < u
      · rw [if_pos z]; exact ⟨_, rfl, Nat.le_refl _⟩
      · rw [if_neg z]; exact ⟨_, rfl, by omega⟩
theorem rl_stay {T : Tb} {p q c : Nat} (h : lq T p q c) (r : Nat) : rl T p q c r = T r := by
  by_cases e : r = q
  · subst e
    rw [rl_at]
    unfold bst
    cases hp : T p with
    | none => rfl
    | some v =>
      obtain ⟨u, hu, h1⟩ := h v hp
      rw [hu]
      simp only
      rw [if_neg (by omega)]
  · exact rl_other e
/-- what keeps its own value keeps its edge -/
theorem rl_keep {T : Tb} {p q c a b d : Nat} (h : lq T a b d) (e : rl T p q c a = T a) : lq (rl T p q c) a b d := by
  intro v hv
  rw [e] at hv
  obtain ⟨u, hu, h1⟩ := h v hv
  obtain ⟨x, hx, h2⟩ := rl_mono (p := p) (q := q) (c := c) hu
  exact ⟨x, hx, by omega⟩
/-- a round: the places in their order -/
structure Rd (P : Nat → Nat) (L : Nat) : Prop where
  per : ∀ j, P (j + L) = P j
  inj : ∀ i j, i < L → j < L → P i = P j → i = j
  pos : 0 < L
def go (P : Nat → Nat) (c : Nat) (T : Tb) : Nat → Tb
  | 0 => T
  | i + 1 => rl (go P c T i) (P i) (P (i + 1)) c
theorem Rd.ne {P : Nat → Nat} {L : Nat} (R : Rd P L) {i j : Nat} (h1 : i < j) (h2 : j - i < L) : P i ≠ P j := by
  -- both are brought below L
  intro e
  have per : ∀ k m, P (m + k * L) = P m := by
    intro k
    induction k with
    | zero => intro m; simp
    | succ k ih =>
      intro m
      rw [Nat.add_mul, Nat.one_mul, ← Nat.add_assoc, R.per, ih]
  have key : ∀ m, P m = P (m % L) := fun m => by
    have := per (m / L) (m % L)
    rw [Nat.mul_comm, Nat.mod_add_div] at this
    exact this
  have h := R.inj (i % L) (j % L) (Nat.mod_lt _ R.pos) (Nat.mod_lt _ R.pos) (by rw [← key, ← key]; exact e)
  have hi := Nat.div_add_mod i L
  have hj := Nat.div_add_mod j L
  rcases Nat.lt_trichotomy (i / L) (j / L) with z | z | z
  · have := Nat.mul_le_mul_left L (show i / L + 1 ≤ j / L from z)
    rw [Nat.mul_add, Nat.mul_one] at this
    omega
  · rw [z] at hi
    omega
  · have := Nat.mul_le_mul_left L (show j / L + 1 ≤ i / L from z)
    rw [Nat.mul_add, Nat.mul_one] at this
    omega
section
variable {P : Nat → Nat} {L c : Nat} {T : Tb}
/-- the first time round: the edges behind the first one -/
theorem first (R : Rd P L) : ∀ i, i ≤ L → ∀ j, 1 ≤ j → j < i → lq (go P c T i) (P j) (P (j + 1)) c := by
  intro i
  induction i with
  | zero => intro _ j _ h; omega
  | succ i ih =>
    intro hi j h1 h2
    show lq (rl (go P c T i) (P i) (P (i + 1)) c) (P j) (P (j + 1)) c
    by_cases e : j = i
    · subst e; exact rl_edge
    · exact rl_keep (ih (by omega) j h1 (by omega)) (rl_other (R.ne (by omega) (by omega)))
theorem chain {T' : Tb} {n : Nat} (h : ∀ j, 1 ≤ j → j < n → lq T' (P j) (P (j + 1)) c) : ∀ d j, 1 ≤ j → j + d = n → lq T' (P j) (P n) (d * c) := by
  intro d
  induction d with
  | zero => intro j _ e; have : j = n := by omega
            subst this; exact lq.refl
  | succ d ih =>
    intro j h1 e
    have := (h j h1 (by omega)).trans (ih (j + 1) (by omega) (by omega))
    exact this.mono (by rw [Nat.add_mul]; omega)
/-- the second time round -/
structure Snd (P : Nat → Nat) (L c : Nat) (T : Tb) (m : Nat) : Prop where
  top : ∀ j, j < L → lq T (P j) (P 0) ((L - j) * c)
  low : ∀ j, j < m → lq T (P j) (P (j + 1)) c
  hi : ∀ j, m < j → j < L → lq T (P j) (P (j + 1)) c
theorem second0 (R : Rd P L) : Snd P L c (go P c T L) 0 := by
  have f := first (c := c) (T := T) R L (Nat.le_refl _)
  refine ⟨fun j hj => ?_, fun j h => by omega, fun j h1 h2 => f j h1 h2⟩
  by_cases e : j = 0
  · subst e; exact lq.refl
  · have := chain (c := c) f (L - j) j (by omega) (by omega)
    have e0 : P L = P 0 := by have := R.per 0; rwa [Nat.zero_add] at this
    rw [e0] at this
    exact this
theorem second (R : Rd P L) {T' : Tb} {m : Nat} (hm : m < L) (S : Snd P L c T' m) : Snd P L c (rl T' (P m) (P (m + 1)) c) (m + 1) := by
  have e0 : P L = P 0 := by have := R.per 0; rwa [Nat.zero_add] at this
  -- the first place keeps its value
  have k0 : rl T' (P m) (P (m + 1)) c (P 0) = T' (P 0) := by
    by_cases z : m + 1 = L
    · have : lq T' (P m) (P (m + 1)) c := by
        rw [z, e0]
        have := S.top m hm
        rw [show L - m = 1 by omega, Nat.one_mul] at this
        exact this
      exact rl_stay this _
    · exact rl_other (R.ne (by omega) (by omega))
  have keep : ∀ j, j < L → j ≠ m + 1 → rl T' (P m) (P (m + 1)) c (P j) = T' (P j) := by
    intro j hj hne
    by_cases z : j = 0
    · subst z; exact k0
    · rcases Nat.lt_or_ge j (m + 1) with w | w
      · exact rl_other (R.ne w (by omega))
      · exact rl_other (fun q => R.ne (show m + 1 < j by omega) (by omega) q.symm)
  refine ⟨fun j hj => ?_, fun j hj => ?_, fun j h1 h2 => ?_⟩
  · by_cases z : j = m + 1
    · subst z
      rcases rl_cases T' (P m) (P (m + 1)) c with h | ⟨v, hv, h⟩
      · exact rl_keep (S.top _ hj) h
      · intro w hw
        rw [h] at hw
        have hw' : v + c = w := by simpa using hw
        obtain ⟨u, hu, h1⟩ := S.top m hm v hv
        refine ⟨u, by rw [k0]; exact hu, ?_⟩
        have e : (L - m) * c = c + (L - (m + 1)) * c := by
          rw [show L - m = (L - (m + 1)) + 1 by omega, Nat.add_mul]
          omega
        omega
    · exact rl_keep (S.top j hj) (keep j hj z)
  · by_cases z : j = m
    · subst z; exact rl_edge
    · exact rl_keep (S.low j (by omega)) (keep j (by omega) (by omega))
  · exact rl_keep (S.hi j (by omega) h2) (keep j h2 (by omega))
theorem go_second (R : Rd P L) : ∀ m, m ≤ L → Snd P L c (go P c T (L + m)) m := by
  intro m
  induction m with
  | zero => intro _; exact second0 R
  | succ m ih =>
    intro hm
    have S := second R (by omega) (ih (by omega))
    have e1 : P (L + m) = P m := by rw [Nat.add_comm]; exact R.per m
    have e2 : P (L + m + 1) = P (m + 1) := by rw [show L + m + 1 = m + 1 + L by omega]; exact R.per (m + 1)
    show Snd P L c (rl (go P c T (L + m)) (P (L + m)) (P (L + m + 1)) c) (m + 1)
    rw [e1, e2]
    exact S
/-- behind two rounds nothing is left to do -/
theorem go_done (R : Rd P L) : ∀ j, j < L → lq (go P c T (2 * L)) (P j) (P (j + 1)) c := by
  have := (go_second (c := c) (T := T) R L (Nat.le_refl _)).low
  rw [show 2 * L = L + L by omega]
  exact this
/-- where it doesn't come by, nothing changes -/
theorem go_other {r : Nat} (h : ∀ j, P j ≠ r) : ∀ i, go P c T i r = T r := by
  intro i
  induction i with
  | zero => rfl
  | succ i ih => exact (rl_other (fun e => h (i + 1) e.symm)).trans ih
theorem go_mono {r v : Nat} (h : T r = some v) : ∀ i, ∃ u, go P c T i r = some u ∧ u ≤ v := by
  intro i
  induction i with
  | zero => exact ⟨v, h, Nat.le_refl _⟩
  | succ i ih =>
    obtain ⟨u, hu, h1⟩ := ih
    obtain ⟨x, hx, h2⟩ := rl_mono (p := P i) (q := P (i + 1)) (c := c) hu
    exact ⟨x, hx, by omega⟩
/-- a value is one of the first ones and some coins -/
theorem go_sound {n : Nat} (hP : ∀ j, P (j + 1) = (P j + c) % n) (hT : ∀ r v, T r = some v → r < n) : ∀ i r v, go P c T i r = some v → r < n ∧ ∃ k r0 v0, T r0 = some v0 ∧ v = v0 + k * c ∧ r = (r0 + k * c) % n := by
  intro i
  induction i with
  | zero => intro r v h; exact ⟨hT r v h, 0, r, v, h, by omega, by rw [Nat.zero_mul, Nat.add_zero, Nat.mod_eq_of_lt (hT r v h)]⟩
  | succ i ih =>
    intro r v h
    have h' : rl (go P c T i) (P i) (P (i + 1)) c r = some v := h
    by_cases e : r = P (i + 1)
    · subst e
      rcases rl_cases (go P c T i) (P i) (P (i + 1)) c with z | ⟨w, hw, z⟩
      · rw [z] at h'
        exact ih _ _ h'
      · rw [z] at h'
        have hv : w + c = v := by simpa using h'
        obtain ⟨h1, k, r0, v0, h2, h3, h4⟩ := ih _ _ hw
        refine ⟨by rw [hP]; exact Nat.mod_lt _ (by omega), k + 1, r0, v0, h2, by rw [Nat.add_mul]; omega, ?_⟩
        rw [hP, h4, Nat.mod_add_mod, Nat.add_mul, Nat.one_mul, Nat.add_assoc]
    · rw [rl_other e] at h'
      exact ih _ _ h'
end
end KC

namespace KC
theorem bez (m n : Nat) : ∃ x y : Int, (m : Int) * x + (n : Int) * y = ((Nat.gcd m n : Nat) : Int) := by
  induction m, n using Nat.gcd.induction with
  | H0 n => exact ⟨0, 1, by simp⟩
  | H1 m n hm ih =>
    obtain ⟨x, y, h⟩ := ih
    refine ⟨y - ((n / m : Nat) : Int) * x, x, ?_⟩
    rw [Nat.gcd_rec, ← h]
    have e : (n : Int) = (m : Int) * ((n / m : Nat) : Int) + ((n % m : Nat) : Int) := by
      have := Nat.div_add_mod n m
      exact_mod_cast this.symm
    rw [Int.mul_sub]
    have e2 : (n : Int) * x = (m : Int) * (((n / m : Nat) : Int) * x) + ((n % m : Nat) : Int) * x := by
      rw [← Int.mul_assoc, ← Int.add_mul, ← e]
    omega
theorem reach_gcd {n c : Nat} (hn : 0 < n) : ∃ j : Nat, (j * c) % n = Nat.gcd n c % n := by
  obtain ⟨x, y, h⟩ := bez n c
  refine ⟨(y % (n : Int)).toNat, ?_⟩
  have h0 : 0 ≤ y % (n : Int) := Int.emod_nonneg _ (by omega)
  have : (((y % (n : Int)).toNat * c : Nat) : Int) % (n : Int) = ((Nat.gcd n c : Nat) : Int) % (n : Int) := by
    rw [Int.natCast_mul, Int.toNat_of_nonneg h0, ← h, Int.mul_comm, Int.add_comm, Int.add_mul_emod_self_left]
    rw [Int.mul_emod, Int.emod_emod_of_dvd _ (Int.dvd_refl _), ← Int.mul_emod]
  exact_mod_cast this
def posn (n c s j : Nat) : Nat := (s + j * c) % n
theorem posn_succ (n c s j : Nat) : posn n c s (j + 1) = (posn n c s j + c) % n := by
  unfold posn
  rw [Nat.mod_add_mod, Nat.add_mul, Nat.one_mul, Nat.add_assoc]
theorem posn_rd {n c : Nat} (hn : 0 < n) (s : Nat) : Rd (posn n c s) (n / Nat.gcd n c) := by
  have hg : 0 < Nat.gcd n c := Nat.gcd_pos_of_pos_left c hn
  have hgn : Nat.gcd n c ∣ n := Nat.gcd_dvd_left n c
  have hgc : Nat.gcd n c ∣ c := Nat.gcd_dvd_right n c
  have hL : n / Nat.gcd n c * Nat.gcd n c = n := Nat.div_mul_cancel hgn
  have hc : c / Nat.gcd n c * Nat.gcd n c = c := Nat.div_mul_cancel hgc
  have key : n / Nat.gcd n c * c = n * (c / Nat.gcd n c) := by
    calc n / Nat.gcd n c * c = n / Nat.gcd n c * (c / Nat.gcd n c * Nat.gcd n c) := by rw [hc]
      _ = n / Nat.gcd n c * Nat.gcd n c * (c / Nat.gcd n c) := by rw [Nat.mul_comm (c / Nat.gcd n c), Nat.mul_assoc]
      _ = n * (c / Nat.gcd n c) := by rw [hL]
  have half : ∀ i j, i ≤ j → j < n / Nat.gcd n c → posn n c s i = posn n c s j → i = j := by
    intro i j hij hj e
    unfold posn at e
    have h1 : (s + j * c - (s + i * c)) % n = 0 := by
      have hle : s + i * c ≤ s + j * c := Nat.add_le_add_left (Nat.mul_le_mul_right c hij) s
      have hi := Nat.div_add_mod (s + i * c) n
      have hj := Nat.div_add_mod (s + j * c) n
      rw [e] at hi
      have hd : s + j * c - (s + i * c) = n * ((s + j * c) / n) - n * ((s + i * c) / n) := by omega
      rw [hd, ← Nat.mul_sub]
      exact Nat.mul_mod_right _ _
    have h2 : s + j * c - (s + i * c) = (j - i) * c := by
      rw [Nat.add_sub_add_left, ← Nat.sub_mul]
    rw [h2] at h1
    have h3 : n ∣ (j - i) * c := Nat.dvd_of_mod_eq_zero h1
    have h4 : n / Nat.gcd n c ∣ (j - i) * (c / Nat.gcd n c) := by
      obtain ⟨k, hk⟩ := h3
      refine ⟨k, ?_⟩
      have : ((j - i) * (c / Nat.gcd n c)) * Nat.gcd n c = (n / Nat.gcd n c * k) * Nat.gcd n c := by
        rw [Nat.mul_assoc, hc, hk, Nat.mul_right_comm, hL]
      exact Nat.eq_of_mul_eq_mul_right hg this
    have h5 : Nat.Coprime (n / Nat.gcd n c) (c / Nat.gcd n c) := Nat.coprime_div_gcd_div_gcd hg
    have h6 : n / Nat.gcd n c ∣ j - i := h5.dvd_of_dvd_mul_right h4
    rcases Nat.eq_zero_or_pos (j - i) with z | z
    · omega
    · have := Nat.le_of_dvd z h6
      omega
  refine ⟨fun j => ?_, fun i j hi hj e => ?_, Nat.div_pos (Nat.le_of_dvd hn hgn) hg⟩
  · unfold posn
    rw [Nat.add_mul, key, ← Nat.add_assoc, Nat.add_mul_mod_self_left]
  · rcases Nat.le_total i j with h | h
    · exact half i j h hj e
    · exact (half j i h hi e.symm).symm
theorem posn_cls {n c s : Nat} (hs : s < Nat.gcd n c) (j : Nat) : posn n c s j % Nat.gcd n c = s := by
  unfold posn
  rw [Nat.mod_mod_of_dvd _ (Nat.gcd_dvd_left n c)]
  rw [Nat.add_mod, Nat.mod_eq_zero_of_dvd (Nat.dvd_mul_left_of_dvd (Nat.gcd_dvd_right n c) j), Nat.add_zero, Nat.mod_mod, Nat.mod_eq_of_lt hs]
theorem posn_all {n c r : Nat} (hn : 0 < n) (hr : r < n) : ∃ j, posn n c (r % Nat.gcd n c) j = r := by
  obtain ⟨j, hj⟩ := reach_gcd (c := c) hn
  refine ⟨r / Nat.gcd n c * j, ?_⟩
  unfold posn
  have e : (r / Nat.gcd n c * j * c) % n = (r / Nat.gcd n c * Nat.gcd n c) % n := by
    rw [Nat.mul_assoc, Nat.mul_mod, hj, ← Nat.mul_mod]
  rw [Nat.add_mod, e, ← Nat.add_mod]
  have := Nat.div_add_mod r (Nat.gcd n c)
  rw [Nat.mul_comm] at this
  rw [Nat.add_comm, this, Nat.mod_eq_of_lt hr]
def puts (n c : Nat) (T : Tb) : Nat → Tb
  | 0 => T
  | s + 1 => go (posn n c s) c (puts n c T s) (2 * (n / Nat.gcd n c))
section
variable {n c : Nat} {T : Tb}
theorem puts_rest (hn : 0 < n) : ∀ s, s ≤ Nat.gcd n c → ∀ r, s ≤ r % Nat.gcd n c → puts n c T s r = T r := by
  intro s
  induction s with
  | zero => intro _ r _; rfl
  | succ s ih =>
    intro hs r hr
    refine (go_other (fun j e => ?_) _).trans (ih (by omega) r (by omega))
    have := posn_cls (n := n) (c := c) (s := s) (by omega) j
    rw [e] at this
    omega
theorem puts_mono {r v : Nat} (h : T r = some v) : ∀ s, ∃ u, puts n c T s r = some u ∧ u ≤ v := by
  intro s
  induction s with
  | zero => exact ⟨v, h, Nat.le_refl _⟩
  | succ s ih =>
    obtain ⟨u, hu, h1⟩ := ih
    obtain ⟨x, hx, h2⟩ := go_mono (P := posn n c s) (c := c) hu (2 * (n / Nat.gcd n c))
    exact ⟨x, hx, by omega⟩
theorem puts_sound (hT : ∀ r v, T r = some v → r < n) : ∀ s r v, puts n c T s r = some v → r < n ∧ ∃ k r0 v0, T r0 = some v0 ∧ v = v0 + k * c ∧ r = (r0 + k * c) % n := by
  intro s
  induction s with
  | zero => intro r v h; exact ⟨hT r v h, 0, r, v, h, by omega, by rw [Nat.zero_mul, Nat.add_zero, Nat.mod_eq_of_lt (hT r v h)]⟩
  | succ s ih =>
    intro r v h
    obtain ⟨h1, k, r1, v1, h2, h3, h4⟩ := go_sound (P := posn n c s) (posn_succ n c s) (fun r v h => (ih r v h).1) _ r v h
    obtain ⟨h5, k2, r0, v0, h6, h7, h8⟩ := ih _ _ h2
    refine ⟨h1, k + k2, r0, v0, h6, by rw [Nat.add_mul]; omega, ?_⟩
    rw [h4, h8, Nat.mod_add_mod, Nat.add_mul]
    congr 1
    omega
theorem puts_done (hn : 0 < n) : ∀ s, s ≤ Nat.gcd n c → ∀ r, r < n → r % Nat.gcd n c < s → lq (puts n c T s) r ((r + c) % n) c := by
  intro s
  induction s with
  | zero => intro _ r _ h; omega
  | succ s ih =>
    intro hs r hr h
    by_cases e : r % Nat.gcd n c = s
    · obtain ⟨j, hj⟩ := posn_all (c := c) hn hr
      rw [e] at hj
      have R := posn_rd (c := c) hn s
      have per : ∀ k m, posn n c s (m + k * (n / Nat.gcd n c)) = posn n c s m := by
        intro k
        induction k with
        | zero => intro m; simp
        | succ k ih => intro m; rw [Nat.add_mul, Nat.one_mul, ← Nat.add_assoc, R.per, ih]
      have e2 : posn n c s (j % (n / Nat.gcd n c)) = r := by
        have := per (j / (n / Nat.gcd n c)) (j % (n / Nat.gcd n c))
        rw [Nat.mul_comm, Nat.mod_add_div] at this
        rw [← this, hj]
      have := go_done (c := c) (T := puts n c T s) R _ (Nat.mod_lt j R.pos)
      rw [posn_succ, e2] at this
      exact this
    · have hk : ∀ x, x % Nat.gcd n c = r % Nat.gcd n c → puts n c T (s + 1) x = puts n c T s x := fun x hx =>
        go_other (fun j z => by
          have := posn_cls (n := n) (c := c) (s := s) (by omega) j
          rw [z, hx] at this
          exact e this) _
      have hx : ((r + c) % n) % Nat.gcd n c = r % Nat.gcd n c := by
        rw [Nat.mod_mod_of_dvd _ (Nat.gcd_dvd_left n c)]
        rw [Nat.add_mod, Nat.mod_eq_zero_of_dvd (Nat.gcd_dvd_right n c), Nat.add_zero, Nat.mod_mod]
      intro v hv
      rw [hk r rfl] at hv
      rw [hk _ hx]
      exact ih (by omega) r hr (by omega) v hv
end
/-- the least sums of the rests by n, of what these coins pay -/
structure Ok (n : Nat) (ks : List Nat) (T : Tb) : Prop where
  dom : ∀ r v, T r = some v → r < n
  zero : T 0 = some 0
  sound : ∀ r v, T r = some v → KL.Paid ks v ∧ v % n = r
  closed : ∀ d ∈ ks, ∀ r, r < n → lq T r ((r + d) % n) d
def T0 : Tb := fun r => if r = 0 then some 0 else none
theorem ok0 {n : Nat} (hn : 0 < n) : Ok n [] T0 := by
  have h : ∀ r v, T0 r = some v → r = 0 ∧ v = 0 := fun r v h => by
    unfold T0 at h
    by_cases z : r = 0
    · rw [if_pos z] at h; exact ⟨z, by simpa using h.symm⟩
    · rw [if_neg z] at h; cases h
  refine ⟨fun r v e => by rw [(h r v e).1]; exact hn, rfl, fun r v e => ?_, fun d hd => by cases hd⟩
  obtain ⟨rfl, rfl⟩ := h r v e
  exact ⟨.zero, Nat.zero_mod _⟩
theorem paid_many {ks : List Nat} {c v : Nat} (hc : c ∈ ks) (h : KL.Paid ks v) : ∀ k, KL.Paid ks (v + k * c) := by
  intro k
  induction k with
  | zero => simpa using h
  | succ k ih => rw [Nat.add_mul, Nat.one_mul, ← Nat.add_assoc]; exact .add hc ih
theorem lq_many {n c : Nat} {T : Tb} (hn : 0 < n) (h : ∀ r, r < n → lq T r ((r + c) % n) c) : ∀ k r, r < n → lq T r ((r + k * c) % n) (k * c) := by
  intro k
  induction k with
  | zero => intro r hr; rw [Nat.zero_mul, Nat.add_zero, Nat.mod_eq_of_lt hr]; exact lq.refl
  | succ k ih =>
    intro r hr
    have a := (ih r hr).trans (h _ (Nat.mod_lt _ hn))
    rw [Nat.mod_add_mod, Nat.add_assoc] at a
    rw [Nat.add_mul, Nat.one_mul]
    exact a
theorem ok_put {n c : Nat} {ks : List Nat} {T : Tb} (hn : 0 < n) (O : Ok n ks T) : Ok n (ks ++ [c]) (puts n c T (Nat.gcd n c)) := by
  have hg : 0 < Nat.gcd n c := Nat.gcd_pos_of_pos_left c hn
  have done := puts_done (c := c) (T := T) hn (Nat.gcd n c) (Nat.le_refl _)
  have snd := puts_sound (c := c) O.dom (Nat.gcd n c)
  have hc : ∀ r, r < n → lq (puts n c T (Nat.gcd n c)) r ((r + c) % n) c := fun r hr => done r hr (Nat.mod_lt _ hg)
  refine ⟨fun r v h => (snd r v h).1, ?_, fun r v h => ?_, fun d hd r hr v hv => ?_⟩
  · obtain ⟨u, hu, h1⟩ := puts_mono (n := n) (c := c) O.zero (Nat.gcd n c)
    rw [hu]
    congr 1
    omega
  · obtain ⟨_, k, r0, v0, h1, h2, h3⟩ := snd r v h
    obtain ⟨p, q⟩ := O.sound r0 v0 h1
    refine ⟨?_, ?_⟩
    · rw [h2]
      exact paid_many (by simp) (p.mono fun x hx => by simp [hx]) k
    · rw [h2, h3, ← q, Nat.mod_add_mod]
  · rcases List.mem_append.mp hd with hd | hd
    · obtain ⟨_, k, r0, v0, h1, h2, h3⟩ := snd r v hv
      obtain ⟨u, hu, h4⟩ := O.closed d hd r0 (O.dom _ _ h1) v0 h1
      obtain ⟨u', hu', h5⟩ := puts_mono (n := n) (c := c) hu (Nat.gcd n c)
      obtain ⟨w, hw, h6⟩ := lq_many hn hc k _ (Nat.mod_lt (r0 + d) hn) u' hu'
      refine ⟨w, ?_, by omega⟩
      rw [← hw]
      congr 1
      rw [h3, Nat.mod_add_mod, Nat.mod_add_mod]
      congr 1
      omega
    · have : d = c := by simpa using hd
      subst this
      exact hc r hr v hv
theorem ok_least {n : Nat} {ks : List Nat} {T : Tb} (hn : 0 < n) (O : Ok n ks T) {v : Nat} (h : KL.Paid ks v) : ∃ u, T (v % n) = some u ∧ u ≤ v := by
  induction h with
  | zero => exact ⟨0, by rw [Nat.zero_mod]; exact O.zero, Nat.le_refl _⟩
  | @add c m hc p ih =>
    obtain ⟨u, hu, h1⟩ := ih
    obtain ⟨w, hw, h2⟩ := O.closed c hc _ (Nat.mod_lt m hn) u hu
    rw [Nat.mod_add_mod] at hw
    exact ⟨w, hw, by omega⟩
end KC

/-! least sums: the table of all coins; how great they are -/
namespace KC
def tbl (n : Nat) (ks : List Nat) : Tb := ks.foldl (fun T c => puts n c T (Nat.gcd n c)) T0
theorem tbl_fold {n : Nat} (hn : 0 < n) : ∀ (cs ks : List Nat) (T : Tb), Ok n ks T → Ok n (ks ++ cs) (cs.foldl (fun T c => puts n c T (Nat.gcd n c)) T)
  | [], ks, T, h => by rw [List.append_nil]; exact h
  | c :: cs, ks, T, h => by
    have := tbl_fold hn cs (ks ++ [c]) _ (ok_put (c := c) hn h)
    rw [List.append_assoc] at this
    exact this
theorem ok_tbl {n : Nat} (hn : 0 < n) (ks : List Nat) : Ok n ks (tbl n ks) := tbl_fold hn ks [] T0 (ok0 hn)
theorem tbl_snoc (n : Nat) (ks : List Nat) (c : Nat) : tbl n (ks ++ [c]) = puts n c (tbl n ks) (Nat.gcd n c) := by
  unfold tbl
  rw [List.foldl_append]
  rfl
/-- whether a sum is reached, by the table of a coin of these -/
def hits (T : Tb) (r v : Nat) : Bool := match T r with
  | none => false
  | some u => decide (u ≤ v)
theorem hits_iff {n : Nat} {ks : List Nat} (hn : 0 < n) (hm : n ∈ ks) (v : Nat) : hits (tbl n ks) (v % n) v = true ↔ KL.Paid ks v := by
  have O := ok_tbl hn ks
  unfold hits
  constructor
  · intro h
    cases e : tbl n ks (v % n) with
    | none => rw [e] at h; cases h
    | some u =>
      rw [e] at h
      have hu : u ≤ v := by simpa using h
      obtain ⟨p, q⟩ := O.sound _ _ e
      have h1 := Nat.div_add_mod u n
      have h2 := Nat.div_add_mod v n
      have h3 : u / n ≤ v / n := Nat.div_le_div_right hu
      have h4 : v = u + (v / n - u / n) * n := by
        rw [Nat.sub_mul, Nat.mul_comm (v / n), Nat.mul_comm (u / n)]
        have := Nat.mul_le_mul_left n h3
        omega
      rw [h4]
      exact paid_many hm p _
  · intro p
    obtain ⟨u, hu, h1⟩ := ok_least hn O p
    rw [hu]
    simpa using h1
theorem hits_pd {n : Nat} {ks : List Nat} (hp : ∀ c ∈ ks, 0 < c) (hm : n ∈ ks) (v : Nat) : hits (tbl n ks) (v % n) v = KL.pd ks v := by
  rw [Bool.eq_iff_iff, hits_iff (hp n hm) hm, KL.pd_paid hp]
/-- how many rests have a lesser one -/
def rk (T : Tb) (v : Nat) : Nat → Nat
  | 0 => 0
  | m + 1 => rk T v m + (match T m with | none => 0 | some w => if w < v then 1 else 0)
theorem rk_mono {T : Tb} {v w : Nat} (h : v ≤ w) : ∀ m, rk T v m ≤ rk T w m
  | 0 => Nat.le_refl _
  | m + 1 => by
    have := rk_mono (T := T) h m
    unfold rk
    cases T m with
    | none => exact this
    | some x =>
      simp only
      split <;> split <;> omega
theorem rk_more {T : Tb} {v w r : Nat} (h : v < w) (hr : T r = some v) : ∀ m, r < m → rk T v m + 1 ≤ rk T w m
  | 0, h => by omega
  | m + 1, hm => by
    unfold rk
    by_cases e : r = m
    · subst e
      rw [hr]
      have := rk_mono (T := T) (Nat.le_of_lt h) r
      simp only
      rw [if_neg (by omega), if_pos h]
      omega
    · have := rk_more h hr m (by omega)
      cases T m with
      | none => exact this
      | some x =>
        simp only
        split <;> split <;> omega
theorem rk_le {T : Tb} (v : Nat) : ∀ m, rk T v m ≤ m
  | 0 => Nat.le_refl _
  | m + 1 => by
    have := rk_le (T := T) v m
    unfold rk
    cases T m with
    | none => exact Nat.le_succ_of_le this
    | some x =>
      simp only
      split <;> omega
theorem rk_lt {T : Tb} {v r : Nat} (hr : T r = some v) : ∀ m, r < m → rk T v m < m
  | 0, h => by omega
  | m + 1, hm => by
    unfold rk
    by_cases e : r = m
    · subst e
      rw [hr]
      have := rk_le (T := T) v r
      simp only
      rw [if_neg (by omega)]
      omega
    · have := rk_lt hr m (by omega)
      cases T m with
      | none => exact Nat.lt_succ_of_lt this
      | some x =>
        simp only
        split <;> omega
theorem paid_last {ks : List Nat} {v : Nat} (p : KL.Paid ks v) : v = 0 ∨ ∃ c ∈ ks, ∃ w, KL.Paid ks w ∧ v = w + c := by
  cases p with
  | zero => exact .inl rfl
  | @add c m hc p => exact .inr ⟨c, hc, m, p, rfl⟩
theorem ok_rank {n G : Nat} {ks : List Nat} {T : Tb} (hn : 0 < n) (hp : ∀ c ∈ ks, 0 < c) (hG : ∀ c ∈ ks, c ≤ G) (O : Ok n ks T) : ∀ v r, T r = some v → v ≤ rk T v n * G := by
  intro v
  induction v using Nat.strongRecOn with
  | ind v ih =>
    intro r hr
    obtain ⟨p, hmod⟩ := O.sound _ _ hr
    rcases paid_last p with z | ⟨c, hc, w, pw, e⟩
    · omega
    · have hc0 := hp c hc
      have hcG := hG c hc
      obtain ⟨u, hu, h1⟩ := ok_least hn O pw
      obtain ⟨x, hx, h2⟩ := O.closed c hc _ (Nat.mod_lt w hn) u hu
      rw [Nat.mod_add_mod, ← e, hmod, hr] at hx
      have hx' : v = x := by simpa using hx
      have hr' := Nat.mod_lt w hn
      have := ih u (by omega) _ hu
      have h3 := rk_more (T := T) (v := u) (w := v) (by omega) hu n hr'
      have h4 := Nat.mul_le_mul_right G h3
      rw [Nat.add_mul] at h4
      omega
theorem ok_bound {n G : Nat} {ks : List Nat} {T : Tb} (hn : 0 < n) (hp : ∀ c ∈ ks, 0 < c) (hG : ∀ c ∈ ks, c ≤ G) (hm : n ≤ G) (O : Ok n ks T) {v r : Nat} (h : T r = some v) : v ≤ G * G := by
  have h1 := ok_rank hn hp hG O v r h
  have h2 := rk_le (T := T) v n
  exact Nat.le_trans h1 (Nat.mul_le_mul_right G (by omega))
end KC

/-! least costs by rests: steps of any cost -/
namespace KD
open KC
theorem go_sound {P : Nat → Nat} {c e n : Nat} {T : Tb} (hP : ∀ j, P (j + 1) = (P j + c) % n) (hT : ∀ r v, T r = some v → r < n) : ∀ i r v, go P e T i r = some v → r < n ∧ ∃ k r0 v0, T r0 = some v0 ∧ v = v0 + k * e ∧ r = (r0 + k * c) % n := by
  intro i
  induction i with
  | zero => intro r v h; exact ⟨hT r v h, 0, r, v, h, by omega, by rw [Nat.zero_mul, Nat.add_zero, Nat.mod_eq_of_lt (hT r v h)]⟩
  | succ i ih =>
    intro r v h
    have h' : rl (go P e T i) (P i) (P (i + 1)) e r = some v := h
    by_cases z : r = P (i + 1)
    · subst z
      rcases rl_cases (go P e T i) (P i) (P (i + 1)) e with w | ⟨x, hx, w⟩
      · rw [w] at h'; exact ih _ _ h'
      · rw [w] at h'
        have ev : x + e = v := by simpa using h'
        obtain ⟨h1, k, r0, v0, h2, h3, h4⟩ := ih _ _ hx
        refine ⟨by rw [hP]; exact Nat.mod_lt _ (by omega), k + 1, r0, v0, h2, by rw [Nat.add_mul]; omega, ?_⟩
        rw [hP, h4, Nat.mod_add_mod, Nat.add_mul, Nat.one_mul, Nat.add_assoc]
    · rw [rl_other z] at h'; exact ih _ _ h'
def puts (n c e : Nat) (T : Tb) : Nat → Tb
  | 0 => T
  | s + 1 => go (posn n c s) e (puts n c e T s) (2 * (n / Nat.gcd n c))
theorem puts_one (n c : Nat) (T : Tb) : ∀ s, puts n c c T s = KC.puts n c T s
  | 0 => rfl
  | s + 1 => by
    show go (posn n c s) c (puts n c c T s) _ = go (posn n c s) c (KC.puts n c T s) _
    rw [puts_one n c T s]
section
variable {n c e : Nat} {T : Tb}
theorem puts_mono {r v : Nat} (h : T r = some v) : ∀ s, ∃ u, puts n c e T s r = some u ∧ u ≤ v := by
  intro s
  induction s with
  | zero => exact ⟨v, h, Nat.le_refl _⟩
  | succ s ih =>
    obtain ⟨u, hu, h1⟩ := ih
    obtain ⟨x, hx, h2⟩ := go_mono (P := posn n c s) (c := e) hu (2 * (n / Nat.gcd n c))
    exact ⟨x, hx, by omega⟩
theorem puts_sound (hT : ∀ r v, T r = some v → r < n) : ∀ s r v, puts n c e T s r = some v → r < n ∧ ∃ k r0 v0, T r0 = some v0 ∧ v = v0 + k * e ∧ r = (r0 + k * c) % n := by
  intro s
  induction s with
  | zero => intro r v h; exact ⟨hT r v h, 0, r, v, h, by omega, by rw [Nat.zero_mul, Nat.add_zero, Nat.mod_eq_of_lt (hT r v h)]⟩
  | succ s ih =>
    intro r v h
    obtain ⟨h1, k, r1, v1, h2, h3, h4⟩ := go_sound (P := posn n c s) (posn_succ n c s) (fun r v h => (ih r v h).1) _ r v h
    obtain ⟨h5, k2, r0, v0, h6, h7, h8⟩ := ih _ _ h2
    refine ⟨h1, k + k2, r0, v0, h6, by rw [Nat.add_mul]; omega, ?_⟩
    rw [h4, h8, Nat.mod_add_mod, Nat.add_mul]
    congr 1
    omega
theorem puts_done (hn : 0 < n) : ∀ s, s ≤ Nat.gcd n c → ∀ r, r < n → r % Nat.gcd n c < s → lq (puts n c e T s) r ((r + c) % n) e := by
  intro s
  induction s with
  | zero => intro _ r _ h; omega
  | succ s ih =>
    intro hs r hr h
    by_cases z : r % Nat.gcd n c = s
    · obtain ⟨j, hj⟩ := posn_all (c := c) hn hr
      rw [z] at hj
      have R := posn_rd (c := c) hn s
      have per : ∀ k m, posn n c s (m + k * (n / Nat.gcd n c)) = posn n c s m := by
        intro k
        induction k with
        | zero => intro m; simp
        | succ k ih => intro m; rw [Nat.add_mul, Nat.one_mul, ← Nat.add_assoc, R.per, ih]
      have e2 : posn n c s (j % (n / Nat.gcd n c)) = r := by
        have := per (j / (n / Nat.gcd n c)) (j % (n / Nat.gcd n c))
        rw [Nat.mul_comm, Nat.mod_add_div] at this
        rw [← this, hj]
      have := go_done (c := e) (T := puts n c e T s) R _ (Nat.mod_lt j R.pos)
      rw [posn_succ, e2] at this
      exact this
    · have hk : ∀ x, x % Nat.gcd n c = r % Nat.gcd n c → puts n c e T (s + 1) x = puts n c e T s x := fun x hx =>
        go_other (fun j w => by
          have := posn_cls (n := n) (c := c) (s := s) (by omega) j
          rw [w, hx] at this
          exact z this) _
      have hx : ((r + c) % n) % Nat.gcd n c = r % Nat.gcd n c := by
        rw [Nat.mod_mod_of_dvd _ (Nat.gcd_dvd_left n c)]
        rw [Nat.add_mod, Nat.mod_eq_zero_of_dvd (Nat.gcd_dvd_right n c), Nat.add_zero, Nat.mod_mod]
      intro v hv
      rw [hk r rfl] at hv
      rw [hk _ hx]
      exact ih (by omega) r hr (by omega) v hv
end
/-- steps that come to s, and cost v -/
inductive Rea (ks : List (Nat × Nat)) : Nat → Nat → Prop
  | zero : Rea ks 0 0
  | add {c e s v : Nat} (h : (c, e) ∈ ks) (p : Rea ks s v) : Rea ks (s + c) (v + e)
theorem Rea.mono {ks ls : List (Nat × Nat)} (h : ∀ x ∈ ks, x ∈ ls) {s v : Nat} (p : Rea ks s v) : Rea ls s v := by
  induction p with
  | zero => exact .zero
  | add hc _ ih => exact .add (h _ hc) ih
theorem rea_many {ks : List (Nat × Nat)} {c e s v : Nat} (hc : (c, e) ∈ ks) (h : Rea ks s v) : ∀ k, Rea ks (s + k * c) (v + k * e) := by
  intro k
  induction k with
  | zero => simpa using h
  | succ k ih => rw [Nat.add_mul, Nat.one_mul, ← Nat.add_assoc, Nat.add_mul, Nat.one_mul, ← Nat.add_assoc]; exact .add hc ih
/-- the least costs of the rests by n -/
structure Ok (n : Nat) (ks : List (Nat × Nat)) (T : Tb) : Prop where
  dom : ∀ r v, T r = some v → r < n
  zero : T 0 = some 0
  sound : ∀ r v, T r = some v → ∃ s, Rea ks s v ∧ s % n = r
  closed : ∀ d ∈ ks, ∀ r, r < n → lq T r ((r + d.1) % n) d.2
theorem ok0 {n : Nat} (hn : 0 < n) : Ok n [] T0 := by
  have h : ∀ r v, T0 r = some v → r = 0 ∧ v = 0 := fun r v h => by
    unfold T0 at h
    by_cases z : r = 0
    · rw [if_pos z] at h; exact ⟨z, by simpa using h.symm⟩
    · rw [if_neg z] at h; cases h
  refine ⟨fun r v e => by rw [(h r v e).1]; exact hn, rfl, fun r v e => ?_, fun d hd => by cases hd⟩
  obtain ⟨rfl, rfl⟩ := h r v e
  exact ⟨0, .zero, Nat.zero_mod _⟩
theorem lq_many {n c e : Nat} {T : Tb} (hn : 0 < n) (h : ∀ r, r < n → lq T r ((r + c) % n) e) : ∀ k r, r < n → lq T r ((r + k * c) % n) (k * e) := by
  intro k
  induction k with
  | zero => intro r hr; rw [Nat.zero_mul, Nat.zero_mul, Nat.add_zero, Nat.mod_eq_of_lt hr]; exact lq.refl
  | succ k ih =>
    intro r hr
    have a := (ih r hr).trans (h _ (Nat.mod_lt _ hn))
    rw [Nat.mod_add_mod, Nat.add_assoc] at a
    rw [Nat.add_mul, Nat.one_mul, Nat.add_mul, Nat.one_mul]
    exact a
theorem ok_put {n c e : Nat} {ks : List (Nat × Nat)} {T : Tb} (hn : 0 < n) (O : Ok n ks T) : Ok n (ks ++ [(c, e)]) (puts n c e T (Nat.gcd n c)) := by
  have hg : 0 < Nat.gcd n c := Nat.gcd_pos_of_pos_left c hn
  have done := puts_done (c := c) (e := e) (T := T) hn (Nat.gcd n c) (Nat.le_refl _)
  have snd := puts_sound (c := c) (e := e) O.dom (Nat.gcd n c)
  have hc : ∀ r, r < n → lq (puts n c e T (Nat.gcd n c)) r ((r + c) % n) e := fun r hr => done r hr (Nat.mod_lt _ hg)
  refine ⟨fun r v h => (snd r v h).1, ?_, fun r v h => ?_, fun d hd r hr v hv => ?_⟩
  · obtain ⟨u, hu, h1⟩ := puts_mono (n := n) (c := c) (e := e) O.zero (Nat.gcd n c)
    rw [hu]
    congr 1
    omega
  · obtain ⟨_, k, r0, v0, h1, h2, h3⟩ := snd r v h
    obtain ⟨s, p, q⟩ := O.sound r0 v0 h1
    refine ⟨s + k * c, ?_, ?_⟩
    · rw [h2]
      exact rea_many (by simp) (p.mono fun x hx => by simp [hx]) k
    · rw [h3, ← q, Nat.mod_add_mod]
  · rcases List.mem_append.mp hd with hd | hd
    · obtain ⟨_, k, r0, v0, h1, h2, h3⟩ := snd r v hv
      obtain ⟨u, hu, h4⟩ := O.closed d hd r0 (O.dom _ _ h1) v0 h1
      obtain ⟨u', hu', h5⟩ := puts_mono (n := n) (c := c) (e := e) hu (Nat.gcd n c)
      obtain ⟨w, hw, h6⟩ := lq_many hn hc k _ (Nat.mod_lt (r0 + d.1) hn) u' hu'
      refine ⟨w, ?_, by omega⟩
      rw [← hw]
      congr 1
      rw [h3, Nat.mod_add_mod, Nat.mod_add_mod]
      congr 1
      omega
    · have : d = (c, e) := by simpa using hd
      subst this
      exact hc r hr v hv
theorem ok_least {n : Nat} {ks : List (Nat × Nat)} {T : Tb} (hn : 0 < n) (O : Ok n ks T) {s v : Nat} (h : Rea ks s v) : ∃ u, T (s % n) = some u ∧ u ≤ v := by
  induction h with
  | zero => exact ⟨0, by rw [Nat.zero_mod]; exact O.zero, Nat.le_refl _⟩
  | @add c e m x hc p ih =>
    obtain ⟨u, hu, h1⟩ := ih
    obtain ⟨w, hw, h2⟩ := O.closed _ hc _ (Nat.mod_lt m hn) u hu
    rw [Nat.mod_add_mod] at hw
    exact ⟨w, hw, by omega⟩
def tbl (n : Nat) (ks : List (Nat × Nat)) : Tb := ks.foldl (fun T d => puts n d.1 d.2 T (Nat.gcd n d.1)) T0
theorem tbl_fold {n : Nat} (hn : 0 < n) : ∀ (cs ks : List (Nat × Nat)) (T : Tb), Ok n ks T → Ok n (ks ++ cs) (cs.foldl (fun T d => puts n d.1 d.2 T (Nat.gcd n d.1)) T)
  | [], ks, T, h => by simpa using h
  | c :: cs, ks, T, h => by
    have := tbl_fold hn cs (ks ++ [c]) _ (ok_put (c := c.1) (e := c.2) hn h)
    simpa using this
theorem ok_tbl {n : Nat} (hn : 0 < n) (ks : List (Nat × Nat)) : Ok n ks (tbl n ks) := by
  have := tbl_fold hn ks [] T0 (ok0 hn)
  rwa [List.nil_append] at this
theorem tbl_snoc (n : Nat) (ks : List (Nat × Nat)) (d : Nat × Nat) : tbl n (ks ++ [d]) = puts n d.1 d.2 (tbl n ks) (Nat.gcd n d.1) := by
  unfold tbl
  rw [List.foldl_append]
  rfl
theorem tbl_one (n : Nat) (ks : List Nat) : tbl n (ks.map fun c => (c, c)) = KC.tbl n ks := by
  unfold tbl KC.tbl
  have key : ∀ (ks : List Nat) (T : Tb), (ks.map fun c => (c, c)).foldl (fun T d => puts n d.1 d.2 T (Nat.gcd n d.1)) T = ks.foldl (fun T c => KC.puts n c T (Nat.gcd n c)) T := by
    intro ks
    induction ks with
    | nil => intro T; rfl
    | cons c ks ih =>
      intro T
      rw [List.map_cons, List.foldl_cons, List.foldl_cons, ih]
      show List.foldl _ (puts n c c T (Nat.gcd n c)) ks = _
      rw [puts_one]
  exact key ks T0
end KD

namespace Kx
open PySem L2 MG KM
def optV : Option Nat → V
  | none => .non
  | some n => .int n
def tabO (n : Nat) (T : KC.Tb) : List V := (List.range n).map fun i => optV (T i)
theorem tabO_len {n : Nat} {f : KC.Tb} : (tabO n f).length = n := by simp [tabO]
theorem tabO_at {n i : Nat} {f : KC.Tb} (h : i < n) : (tabO n f)[i]? = some (optV (f i)) := by simp [tabO, h]
theorem tabO_congr {n : Nat} {f g : KC.Tb} (h : ∀ i, i < n → f i = g i) : tabO n f = tabO n g := by
  apply List.map_congr_left
  intro i hi
  rw [h i (List.mem_range.mp hi)]
theorem tabO_set {n i : Nat} {f : KC.Tb} {v : Option Nat} : (tabO n f).set i (optV v) = tabO n (fun j => if j = i then v else f j) := by
  apply List.ext_getElem?
  intro j
  rw [List.getElem?_set, tabO_len]
  by_cases hj : j < n
  · rw [tabO_at (f := fun j => if j = i then v else f j) hj, tabO_at (f := f) hj]
    by_cases e : i = j
    · rw [if_pos e, if_pos (by omega), if_pos e.symm]
    · rw [if_neg e, if_neg (fun z => e z.symm)]
  · have h1 : (tabO n fun j => if j = i then v else f j)[j]? = none := by
      rw [List.getElem?_eq_none_iff, tabO_len]; omega
    have h2 : (tabO n f)[j]? = none := by
      rw [List.getElem?_eq_none_iff, tabO_len]; omega
    rw [h1, h2]
    by_cases e : i = j
    · rw [if_pos e, if_neg (by omega)]
    · rw [if_neg e]
theorem tabO_rl {n p q c : Nat} {T : KC.Tb} {v : Nat} (h : KC.bst T p q c = some v) : (tabO n T).set q (.int (v : Nat)) = tabO n (KC.rl T p q c) := by
  have := tabO_set (n := n) (i := q) (f := T) (v := some v)
  refine this.trans (tabO_congr fun i _ => ?_)
  unfold KC.rl
  rw [h]
theorem tabO_stay {n p q c : Nat} {T : KC.Tb} (h : KC.bst T p q c = T q) : tabO n T = tabO n (KC.rl T p q c) := by
  refine tabO_congr fun i _ => ?_
  unfold KC.rl
  by_cases e : i = q
  · rw [if_pos e, h, e]
  · rw [if_neg e]
theorem tabO_t0 (g : Nat) : ([V.int 0] ++ List.replicate g V.non) = tabO (g + 1) KC.T0 := by
  apply List.ext_getElem?
  intro j
  by_cases hj : j < g + 1
  · rw [tabO_at hj]
    cases j with
    | zero => rfl
    | succ j =>
      rw [show ([V.int 0] ++ List.replicate g V.non)[j + 1]? = (List.replicate g V.non)[j]? from rfl, List.getElem?_replicate, if_pos (by omega)]
      rfl
  · rw [List.getElem?_eq_none (by simp; omega), List.getElem?_eq_none (by rw [tabO_len]; omega)]
theorem natL_pos {cs : List Int} (h : ∀ c ∈ cs, 1 ≤ c ∧ c ≤ 60) : ∀ c ∈ natL cs, 0 < c := fun c hc => by
  obtain ⟨d, hd, rfl⟩ := List.mem_map.mp hc
  have := h d hd
  omega
theorem natL_mem {cs : List Int} {n : Nat} (h : (n : Int) ∈ cs) : n ∈ natL cs := List.mem_map.mpr ⟨_, h, by simp⟩
theorem inV_int {cs : List Int} {k : Int} (h : k ∈ cs) : inV (.int k) (cs.map V.int) = true := by
  unfold inV
  rw [List.any_eq_true]
  exact ⟨.int k, List.mem_map.mpr ⟨k, h, rfl⟩, by show (k == k) = true; simp⟩
theorem posn_lt {n c s : Nat} (hn : 1 ≤ n) (i : Nat) : KC.posn n c s i < n := Nat.mod_lt _ hn
theorem posn_zero {n c s : Nat} (h : s < n) : KC.posn n c s 0 = s := by
  unfold KC.posn
  rw [Nat.zero_mul, Nat.add_zero, Nat.mod_eq_of_lt h]
theorem posn_int (n c s i : Nat) : (((KC.posn n c s i : Nat) : Int) + (c : Int)) % (n : Int) = ((KC.posn n c s (i + 1) : Nat) : Int) := by
  rw [KC.posn_succ]
  rfl
/-- the first sums found so far -/
def FirstOf (T : KC.Tb) (i b : Nat) (ms : List Int) : Prop := match T i with
  | none => ms = []
  | some v => if v < b then ms[0]? = some (v : Int) else ms = []
theorem first_step {n i j : Nat} {ks : List Nat} (hp : ∀ c ∈ ks, 0 < c) (hm : n ∈ ks) (hi : i < n) {ms : List Int} (h : FirstOf (KC.tbl n ks) i (i + j * n) ms) :
    FirstOf (KC.tbl n ks) i (i + (j + 1) * n) (if KL.pd ks (i + j * n) = true then ms ++ [((i + j * n : Nat) : Int)] else ms) := by
  have hn := hp n hm
  have O := KC.ok_tbl hn ks
  have hmod : ∀ k, (i + k * n) % n = i := fun k => by rw [Nat.add_mul_mod_self_right, Nat.mod_eq_of_lt hi]
  have hsucc : (j + 1) * n = j * n + n := by rw [Nat.add_mul, Nat.one_mul]
  -- a sum of this rest is either ahead of the next one or behind this one
  have key : ∀ v, KC.tbl n ks i = some v → v < i + (j + 1) * n → v < i + j * n ∨ v = i + j * n := fun v hv hlt => by
    have hr := (O.sound i v hv).2
    have h1 := Nat.div_add_mod v n
    rw [hr] at h1
    by_cases h2 : v / n ≤ j
    · have := Nat.mul_le_mul_left n h2
      rw [Nat.mul_comm n j] at this
      omega
    · have := Nat.mul_le_mul_left n (show j + 1 ≤ v / n by omega)
      rw [Nat.mul_comm n (j + 1)] at this
      omega
  unfold FirstOf at h ⊢
  cases e : KC.tbl n ks i with
  | none =>
    rw [e] at h
    have h' : ms = [] := h
    show (if KL.pd ks (i + j * n) = true then ms ++ [((i + j * n : Nat) : Int)] else ms) = []
    by_cases z : KL.pd ks (i + j * n) = true
    · obtain ⟨u, hu, _⟩ := KC.ok_least hn O (KL.paid_of _ z)
      rw [hmod, e] at hu
      cases hu
    · rw [if_neg z]; exact h'
  | some v =>
    rw [e] at h
    have h' : if v < i + j * n then ms[0]? = some (v : Int) else ms = [] := h
    show if v < i + (j + 1) * n then _ else _
    by_cases c1 : v < i + j * n
    · rw [if_pos c1] at h'
      rw [if_pos (by omega)]
      split
      · rw [List.getElem?_append_left (by
          have := (List.getElem?_eq_some_iff.mp h').1
          omega)]
        exact h'
      · exact h'
    · rw [if_neg c1] at h'
      subst h'
      by_cases c2 : v = i + j * n
      · have hpd : KL.pd ks (i + j * n) = true := KL.pd_of hp (by rw [← c2]; exact (O.sound i v e).1)
        rw [if_pos (by omega), if_pos hpd, c2]
        rfl
      · rw [if_neg (fun z => by have := key v e z; omega)]
        split
        · rename_i z
          obtain ⟨u, hu, h1⟩ := KC.ok_least hn O (KL.paid_of _ z)
          rw [hmod, e] at hu
          cases hu
          omega
        · rfl
theorem first_end {n i G : Nat} {ks : List Nat} (hp : ∀ c ∈ ks, 0 < c) (hm : n ∈ ks) (hG : ∀ c ∈ ks, c ≤ G) (hi : i < n) {ms : List Int} (h : FirstOf (KC.tbl n ks) i (i + ((G * G + 1 - i - 1) / n + 1) * n) ms) :
    (KC.tbl n ks i = none ∧ ms = []) ∨ ∃ v : Nat, KC.tbl n ks i = some v ∧ ms[0]? = some (v : Int) := by
  have hn := hp n hm
  have O := KC.ok_tbl hn ks
  unfold FirstOf at h
  cases e : KC.tbl n ks i with
  | none => rw [e] at h; exact .inl ⟨rfl, h⟩
  | some v =>
    rw [e] at h
    have hb := KC.ok_bound hn hp hG (hG n hm) O e
    have hlt : v < i + ((G * G + 1 - i - 1) / n + 1) * n := by
      have h1 := Nat.div_add_mod (G * G + 1 - i - 1) n
      have h2 := Nat.mod_lt (G * G + 1 - i - 1) hn
      rw [Nat.add_mul, Nat.one_mul, Nat.mul_comm _ n]
      omega
    have h' : if v < i + ((G * G + 1 - i - 1) / n + 1) * n then ms[0]? = some (v : Int) else ms = [] := h
    rw [if_pos hlt] at h'
    exact .inr ⟨v, rfl, h'⟩
theorem tabO_succ {n : Nat} {f : KC.Tb} : tabO (n + 1) f = tabO n f ++ [optV (f n)] := by
  unfold tabO
  rw [List.range_succ, List.map_append]
  rfl
/-- the sums to ask for, all of one rest -/
def R_great : L2.St → Hp → L2.St → Hp → Prop := fun σ H σ' H' => ∃ (pf : Addr) (fs : List Int), σ' = σ.set 6 (some (.ref pf)) ∧ H' pf = some (.lst (fs.map V.int)) ∧ Same H H' ∧ fs.length ≤ 4 ∧ (∀ b : Addr, σ[0]? = some (some (.ref b)) → Bw H b → pf ≠ b) ∧
  ∀ n k : Nat, σ[2]? = some (some (.int n)) → σ[5]? = some (some (.int k)) → ∀ x ∈ fs, ∃ a : Nat, x = a ∧ a ≤ 10 ^ 30 ∧ a % n = k
theorem big_ok {n k : Nat} {r : Int} (hn : 1 ≤ n) (hn60 : n ≤ 60) (hk : k < n) (h0 : 0 ≤ r) (h1 : r < 1000000000) : ∃ a : Nat, (1000000000000000000000000000000 - r) / (n : Int) * (n : Int) - (n : Int) + (k : Int) = a ∧ a ≤ 10 ^ 30 ∧ a % n = k := by
  obtain ⟨N, hN⟩ : ∃ N : Nat, 1000000000000000000000000000000 - r = N := ⟨(1000000000000000000000000000000 - r).toNat, by omega⟩
  rw [hN]
  have hd := Nat.div_mul_le_self N n
  have hq : 1 ≤ N / n := Nat.div_pos (by omega) (by omega)
  have e : N / n * n = (N / n - 1) * n + n := by
    rw [Nat.sub_mul, Nat.one_mul]
    have := Nat.mul_le_mul_right n hq
    omega
  refine ⟨(N / n - 1) * n + k, ?_, by omega, ?_⟩
  · have e2 : ((N / n * n : Nat) : Int) = (((N / n - 1) * n : Nat) : Int) + n := by rw [e, Int.natCast_add]
    have e3 : (N : Int) / (n : Int) * (n : Int) = ((N / n * n : Nat) : Int) := rfl
    rw [e3, e2]
    omega
  · rw [Nat.add_comm, Nat.add_mul_mod_self_right, Nat.mod_eq_of_lt hk]
theorem r_great_of {b p qd pf pg : Addr} {n i k : Nat} {v7 v8 : Option V} {H H' : Hp} {fs : List Int} (hpf : H' pf = some (.lst (fs.map V.int))) (s : Same H H') (hl : fs.length ≤ 4) (hb : Bw H b → pf ≠ b) (hfs : ∀ x ∈ fs, ∃ a : Nat, x = a ∧ a ≤ 10 ^ 30 ∧ a % n = k) :
    R_great [some (.ref b), some (.ref p), some (.int n), some (.ref qd), some (.int i), some (.int k), some (.ref pg), v7, v8] H [some (.ref b), some (.ref p), some (.int n), some (.ref qd), some (.int i), some (.int k), some (.ref pf), v7, v8] H' := by
  refine ⟨pf, fs, rfl, hpf, s, hl, fun b' e h => ?_, fun n' k' e1 e2 x hx => ?_⟩
  · have : b = b' := by simpa using e
    subst this
    exact hb h
  · have e1' : n = n' := by
      have : (n : Int) = n' := by simpa using e1
      omega
    have e2' : k = k' := by
      have : (k : Int) = k' := by simpa using e2
      omega
    subst e1'
    subst e2'
    exact hfs x hx
theorem shw_bb (x y : Bool) : Shw 16000000 90 (.list [.bool x, .bool y]) := by
  have hall : ∀ d ∈ [PyData.bool x, PyData.bool y], Shw 200002 1 d := fun d hd => by
    simp only [List.mem_cons, List.not_mem_nil, or_false] at hd
    rcases hd with rfl | rfl
    · exact shw_bool.mono (by decide) (by decide)
    · exact shw_bool.mono (by decide) (by decide)
  exact (shw_list (m := 2) hall (by simp)).mono (by decide) (by decide)
def datB (n : Nat) (f : Nat → Bool) : List PyData := (List.range n).map fun i => .bool (f i)
theorem dpB {K : PySem.W.Frag} {H : Hp} (f : Nat → Bool) : ∀ xs : List Nat, DpAll K H (xs.map fun i => V.bl (f i)) (xs.map fun i => PyData.bool (f i))
  | [] => .nil
  | n :: ns => .cons (.bl _) (dpB f ns)
theorem dp_tabB {K : PySem.W.Frag} {H : Hp} {a : Addr} {n : Nat} {f : Nat → Bool} (h : H a = some (.lst (tabB n f))) : Dp K H (.ref a) (.list (datB n f)) := .lst (.inl (.inl h)) (dpB f _)
theorem shw_tabB {n : Nat} {f : Nat → Bool} (h : n ≤ 200) : Shw 16000000 90 (.list (datB n f)) := by
  have hall : ∀ d ∈ datB n f, Shw 5 0 d := fun d hd => by
    obtain ⟨i, _, rfl⟩ := List.mem_map.mp hd
    exact shw_bool
  exact (shw_list (m := 200) hall (by simpa [datB] using h)).mono (by decide) (by decide)
theorem tabB_take {n k : Nat} {f : Nat → Bool} (h : k ≤ n) : (tabB n f).take k = tabB k f := by
  unfold tabB
  rw [← List.map_take, List.take_range, Nat.min_eq_left h]
def optD : Option Nat → PyData
  | none => .none
  | some n => .int n
def datO (n : Nat) (T : KC.Tb) : List PyData := (List.range n).map fun i => optD (T i)
theorem dpO {K : PySem.W.Frag} {H : Hp} (T : KC.Tb) : ∀ xs : List Nat, DpAll K H (xs.map fun i => optV (T i)) (xs.map fun i => optD (T i))
  | [] => .nil
  | n :: ns => by
    refine .cons ?_ (dpO T ns)
    show Dp K H (optV (T n)) (optD (T n))
    cases T n with
    | none => exact .non
    | some u => exact .int _
theorem dp_tabO {K : PySem.W.Frag} {H : Hp} {a : Addr} {n : Nat} {f : KC.Tb} (h : H a = some (.tup (tabO n f))) : Dp K H (.ref a) (.tuple (datO n f)) := .tup (.inl (.inl h)) (dpO f _)
theorem shw_tabO {n : Nat} {f : KC.Tb} (h : n ≤ 60) (hf : ∀ i u, f i = some u → u ≤ 3600) : Shw 60183 1 (.tuple (datO n f)) := by
  have hall : ∀ d ∈ datO n f, Shw 1001 0 d := fun d hd => by
    obtain ⟨i, _, rfl⟩ := List.mem_map.mp hd
    cases e : f i with
    | none => exact ⟨rfl, rfl, Nat.le_refl _, by decide⟩
    | some u =>
      have := hf i u e
      exact shw_int (Nat.lt_of_le_of_lt (show ((u : Nat) : Int).natAbs ≤ 3600 by omega) (by decide))
  exact (shw_tuple (m := 60) hall (by simpa [datO] using h)).mono (by decide) (by decide)
theorem shw_two {n : Nat} {f : KC.Tb} (h : n ≤ 60) (hf : ∀ i u, f i = some u → u ≤ 3600) : Shw 16000000 90 (.list [.tuple (datO n f), .tuple (datO n f)]) := by
  have hall : ∀ d ∈ [PyData.tuple (datO n f), PyData.tuple (datO n f)], Shw 60183 1 d := fun d hd => by
    simp only [List.mem_cons, List.not_mem_nil, or_false, or_self] at hd
    subst hd
    exact shw_tabO h hf
  exact (shw_list (m := 2) hall (by simp)).mono (by decide) (by decide)
/-! promises -/
def sp_check_amount : Sp := fun vs H Q _ => ∃ n : Int, vs = [.int n] ∧ 0 ≤ n ∧ n ≤ 10 ^ 30 ∧ Q .non H
/-- a step that leads on as c does -/
structure Stp (n : Nat) (st : Int) (c : Nat) : Prop where
  small : st.natAbs ≤ 60
  nz : st ≠ 0
  mod : ∀ x : Nat, ((x : Int) + st) % (n : Int) = (((x + c) % n : Nat) : Int)
  gcd : Nat.gcd n st.natAbs = Nat.gcd n c
theorem stp_pos {n c : Nat} (h1 : 1 ≤ c) (h : c ≤ 60) : Stp n (c : Int) c := ⟨by omega, by omega, fun x => rfl, by rw [Int.natAbs_natCast]⟩
def sp_put_step : Sp := fun vs H Q _ => ∃ (t : Addr) (st : Int) (c e n : Nat) (T : KC.Tb), vs = [.ref t, .int st, .int e] ∧ H t = some (.lst (tabO n T)) ∧ 1 ≤ n ∧ n ≤ 60 ∧ Stp n st c ∧ e ≤ 1000 ∧
  ∀ H', But t H H' → H' t = some (.lst (tabO n (KD.puts n c e T (Nat.gcd n c)))) → Q .non H'
/-- a list of steps with their costs -/
def Steps (H : Hp) (l : Addr) (n : Nat) (ks : List (Nat × Nat)) : Prop := ∃ ps : List Addr, H l = some (.lst (ps.map V.ref)) ∧ ps.length = ks.length ∧ ∀ (i : Nat) (p : Addr), ps[i]? = some p → ∃ (st : Int) (c e : Nat), ks[i]? = some (c, e) ∧ H p = some (.tup [.int st, .int e]) ∧ Stp n st c ∧ e ≤ 1000
def sp_least_totals : Sp := fun vs H Q _ => ∃ (l : Addr) (n : Nat) (ks : List (Nat × Nat)), vs = [.ref l, .int n] ∧ Steps H l n ks ∧ 1 ≤ n ∧ n ≤ 60 ∧
  ∀ q H', H q = none → Same H H' → H' q = some (.tup (tabO n (KD.tbl n ks))) → Q (.ref q) H'
def sp_least_by_rest : Sp := fun vs H Q _ => ∃ (t : Addr) (cs : List Int) (n : Nat), vs = [.ref t, .int n] ∧ H t = some (.tup (cs.map V.int)) ∧ Lotc cs ∧ 1 ≤ n ∧ n ≤ 60 ∧
  ∀ q H', H q = none → Same H H' → H' q = some (.tup (tabO n (KC.tbl n (natL cs)))) → Q (.ref q) H'
def sp_is_reached : Sp := fun vs H Q _ => ∃ (t : Addr) (n a : Nat) (T : KC.Tb), vs = [.ref t, .int a] ∧ H t = some (.tup (tabO n T)) ∧ 1 ≤ n ∧ n ≤ 60 ∧ Q (.bl (KC.hits T (a % n) a)) H
def sp_is_paid (C : Addr) : Sp := fun vs H Q _ => ∃ (p : Addr) (cs : List Int) (a : Nat), vs = [.ref p, .int a] ∧ LotAt C H p cs ∧ a ≤ 10 ^ 30 ∧ ∀ H', Same H H' → Q (.bl (pdI cs a)) H'
def sp_check_coin_of (C : Addr) : Sp := fun vs H Q _ => ∃ (p : Addr) (cs : List Int) (n : Int), vs = [.ref p, .int n] ∧ LotAt C H p cs ∧ n ∈ cs ∧ Q .non H
def sp_least_sums (C : Addr) : Sp := fun vs H Q _ => ∃ (p : Addr) (cs : List Int) (n : Nat), vs = [.ref p, .int n] ∧ LotAt C H p cs ∧ (n : Int) ∈ cs ∧
  ∀ q H', H q = none → Same H H' → H' q = some (.tup (tabO n (KC.tbl n (natL cs)))) → Q (.ref q) H'
def sp_l_least : Sp := fun vs H Q _ => ∃ (t : Addr) (cs : List Int) (G n : Nat), vs = [.ref t, .int n] ∧ H t = some (.lst (tabB (G * G + 1) (pdI cs))) ∧ Lotc cs ∧ (n : Int) ∈ cs ∧ (∀ c ∈ cs, c ≤ (G : Int)) ∧ G ≤ 60 ∧
  ∀ q H', H q = none → Same H H' → H' q = some (.tup (tabO n (KC.tbl n (natL cs)))) → Q (.ref q) H'
def sp_l_great (C : Addr) : Sp := fun vs H Q _ => ∃ (b p q : Addr) (cs : List Int) (n : Nat), vs = [.ref b, .ref p, .int n, .ref q] ∧ Bw H b ∧ LotAt C H p cs ∧ (n : Int) ∈ cs ∧ H q = some (.tup (tabO n (KC.tbl n (natL cs)))) ∧
  ∀ H', Bw H' b → But b H H' → Q (.bl true) H'
end Kx

/-! least and greatest lengths of sums, coin by coin -/
namespace KT
open KC
/-- n is paid with k coins -/
inductive Ln (cs : List Nat) : Nat → Nat → Prop
  | zero : Ln cs 0 0
  | add {c n k : Nat} (h : c ∈ cs) (p : Ln cs n k) : Ln cs (n + c) (k + 1)
theorem Ln.mono {cs ds : List Nat} (h : ∀ c ∈ cs, c ∈ ds) {n k : Nat} (p : Ln cs n k) : Ln ds n k := by
  induction p with
  | zero => exact .zero
  | add hc _ ih => exact .add (h _ hc) ih
theorem Ln.sum {cs : List Nat} {m n j k : Nat} (p : Ln cs m j) (q : Ln cs n k) : Ln cs (m + n) (j + k) := by
  induction q with
  | zero => exact p
  | @add c n k hc _ ih =>
    have := Ln.add hc ih
    rw [show m + (n + c) = m + n + c by omega, show j + (k + 1) = j + k + 1 by omega]
    exact this
theorem Ln.times {cs : List Nat} {c : Nat} (h : c ∈ cs) (j : Nat) : Ln cs (j * c) j := by
  induction j with
  | zero => rw [Nat.zero_mul]; exact .zero
  | succ j ih => rw [Nat.add_mul, Nat.one_mul]; exact .add h ih
theorem Ln.bounds {cs : List Nat} {L G n k : Nat} (hL : ∀ c ∈ cs, L ≤ c) (hG : ∀ c ∈ cs, c ≤ G) (p : Ln cs n k) : L * k ≤ n ∧ n ≤ G * k := by
  induction p with
  | zero => simp
  | @add c n k hc _ ih =>
    have h1 := hL c hc
    have h2 := hG c hc
    rw [Nat.mul_add, Nat.mul_add]
    omega
theorem Ln.paid {cs : List Nat} {n k : Nat} (p : Ln cs n k) : KL.Paid cs n := by
  induction p with
  | zero => exact .zero
  | add hc _ ih => exact .add hc ih
theorem paid_ln {cs : List Nat} {n : Nat} (p : KL.Paid cs n) : ∃ k, Ln cs n k := by
  induction p with
  | zero => exact ⟨0, .zero⟩
  | add hc _ ih => obtain ⟨k, h⟩ := ih; exact ⟨k + 1, .add hc h⟩
/-- one coin more -/
theorem ln_more {cs : List Nat} {c n k : Nat} : Ln (cs ++ [c]) n k ↔ Ln cs n k ∨ (c ≤ n ∧ 1 ≤ k ∧ Ln (cs ++ [c]) (n - c) (k - 1)) := by
  constructor
  · intro p
    induction p with
    | zero => exact .inl .zero
    | @add d n k hd p ih =>
      rcases List.mem_append.mp hd with h | h
      · rcases ih with i | ⟨i1, i0, i2⟩
        · exact .inl (.add h i)
        · refine .inr ⟨by omega, by omega, ?_⟩
          have e : n + d - c = (n - c) + d := by omega
          have e2 : k + 1 - 1 = (k - 1) + 1 := by omega
          rw [e, e2]
          exact .add hd i2
      · have e : d = c := by simpa using h
        subst e
        exact .inr ⟨by omega, by omega, by rw [Nat.add_sub_cancel, Nat.add_sub_cancel]; exact p⟩
  · rintro (p | ⟨h1, h0, p⟩)
    · exact p.mono fun c hc => List.mem_append_left _ hc
    · have := Ln.add (show c ∈ cs ++ [c] by simp) p
      rwa [Nat.sub_add_cancel h1, Nat.sub_add_cancel h0] at this
/-- the better one of two -/
def sel (b : Nat → Nat → Nat) : Option Nat → Option Nat → Option Nat
  | none, y => y
  | some x, none => some x
  | some x, some y => some (b x y)
/-- a coin's step over a table -/
def ost (b : Nat → Nat → Nat) (c : Nat) (T : Tb) (n : Nat) : Option Nat := if h : 0 < c ∧ c ≤ n then sel b (T n) ((ost b c T (n - c)).map (· + 1)) else T n
termination_by n
decreasing_by omega
theorem ost_ge {b : Nat → Nat → Nat} {c : Nat} {T : Tb} {n : Nat} (hc : 0 < c) (h : c ≤ n) : ost b c T n = sel b (T n) ((ost b c T (n - c)).map (· + 1)) := by
  rw [ost, dif_pos ⟨hc, h⟩]
theorem ost_lt {b : Nat → Nat → Nat} {c : Nat} {T : Tb} {n : Nat} (h : n < c) : ost b c T n = T n := by
  rw [ost, dif_neg (by omega)]
/-- a table half way through a coin's step -/
def ohf (b : Nat → Nat → Nat) (c : Nat) (T : Tb) (m n : Nat) : Option Nat := if n < m then ost b c T n else T n
theorem ohf_start (b : Nat → Nat → Nat) (c : Nat) (T : Tb) (n : Nat) : ohf b c T c n = T n := by
  unfold ohf
  split
  · exact ost_lt (by assumption)
  · rfl
theorem ohf_step {b : Nat → Nat → Nat} {c : Nat} (hc : 0 < c) (T : Tb) {m : Nat} (hm : c ≤ m) (n : Nat) : (if n = m then sel b (ohf b c T m m) ((ohf b c T m (m - c)).map (· + 1)) else ohf b c T m n) = ohf b c T (m + 1) n := by
  unfold ohf
  by_cases h : n = m
  · subst h
    rw [if_pos rfl, if_neg (by omega), if_pos (by omega), if_pos (by omega), ost_ge hc hm]
  · rw [if_neg h]
    by_cases h2 : n < m
    · rw [if_pos h2, if_pos (by omega)]
    · rw [if_neg h2, if_neg (by omega)]
theorem ohf_end {b : Nat → Nat → Nat} {c : Nat} {T : Tb} {k n : Nat} (h : n < k) : ohf b c T k n = ost b c T n := if_pos h
theorem ohf_none {b b' : Nat → Nat → Nat} {c : Nat} {T T' : Tb} (hT : ∀ n, T n = none ↔ T' n = none) : ∀ n, ost b c T n = none ↔ ost b' c T' n = none := by
  intro n
  induction n using Nat.strongRecOn with
  | ind n ih =>
    by_cases h : 0 < c ∧ c ≤ n
    · rw [ost_ge h.1 h.2, ost_ge h.1 h.2]
      have i := ih (n - c) (by omega)
      have t := hT n
      cases e1 : T n <;> cases e2 : T' n <;> cases e3 : ost b c T (n - c) <;> cases e4 : ost b' c T' (n - c) <;> simp_all [sel]
    · have e1 : ost b c T n = T n := by rw [ost, dif_neg h]
      have e2 : ost b' c T' n = T' n := by rw [ost, dif_neg h]
      rw [e1, e2]
      exact hT n
/-- the table of some coins -/
def otb (b : Nat → Nat → Nat) (cs : List Nat) : Tb := cs.foldl (fun T c => ost b c T) T0
theorem otb_snoc (b : Nat → Nat → Nat) (cs : List Nat) (c : Nat) : otb b (cs ++ [c]) = ost b c (otb b cs) := by
  unfold otb
  rw [List.foldl_append]
  rfl
theorem otb_none {b b' : Nat → Nat → Nat} (cs : List Nat) : ∀ n, otb b cs n = none ↔ otb b' cs n = none := by
  have key : ∀ (cs : List Nat) (T T' : Tb), (∀ n, T n = none ↔ T' n = none) → ∀ n, cs.foldl (fun T c => ost b c T) T n = none ↔ cs.foldl (fun T c => ost b' c T) T' n = none := by
    intro cs
    induction cs with
    | nil => intro T T' h; exact h
    | cons c cs ih => intro T T' h; exact ih _ _ (ohf_none h)
  exact key cs T0 T0 fun _ => Iff.rfl
/-- a table tells the best of what S has; le: at least as good -/
structure Best (le : Nat → Nat → Prop) (T : Tb) (S : Nat → Nat → Prop) : Prop where
  sound : ∀ n k, T n = some k → S n k
  best : ∀ n k, S n k → ∃ j, T n = some j ∧ le j k
/-- b is the better one by le -/
structure Sel (b : Nat → Nat → Nat) (le : Nat → Nat → Prop) : Prop where
  one : ∀ x y, b x y = x ∨ b x y = y
  left : ∀ x y, le (b x y) x
  right : ∀ x y, le (b x y) y
  refl : ∀ x, le x x
  trans : ∀ x y z, le x y → le y z → le x z
  succ : ∀ x y, le x y → le (x + 1) (y + 1)
theorem sel_min : Sel min (· ≤ ·) := ⟨fun x y => by omega, fun x y => by show min x y ≤ x; omega, fun x y => by show min x y ≤ y; omega, fun x => Nat.le_refl x, fun x y z h1 h2 => Nat.le_trans h1 h2, fun x y h => Nat.succ_le_succ h⟩
theorem sel_max : Sel max (fun x y => y ≤ x) := ⟨fun x y => by omega, fun x y => by show x ≤ max x y; omega, fun x y => by show y ≤ max x y; omega, fun x => Nat.le_refl x, fun x y z h1 h2 => Nat.le_trans h2 h1, fun x y h => Nat.succ_le_succ h⟩
theorem best_ost {b : Nat → Nat → Nat} {le : Nat → Nat → Prop} (hs : Sel b le) {cs : List Nat} {c : Nat} (hc : 0 < c) {T : Tb} (h : Best le T (Ln cs)) : Best le (ost b c T) (Ln (cs ++ [c])) := by
  have key : ∀ n, (∀ k, ost b c T n = some k → Ln (cs ++ [c]) n k) ∧ (∀ k, Ln (cs ++ [c]) n k → ∃ j, ost b c T n = some j ∧ le j k) := by
    intro n
    induction n using Nat.strongRecOn with
    | ind n ih =>
      have up : ∀ k, Ln cs n k → Ln (cs ++ [c]) n k := fun k p => p.mono fun c hc => List.mem_append_left _ hc
      by_cases hn : c ≤ n
      · obtain ⟨i1, i2⟩ := ih (n - c) (by omega)
        have more : ∀ k, ost b c T (n - c) = some k → Ln (cs ++ [c]) n (k + 1) := fun k e => ln_more.mpr (.inr ⟨hn, by omega, by rw [Nat.add_sub_cancel]; exact i1 k e⟩)
        rw [ost_ge hc hn]
        refine ⟨fun k e => ?_, fun k p => ?_⟩
        · cases e1 : T n with
          | none =>
            cases e2 : ost b c T (n - c) with
            | none => rw [e1, e2] at e; cases e
            | some y =>
              rw [e1, e2] at e
              have : y + 1 = k := by simpa [sel] using e
              rw [← this]
              exact more y e2
          | some x =>
            have hx := up x (h.sound n x e1)
            cases e2 : ost b c T (n - c) with
            | none =>
              rw [e1, e2] at e
              have : x = k := by simpa [sel] using e
              rw [← this]
              exact hx
            | some y =>
              rw [e1, e2] at e
              have : b x (y + 1) = k := by simpa [sel] using e
              rw [← this]
              rcases hs.one x (y + 1) with z | z
              · rw [z]; exact hx
              · rw [z]; exact more y e2
        · rcases ln_more.mp p with p | ⟨_, hk, p⟩
          · obtain ⟨j, hj, hl⟩ := h.best n k p
            rw [hj]
            cases e2 : ost b c T (n - c) with
            | none => exact ⟨j, rfl, hl⟩
            | some y => exact ⟨b j (y + 1), rfl, hs.trans _ _ _ (hs.left _ _) hl⟩
          · obtain ⟨j, hj, hl⟩ := i2 _ p
            have hl' : le (j + 1) k := by
              have := hs.succ _ _ hl
              rwa [Nat.sub_add_cancel hk] at this
            rw [hj]
            cases e1 : T n with
            | none => exact ⟨j + 1, rfl, hl'⟩
            | some x => exact ⟨b x (j + 1), rfl, hs.trans _ _ _ (hs.right _ _) hl'⟩
      · rw [ost_lt (by omega)]
        refine ⟨fun k e => up k (h.sound n k e), fun k p => ?_⟩
        rcases ln_more.mp p with p | ⟨z, _⟩
        · exact h.best n k p
        · omega
  exact ⟨fun n => (key n).1, fun n => (key n).2⟩
theorem best_t0 {le : Nat → Nat → Prop} (hr : ∀ x, le x x) : Best le T0 (Ln []) := by
  refine ⟨fun n k e => ?_, fun n k p => ?_⟩
  · unfold T0 at e
    split at e
    · rename_i h
      subst h
      have : 0 = k := by simpa using e
      subst this
      exact .zero
    · cases e
  · cases p with
    | zero => exact ⟨0, rfl, hr 0⟩
    | add h => cases h
theorem best_otb {b : Nat → Nat → Nat} {le : Nat → Nat → Prop} (hs : Sel b le) : ∀ (cs : List Nat), (∀ c ∈ cs, 0 < c) → Best le (otb b cs) (Ln cs) := by
  have key : ∀ (ds cs : List Nat) (T : Tb), (∀ c ∈ ds, 0 < c) → Best le T (Ln cs) → Best le (ds.foldl (fun T c => ost b c T) T) (Ln (cs ++ ds)) := by
    intro ds
    induction ds with
    | nil => intro cs T _ h; simpa using h
    | cons d ds ih =>
      intro cs T hd h
      have := ih (cs ++ [d]) (ost b d T) (fun c hc => hd c (by simp [hc])) (best_ost hs (hd d (by simp)) h)
      simpa using this
  intro cs hc
  have := key cs [] T0 hc (best_t0 hs.refl)
  rw [List.nil_append] at this
  exact this
/-- the least, the greatest lengths -/
abbrev few (cs : List Nat) : Tb := otb min cs
abbrev many (cs : List Nat) : Tb := otb max cs
theorem few_iff {cs : List Nat} (hp : ∀ c ∈ cs, 0 < c) {n k : Nat} : few cs n = some k ↔ Ln cs n k ∧ ∀ j, Ln cs n j → k ≤ j := by
  have B : Best (· ≤ ·) (few cs) (Ln cs) := best_otb sel_min cs hp
  constructor
  · intro e
    refine ⟨B.sound n k e, fun j p => ?_⟩
    obtain ⟨i, hi, hl⟩ := B.best n j p
    rw [e] at hi
    cases hi
    exact hl
  · rintro ⟨p, h⟩
    obtain ⟨i, hi, hl⟩ := B.best n k p
    have := h i (B.sound n i hi)
    have hl' : i ≤ k := hl
    rw [hi]
    congr 1
    omega
theorem many_iff {cs : List Nat} (hp : ∀ c ∈ cs, 0 < c) {n k : Nat} : many cs n = some k ↔ Ln cs n k ∧ ∀ j, Ln cs n j → j ≤ k := by
  have B : Best (fun x y => y ≤ x) (many cs) (Ln cs) := best_otb sel_max cs hp
  constructor
  · intro e
    refine ⟨B.sound n k e, fun j p => ?_⟩
    obtain ⟨i, hi, hl⟩ := B.best n j p
    rw [e] at hi
    cases hi
    exact hl
  · rintro ⟨p, h⟩
    obtain ⟨i, hi, hl⟩ := B.best n k p
    have := h i (B.sound n i hi)
    have hl' : k ≤ i := hl
    rw [hi]
    congr 1
    omega
theorem few_none {cs : List Nat} (hp : ∀ c ∈ cs, 0 < c) {n : Nat} : few cs n = none ↔ ∀ k, ¬ Ln cs n k := by
  have B : Best (· ≤ ·) (few cs) (Ln cs) := best_otb sel_min cs hp
  constructor
  · intro e k p
    obtain ⟨i, hi, _⟩ := B.best n k p
    rw [e] at hi
    cases hi
  · intro h
    cases e : few cs n with
    | none => rfl
    | some k => exact absurd (B.sound n k e) (h k)
/-- [14]: the least and the greatest length beside one another -/
theorem gap {cs : List Nat} {L G n f m : Nat} (hp : ∀ c ∈ cs, 0 < c) (hLm : L ∈ cs) (hGm : G ∈ cs) (hL : ∀ c ∈ cs, L ≤ c) (hG : ∀ c ∈ cs, c ≤ G) (hf : few cs n = some f) (hm : many cs n = some m) :
    L * m ≤ n ∧ n ≤ G * f ∧ (G ∣ n → G * f = n) ∧ (L ∣ n → L * m = n) := by
  obtain ⟨pf, lf⟩ := (few_iff hp).mp hf
  obtain ⟨pm, lm⟩ := (many_iff hp).mp hm
  obtain ⟨a1, a2⟩ := pf.bounds hL hG
  obtain ⟨b1, b2⟩ := pm.bounds hL hG
  refine ⟨b1, a2, ?_, ?_⟩
  · rintro ⟨j, rfl⟩
    have := lf j (by rw [Nat.mul_comm]; exact Ln.times hGm j)
    have := Nat.mul_le_mul_left G this
    omega
  · rintro ⟨j, rfl⟩
    have := lm j (by rw [Nat.mul_comm]; exact Ln.times hLm j)
    have := Nat.mul_le_mul_left L this
    omega
end KT

/-! math.lcm of small numbers -/
namespace L2
open PySem PySem.Spec PyProof.Rows
section
variable {X : Cx}
def rLcm : List V → Hp → VK → Prop := fun vs H Q => ∃ a b : Int, vs = [.int a, .int b] ∧ a.natAbs < 1000 ∧ b.natAbs < 1000 ∧ Q (.int ((Nat.lcm a.natAbs b.natAbs : Nat) : Int)) H
theorem cr_lcm : CallR X (.builtin "math.lcm") rLcm := by
  intro pins s σ H vs us Q I r h
  obtain ⟨a, b, rfl, ha, hb, q⟩ := h
  obtain ⟨t, u, rfl⟩ := Vals.int2 r
  have hl : Nat.lcm a.natAbs b.natAbs < 2 ^ 20 := by
    have h1 : Nat.lcm a.natAbs b.natAbs ≤ a.natAbs * b.natAbs := Nat.div_le_self _ _
    have h2 : a.natAbs * b.natAbs ≤ 1000 * 1000 := Nat.mul_le_mul (by omega) (by omega)
    exact Nat.lt_of_le_of_lt (Nat.le_trans h1 h2) (by decide)
  refine PySem.W.mg_lcm_v (by omega) (by omega) (by rw [Nat.lcm_one_left]) ?_ ⟨.int _, H, I.tok _, ⟨_, rfl⟩, q⟩
  have h3 : ((Nat.lcm a.natAbs b.natAbs : Nat) : Int).natAbs.log2 < 21 := by
    rw [Int.natAbs_natCast]
    by_cases z : Nat.lcm a.natAbs b.natAbs = 0
    · rw [z]; decide
    · exact (Nat.log2_lt z).mpr (by omega)
  exact Nat.lt_of_lt_of_le h3 (by decide)
end
end L2

namespace Kx
open PySem L2 MG KM
theorem tabO_ohf {b : Nat → Nat → Nat} {c n j : Nat} {T : KC.Tb} (hc : 0 < c) {v : Option Nat} (hv : KT.sel b (KT.ohf b c T (c + j) (c + j)) ((KT.ohf b c T (c + j) j).map (· + 1)) = v) :
    (tabO n (KT.ohf b c T (c + j))).set (c + j) (optV v) = tabO n (KT.ohf b c T (c + (j + 1))) := by
  rw [tabO_set]
  refine tabO_congr fun i _ => ?_
  have := KT.ohf_step (b := b) hc T (m := c + j) (by omega) i
  rw [show c + j - c = j by omega, hv] at this
  exact this
theorem tabO_ohf_stay {b : Nat → Nat → Nat} {c n j : Nat} {T : KC.Tb} (hc : 0 < c) (h : KT.ohf b c T (c + j) j = none) : tabO n (KT.ohf b c T (c + j)) = tabO n (KT.ohf b c T (c + (j + 1))) := by
  refine tabO_congr fun i _ => ?_
  have := KT.ohf_step (b := b) hc T (m := c + j) (by omega) i
  rw [show c + j - c = j by omega, h] at this
  refine Eq.trans ?_ this
  split
  · rename_i e
    subst e
    cases KT.ohf b c T (c + j) (c + j) <;> rfl
  · rfl
theorem ohf_same {b b' : Nat → Nat → Nat} {c m : Nat} {T T' : KC.Tb} (h : ∀ n, T n = none ↔ T' n = none) (n : Nat) : KT.ohf b c T m n = none ↔ KT.ohf b' c T' m n = none := by
  unfold KT.ohf
  split
  · exact KT.ohf_none h n
  · exact h n
theorem natL_snoc {cs : List Int} {i c : Nat} (hz : cs[i]? = some (c : Int)) : natL (cs.take (i + 1)) = natL (cs.take i) ++ [c] := by
  unfold natL
  rw [List.take_add_one, hz]
  simp
theorem first_min {cs : List Int} (hc : Lotc cs) {L : Int} (h : cs[0]? = some L) : ∀ c ∈ cs, L ≤ c := by
  obtain ⟨p, _⟩ := asc_pw hc.up
  match cs, h, p with
  | d :: r, h, p =>
    have e : d = L := by simpa using h
    subst e
    intro c hc'
    rcases List.mem_cons.mp hc' with rfl | hc'
    · exact Int.le_refl _
    · have := (List.pairwise_cons.mp p).1 c hc'
      omega
theorem str_facts {l g : Nat} (hl : 1 ≤ l) (hg : 1 ≤ g) (hl60 : l ≤ 60) (hg60 : g ≤ 60) : ∃ tp bo am : Nat, g / Nat.gcd l g = tp ∧ l / Nat.gcd l g = bo ∧ Nat.lcm l g = am ∧ tp * l = bo * g ∧ (∀ f m : Nat, g * f = l * m ↔ tp * f = bo * m) ∧ Nat.gcd tp bo = 1 ∧ 1 ≤ tp ∧ 1 ≤ bo ∧ tp ≤ 60 ∧ bo ≤ 60 ∧ 0 < am ∧ am ≤ 3540 ∧ (∀ n, am ∣ n ↔ l ∣ n ∧ g ∣ n) ∧ (∀ f m : Nat, l * m ≤ g * f → bo * m ≤ tp * f) := by
  have hd : 0 < Nat.gcd l g := Nat.gcd_pos_of_pos_left g hl
  have hcop := Nat.gcd_div_gcd_div_gcd_of_pos_left (n := l) (m := g) hl
  have hlcm := Nat.gcd_mul_lcm l g
  obtain ⟨tp, etp⟩ := Nat.gcd_dvd_right l g
  obtain ⟨bo, ebo⟩ := Nat.gcd_dvd_left l g
  have h1 : g / Nat.gcd l g = tp := Nat.div_eq_of_eq_mul_right hd etp
  have h2 : l / Nat.gcd l g = bo := Nat.div_eq_of_eq_mul_right hd ebo
  have htp : tp ≤ 60 := by rw [← h1]; exact Nat.le_trans (Nat.div_le_self _ _) hg60
  have hbo : bo ≤ 60 := by rw [← h2]; exact Nat.le_trans (Nat.div_le_self _ _) hl60
  have hdvd : ∀ n, Nat.lcm l g ∣ n ↔ l ∣ n ∧ g ∣ n := fun n => ⟨fun h => ⟨Nat.dvd_trans (Nat.dvd_lcm_left l g) h, Nat.dvd_trans (Nat.dvd_lcm_right l g) h⟩, fun h => Nat.lcm_dvd h.1 h.2⟩
  have hpos : 0 < Nat.lcm l g := Nat.lcm_pos hl hg
  have hle : Nat.lcm l g ≤ 3540 := by
    by_cases e : l = g
    · subst e
      have := Nat.le_of_dvd (by omega) ((hdvd l).mpr ⟨Nat.dvd_refl l, Nat.dvd_refl l⟩)
      omega
    · have h3 : Nat.lcm l g ≤ l * g := Nat.div_le_self _ _
      have h4 : l * g ≤ 3540 := by
        rcases Nat.lt_or_gt_of_ne e with z | z
        · exact Nat.mul_le_mul (show l ≤ 59 by omega) hg60
        · exact Nat.mul_le_mul hl60 (show g ≤ 59 by omega)
      omega
  rw [h1, h2] at hcop
  refine ⟨tp, bo, Nat.lcm l g, h1, h2, rfl, ?_, ?_, by rw [Nat.gcd_comm]; exact hcop, ?_, ?_, htp, hbo, hpos, hle, hdvd, ?_⟩
  all_goals generalize Nat.gcd l g = d at *
  · rw [etp, ebo]
    ac_rfl
  · intro f m
    rw [etp, ebo, Nat.mul_assoc, Nat.mul_assoc]
    exact ⟨fun h => Nat.eq_of_mul_eq_mul_left hd h, fun h => by rw [h]⟩
  · rcases Nat.eq_zero_or_pos tp with z | z
    · subst z; omega
    · exact z
  · rcases Nat.eq_zero_or_pos bo with z | z
    · subst z; omega
    · exact z
  · intro f m h
    rw [etp, ebo, Nat.mul_assoc, Nat.mul_assoc] at h
    exact Nat.le_of_mul_le_mul_left h hd
theorem shapedT (ns : List Int) : SeqAt.shaped (.tuple (ns.map .int)) = true := by
  obtain ⟨a, b⟩ := layI ns
  have d : (PyData.tuple (ns.map .int)).depth ≤ 64 := by
    show PyData.depthAll (ns.map PyData.int) + 1 ≤ 64
    omega
  have c : (PyData.tuple (ns.map .int)).canLay0 = true := a
  unfold SeqAt.shaped
  rw [c]
  simpa using d
/-! lengths: what the laws' own steps promise -/
def sp_l_tables : Sp := fun vs H Q _ => ∃ (t : Addr) (cs : List Int) (m : Nat), vs = [.ref t, .int m] ∧ H t = some (.tup (cs.map V.int)) ∧ Lotc cs ∧ m ≤ 8000 ∧
  ∀ q p1 p2 H', H q = none → H p1 = none → H p2 = none → Same H H' → H' q = some (.tup [.ref p1, .ref p2]) → H' p1 = some (.lst (tabO (m + 1) (KT.few (natL cs)))) → H' p2 = some (.lst (tabO (m + 1) (KT.many (natL cs)))) → Q (.ref q) H'
def sp_l_lowest : Sp := fun vs H Q _ => ∃ (a b : Nat), vs = [.int a, .int b] ∧ a < 1000 ∧ b < 1000 ∧ Nat.gcd a b = 1 ∧ ∀ H', Same H H' → Q (.bl true) H'
def sp_stretch (C : Addr) : Sp := fun vs H Q _ => ∃ (p : Addr) (cs : List Int) (L G : Nat), vs = [.ref p] ∧ LotAt C H p cs ∧ cs[0]? = some (L : Int) ∧ cs[cs.length - 1]? = some (G : Int) ∧
  ∀ q H', H q = none → Same H H' → H' q = some (.tup [.int (G / Nat.gcd L G : Nat), .int (L / Nat.gcd L G : Nat), .int (Nat.lcm L G : Nat)]) → Q (.ref q) H'
end Kx

/-! [12]: of great sums the least, the greatest length from those of lesser ones -/
namespace KT
theorem php : ∀ (G : Nat) (f : Nat → Nat), (∀ i, i ≤ G → f i < G) → ∃ i j, i < j ∧ j ≤ G ∧ f i = f j := by
  intro G
  induction G with
  | zero => intro f h; exact absurd (h 0 (Nat.le_refl _)) (by omega)
  | succ G ih =>
    intro f h
    by_cases q : ∃ i, i ≤ G ∧ f i = f (G + 1)
    · obtain ⟨i, hi, e⟩ := q
      exact ⟨i, G + 1, by omega, Nat.le_refl _, e⟩
    · have nq : ∀ i, i ≤ G → f i ≠ f (G + 1) := fun i hi e => q ⟨i, hi, e⟩
      have hv := h (G + 1) (Nat.le_refl _)
      obtain ⟨i, j, h1, h2, h3⟩ := ih (fun i => if f i = G then f (G + 1) else f i) fun i hi => by
        have h4 := h i (by omega)
        have h5 := nq i hi
        show (if f i = G then f (G + 1) else f i) < G
        split
        · rename_i e
          rw [e] at h5
          omega
        · omega
      refine ⟨i, j, h1, by omega, ?_⟩
      have n1 := nq i (by omega)
      have n2 := nq j h2
      have h3' : (if f i = G then f (G + 1) else f i) = (if f j = G then f (G + 1) else f j) := h3
      split at h3' <;> split at h3' <;> omega
/-- among G coins some come to a multiple of G -/
theorem mid {G : Nat} (hG : 1 ≤ G) {ds : List Nat} (hl : G ≤ ds.length) : ∃ a m z, ds = a ++ m ++ z ∧ m ≠ [] ∧ G ∣ m.sum := by
  obtain ⟨i, j, h1, h2, h3⟩ := php G (fun i => (ds.take i).sum % G) fun i _ => Nat.mod_lt _ hG
  have e1 : ds = ds.take i ++ (ds.take j).drop i ++ ds.drop j := by
    have : ds.take i = (ds.take j).take i := by rw [List.take_take, Nat.min_eq_left (by omega)]
    rw [this, List.take_append_drop, List.take_append_drop]
  have e2 : (ds.take j).sum = (ds.take i).sum + ((ds.take j).drop i).sum := by
    have : ds.take i = (ds.take j).take i := by rw [List.take_take, Nat.min_eq_left (by omega)]
    rw [this, ← List.sum_append, List.take_append_drop]
  refine ⟨_, _, _, e1, ?_, ?_⟩
  · intro z
    have := congrArg List.length z
    simp at this
    omega
  · have h3' : (ds.take i).sum % G = (ds.take j).sum % G := h3
    have h4 := Nat.div_add_mod (ds.take i).sum G
    have h5 := Nat.div_add_mod (ds.take j).sum G
    refine ⟨(ds.take j).sum / G - (ds.take i).sum / G, ?_⟩
    rw [Nat.mul_sub]
    omega
theorem ln_list {cs : List Nat} {n k : Nat} : Ln cs n k ↔ ∃ ds : List Nat, (∀ d ∈ ds, d ∈ cs) ∧ ds.sum = n ∧ ds.length = k := by
  constructor
  · intro p
    induction p with
    | zero => exact ⟨[], by simp, rfl, rfl⟩
    | @add c n k hc _ ih =>
      obtain ⟨ds, h1, h2, h3⟩ := ih
      refine ⟨c :: ds, ?_, ?_, ?_⟩
      · intro d hd
        rcases List.mem_cons.mp hd with rfl | hd
        · exact hc
        · exact h1 d hd
      · rw [List.sum_cons, h2, Nat.add_comm]
      · rw [List.length_cons, h3]
  · rintro ⟨ds, h1, rfl, rfl⟩
    induction ds with
    | nil => exact .zero
    | cons d ds ih =>
      rw [List.sum_cons, Nat.add_comm]
      exact .add (h1 d (by simp)) (ih fun x hx => h1 x (by simp [hx]))
theorem sum_le {ds : List Nat} {C : Nat} (h : ∀ d ∈ ds, d ≤ C) : ds.sum ≤ C * ds.length := by
  induction ds with
  | nil => simp
  | cons d ds ih =>
    have := ih fun x hx => h x (by simp [hx])
    have h0 := h d (by simp)
    rw [List.sum_cons, List.length_cons, Nat.mul_add, Nat.mul_one]
    omega
theorem sum_ge {ds : List Nat} {C : Nat} (h : ∀ d ∈ ds, C ≤ d) : C * ds.length ≤ ds.sum := by
  induction ds with
  | nil => simp
  | cons d ds ih =>
    have := ih fun x hx => h x (by simp [hx])
    have h0 := h d (by simp)
    rw [List.sum_cons, List.length_cons, Nat.mul_add, Nat.mul_one]
    omega
/-- a coin taken out of a payment that has it -/
theorem ln_out {cs ds : List Nat} {c : Nat} (h : ∀ d ∈ ds, d ∈ cs) (hc : c ∈ ds) : c ≤ ds.sum ∧ 1 ≤ ds.length ∧ Ln cs (ds.sum - c) (ds.length - 1) := by
  obtain ⟨a, z, rfl⟩ := List.append_of_mem hc
  have e1 : (a ++ c :: z).sum = (a ++ z).sum + c := by
    rw [List.sum_append, List.sum_append, List.sum_cons]
    omega
  have e2 : (a ++ c :: z).length = (a ++ z).length + 1 := by
    rw [List.length_append, List.length_append, List.length_cons]
    omega
  rw [e1, e2]
  refine ⟨by omega, by omega, ?_⟩
  rw [Nat.add_sub_cancel, Nat.add_sub_cancel]
  exact ln_list.mpr ⟨a ++ z, fun d hd => h d (by
    rcases List.mem_append.mp hd with q | q
    · exact List.mem_append_left _ q
    · exact List.mem_append_right _ (List.mem_cons_of_mem _ q)), rfl, rfl⟩
theorem few_back {cs : List Nat} {G C n : Nat} (hp : ∀ c ∈ cs, 0 < c) (hm : G ∈ cs) (hC : ∀ c ∈ cs, c ≠ G → c ≤ C) (hlt : ∀ c ∈ cs, c ≤ G) (hn : (G - 1) * C < n) :
    G ≤ n → few cs n = (few cs (n - G)).map (· + 1) := by
  intro hGn
  have hG := hp G hm
  have up : ∀ j, Ln cs (n - G) j → Ln cs n (j + 1) := fun j p => by
    have := Ln.add hm p
    rwa [Nat.sub_add_cancel hGn] at this
  cases e : few cs (n - G) with
  | none =>
    show few cs n = none
    rw [few_none hp]
    intro k p
    have hk : ∃ k, few cs n = some k := by
      cases e2 : few cs n with
      | none => exact absurd p ((few_none hp).mp e2 k)
      | some k => exact ⟨k, rfl⟩
    obtain ⟨k0, hk0⟩ := hk
    obtain ⟨p0, l0⟩ := (few_iff hp).mp hk0
    obtain ⟨ds, h1, h2, h3⟩ := ln_list.mp p0
    have hGd : G ∈ ds := by
      refine Classical.byContradiction fun hno => ?_
      have hle : ∀ d ∈ ds, d ≤ C := fun d hd => hC d (h1 d hd) fun z => hno (z ▸ hd)
      have hs := sum_le hle
      have hlen : G ≤ ds.length := by
        refine Classical.byContradiction fun z => ?_
        have : C * ds.length ≤ C * (G - 1) := Nat.mul_le_mul_left C (by omega)
        rw [Nat.mul_comm C (G - 1)] at this
        omega
      obtain ⟨a, m, z, e3, e4, q, e5⟩ := mid hG hlen
      have hml : ∀ d ∈ m, d ≤ G - 1 := fun d hd => by
        have hd' : d ∈ ds := by rw [e3]; simp [hd]
        have := hlt d (h1 d hd')
        have : d ≠ G := fun w => hno (w ▸ hd')
        omega
      have hms := sum_le hml
      have hmpos : 0 < m.length := List.length_pos_iff.mpr e4
      have hq : q < m.length := by
        refine Classical.byContradiction fun w => ?_
        have : G * m.length ≤ G * q := Nat.mul_le_mul_left G (by omega)
        have e6 : G * m.length = (G - 1) * m.length + m.length := by
          conv => lhs; rw [show G = (G - 1) + 1 by omega]
          rw [Nat.add_mul, Nat.one_mul]
        omega
      have p1 : Ln cs (a ++ z).sum (a ++ z).length := ln_list.mpr ⟨a ++ z, fun d hd => h1 d (by rw [e3]; simp at hd ⊢; rcases hd with h | h <;> simp [h]), rfl, rfl⟩
      have p2 := p1.sum (Ln.times hm q)
      have e7 : (a ++ z).sum + q * G = n := by
        rw [← h2, e3, List.sum_append, List.sum_append, List.sum_append, e5, Nat.mul_comm q G]
        omega
      rw [e7] at p2
      have := l0 _ p2
      rw [e3, List.length_append, List.length_append] at h3
      rw [List.length_append] at this
      omega
    obtain ⟨_, _, p4⟩ := ln_out h1 hGd
    rw [h2] at p4
    exact (few_none hp).mp e _ p4
  | some j =>
    obtain ⟨pj, lj⟩ := (few_iff hp).mp e
    show few cs n = some (j + 1)
    rw [few_iff hp]
    refine ⟨up j pj, fun k p => ?_⟩
    -- the least one of all
    have hk : ∃ k, few cs n = some k := by
      cases e2 : few cs n with
      | none => exact absurd p ((few_none hp).mp e2 k)
      | some k => exact ⟨k, rfl⟩
    obtain ⟨k0, hk0⟩ := hk
    obtain ⟨p0, l0⟩ := (few_iff hp).mp hk0
    obtain ⟨ds, h1, h2, h3⟩ := ln_list.mp p0
    have hGd : G ∈ ds := by
      refine Classical.byContradiction fun hno => ?_
      have hle : ∀ d ∈ ds, d ≤ C := fun d hd => hC d (h1 d hd) fun z => hno (z ▸ hd)
      have hs := sum_le hle
      have hlen : G ≤ ds.length := by
        refine Classical.byContradiction fun z => ?_
        have : C * ds.length ≤ C * (G - 1) := Nat.mul_le_mul_left C (by omega)
        rw [Nat.mul_comm C (G - 1)] at this
        omega
      obtain ⟨a, m, z, e3, e4, q, e5⟩ := mid hG hlen
      have hml : ∀ d ∈ m, d ≤ G - 1 := fun d hd => by
        have hd' : d ∈ ds := by rw [e3]; simp [hd]
        have := hlt d (h1 d hd')
        have : d ≠ G := fun w => hno (w ▸ hd')
        omega
      have hms := sum_le hml
      have hmpos : 0 < m.length := List.length_pos_iff.mpr e4
      have hq : q < m.length := by
        refine Classical.byContradiction fun w => ?_
        have : G * m.length ≤ G * q := Nat.mul_le_mul_left G (by omega)
        have e6 : G * m.length = (G - 1) * m.length + m.length := by
          conv => lhs; rw [show G = (G - 1) + 1 by omega]
          rw [Nat.add_mul, Nat.one_mul]
        omega
      have p1 : Ln cs (a ++ z).sum (a ++ z).length := ln_list.mpr ⟨a ++ z, fun d hd => h1 d (by rw [e3]; simp at hd ⊢; rcases hd with h | h <;> simp [h]), rfl, rfl⟩
      have p2 := p1.sum (Ln.times hm q)
      have e7 : (a ++ z).sum + q * G = n := by
        rw [← h2, e3, List.sum_append, List.sum_append, List.sum_append, e5, Nat.mul_comm q G]
        omega
      rw [e7] at p2
      have := l0 _ p2
      rw [e3, List.length_append, List.length_append] at h3
      rw [List.length_append] at this
      omega
    obtain ⟨_, _, p4⟩ := ln_out h1 hGd
    rw [h2] at p4
    have h5 := lj _ p4
    have h6 := l0 _ p
    omega
end KT

namespace KT
theorem few_some {cs : List Nat} (hp : ∀ c ∈ cs, 0 < c) {n k : Nat} (p : Ln cs n k) : ∃ j, few cs n = some j := by
  cases e : few cs n with
  | none => exact absurd p ((few_none hp).mp e k)
  | some k => exact ⟨k, rfl⟩
theorem many_some {cs : List Nat} (hp : ∀ c ∈ cs, 0 < c) {n k : Nat} (p : Ln cs n k) : ∃ j, many cs n = some j := by
  cases e : many cs n with
  | none =>
    have e2 : few cs n = none := (otb_none cs n).mpr e
    exact absurd p ((few_none hp).mp e2 k)
  | some k => exact ⟨k, rfl⟩
theorem many_has {cs : List Nat} {L G n k : Nat} (hp : ∀ c ∈ cs, 0 < c) (hm : L ∈ cs) (hL : ∀ c ∈ cs, L ≤ c) (hG : ∀ c ∈ cs, c ≤ G) (hn : (L - 1) * G < n) (e : many cs n = some k) : 1 ≤ k ∧ Ln cs (n - L) (k - 1) := by
  have hLp := hp L hm
  obtain ⟨p0, l0⟩ := (many_iff hp).mp e
  obtain ⟨ds, h1, h2, h3⟩ := ln_list.mp p0
  have hd : L ∈ ds := by
    refine Classical.byContradiction fun hno => ?_
    have hs := sum_le fun d hd => hG d (h1 d hd)
    have hlen : L ≤ ds.length := by
      refine Classical.byContradiction fun z => ?_
      have : G * ds.length ≤ G * (L - 1) := Nat.mul_le_mul_left G (by omega)
      rw [Nat.mul_comm G (L - 1)] at this
      omega
    obtain ⟨a, m, z, e3, e4, q, e5⟩ := mid hLp hlen
    have hml : ∀ d ∈ m, L + 1 ≤ d := fun d hd => by
      have hd' : d ∈ ds := by rw [e3]; simp [hd]
      have := hL d (h1 d hd')
      have : d ≠ L := fun w => hno (w ▸ hd')
      omega
    have hms := sum_ge hml
    have hmpos : 0 < m.length := List.length_pos_iff.mpr e4
    have hq : m.length < q := by
      refine Classical.byContradiction fun w => ?_
      have : L * q ≤ L * m.length := Nat.mul_le_mul_left L (by omega)
      rw [Nat.add_mul, Nat.one_mul] at hms
      omega
    have p1 : Ln cs (a ++ z).sum (a ++ z).length := ln_list.mpr ⟨a ++ z, fun d hd => h1 d (by rw [e3]; simp at hd ⊢; rcases hd with h | h <;> simp [h]), rfl, rfl⟩
    have p2 := p1.sum (Ln.times hm q)
    have e7 : (a ++ z).sum + q * L = n := by
      rw [← h2, e3, List.sum_append, List.sum_append, List.sum_append, e5, Nat.mul_comm q L]
      omega
    rw [e7] at p2
    have := l0 _ p2
    rw [e3, List.length_append, List.length_append] at h3
    rw [List.length_append] at this
    omega
  obtain ⟨_, h4, p4⟩ := ln_out h1 hd
  rw [h2, h3] at p4
  exact ⟨by omega, p4⟩
theorem many_back {cs : List Nat} {L G n : Nat} (hp : ∀ c ∈ cs, 0 < c) (hm : L ∈ cs) (hL : ∀ c ∈ cs, L ≤ c) (hG : ∀ c ∈ cs, c ≤ G) (hn : (L - 1) * G < n) (hLn : L ≤ n) : many cs n = (many cs (n - L)).map (· + 1) := by
  have up : ∀ j, Ln cs (n - L) j → Ln cs n (j + 1) := fun j p => by
    have := Ln.add hm p
    rwa [Nat.sub_add_cancel hLn] at this
  cases e : many cs (n - L) with
  | none =>
    show many cs n = none
    cases e2 : many cs n with
    | none => rfl
    | some k =>
      obtain ⟨_, p⟩ := many_has hp hm hL hG hn e2
      obtain ⟨j, hj⟩ := many_some hp p
      rw [e] at hj
      cases hj
  | some j =>
    obtain ⟨pj, lj⟩ := (many_iff hp).mp e
    show many cs n = some (j + 1)
    rw [many_iff hp]
    refine ⟨up j pj, fun k p => ?_⟩
    obtain ⟨k0, hk0⟩ := many_some hp p
    obtain ⟨h5, p4⟩ := many_has hp hm hL hG hn hk0
    have h6 := lj _ p4
    have h7 := ((many_iff hp).mp hk0).2 _ p
    omega
theorem map_map_succ (m : Nat) (x : Option Nat) : (x.map (· + m)).map (· + 1) = x.map (· + (m + 1)) := by
  cases x <;> rfl
/-- taken away m times -/
theorem back_times {f : Nat → Option Nat} {c last : Nat} (h : ∀ n, last < n → c ≤ n → f n = (f (n - c)).map (· + 1)) (hc : c ≤ last + 1) : ∀ m n, (m = 0 ∨ last + (m - 1) * c < n) → m * c ≤ n ∧ f n = (f (n - m * c)).map (· + m) := by
  intro m
  induction m with
  | zero => intro n _; refine ⟨by omega, ?_⟩; rw [Nat.zero_mul, Nat.sub_zero]; cases f n <;> rfl
  | succ m ih =>
    intro n hn
    have hn' : last + m * c < n := by
      rcases hn with hn | hn
      · omega
      · rwa [Nat.add_sub_cancel] at hn
    have h1 := h n (by omega) (by omega)
    obtain ⟨h2, h3⟩ := ih (n - c) (by
      rcases Nat.eq_zero_or_pos m with z | z
      · exact .inl z
      · right
        have e : m * c = (m - 1) * c + c := by
          rw [← Nat.succ_mul]
          congr 1
          omega
        omega)
    rw [Nat.add_mul, Nat.one_mul]
    refine ⟨by omega, ?_⟩
    rw [h1, h3, map_map_succ]
    congr 2
    omega
end KT

namespace Kx
open PySem L2 MG KM
theorem atI_neg2 {α : Type} {xs : List α} {v : α} (h : xs[xs.length - 2]? = some v) (h2 : 1 < xs.length) : atI xs (-2) = some v := by
  have e : ixN xs.length (-2) = some (xs.length - 2) := by
    unfold ixN
    rw [if_neg (by omega), if_pos (by omega)]
    congr 1
    omega
  unfold atI
  rw [e]
  exact h
theorem dp_optV {K : PySem.W.Frag} {H : Hp} : ∀ x : Option Nat, Dp K H (optV x) (optD x)
  | none => .non
  | some n => .int _
theorem dp_lstO {K : PySem.W.Frag} {H : Hp} {a : Addr} {n : Nat} {f : KC.Tb} (h : H a = some (.lst (tabO n f))) : Dp K H (.ref a) (.list (datO n f)) := .lst (.inl (.inl h)) (dpO f _)
theorem shw_opt {x : Option Nat} (h : ∀ u, x = some u → u ≤ 10 ^ 31) : Shw 1001 0 (optD x) := by
  cases x with
  | none => exact ⟨rfl, rfl, Nat.le_refl _, by decide⟩
  | some u =>
    have := h u rfl
    exact shw_int (Nat.lt_of_le_of_lt (show ((u : Nat) : Int).natAbs ≤ 10 ^ 31 by omega) (by decide +kernel))
theorem shw_lstO {n : Nat} {f : KC.Tb} (h : n ≤ 70) (hf : ∀ i u, i < n → f i = some u → u ≤ 4000) : Shw 80000 1 (.list (datO n f)) := by
  have hall : ∀ d ∈ datO n f, Shw 1001 0 d := fun d hd => by
    obtain ⟨i, hi, rfl⟩ := List.mem_map.mp hd
    exact shw_opt fun u hu => Nat.le_trans (hf i u (List.mem_range.mp hi) hu) (by decide +kernel)
  exact (shw_list (m := 70) hall (by simpa [datO] using h)).mono (by decide) (by decide)
theorem shw_lstO2 {n : Nat} {f g : KC.Tb} (h : n ≤ 70) (hf : ∀ i u, i < n → f i = some u → u ≤ 4000) (hg : ∀ i u, i < n → g i = some u → u ≤ 4000) : Shw 16000000 90 (.list [.list (datO n f), .list (datO n g)]) := by
  have hall : ∀ d ∈ [PyData.list (datO n f), PyData.list (datO n g)], Shw 80000 1 d := fun d hd => by
    simp only [List.mem_cons, List.not_mem_nil, or_false] at hd
    rcases hd with rfl | rfl
    · exact shw_lstO h hf
    · exact shw_lstO h hg
  exact (shw_list (m := 2) hall (by simp)).mono (by decide) (by decide)
theorem shw_opt2 {x y : Option Nat} (hx : ∀ u, x = some u → u ≤ 10 ^ 31) (hy : ∀ u, y = some u → u ≤ 10 ^ 31) : Shw 16000000 90 (.list [optD x, optD y]) := by
  have hall : ∀ d ∈ [optD x, optD y], Shw 1001 0 d := fun d hd => by
    simp only [List.mem_cons, List.not_mem_nil, or_false] at hd
    rcases hd with rfl | rfl
    · exact shw_opt hx
    · exact shw_opt hy
  exact (shw_list (m := 2) hall (by simp)).mono (by decide) (by decide)
theorem few_small {cs : List Int} (h : ∀ c ∈ cs, 1 ≤ c ∧ c ≤ 60) {n u : Nat} (e : KT.few (natL cs) n = some u) : u ≤ n := by
  have hp := natL_pos h
  have := (((KT.few_iff hp).mp e).1.bounds (L := 1) (G := 60) (fun c hc => hp c hc) (fun c hc => by
    obtain ⟨d, hd, rfl⟩ := List.mem_map.mp hc
    have := h d hd
    omega)).1
  omega
theorem many_small {cs : List Int} (h : ∀ c ∈ cs, 1 ≤ c ∧ c ≤ 60) {n u : Nat} (e : KT.many (natL cs) n = some u) : u ≤ n := by
  have hp := natL_pos h
  have := (((KT.many_iff hp).mp e).1.bounds (L := 1) (G := 60) (fun c hc => hp c hc) (fun c hc => by
    obtain ⟨d, hd, rfl⟩ := List.mem_map.mp hc
    have := h d hd
    omega)).1
  omega
/-! lengths: what the program promises -/
/-- the coin ahead of the greatest one; 1 if there is none -/
def AhC (cs : List Int) (C : Nat) : Prop := (cs.length = 1 ∧ C = 1) ∨ (1 < cs.length ∧ cs[cs.length - 2]? = some (C : Int))
theorem ahc_ex {cs : List Int} (hc : Lotc cs) : ∃ C, AhC cs C ∧ 1 ≤ C ∧ C ≤ 60 := by
  have hpos := List.length_pos_iff.mpr hc.ne
  by_cases h : 1 < cs.length
  · have h60 := lot_pos (Int.le_refl 0) hc.up (cs[cs.length - 2]'(by omega)) (List.getElem_mem _)
    refine ⟨(cs[cs.length - 2]'(by omega)).toNat, .inr ⟨h, ?_⟩, by omega, by omega⟩
    rw [Int.toNat_of_nonneg (by omega)]
    exact List.getElem?_eq_getElem _
  · exact ⟨1, .inl ⟨by omega, rfl⟩, by omega, by omega⟩
theorem ahc_le {cs : List Int} (hc : Lotc cs) {C G : Nat} (h : AhC cs C) (hG : cs[cs.length - 1]? = some (G : Int)) : ∀ c ∈ natL cs, c ≠ G → c ≤ C := by
  intro c hc' hne
  obtain ⟨d, hd, rfl⟩ := List.mem_map.mp hc'
  have h60 := lot_pos (Int.le_refl 0) hc.up d hd
  obtain ⟨i, hi, e⟩ := List.mem_iff_getElem.mp hd
  have hpw := (asc_pw hc.up).1
  rw [List.pairwise_iff_getElem] at hpw
  rcases h with ⟨h1, _⟩ | ⟨h1, h2⟩
  · have : i = cs.length - 1 := by omega
    subst this
    rw [List.getElem?_eq_getElem hi, e] at hG
    have : d = G := by simpa using hG
    omega
  · by_cases z : i = cs.length - 1
    · subst z
      rw [List.getElem?_eq_getElem hi, e] at hG
      have : d = G := by simpa using hG
      omega
    · rw [List.getElem?_eq_getElem (by omega)] at h2
      have h3 : cs[cs.length - 2]'(by omega) = (C : Int) := by simpa using h2
      by_cases w : i = cs.length - 2
      · subst w
        rw [e] at h3
        omega
      · have := hpw i (cs.length - 2) hi (by omega) (by omega)
        rw [h3, e] at this
        omega
/-- which of both lengths is looked for -/
def Sg (sg : Int) (b : Nat → Nat → Nat) : Prop := (sg = 1 ∧ b = min) ∨ (sg = -1 ∧ b = max)
def sp_last_without_greatest : Sp := fun vs H Q _ => ∃ (t : Addr) (cs : List Int) (C G : Nat), vs = [.ref t] ∧ H t = some (.tup (cs.map V.int)) ∧ Lotc cs ∧ AhC cs C ∧ cs[cs.length - 1]? = some (G : Int) ∧ Q (.int (((G - 1) * C : Nat) : Int)) H
def sp_last_without_least : Sp := fun vs H Q _ => ∃ (t : Addr) (cs : List Int) (L G : Nat), vs = [.ref t] ∧ H t = some (.tup (cs.map V.int)) ∧ Lotc cs ∧ cs[0]? = some (L : Int) ∧ cs[cs.length - 1]? = some (G : Int) ∧ Q (.int (((L - 1) * G : Nat) : Int)) H
def sp_brought_down : Sp := fun vs H Q _ => ∃ (n c last : Nat), vs = [.int n, .int c, .int last] ∧ 1 ≤ c ∧ c ≤ 60 ∧ last ≤ 3540 ∧ c ≤ last + 1 ∧ n ≤ 10 ^ 30 ∧
  ∀ (m left : Nat) q H', H q = none → Same H H' → (m = 0 ∨ last + (m - 1) * c < n) → left + m * c = n → left ≤ last → H' q = some (.tup [.int m, .int left]) → Q (.ref q) H'
def sp_length_table : Sp := fun vs H Q _ => ∃ (t : Addr) (cs : List Int) (m : Nat) (sg : Int) (b : Nat → Nat → Nat), vs = [.ref t, .int m, .int sg] ∧ H t = some (.tup (cs.map V.int)) ∧ Lotc cs ∧ m ≤ 8000 ∧ Sg sg b ∧
  ∀ q H', H q = none → Same H H' → H' q = some (.lst (tabO (m + 1) (KT.otb b (natL cs)))) → Q (.ref q) H'
def sp_frequent_place : Sp := fun vs H Q _ => ∃ (sg : Int) (b : Nat → Nat → Nat), vs = [.int sg] ∧ Sg sg b ∧ Q (.int (if sg = 1 then -1 else 0)) H
def sp_shortened : Sp := fun vs H Q _ => ∃ (t : Addr) (cs : List Int) (n : Nat) (sg : Int) (b : Nat → Nat → Nat), vs = [.ref t, .int n, .int sg] ∧ H t = some (.tup (cs.map V.int)) ∧ Lotc cs ∧ n ≤ 10 ^ 30 ∧ Sg sg b ∧
  ∀ (m left : Nat) q p H', H q = none → H p = none → Same H H' → H' q = some (.tup [.int m, .ref p]) → H' p = some (.lst (tabO (left + 1) (KT.otb b (natL cs)))) → KT.otb b (natL cs) n = (KT.otb b (natL cs) left).map (· + m) → left ≤ 3540 → (∀ c : Nat, (sg = 1 → cs[cs.length - 1]? = some (c : Int)) → (sg ≠ 1 → cs[0]? = some (c : Int)) → left + m * c = n) → Q (.ref q) H'
def sp_length_of (C : Addr) : Sp := fun vs H Q _ => ∃ (p : Addr) (cs : List Int) (n : Nat) (sg : Int) (b : Nat → Nat → Nat), vs = [.ref p, .int n, .int sg] ∧ LotAt C H p cs ∧ n ≤ 10 ^ 30 ∧ Sg sg b ∧ ∀ H', Same H H' → Q (optV (KT.otb b (natL cs) n)) H'
def sp_least (C : Addr) : Sp := fun vs H Q _ => ∃ (p : Addr) (cs : List Int) (n : Nat), vs = [.ref p, .int n] ∧ LotAt C H p cs ∧ n ≤ 10 ^ 30 ∧ ∀ H', Same H H' → Q (optV (KT.few (natL cs) n)) H'
def sp_most (C : Addr) : Sp := fun vs H Q _ => ∃ (p : Addr) (cs : List Int) (n : Nat), vs = [.ref p, .int n] ∧ LotAt C H p cs ∧ n ≤ 10 ^ 30 ∧ ∀ H', Same H H' → Q (optV (KT.many (natL cs) n)) H'
/-- the bounds of [12] as the law has them -/
def sp_l_edges : Sp := fun vs H Q _ => ∃ (t : Addr) (cs : List Int), vs = [.ref t] ∧ H t = some (.tup (cs.map V.int)) ∧ Lotc cs ∧ ∀ (e1 e2 : Nat) q H', H q = none → Same H H' → e1 ≤ 3540 → e2 ≤ 3540 → (∀ C G : Nat, AhC cs C → cs[cs.length - 1]? = some (G : Int) → (cs.length = 1 ∧ e1 = 0) ∨ e1 = (G - 1) * C) → (∀ L G : Nat, cs[0]? = some (L : Int) → cs[cs.length - 1]? = some (G : Int) → e2 = (L - 1) * G) → H' q = some (.lst [.int e1, .int e2]) → Q (.ref q) H'
theorem down_facts {n c last : Nat} (hc : 1 ≤ c) (hl : c ≤ last + 1) : ∃ m left : Nat, (if 0 < -(((last : Int) - (n : Int)) / (c : Int)) then -(((last : Int) - (n : Int)) / (c : Int)) else 0) = (m : Int) ∧ (n : Int) - (m : Int) * (c : Int) = (left : Int) ∧ (m = 0 ∨ last + (m - 1) * c < n) ∧ left + m * c = n ∧ left ≤ last := by
  have hd := Int.mul_ediv_add_emod ((last : Int) - (n : Int)) (c : Int)
  have h1 := Int.emod_nonneg ((last : Int) - (n : Int)) (show (c : Int) ≠ 0 by omega)
  have h2 := Int.emod_lt_of_pos ((last : Int) - (n : Int)) (show (0 : Int) < c by omega)
  generalize ((last : Int) - (n : Int)) / (c : Int) = q at hd ⊢
  generalize ((last : Int) - (n : Int)) % (c : Int) = r at hd h1 h2
  by_cases hq : 0 < -q
  · rw [if_pos hq]
    obtain ⟨m, rfl⟩ : ∃ m : Nat, q = -(m : Int) := ⟨(-q).toNat, by omega⟩
    have e : (c : Int) * -(m : Int) = -((m * c : Nat) : Int) := by rw [Int.mul_neg, Int.natCast_mul, Int.mul_comm]
    rw [e] at hd
    have hm1 : 1 ≤ m := by omega
    have e2 : m * c = (m - 1) * c + c := by
      rw [← Nat.succ_mul]
      congr 1
      omega
    refine ⟨m, n - m * c, by omega, ?_, .inr ?_, by omega, by omega⟩
    · rw [← Int.natCast_mul]
      omega
    · omega
  · rw [if_neg hq]
    have hq0 : 0 ≤ q := by omega
    have : 0 ≤ (c : Int) * q := Int.mul_nonneg (by omega) hq0
    exact ⟨0, n, rfl, by simp, .inl rfl, by simp, by omega⟩
end Kx

/-! [13]: losses and gains -/
namespace KT
open KC
theorem Ln.low {cs : List Nat} {L n k : Nat} (hL : ∀ c ∈ cs, L ≤ c) (p : Ln cs n k) : L * k ≤ n := by
  induction p with
  | zero => simp
  | @add c n k hc _ ih =>
    have h1 := hL c hc
    rw [Nat.mul_add]
    omega
theorem Ln.high {cs : List Nat} {G n k : Nat} (hG : ∀ c ∈ cs, c ≤ G) (p : Ln cs n k) : n ≤ G * k := by
  induction p with
  | zero => simp
  | @add c n k hc _ ih =>
    have h1 := hG c hc
    rw [Nat.mul_add]
    omega
theorem rea_loss {cs : List Nat} {G s v : Nat} (hG : ∀ c ∈ cs, c ≤ G) : KD.Rea (cs.map fun c => (c, G - c)) s v ↔ ∃ k, Ln cs s k ∧ v + s = G * k := by
  constructor
  · intro p
    induction p with
    | zero => exact ⟨0, .zero, rfl⟩
    | @add c e s v h _ ih =>
      obtain ⟨k, p, e1⟩ := ih
      obtain ⟨d, hd, e2⟩ := List.mem_map.mp h
      injection e2 with e3 e4
      subst e3
      subst e4
      have := hG d hd
      refine ⟨k + 1, .add hd p, ?_⟩
      rw [Nat.mul_add, Nat.mul_one]
      omega
  · rintro ⟨k, p, e⟩
    induction p generalizing v with
    | zero =>
      have : v = 0 := by simpa using e
      subst this
      exact .zero
    | @add c n k hc p ih =>
      have h1 := hG c hc
      have h2 := p.high hG
      rw [Nat.mul_add, Nat.mul_one] at e
      have := KD.Rea.add (ks := cs.map fun c => (c, G - c)) (c := c) (e := G - c) (List.mem_map.mpr ⟨c, hc, rfl⟩) (ih (v := G * k - n) (by omega))
      rw [show G * k - n + (G - c) = v by omega] at this
      exact this
theorem rea_gain {cs : List Nat} {L s v : Nat} (hL : ∀ c ∈ cs, L ≤ c) : KD.Rea (cs.map fun c => (c, c - L)) s v ↔ ∃ k, Ln cs s k ∧ s = v + L * k := by
  constructor
  · intro p
    induction p with
    | zero => exact ⟨0, .zero, rfl⟩
    | @add c e s v h _ ih =>
      obtain ⟨k, p, e1⟩ := ih
      obtain ⟨d, hd, e2⟩ := List.mem_map.mp h
      injection e2 with e3 e4
      subst e3
      subst e4
      have := hL d hd
      refine ⟨k + 1, .add hd p, ?_⟩
      rw [Nat.mul_add, Nat.mul_one]
      omega
  · rintro ⟨k, p, e⟩
    induction p generalizing v with
    | zero =>
      have : v = 0 := by omega
      subst this
      exact .zero
    | @add c n k hc p ih =>
      have h1 := hL c hc
      have h2 := p.low hL
      rw [Nat.mul_add, Nat.mul_one] at e
      have := KD.Rea.add (ks := cs.map fun c => (c, c - L)) (c := c) (e := c - L) (List.mem_map.mpr ⟨c, hc, rfl⟩) (ih (v := n - L * k) (by omega))
      rw [show n - L * k + (c - L) = v by omega] at this
      exact this
/-- brought down, with the same loss -/
theorem few_down {cs : List Nat} {G C : Nat} (hp : ∀ c ∈ cs, 0 < c) (hm : G ∈ cs) (hC : ∀ c ∈ cs, c ≠ G → c ≤ C) (hlt : ∀ c ∈ cs, c ≤ G) (hC1 : 1 ≤ C) : ∀ s f, few cs s = some f → ∃ t g, t ≤ (G - 1) * C ∧ t % G = s % G ∧ few cs t = some g ∧ G * g + s = G * f + t := by
  intro s
  induction s using Nat.strongRecOn with
  | ind s ih =>
    intro f hf
    by_cases h : s ≤ (G - 1) * C
    · exact ⟨s, f, h, rfl, hf, rfl⟩
    · have hG := hp G hm
      have hGs : G ≤ s := by
        have := Nat.mul_le_mul_left (G - 1) hC1
        omega
      have e := few_back hp hm hC hlt (show (G - 1) * C < s by omega) hGs
      rw [hf] at e
      cases e2 : few cs (s - G) with
      | none => rw [e2] at e; cases e
      | some g0 =>
        rw [e2] at e
        have e3 : f = g0 + 1 := by simpa using e
        obtain ⟨t, g, h1, h2, h3, h4⟩ := ih (s - G) (by omega) g0 e2
        refine ⟨t, g, h1, ?_, h3, ?_⟩
        · rw [h2, ← Nat.mod_eq_sub_mod hGs]
        · rw [e3, Nat.mul_add, Nat.mul_one]
          omega
theorem many_down {cs : List Nat} {L G : Nat} (hp : ∀ c ∈ cs, 0 < c) (hm : L ∈ cs) (hL : ∀ c ∈ cs, L ≤ c) (hG : ∀ c ∈ cs, c ≤ G) : ∀ s f, many cs s = some f → ∃ t g, t ≤ (L - 1) * G ∧ t % L = s % L ∧ many cs t = some g ∧ L * g + s = L * f + t := by
  intro s
  induction s using Nat.strongRecOn with
  | ind s ih =>
    intro f hf
    by_cases h : s ≤ (L - 1) * G
    · exact ⟨s, f, h, rfl, hf, rfl⟩
    · have hLp := hp L hm
      have hLs : L ≤ s := by
        have := Nat.mul_le_mul_left (L - 1) (show 1 ≤ G by have := hG L hm; omega)
        omega
      have e := many_back hp hm hL hG (show (L - 1) * G < s by omega) hLs
      rw [hf] at e
      cases e2 : many cs (s - L) with
      | none => rw [e2] at e; cases e
      | some g0 =>
        rw [e2] at e
        have e3 : f = g0 + 1 := by simpa using e
        obtain ⟨t, g, h1, h2, h3, h4⟩ := ih (s - L) (by omega) g0 e2
        refine ⟨t, g, h1, ?_, h3, ?_⟩
        · rw [h2, ← Nat.mod_eq_sub_mod hLs]
        · rw [e3, Nat.mul_add, Nat.mul_one]
          omega
/-- the least numbers by rests -/
def lbs (n : Nat) (T : Tb) (p : Nat × Nat) : Tb := fun r => if r = p.1 % n then sel min (T r) (some p.2) else T r
def lby (n : Nat) (ps : List (Nat × Nat)) : Tb := ps.foldl (lbs n) fun _ => none
theorem lby_snoc (n : Nat) (ps : List (Nat × Nat)) (p : Nat × Nat) : lby n (ps ++ [p]) = lbs n (lby n ps) p := by
  unfold lby
  rw [List.foldl_append]
  rfl
theorem lby_char (n : Nat) (ps : List (Nat × Nat)) (r : Nat) : (lby n ps r = none ∧ ∀ p ∈ ps, p.1 % n ≠ r) ∨ ∃ m, lby n ps r = some m ∧ (∃ p ∈ ps, p.1 % n = r ∧ p.2 = m) ∧ ∀ p ∈ ps, p.1 % n = r → m ≤ p.2 := by
  have key : ∀ (qs ps : List (Nat × Nat)) (T : Tb), ((T r = none ∧ ∀ p ∈ ps, p.1 % n ≠ r) ∨ ∃ m, T r = some m ∧ (∃ p ∈ ps, p.1 % n = r ∧ p.2 = m) ∧ ∀ p ∈ ps, p.1 % n = r → m ≤ p.2) →
      ((qs.foldl (lbs n) T r = none ∧ ∀ p ∈ ps ++ qs, p.1 % n ≠ r) ∨ ∃ m, qs.foldl (lbs n) T r = some m ∧ (∃ p ∈ ps ++ qs, p.1 % n = r ∧ p.2 = m) ∧ ∀ p ∈ ps ++ qs, p.1 % n = r → m ≤ p.2) := by
    intro qs
    induction qs with
    | nil => intro ps T h; simpa using h
    | cons q qs ih =>
      intro ps T h
      have := ih (ps ++ [q]) (lbs n T q) ?_
      · simpa using this
      · unfold lbs
        by_cases e : r = q.1 % n
        · rw [if_pos e]
          right
          rcases h with ⟨h1, h2⟩ | ⟨m, h1, ⟨p, hp, hp1, hp2⟩, h3⟩
          · rw [h1]
            refine ⟨q.2, rfl, ⟨q, by simp, e.symm, rfl⟩, fun p hp hr => ?_⟩
            rcases List.mem_append.mp hp with hp | hp
            · exact absurd hr (h2 p hp)
            · have : p = q := by simpa using hp
              rw [this]
              exact Nat.le_refl _
          · rw [h1]
            refine ⟨min m q.2, rfl, ?_, fun x hx hr => ?_⟩
            · by_cases z : m ≤ q.2
              · exact ⟨p, List.mem_append_left _ hp, hp1, by omega⟩
              · exact ⟨q, by simp, e.symm, by omega⟩
            · rcases List.mem_append.mp hx with hx | hx
              · have := h3 x hx hr
                omega
              · have : x = q := by simpa using hx
                rw [this]
                omega
        · rw [if_neg e]
          rcases h with ⟨h1, h2⟩ | ⟨m, h1, ⟨p, hp, hp1, hp2⟩, h3⟩
          · refine .inl ⟨h1, fun p hp hr => ?_⟩
            rcases List.mem_append.mp hp with hp | hp
            · exact h2 p hp hr
            · have : p = q := by simpa using hp
              exact e (by rw [← hr, this])
          · refine .inr ⟨m, h1, ⟨p, List.mem_append_left _ hp, hp1, hp2⟩, fun x hx hr => ?_⟩
            rcases List.mem_append.mp hx with hx | hx
            · exact h3 x hx hr
            · have : x = q := by simpa using hx
              exact absurd (by rw [← hr, this]) e
  have := key ps [] (fun _ => none) (.inl ⟨rfl, fun p hp => by cases hp⟩)
  rw [List.nil_append] at this
  exact this
/-- the losses of all paid sums up to a bound -/
def lossP (cs : List Nat) (G top : Nat) : List (Nat × Nat) := (List.range top).filterMap fun t => (few cs t).map fun f => (t, G * f - t)
def gainP (cs : List Nat) (L top : Nat) : List (Nat × Nat) := (List.range top).filterMap fun t => (many cs t).map fun f => (t, t - L * f)
theorem loss_tbl {cs : List Nat} {G C top : Nat} (hp : ∀ c ∈ cs, 0 < c) (hm : G ∈ cs) (hC : ∀ c ∈ cs, c ≠ G → c ≤ C) (hlt : ∀ c ∈ cs, c ≤ G) (hC1 : 1 ≤ C) (ht : (G - 1) * C < top) (r : Nat) :
    KD.tbl G (cs.map fun c => (c, G - c)) r = lby G (lossP cs G top) r := by
  have hG := hp G hm
  have O := KD.ok_tbl hG (cs.map fun c => (c, G - c))
  have mem : ∀ t v, (t, v) ∈ lossP cs G top ↔ t < top ∧ ∃ f, few cs t = some f ∧ v = G * f - t := by
    intro t v
    unfold lossP
    rw [List.mem_filterMap]
    constructor
    · rintro ⟨a, ha, e⟩
      cases ef : few cs a with
      | none => rw [ef] at e; cases e
      | some f =>
        rw [ef] at e
        have e' : (a, G * f - a) = (t, v) := by simpa using e
        injection e' with e1 e2
        subst e1
        exact ⟨List.mem_range.mp ha, f, ef, e2.symm⟩
    · rintro ⟨h1, f, h2, h3⟩
      exact ⟨t, List.mem_range.mpr h1, by rw [h2, h3]; rfl⟩
  -- each loss is that of a small sum or more
  have low : ∀ v, KD.tbl G (cs.map fun c => (c, G - c)) r = some v → ∃ t f, t < top ∧ t % G = r ∧ few cs t = some f ∧ G * f - t ≤ v := by
    intro v hv
    obtain ⟨s, p, hs⟩ := O.sound r v hv
    obtain ⟨k, pk, ek⟩ := (rea_loss hlt).mp p
    obtain ⟨f, hf⟩ := few_some hp pk
    have hfk := ((few_iff hp).mp hf).2 k pk
    obtain ⟨t, g, h1, h2, h3, h4⟩ := few_down hp hm hC hlt hC1 s f hf
    refine ⟨t, g, by omega, by rw [h2, hs], h3, ?_⟩
    have := Nat.mul_le_mul_left G hfk
    omega
  have up : ∀ t f, t < top → t % G = r → few cs t = some f → ∃ u, KD.tbl G (cs.map fun c => (c, G - c)) r = some u ∧ u ≤ G * f - t := by
    intro t f _ h2 h3
    have pf := ((few_iff hp).mp h3).1
    have hb := pf.high hlt
    have := KD.ok_least hG O ((rea_loss hlt).mpr ⟨f, pf, show G * f - t + t = G * f by omega⟩)
    rw [h2] at this
    exact this
  rcases lby_char G (lossP cs G top) r with ⟨h1, h2⟩ | ⟨m, h1, ⟨p, hp1, hp2, hp3⟩, h3⟩
  · rw [h1]
    cases e : KD.tbl G (cs.map fun c => (c, G - c)) r with
    | none => rfl
    | some v =>
      obtain ⟨t, f, a1, a2, a3, a4⟩ := low v e
      exact absurd a2 (h2 (t, G * f - t) ((mem _ _).mpr ⟨a1, f, a3, rfl⟩))
  · obtain ⟨b1, f, b2, b3⟩ := (mem p.1 p.2).mp hp1
    obtain ⟨u, hu, hu2⟩ := up p.1 f b1 hp2 b2
    obtain ⟨t, f', a1, a2, a3, a4⟩ := low u hu
    have := h3 (t, G * f' - t) ((mem _ _).mpr ⟨a1, f', a3, rfl⟩) a2
    rw [hu, h1]
    congr 1
    have : m ≤ G * f' - t := this
    omega
theorem gain_tbl {cs : List Nat} {L G top : Nat} (hp : ∀ c ∈ cs, 0 < c) (hm : L ∈ cs) (hL : ∀ c ∈ cs, L ≤ c) (hG : ∀ c ∈ cs, c ≤ G) (ht : (L - 1) * G < top) (r : Nat) :
    KD.tbl L (cs.map fun c => (c, c - L)) r = lby L (gainP cs L top) r := by
  have hLp := hp L hm
  have O := KD.ok_tbl hLp (cs.map fun c => (c, c - L))
  have mem : ∀ t v, (t, v) ∈ gainP cs L top ↔ t < top ∧ ∃ f, many cs t = some f ∧ v = t - L * f := by
    intro t v
    unfold gainP
    rw [List.mem_filterMap]
    constructor
    · rintro ⟨a, ha, e⟩
      cases ef : many cs a with
      | none => rw [ef] at e; cases e
      | some f =>
        rw [ef] at e
        have e' : (a, a - L * f) = (t, v) := by simpa using e
        injection e' with e1 e2
        subst e1
        exact ⟨List.mem_range.mp ha, f, ef, e2.symm⟩
    · rintro ⟨h1, f, h2, h3⟩
      exact ⟨t, List.mem_range.mpr h1, by rw [h2, h3]; rfl⟩
  have low : ∀ v, KD.tbl L (cs.map fun c => (c, c - L)) r = some v → ∃ t f, t < top ∧ t % L = r ∧ many cs t = some f ∧ t - L * f ≤ v := by
    intro v hv
    obtain ⟨s, p, hs⟩ := O.sound r v hv
    obtain ⟨k, pk, ek⟩ := (rea_gain hL).mp p
    obtain ⟨f, hf⟩ := many_some hp pk
    have hfk := ((many_iff hp).mp hf).2 k pk
    obtain ⟨t, g, h1, h2, h3, h4⟩ := many_down hp hm hL hG s f hf
    refine ⟨t, g, by omega, by rw [h2, hs], h3, ?_⟩
    have := Nat.mul_le_mul_left L hfk
    omega
  have up : ∀ t f, t < top → t % L = r → many cs t = some f → ∃ u, KD.tbl L (cs.map fun c => (c, c - L)) r = some u ∧ u ≤ t - L * f := by
    intro t f _ h2 h3
    have pf := ((many_iff hp).mp h3).1
    have hb := pf.low hL
    have := KD.ok_least hLp O ((rea_gain hL).mpr ⟨f, pf, show t = t - L * f + L * f by omega⟩)
    rw [h2] at this
    exact this
  rcases lby_char L (gainP cs L top) r with ⟨h1, h2⟩ | ⟨m, h1, ⟨p, hp1, hp2, hp3⟩, h3⟩
  · rw [h1]
    cases e : KD.tbl L (cs.map fun c => (c, c - L)) r with
    | none => rfl
    | some v =>
      obtain ⟨t, f, a1, a2, a3, a4⟩ := low v e
      exact absurd a2 (h2 (t, t - L * f) ((mem _ _).mpr ⟨a1, f, a3, rfl⟩))
  · obtain ⟨b1, f, b2, b3⟩ := (mem p.1 p.2).mp hp1
    obtain ⟨u, hu, hu2⟩ := up p.1 f b1 hp2 b2
    obtain ⟨t, f', a1, a2, a3, a4⟩ := low u hu
    have := h3 (t, t - L * f') ((mem _ _).mpr ⟨a1, f', a3, rfl⟩) a2
    rw [hu, h1]
    congr 1
    have : m ≤ t - L * f' := this
    omega
end KT

namespace Kx
open PySem L2 MG KM
def lossI (cs : List Int) (G : Nat) : KC.Tb := KD.tbl G ((natL cs).map fun c => (c, G - c))
def gainI (cs : List Int) (L : Nat) : KC.Tb := KD.tbl L ((natL cs).map fun c => (c, c - L))
def sp_losses (C : Addr) : Sp := fun vs H Q _ => ∃ (p : Addr) (cs : List Int) (G : Nat), vs = [.ref p] ∧ LotAt C H p cs ∧ cs[cs.length - 1]? = some (G : Int) ∧ ∀ q H', H q = none → Same H H' → H' q = some (.tup (tabO G (lossI cs G))) → Q (.ref q) H'
def sp_gains (C : Addr) : Sp := fun vs H Q _ => ∃ (p : Addr) (cs : List Int) (L : Nat), vs = [.ref p] ∧ LotAt C H p cs ∧ cs[0]? = some (L : Int) ∧ ∀ q H', H q = none → Same H H' → H' q = some (.tup (tabO L (gainI cs L))) → Q (.ref q) H'
/-- a list of pairs of numbers -/
def Prs (H : Hp) (l : Addr) (ps : List (Nat × Nat)) : Prop := ∃ rs : List Addr, H l = some (.lst (rs.map V.ref)) ∧ rs.length = ps.length ∧ ∀ (i : Nat) (p : Addr), rs[i]? = some p → ∃ x : Nat × Nat, ps[i]? = some x ∧ H p = some (.tup [.int x.1, .int x.2])
theorem Prs.same {H H' : Hp} {l : Addr} {ps : List (Nat × Nat)} (h : Prs H l ps) (s : Same H H') : Prs H' l ps := by
  obtain ⟨rs, a, b, c⟩ := h
  exact ⟨rs, s _ _ a, b, fun i p e => by obtain ⟨x, h1, h2⟩ := c i p e; exact ⟨x, h1, s _ _ h2⟩⟩
theorem Prs.new {l : Addr} {H : Hp} (h : H l = some (.lst [])) : Prs H l [] := ⟨[], h, rfl, fun i p e => by simp at e⟩
/-- one pair more -/
theorem Prs.more {H H5 : Hp} {l p5 : Addr} {ps : List (Nat × Nat)} {x : Nat × Nat} {rs : List Addr} (hl : H l = some (.lst (rs.map V.ref))) (hlen : rs.length = ps.length) (hps : ∀ (i : Nat) (p : Addr), rs[i]? = some p → ∃ x : Nat × Nat, ps[i]? = some x ∧ H p = some (.tup [.int x.1, .int x.2])) (s : Same H H5) (h5 : H5 p5 = some (.tup [.int x.1, .int x.2])) :
    Prs (upd H5 l (HO.lst (rs.map V.ref ++ [V.ref p5]))) l (ps ++ [x]) := by
  have key : ∀ (p : Addr) (y : Nat × Nat), H5 p = some (.tup [.int y.1, .int y.2]) → upd H5 l (HO.lst (rs.map V.ref ++ [V.ref p5])) p = some (.tup [.int y.1, .int y.2]) := fun p c h => by
    rw [upd_ne (fun z => by rw [z, s _ _ hl] at h; cases h)]
    exact h
  refine ⟨rs ++ [p5], by rw [upd_same]; simp, by simp [hlen], fun i p e => ?_⟩
  by_cases hi : i < rs.length
  · rw [List.getElem?_append_left hi] at e
    obtain ⟨y, h1, h2⟩ := hps i p e
    exact ⟨y, by rw [List.getElem?_append_left (by omega)]; exact h1, key _ _ (s _ _ h2)⟩
  · have hi2 : i = rs.length := by
      have := (List.getElem?_eq_some_iff.mp e).1
      simp at this
      omega
    subst hi2
    have : p5 = p := by simpa using e
    subst this
    refine ⟨x, ?_, key _ _ h5⟩
    rw [hlen]
    simp
theorem steps_of_prs {H : Hp} {l : Addr} {n : Nat} {ks : List (Nat × Nat)} (h : Prs H l ks) (hb : ∀ x ∈ ks, 1 ≤ x.1 ∧ x.1 ≤ 60 ∧ x.2 ≤ 1000) : Steps H l n ks := by
  obtain ⟨rs, h1, h2, h3⟩ := h
  refine ⟨rs, h1, h2, fun i p e => ?_⟩
  obtain ⟨x, h4, h5⟩ := h3 i p e
  obtain ⟨b1, b2, b3⟩ := hb x (List.mem_of_getElem? h4)
  exact ⟨_, x.1, x.2, h4, h5, stp_pos b1 b2, b3⟩
theorem items_snoc {f : Nat → Nat × Nat} {cs : List Int} {j c : Nat} (hz : cs[j]? = some (c : Int)) : ((natL cs).map f).take (j + 1) = ((natL cs).map f).take j ++ [f c] := by
  rw [List.take_add_one, List.getElem?_map]
  have : (natL cs)[j]? = some c := by
    unfold natL
    rw [List.getElem?_map, hz]
    rfl
  rw [this]
  rfl
/-- the paid sums below a bound -/
def paidN (ks : List Nat) (top : Nat) : List Nat := (List.range top).filter fun t => (KT.few ks t).isSome
theorem paidN_succ (ks : List Nat) (i : Nat) : paidN ks (i + 1) = if (KT.few ks i).isSome then paidN ks i ++ [i] else paidN ks i := by
  unfold paidN
  rw [List.range_succ, List.filter_append]
  cases h : (KT.few ks i).isSome <;> simp [h]
theorem paidN_len (ks : List Nat) (top : Nat) : (paidN ks top).length ≤ top := by
  have := List.length_filter_le (fun t => (KT.few ks t).isSome) (List.range top)
  rw [List.length_range] at this
  exact this
theorem paidN_mem {ks : List Nat} {top t : Nat} (h : t ∈ paidN ks top) : t < top ∧ ∃ f, KT.few ks t = some f := by
  obtain ⟨h1, h2⟩ := List.mem_filter.mp h
  refine ⟨List.mem_range.mp h1, ?_⟩
  cases e : KT.few ks t with
  | none => rw [e] at h2; cases h2
  | some f => exact ⟨f, rfl⟩
theorem filterMap_filter {T T' : Nat → Option Nat} (F : Nat → Nat → Nat × Nat) (h : ∀ t, T' t = none ↔ T t = none) : ∀ l : List Nat, l.filterMap (fun t => (T t).map (F t)) = (l.filter fun t => (T' t).isSome).map fun t => F t ((T t).getD 0)
  | [] => rfl
  | t :: l => by
    have ih := filterMap_filter F h l
    rw [List.filterMap_cons, List.filter_cons]
    have ht := h t
    cases e : T t with
    | none =>
      have e' := ht.mpr e
      rw [e']
      simpa using ih
    | some v =>
      cases e' : T' t with
      | none => rw [ht.mp e'] at e; cases e
      | some v' => simp [e, ih]
theorem lossP_eq (ks : List Nat) (G top : Nat) : KT.lossP ks G top = (paidN ks top).map fun t => (t, G * (KT.few ks t).getD 0 - t) := filterMap_filter (fun t f => (t, G * f - t)) (fun _ => Iff.rfl) _
theorem gainP_eq (ks : List Nat) (L top : Nat) : KT.gainP ks L top = (paidN ks top).map fun t => (t, t - L * (KT.many ks t).getD 0) := filterMap_filter (T := KT.many ks) (T' := KT.few ks) (fun t f => (t, t - L * f)) (fun t => KT.otb_none ks t) _
theorem lby_small {n r u B : Nat} {ps : List (Nat × Nat)} (h : ∀ p ∈ ps, p.2 ≤ B) (e : KT.lby n ps r = some u) : u ≤ B := by
  rcases KT.lby_char n ps r with ⟨h1, _⟩ | ⟨m, h1, ⟨p, hp, _, h2⟩, _⟩
  · rw [h1] at e; cases e
  · rw [h1] at e
    have : m = u := by simpa using e
    have := h p hp
    omega
theorem pairs_snoc {F : Nat → Nat × Nat} {ts : List Nat} {j t : Nat} (h : ts[j]? = some t) : (ts.map F).take (j + 1) = (ts.map F).take j ++ [F t] := by
  rw [List.take_add_one, List.getElem?_map, h]
  rfl
def sp_l_least_by : Sp := fun vs H Q _ => ∃ (l : Addr) (n : Nat) (ps : List (Nat × Nat)), vs = [.int n, .ref l] ∧ Prs H l ps ∧ 1 ≤ n ∧ n ≤ 60 ∧ ∀ q H', H q = none → Same H H' → H' q = some (.tup (tabO n (KT.lby n ps))) → Q (.ref q) H'
theorem shw_tabT {n : Nat} {f : KC.Tb} (h : n ≤ 60) (hf : ∀ i u, f i = some u → u ≤ 10 ^ 31) : Shw 60183 1 (.tuple (datO n f)) := by
  have hall : ∀ d ∈ datO n f, Shw 1001 0 d := fun d hd => by
    obtain ⟨i, _, rfl⟩ := List.mem_map.mp hd
    exact shw_opt (hf i)
  exact (shw_tuple (m := 60) hall (by simpa [datO] using h)).mono (by decide) (by decide)
theorem shw_twoT {n : Nat} {f : KC.Tb} (h : n ≤ 60) (hf : ∀ i u, f i = some u → u ≤ 10 ^ 31) : Shw 16000000 90 (.list [.tuple (datO n f), .tuple (datO n f)]) := by
  have hall : ∀ d ∈ [PyData.tuple (datO n f), PyData.tuple (datO n f)], Shw 60183 1 d := fun d hd => by
    simp only [List.mem_cons, List.not_mem_nil, or_false, or_self] at hd
    subst hd
    exact shw_tabT h hf
  exact (shw_list (m := 2) hall (by simp)).mono (by decide) (by decide)
theorem tabO_nones (n : Nat) : List.replicate n V.non = tabO n (fun _ => none) := by
  unfold tabO
  rw [List.map_const']
  simp
  exact .inr rfl
end Kx

/-! [13]: lengths of great sums by losses and gains -/
namespace KT
open KC
theorem lossP_mem {cs : List Nat} {G top t v : Nat} : (t, v) ∈ lossP cs G top ↔ t < top ∧ ∃ f, few cs t = some f ∧ v = G * f - t := by
  unfold lossP
  rw [List.mem_filterMap]
  constructor
  · rintro ⟨a, ha, e⟩
    cases ef : few cs a with
    | none => rw [ef] at e; cases e
    | some f =>
      rw [ef] at e
      have e' : (a, G * f - a) = (t, v) := by simpa using e
      injection e' with e1 e2
      subst e1
      exact ⟨List.mem_range.mp ha, f, ef, e2.symm⟩
  · rintro ⟨h1, f, h2, h3⟩
    exact ⟨t, List.mem_range.mpr h1, by rw [h2, h3]; rfl⟩
theorem gainP_mem {cs : List Nat} {L top t v : Nat} : (t, v) ∈ gainP cs L top ↔ t < top ∧ ∃ f, many cs t = some f ∧ v = t - L * f := by
  unfold gainP
  rw [List.mem_filterMap]
  constructor
  · rintro ⟨a, ha, e⟩
    cases ef : many cs a with
    | none => rw [ef] at e; cases e
    | some f =>
      rw [ef] at e
      have e' : (a, a - L * f) = (t, v) := by simpa using e
      injection e' with e1 e2
      subst e1
      exact ⟨List.mem_range.mp ha, f, ef, e2.symm⟩
  · rintro ⟨h1, f, h2, h3⟩
    exact ⟨t, List.mem_range.mpr h1, by rw [h2, h3]; rfl⟩
theorem same_rest {G s t : Nat} (hG : 0 < G) (h : s % G = t % G) (hle : t ≤ s) : ∃ q, s = t + q * G := by
  have h1 := Nat.div_add_mod s G
  have h2 := Nat.div_add_mod t G
  have h3 : t / G ≤ s / G := Nat.div_le_div_right hle
  refine ⟨s / G - t / G, ?_⟩
  rw [Nat.sub_mul, Nat.mul_comm (s / G), Nat.mul_comm (t / G)]
  have := Nat.mul_le_mul_left G h3
  omega
theorem few_exact {cs : List Nat} {G C top s : Nat} (hp : ∀ c ∈ cs, 0 < c) (hm : G ∈ cs) (hC : ∀ c ∈ cs, c ≠ G → c ≤ C) (hlt : ∀ c ∈ cs, c ≤ G) (hC1 : 1 ≤ C) (ht : (G - 1) * C < top) (hs : (G - 1) * C ≤ s) :
    few cs s = (lby G (lossP cs G top) (s % G)).map fun v => (s + v) / G := by
  have hG := hp G hm
  rcases lby_char G (lossP cs G top) (s % G) with ⟨h1, h2⟩ | ⟨m, h1, ⟨p, hp1, hp2, hp3⟩, h3⟩
  · rw [h1]
    show few cs s = none
    cases e : few cs s with
    | none => rfl
    | some f =>
      obtain ⟨t, g, a1, a2, a3, _⟩ := few_down hp hm hC hlt hC1 s f e
      exact absurd a2 (h2 (t, G * g - t) (lossP_mem.mpr ⟨by omega, g, a3, rfl⟩))
  · rw [h1]
    obtain ⟨_, f0, b2, b3⟩ := lossP_mem.mp (show (p.1, p.2) ∈ _ from hp1)
    obtain ⟨t1, f1, c1, c2, c3, c4⟩ := few_down hp hm hC hlt hC1 p.1 f0 b2
    obtain ⟨q, hq⟩ := same_rest hG (show s % G = t1 % G by rw [c2, hp2]) (by omega)
    have p1 := ((few_iff hp).mp c3).1
    have p2 := p1.sum (Ln.times hm q)
    rw [← hq] at p2
    obtain ⟨f, hf⟩ := few_some hp p2
    have hle := ((few_iff hp).mp hf).2 _ p2
    obtain ⟨t2, g2, d1, d2, d3, d4⟩ := few_down hp hm hC hlt hC1 s f hf
    have hge := h3 (t2, G * g2 - t2) (lossP_mem.mpr ⟨by omega, g2, d3, rfl⟩) d2
    have hge' : m ≤ G * g2 - t2 := hge
    have hi1 := p1.high hlt
    have hi2 := (((few_iff hp).mp d3).1).high hlt
    have hi0 := (((few_iff hp).mp b2).1).high hlt
    have hmul := Nat.mul_le_mul_left G hle
    rw [Nat.mul_add, Nat.mul_comm G q] at hmul
    have e : s + m = G * f := by omega
    rw [hf]
    show some f = some ((s + m) / G)
    rw [e, Nat.mul_div_cancel_left _ hG]
theorem many_exact {cs : List Nat} {L G top s : Nat} (hp : ∀ c ∈ cs, 0 < c) (hm : L ∈ cs) (hL : ∀ c ∈ cs, L ≤ c) (hG : ∀ c ∈ cs, c ≤ G) (ht : (L - 1) * G < top) (hs : (L - 1) * G ≤ s) :
    many cs s = (lby L (gainP cs L top) (s % L)).map fun v => (s - v) / L := by
  have hLp := hp L hm
  rcases lby_char L (gainP cs L top) (s % L) with ⟨h1, h2⟩ | ⟨m, h1, ⟨p, hp1, hp2, hp3⟩, h3⟩
  · rw [h1]
    show many cs s = none
    cases e : many cs s with
    | none => rfl
    | some f =>
      obtain ⟨t, g, a1, a2, a3, _⟩ := many_down hp hm hL hG s f e
      exact absurd a2 (h2 (t, t - L * g) (gainP_mem.mpr ⟨by omega, g, a3, rfl⟩))
  · rw [h1]
    obtain ⟨_, f0, b2, b3⟩ := gainP_mem.mp (show (p.1, p.2) ∈ _ from hp1)
    obtain ⟨t1, f1, c1, c2, c3, c4⟩ := many_down hp hm hL hG p.1 f0 b2
    obtain ⟨q, hq⟩ := same_rest hLp (show s % L = t1 % L by rw [c2, hp2]) (by omega)
    have p1 := ((many_iff hp).mp c3).1
    have p2 := p1.sum (Ln.times hm q)
    rw [← hq] at p2
    obtain ⟨f, hf⟩ := many_some hp p2
    have hle := ((many_iff hp).mp hf).2 _ p2
    obtain ⟨t2, g2, d1, d2, d3, d4⟩ := many_down hp hm hL hG s f hf
    have hge := h3 (t2, t2 - L * g2) (gainP_mem.mpr ⟨by omega, g2, d3, rfl⟩) d2
    have hge' : m ≤ t2 - L * g2 := hge
    have hi1 := p1.low hL
    have hi2 := (((many_iff hp).mp d3).1).low hL
    have hi0 := (((many_iff hp).mp b2).1).low hL
    have hif := (((many_iff hp).mp hf).1).low hL
    have hmul := Nat.mul_le_mul_left L hle
    rw [Nat.mul_add, Nat.mul_comm L q] at hmul
    have e : s - m = L * f := by omega
    rw [hf]
    show some f = some ((s - m) / L)
    rw [e, Nat.mul_div_cancel_left _ hLp]
theorem gain_le {cs : List Nat} {L G top s v : Nat} (hp : ∀ c ∈ cs, 0 < c) (hm : L ∈ cs) (hL : ∀ c ∈ cs, L ≤ c) (hG : ∀ c ∈ cs, c ≤ G) (ht : (L - 1) * G < top) (hs : (L - 1) * G ≤ s) (e : lby L (gainP cs L top) (s % L) = some v) : v ≤ s := by
  have h := many_exact hp hm hL hG ht hs
  rw [e] at h
  have h' : many cs s = some ((s - v) / L) := h
  obtain ⟨t, g, h1, h2, h3, h4⟩ := many_down hp hm hL hG s _ h'
  have hg := (((many_iff hp).mp h3).1).low hL
  have hf := (((many_iff hp).mp h').1).low hL
  rcases lby_char L (gainP cs L top) (s % L) with ⟨z, _⟩ | ⟨m, z, _, h5⟩
  · rw [z] at e; cases e
  · rw [z] at e
    have em : m = v := by simpa using e
    have : m ≤ t - L * g := h5 (t, t - L * g) (gainP_mem.mpr ⟨by omega, g, h3, rfl⟩) h2
    omega
/-- a small sum's loss is not less than told -/
theorem few_near {cs : List Nat} {G top s f : Nat} (hs : s < top) (hf : few cs s = some f) : ∃ v, lby G (lossP cs G top) (s % G) = some v ∧ v ≤ G * f - s := by
  have hmem := (lossP_mem (G := G)).mpr ⟨hs, f, hf, rfl⟩
  rcases lby_char G (lossP cs G top) (s % G) with ⟨h1, h2⟩ | ⟨m, h1, _, h3⟩
  · exact absurd rfl (h2 _ hmem)
  · exact ⟨m, h1, h3 _ hmem rfl⟩
theorem many_near {cs : List Nat} {L top s f : Nat} (hs : s < top) (hf : many cs s = some f) : ∃ v, lby L (gainP cs L top) (s % L) = some v ∧ v ≤ s - L * f := by
  have hmem := (gainP_mem (L := L)).mpr ⟨hs, f, hf, rfl⟩
  rcases lby_char L (gainP cs L top) (s % L) with ⟨h1, h2⟩ | ⟨m, h1, _, h3⟩
  · exact absurd rfl (h2 _ hmem)
  · exact ⟨m, h1, h3 _ hmem rfl⟩
end KT

/-! max and min of a list, read from the tracked heap alone -/
namespace MG
open PySem PySem.Spec PyProof.Rows L2
def rMaxH : List V → Hp → VK → Prop := fun vs H Q => ∃ (a : Addr) (ns : List Int), vs = [V.ref a] ∧ H a = some (.lst (ns.map V.int)) ∧ 0 < ns.length ∧ ∀ m, m ∈ ns → (∀ y, y ∈ ns → y ≤ m) → Q (.int m) H
theorem max_H {X : Cx} (hc : X.calm = true) : CallR X (.builtin "max") rMaxH := by
  intro pins s σ H vs us Q I r h
  obtain ⟨a, ns, h1, h2, q⟩ := h
  exact cr_max hc pins s σ H vs us Q I r ⟨a, ns, h1, .inl (.inl h2), q⟩
end MG

namespace Kx
open PySem L2 MG KM
def sp_l_least_byL : Sp := fun vs H Q _ => ∃ (l : Addr) (n : Nat) (ps : List (Nat × Nat)), vs = [.int n, .ref l] ∧ Prs H l ps ∧ 1 ≤ n ∧ n ≤ 60 ∧ ∀ q H', H q = none → Same H H' → H' q = some (.lst (tabO n (KT.lby n ps))) → Q (.ref q) H'
def sp_l_few : Sp := fun vs H Q _ => ∃ (t : Addr) (cs : List Int) (G s : Nat) (x : Option Nat), vs = [.ref t, optV x, .int s] ∧ H t = some (.tup (cs.map V.int)) ∧ cs[cs.length - 1]? = some (G : Int) ∧ 1 ≤ G ∧ G ≤ 60 ∧ Q (optV (x.map fun v => (s + v) / G)) H
def sp_l_many_of : Sp := fun vs H Q _ => ∃ (t : Addr) (cs : List Int) (L s : Nat) (x : Option Nat), vs = [.ref t, optV x, .int s] ∧ H t = some (.tup (cs.map V.int)) ∧ cs[0]? = some (L : Int) ∧ 1 ≤ L ∧ L ≤ 60 ∧ (∀ v, x = some v → v ≤ s) ∧ Q (optV (x.map fun v => (s - v) / L)) H
/-- the losses and gains found by own steps -/
structure Costs (H : Hp) (pc : Addr) (cs : List Int) (L G C top : Nat) : Prop where
  ex : ∃ pa pb, H pc = some (.lst [.ref pa, .ref pb]) ∧ H pa = some (.lst (tabO G (KT.lby G (KT.lossP (natL cs) G top)))) ∧ H pb = some (.lst (tabO L (KT.lby L (KT.gainP (natL cs) L top))))
  lo : cs[0]? = some (L : Int)
  hi : cs[cs.length - 1]? = some (G : Int)
  ah : AhC cs C
  pos : 1 ≤ C
  t1 : (G - 1) * C < top
  t2 : (L - 1) * G < top
  t3 : top ≤ 4000
theorem Costs.same {H H' : Hp} {pc : Addr} {cs : List Int} {L G C top : Nat} (h : Costs H pc cs L G C top) (s : Same H H') : Costs H' pc cs L G C top := by
  obtain ⟨pa, pb, a, b, c⟩ := h.ex
  exact ⟨⟨pa, pb, s _ _ a, s _ _ b, s _ _ c⟩, h.lo, h.hi, h.ah, h.pos, h.t1, h.t2, h.t3⟩
def sp_l_far_right (C : Addr) : Sp := fun vs H Q _ => ∃ (pL t pc : Addr) (cs : List Int) (L G Cc top s : Nat), vs = [.ref pL, .ref t, .ref pc, .int s] ∧ LotAt C H pL cs ∧ H t = some (.tup (cs.map V.int)) ∧ Costs H pc cs L G Cc top ∧ (G - 1) * Cc ≤ s ∧ (L - 1) * G ≤ s ∧ s ≤ 10 ^ 30 ∧ ∀ H', Same H H' → Q (.bl true) H'
def sp_l_near_right (C : Addr) : Sp := fun vs H Q _ => ∃ (pL t pc : Addr) (cs : List Int) (L G Cc top s : Nat), vs = [.ref pL, .ref t, .ref pc, .int s] ∧ LotAt C H pL cs ∧ H t = some (.tup (cs.map V.int)) ∧ Costs H pc cs L G Cc top ∧ s < top ∧ ∀ H', Same H H' → Q (.bl true) H'
theorem cost_facts {cs : List Int} (hc : Lotc cs) {L G C : Nat} (lo : cs[0]? = some (L : Int)) (hi : cs[cs.length - 1]? = some (G : Int)) (ah : AhC cs C) :
    (∀ c ∈ natL cs, 0 < c) ∧ G ∈ natL cs ∧ L ∈ natL cs ∧ (∀ c ∈ natL cs, c ≤ G) ∧ (∀ c ∈ natL cs, L ≤ c) ∧ (∀ c ∈ natL cs, c ≠ G → c ≤ C) ∧ 1 ≤ L ∧ L ≤ G ∧ G ≤ 60 := by
  have hc60 := lot_pos (Int.le_refl 0) hc.up
  have hmax := last_max hc hi
  have hmin := first_min hc lo
  have hG60 := hc60 _ (List.mem_of_getElem? hi)
  have hL60 := hc60 _ (List.mem_of_getElem? lo)
  have hLG := hmin _ (List.mem_of_getElem? hi)
  refine ⟨natL_pos hc60, natL_mem (List.mem_of_getElem? hi), natL_mem (List.mem_of_getElem? lo), fun c hc' => ?_, fun c hc' => ?_, ahc_le hc ah hi, by omega, by omega, by omega⟩
  · obtain ⟨d, hd, rfl⟩ := List.mem_map.mp hc'
    have := hmax d hd
    omega
  · obtain ⟨d, hd, rfl⟩ := List.mem_map.mp hc'
    have := hmin d hd
    omega
end Kx

/-! zip of a tuple and a list -/
namespace MG
open PySem PySem.Spec PyProof.Rows L2
def Itm (K : PySem.W.Frag) (a b : Addr) (xs ys : List V) : It where
  go := fun i H => SqT K H a xs ∧ SqL K H b ys ∧ i < xs.length ∧ i < ys.length
  yld := fun i H v H' => ∃ T x y, v = .ref T ∧ H T = none ∧ H' = upd H T (.tup [x, y]) ∧ xs[i]? = some x ∧ ys[i]? = some y
  stop := fun i H => SqT K H a xs ∧ SqL K H b ys ∧ i ≤ xs.length ∧ i ≤ ys.length ∧ (i = xs.length ∨ i = ys.length)
theorem turn_zipM {P : Program} {w : World} {K : PySem.W.Frag} {elts : List Expr} {kk : Nat} {tpos : Pos} {a b z TI TO i1 i2 : Addr} {xs ys : List V} (sep : ZipSep2 z TI TO i1 i2 [i1, a] [i2, b]) :
    Turn P w K (.Tuple elts kk tpos) (Itm K a b xs ys) [z, TI, TO, i1, i2] z (fun i h => IsZip h z TI TO .none ∧ IsTupOf2 h TI (.ref i1) (.ref i2) ∧ (∃ x y, IsTupOf2 h TO x y) ∧ h.IsTupleIter i1 a i ∧ h.IsListIter i2 b i) where
  mem := by simp
  obj := by
    rintro i h ⟨hz, hTI, ⟨x, y, hTO⟩, ⟨o1, h1, c1, d1⟩, ⟨o2, h2, c2, d2⟩⟩ c hc
    rcases (show c = z ∨ c = TI ∨ c = TO ∨ c = i1 ∨ c = i2 by simpa using hc) with e | e | e | e | e <;> subst e
    · exact ⟨_, hz, fun v q => nomatch q⟩
    · exact ⟨_, hTI, fun v q => nomatch q⟩
    · exact ⟨_, hTO, fun v q => nomatch q⟩
    · exact ⟨o1, h1, fun v q => by rw [d1] at q; cases q⟩
    · exact ⟨o2, h2, fun v q => by rw [d2] at q; cases q⟩
  keep := by
    rintro i h h' ⟨hz, hTI, ⟨x, y, hTO⟩, h1, h2⟩ k
    exact ⟨k z (by simp) _ hz, k TI (by simp) _ hTI, ⟨x, y, k TO (by simp) _ hTO⟩, h1.at fun o q => k i1 (by simp) o q, h2.at fun o q => k i2 (by simp) o q⟩
  item := by
    intro X hP hw hK hc i pins s σ H E I hf st hgo
    subst hP hw hK
    obtain ⟨hz, hTI, ⟨x0, y0, hTO⟩, h1, h2⟩ := st
    obtain ⟨qx, qy, lx, ly⟩ := hgo
    obtain ⟨its, rv, p, hzx⟩ := I.tuple qx
    obtain ⟨jts, rw', pl, hzy⟩ := I.list qy
    have hl1 := rv.length
    have hl2 := rw'.length
    have na1 : a ≠ i1 := by
      intro e
      obtain ⟨o1, q1, c1, _⟩ := h1
      obtain ⟨o2, q2, c2, _⟩ := p
      rw [e, q1] at q2
      cases q2
      rw [c1] at c2
      exact absurd c2 (by decide)
    have nb2 : b ≠ i2 := by
      intro e
      obtain ⟨o1, q1, c1, _⟩ := h2
      obtain ⟨o2, q2, c2, _⟩ := pl.isList
      rw [e, q1] at q2
      cases q2
      rw [c1] at c2
      exact absurd c2 (by decide)
    have hh : X.A.in1.handled = none := by have q := I.ok.hd hc; exact q
    refine wpAny_pyNext_zipD2_item sep (Draws.tuple hh i1 a na1 its.toArray) (Draws.list hh i2 b nb2 jts.toArray) hz hTI hTO ⟨h1, p⟩ ⟨h2, pl.isList⟩ (show i < its.toArray.size by simp; omega) (show i < jts.toArray.size by simp; omega) ?_
    intro u1 u2 h' tk hu1 hu2 hz' hTO' st1 st2 hT hsz hk
    obtain ⟨x, hx⟩ : ∃ x, xs[i]? = some x := ⟨xs[i], List.getElem?_eq_getElem lx⟩
    obtain ⟨y, hy⟩ : ∃ y, ys[i]? = some y := ⟨ys[i], List.getElem?_eq_getElem ly⟩
    obtain ⟨v1, hv1, r1⟩ := rv.get hx
    obtain ⟨v2, hv2, r2⟩ := rw'.get hy
    have e1 : its[i]? = some u1 := by simpa using hu1
    have e2 : jts[i]? = some u2 := by simpa using hu2
    rw [e1] at hv1
    rw [e2] at hv2
    cases hv1
    cases hv2
    refine ⟨_, rfl, wpAny_letOwnedTupleGo_zip (s := { s with heap := h', toks := tk }) hz' ?_⟩
    intro h'' hz'' sb
    have lz : z < s.heap.objs.size := Heap.lt_size hz
    have lT : TI < s.heap.objs.size := Heap.lt_size hTI
    have lO : TO < s.heap.objs.size := Heap.lt_size hTO
    have l1 : i1 < s.heap.objs.size := by obtain ⟨_, q, _⟩ := h1; exact Heap.lt_size q
    have l2 : i2 < s.heap.objs.size := by obtain ⟨_, q, _⟩ := h2; exact Heap.lt_size q
    have hT2 : h''.get? s.heap.objs.size = some { cls := .type "tuple", data := .seq #[u1, u2] } := (sb.2 _ (Nat.ne_of_gt lz)).trans hT
    have new : ObjOk X.prog X.w (upd H s.heap.objs.size (.tup [x, y])) h'' s.heap.objs.size (.tup [x, y]) :=
      ⟨by show 2 ≤ sizeLine; decide, [u1, u2], .cons r1 (.cons r2 .nil), ⟨_, hT2, rfl, _, rfl⟩⟩
    have kp : ∀ c o, c ∉ [z, TI, TO, i1, i2] → s.heap.get? c = some o → h''.get? c = some o := fun c o hb q =>
      (sb.2 c (fun e => hb (by simp [e]))).trans (hk c o (fun e => hb (by simp [e])) (fun e => hb (by simp [e])) (fun e => hb (by simp [e])) (fun e => hb (by simp [e])) q)
    have I1 := I.turnedNew (t' := tk) (ch := [z, TI, TO, i1, i2]) kp hf (Nat.le_refl _) new
    have nz1 : i1 ≠ z := fun e => sep.zf1 (by simp [e])
    have nz2 : i2 ≠ z := fun e => sep.zf2 (by simp [e])
    have hTI' : h'.get? TI = _ := hk TI _ sep.TIz sep.TITO sep.TIi1 sep.TIi2 hTI
    refine ⟨.ref s.heap.objs.size, _, I1, rfl, ⟨_, x, y, rfl, I.hok.fresh (Nat.le_refl _), rfl, hx, hy⟩, ⟨hz'', (sb.2 TI sep.TIz).trans hTI', ⟨u1, u2, (sb.2 TO sep.TOz).trans hTO'⟩, st1.1.at fun o q => (sb.2 i1 nz1).trans q, st2.1.at fun o q => (sb.2 i2 nz2).trans q⟩, ?_⟩
    intro c hc'
    have hlt : c < s.heap.objs.size := by
      rcases (show c = z ∨ c = TI ∨ c = TO ∨ c = i1 ∨ c = i2 by simpa using hc') with e | e | e | e | e <;> rw [e] <;> assumption
    rw [upd_ne (Nat.ne_of_lt hlt)]
    exact (hf c hc').1
  done := by
    intro X hP hw hK hc i pins s σ H E I hf st hs
    subst hP hw hK
    obtain ⟨hz, hTI, ⟨x0, y0, hTO⟩, h1, h2⟩ := st
    obtain ⟨qx, qy, lx, ly, lxy⟩ := hs
    obtain ⟨its, rv, p, hzx⟩ := I.tuple qx
    obtain ⟨jts, rw', pl, hzy⟩ := I.list qy
    have hl1 := rv.length
    have hl2 := rw'.length
    have na1 : a ≠ i1 := by
      intro e
      obtain ⟨o1, q1, c1, _⟩ := h1
      obtain ⟨o2, q2, c2, _⟩ := p
      rw [e, q1] at q2
      cases q2
      rw [c1] at c2
      exact absurd c2 (by decide)
    have nb2 : b ≠ i2 := by
      intro e
      obtain ⟨o1, q1, c1, _⟩ := h2
      obtain ⟨o2, q2, c2, _⟩ := pl.isList
      rw [e, q1] at q2
      cases q2
      rw [c1] at c2
      exact absurd c2 (by decide)
    have hh : X.A.in1.handled = none := by have q := I.ok.hd hc; exact q
    refine wpAny_pyNext_zipD2_end sep (Draws.tuple hh i1 a na1 its.toArray) (Draws.list hh i2 b nb2 jts.toArray) hz hTI hTO ⟨h1, p⟩ ⟨h2, pl.isList⟩ (show i ≤ its.toArray.size by simp; omega) (show i ≤ jts.toArray.size by simp; omega) (show i = its.toArray.size ∨ i = jts.toArray.size by simp; omega) ?_
    intro h' tk hk
    exact ⟨rfl, I.turnedL (t' := tk) (ch := [z, TI, TO, i1, i2]) (fun c o hb q => hk c o (fun e => hb (by simp [e])) (fun e => hb (by simp [e])) (fun e => hb (by simp [e])) (fun e => hb (by simp [e])) q) hf⟩
  self := by
    rintro A i s Q E ⟨hz, _⟩ h
    exact wpAny_pyIter_zip hz h
def iZipM (K : PySem.W.Frag) (ta : TA) : TI := fun σ H R => ta σ H fun vs H1 => ∃ a b xs ys, vs = [.ref a, .ref b] ∧ SqT K H1 a xs ∧ SqL K H1 b ys ∧ R (Itm K a b xs ys) H1
theorem pi_zipM {X : Cx} {e e2 : Expr} {ta : TA} {p pos tpos : Pos} {elts : List Expr} {kk : Nat} (hg : Gl X "zip") (hm : X.mg "zip" = none) (ha : PA X [e, e2] ta)
    (hs : starEach [e, e2] X.env = (false, eval e X.env) :: starEach [e2] X.env := by rfl) (hpl : ((backTo pos (starEach [e2] X.env)).any fun x => x.fst) = false := by rfl) :
    PI X (.Tuple elts kk tpos) (.Call (.Name "zip" p) [e, e2] [] pos) (iZipM X.K ta) := by
  refine ⟨?_⟩
  intro pins s σ H R I h
  refine Call_ (ld_blt I hg hm boot_zip (PyProof.Rows.callWith_type1 (thn (ha.run pos pins s σ H _ I h) ?_) hs hpl))
  rintro us s1 ⟨vs, H1, I1, r1, a, b, xs, ys, rfl, qx, qy, q⟩
  obtain ⟨u, us, rfl, rx, rr⟩ : ∃ u us', us = u :: us' ∧ RelV (.ref a) u ∧ Vals [.ref b] us' := by
    cases r1 with
    | cons h1 h2 => exact ⟨_, _, rfl, h1, h2⟩
  obtain ⟨v, rfl, ry⟩ := vals1 rr
  cases (show u = Value.ref a from rx)
  cases (show v = Value.ref b from ry)
  obtain ⟨its, rv, pt, hzx⟩ := I1.tuple qx
  obtain ⟨jts, rw', pl, hzy⟩ := I1.list qy
  refine zip_begins2 (PySem.begins_tuple a its.toArray) (PySem.begins_list b jts.toArray) pt pl.isList ?_
  intro h' hz hTI hTO g1 g2 hsz hk
  refine wpAny_pyIter_zip hz ?_
  have I2 : Inv X pins σ H1 { s1 with heap := h' } := I1.kept (t' := s1.toks) hk
  have la : a < s1.heap.objs.size := by obtain ⟨_, q1, _⟩ := pt; exact Heap.lt_size q1
  have lb : b < s1.heap.objs.size := by obtain ⟨_, q1, _⟩ := pl.isList; exact Heap.lt_size q1
  refine ⟨s1.heap.objs.size + 4, [s1.heap.objs.size + 4, s1.heap.objs.size + 2, s1.heap.objs.size + 3, s1.heap.objs.size, s1.heap.objs.size + 1], _, _, H1, rfl, I2, turn_zipM (zip_sep2 (N := s1.heap.objs.size) (fp1 := [a]) (fp2 := [b]) (by simp; exact la) (by simp; exact lb)), ⟨hz, hTI, ⟨_, _, hTO⟩, ⟨_, g1, rfl, rfl⟩, ⟨_, g2, rfl, rfl⟩⟩, ?_, q⟩
  intro c hc
  have hle : s1.heap.objs.size ≤ c := by
    rcases (show c = _ ∨ c = _ ∨ c = _ ∨ c = _ ∨ c = _ by simpa using hc) with e | e | e | e | e <;> rw [e] <;> omega
  exact I1.fpOk hle (I1.hok.fresh hle)
/-- what a walk over such a zip does -/
theorem walk_zipM {K : PySem.W.Frag} {a b : Addr} {xs ys : List V} {n : Nat} (hn : n = min xs.length ys.length) : Walk (Itm K a b xs ys) n (fun H => SqT K H a xs ∧ SqL K H b ys) (YPair (fun i => xs[i]?) (fun i => ys[i]?)) := by
  exact ⟨fun i H hi ⟨q1, q2⟩ => ⟨q1, q2, by omega, by omega⟩, fun H ⟨q1, q2⟩ => ⟨q1, q2, by omega, by omega, by omega⟩, fun i H x H' hi _ h => h⟩
end MG

/-! enumerate of a zip of two lists -/
namespace MG
open PySem PySem.Spec PyProof.Rows L2
section
variable {prog : Program} {w : World} {A : Around} {E : Value → Shared → Prop} {s : Shared} {z TI TO i1 i2 : Addr} {fp1 fp2 : List Addr} {n1 n2 i : Nat} {P1 P2 : Nat → Value → Prop} {St1 St2 : Nat → Heap → Prop} {o1 o2 u v : Value}
/-- a zip, whatever it gave last -/
abbrev ZF (h : Heap) (z TI TO : Addr) (u v : Value) : Prop := h.get? z = some { cls := .type "zip", dict := none, data := .fields #[u, v, .bool false, .ref TI, .ref TO], slots := #[] }
abbrev Free (prog : Program) (w : World) (A : Around) (E : Value → Shared → Prop) (s : Shared) (z : Addr) : Prop := ∀ {R : Bool → Shared → Prop}, R true s → wpAny (model prog w) A (Builtin.SmallTypes.ownedTupleIsFree (.ref z)) R E s
theorem free_dead {T : Addr} (hz : ZF s.heap z TI TO (rawInt T) v) (hn : s.heap.get? T = none) : Free prog w A E s z := by
  intro R hR
  unfold Builtin.SmallTypes.ownedTupleIsFree
  refine wpAny_bind (wpAny_field hz rfl (x := rawInt T) rfl ?_)
  show wpAny _ _ (loadIfAlive ((T : Int).toNat) >>= _) _ _ _
  rw [Int.toNat_natCast]
  have ld : ∀ {Z : Option Obj → Shared → Prop}, Z none s → wpAny (model prog w) A (loadIfAlive T) Z E s := fun {Z} hZ => by
    have hZ' : Z (s.heap.get? T) s := by rw [hn]; exact hZ
    exact fun _ _ _ => hZ'
  refine wpAny_bind (ld ?_)
  exact wpAny_pure hR
theorem free_none (hz : ZF s.heap z TI TO .none v) : Free prog w A E s z := by
  intro R hR
  unfold Builtin.SmallTypes.ownedTupleIsFree
  exact wpAny_bind (wpAny_field hz rfl (x := .none) rfl (wpAny_pure hR))
theorem zfree_item {Q : Value → Shared → Prop} (S : ZipSep2 z TI TO i1 i2 fp1 fp2) (D1 : Draws prog w A i1 fp1 n1 P1 St1) (D2 : Draws prog w A i2 fp2 n2 P2 St2)
    (hz : ZF s.heap z TI TO u v) (free : Free prog w A E s z) (hI : IsTupOf2 s.heap TI (.ref i1) (.ref i2)) (hO : IsTupOf2 s.heap TO o1 o2) (t1 : St1 i s.heap) (t2 : St2 i s.heap) (l1 : i < n1) (l2 : i < n2)
    (hQ : ∀ x y k tk, P1 i x → P2 i y → ZF k z TI TO (rawInt s.heap.objs.size) (.bool false) → IsTupOf2 k TO x y → St1 (i + 1) k → St2 (i + 1) k → IsTupOf2 k s.heap.objs.size x y → k.objs.size = s.heap.objs.size + 1 →
      (∀ c o, c ≠ z → c ≠ TO → c ≠ i1 → c ≠ i2 → s.heap.get? c = some o → k.get? c = some o) → Q (.ref s.heap.objs.size) { s with heap := k, toks := tk }) :
    wpAny (model prog w) A (Builtin.«zip.__next__» ⟨[.ref z], []⟩) (fun r s' => ∃ x, r = .done (.ret x) ∧ Q x s') E s := by
  obtain ⟨h0, gn, dr, tk0, sys⟩ := s
  show wpAny _ _ (field (.ref z) 2 >>= _) _ _ _
  refine wpAny_bind (wpAny_field hz rfl (x := .bool false) rfl ?_)
  show wpAny _ _ (field (.ref z) 3 >>= _) _ _ _
  refine wpAny_bind (wpAny_field hz rfl (x := .ref TI) rfl ?_)
  refine wpAny_bind (wpAny_seqItems hI rfl ?_)
  show wpAny _ _ (Builtin.SmallTypes.ownedTupleIsFree (.ref z) >>= _) _ _ _
  refine wpAny_bind (free ?_)
  simp only [if_true]
  refine wpAny_bind (wpAny_rule ?_)
  refine wpAny_bind (wpAny_field hz rfl (x := .ref TO) rfl ?_)
  refine wpAny_bind (wpAny_setField_rec hz (by simp) fun ka zka ska => ?_)
  replace zka : ZF ka z TI TO .ellipsis v := zka
  replace ska : Heap.SameBut z h0 ka := ska
  refine wpAny_bind ?_
  simp only [List.zipIdx_cons, List.zipIdx_nil, List.forIn_cons, List.forIn_nil]
  refine wpAny_bind (wpAny_bind (wpAny_onRaise ?_))
  show wpAny _ _ (Builtin.SmallTypes.nextOf (.ref i1) >>= _) _ _ ⟨ka, gn, dr, tk0, sys⟩
  refine wpAny_bind (D1.item i _ _ _ l1 (D1.over t1 ska S.zf1) fun x kb tkb px tb skb => wpAny_pure ?_)
  replace skb : Heap.SameBut i1 ka kb := skb
  have ob : IsTupOf2 kb TO o1 o2 := skb.extBut _ _ S.Ti1 (ska.extBut _ _ S.TOz hO)
  refine wpAny_bind (wpAny_seqItems (s := ⟨kb, gn, dr, tkb, sys⟩) ob rfl ?_)
  refine wpAny_bind (updateSeq_IsTupOf2 (s := ⟨kb, gn, dr, tkb, sys⟩) ob fun kc oc skc => ?_)
  replace oc : IsTupOf2 kc TO x o2 := oc
  replace skc : Heap.SameBut TO kb kc := skc
  refine wpAny_bind (wpAny_letGo (wpAny_pure ?_))
  refine wpAny_bind (wpAny_bind (wpAny_onRaise ?_))
  show wpAny _ _ (Builtin.SmallTypes.nextOf (.ref i2) >>= _) _ _ ⟨kc, gn, dr, tkb, sys⟩
  refine wpAny_bind (D2.item i _ _ _ l2 (D2.over (D2.over (D2.over t2 ska S.zf2) skb S.sep1_2) skc S.Tf2) fun y kd tkd py td skd => wpAny_pure ?_)
  replace skd : Heap.SameBut i2 kc kd := skd
  have od : IsTupOf2 kd TO x o2 := skd.extBut _ _ S.Ti2 oc
  refine wpAny_bind (wpAny_seqItems (s := ⟨kd, gn, dr, tkd, sys⟩) od rfl ?_)
  refine wpAny_bind (updateSeq_IsTupOf2 (s := ⟨kd, gn, dr, tkd, sys⟩) od fun ke oe ske => ?_)
  replace oe : IsTupOf2 ke TO x y := oe
  replace ske : Heap.SameBut TO kd ke := ske
  refine wpAny_bind (wpAny_letGo (wpAny_pure (wpAny_pure ?_)))
  refine wpAny_bind (wpAny_seqItems (s := ⟨ke, gn, dr, tkd, sys⟩) oe rfl ?_)
  refine wpAny_bind (wpAny_newTuple ?_)
  have esz : ke.objs.size = h0.objs.size := by rw [ske.1, skd.1, skc.1, skb.1, ska.1]
  have eze : ZF ke z TI TO .ellipsis v := ske.extBut _ _ S.TOz.symm (skd.extBut _ _ S.zi2 (skc.extBut _ _ S.TOz.symm (skb.extBut _ _ S.zi1 zka)))
  have eke : ∀ c o, c ≠ z → c ≠ TO → c ≠ i1 → c ≠ i2 → h0.get? c = some o → ke.get? c = some o := fun c o c1 c2 c3 c4 e =>
    ske.extBut _ _ c2 (skd.extBut _ _ c4 (skc.extBut _ _ c2 (skb.extBut _ _ c3 (ska.extBut _ _ c1 e))))
  have e1 : St1 (i + 1) ke := D1.over (D1.over (D1.over tb skc S.Tf1) skd S.sep2_1) ske S.Tf1
  have e2 : St2 (i + 1) ke := D2.over td ske S.Tf2
  have zlt : z < ke.objs.size := Heap.lt_size eze
  show wpAny _ _ (Builtin.SmallTypes.ownedTupleHandOut (.ref z) (.ref ke.objs.size) >>= _) _ _ ⟨ke.push { cls := .type "tuple", data := .seq #[x, y] }, gn, dr, tkd, sys⟩
  refine wpAny_bind ?_
  unfold Builtin.SmallTypes.ownedTupleHandOut
  have zkf : ZF (ke.push { cls := .type "tuple", data := .seq #[x, y] }) z TI TO .ellipsis v := Heap.get?_push_of_some _ eze
  refine wpAny_bind (wpAny_setField_rec zkf (by simp) fun kg zkg skg => ?_)
  replace zkg : ZF kg z TI TO (rawInt ke.objs.size) v := zkg
  refine wpAny_setField_rec zkg (by simp) fun kh zkh skh => ?_
  replace zkh : ZF kh z TI TO (rawInt ke.objs.size) (.bool false) := zkh
  replace skg : Heap.SameBut z (ke.push { cls := .type "tuple", data := .seq #[x, y] }) kg := skg
  replace skh : Heap.SameBut z kg kh := skh
  have up : ∀ c o, c ≠ z → ke.get? c = some o → kh.get? c = some o := fun c o c1 e => skh.extBut _ _ c1 (skg.extBut _ _ c1 (Heap.get?_push_of_some _ e))
  have nt : IsTupOf2 kh ke.objs.size x y := skh.extBut _ _ (Nat.ne_of_gt zlt) (skg.extBut _ _ (Nat.ne_of_gt zlt) (Heap.get?_push_size _ rfl))
  have nsz : kh.objs.size = ke.objs.size + 1 := by rw [skh.1, skg.1, Heap.size_push]
  rw [esz] at zkh nt nsz
  refine wpAny_pure ⟨_, rfl, ?_⟩
  show Q (.ref ke.objs.size) ⟨kh, gn, dr, tkd, sys⟩
  rw [esz]
  exact hQ x y kh tkd px py zkh (up _ _ S.TOz oe) (D1.frame _ _ _ e1 fun b hb o e => up b o (fun q => S.zf1 (q ▸ hb)) e) (D2.frame _ _ _ e2 fun b hb o e => up b o (fun q => S.zf2 (q ▸ hb)) e) nt nsz fun c o c1 c2 c3 c4 e => up c o c1 (eke c o c1 c2 c3 c4 e)
theorem zfree_end {Q : Fin → Shared → Prop} (S : ZipSep2 z TI TO i1 i2 fp1 fp2) (D1 : Draws prog w A i1 fp1 n1 P1 St1) (D2 : Draws prog w A i2 fp2 n2 P2 St2)
    (hz : ZF s.heap z TI TO u v) (free : Free prog w A E s z) (hI : IsTupOf2 s.heap TI (.ref i1) (.ref i2)) (hO : IsTupOf2 s.heap TO o1 o2) (t1 : St1 i s.heap) (t2 : St2 i s.heap) (l1 : i ≤ n1) (l2 : i ≤ n2) (hend : i = n1 ∨ i = n2)
    (hE : ∀ k tk e, (∀ c o, c ≠ z → c ≠ TO → c ≠ i1 → c ≠ i2 → s.heap.get? c = some o → k.get? c = some o) → (∃ o, k.get? e = some o ∧ o.cls = .type "StopIteration") → E (.ref e) { s with heap := k, toks := tk }) :
    wpAny (model prog w) A (Builtin.«zip.__next__» ⟨[.ref z], []⟩) Q E s := by
  obtain ⟨h0, gn, dr, tk0, sys⟩ := s
  show wpAny _ _ (field (.ref z) 2 >>= _) _ _ _
  refine wpAny_bind (wpAny_field hz rfl (x := .bool false) rfl ?_)
  show wpAny _ _ (field (.ref z) 3 >>= _) _ _ _
  refine wpAny_bind (wpAny_field hz rfl (x := .ref TI) rfl ?_)
  refine wpAny_bind (wpAny_seqItems hI rfl ?_)
  show wpAny _ _ (Builtin.SmallTypes.ownedTupleIsFree (.ref z) >>= _) _ _ _
  refine wpAny_bind (free ?_)
  simp only [if_true]
  refine wpAny_bind (wpAny_rule ?_)
  refine wpAny_bind (wpAny_field hz rfl (x := .ref TO) rfl ?_)
  refine wpAny_bind (wpAny_setField_rec hz (by simp) fun ka zka ska => ?_)
  replace zka : ZF ka z TI TO .ellipsis v := zka
  replace ska : Heap.SameBut z h0 ka := ska
  have stop : ∀ (kq : Heap) (tk : Nat) (e : Addr), ZF kq z TI TO .ellipsis v → (∃ o, kq.get? e = some o ∧ o.cls = .type "StopIteration") → (∀ c o, c ≠ z → c ≠ TO → c ≠ i1 → c ≠ i2 → h0.get? c = some o → kq.get? c = some o) →
      wpAny (model prog w) A (setField (.ref z) 0 .none) (fun _ s' => E (.ref e) s') (fun x s' => E x s') ⟨kq, gn, dr, tk, sys⟩ := by
    rintro kq tk e zq ⟨oe, ho, hc⟩ keep
    have ez : e ≠ z := fun x => by subst x; rw [zq] at ho; cases ho; simp at hc
    refine wpAny_setField_rec (s := ⟨kq, gn, dr, tk, sys⟩) zq (by simp) fun kr _ skr => ?_
    replace skr : Heap.SameBut z kq kr := skr
    exact hE kr tk e (fun c o c1 c2 c3 c4 x => skr.extBut _ _ c1 (keep c o c1 c2 c3 c4 x)) ⟨oe, skr.extBut _ _ ez ho, hc⟩
  refine wpAny_bind ?_
  simp only [List.zipIdx_cons, List.zipIdx_nil, List.forIn_cons, List.forIn_nil]
  refine wpAny_bind (wpAny_bind (wpAny_onRaise ?_))
  show wpAny _ _ (Builtin.SmallTypes.nextOf (.ref i1) >>= _) _ _ ⟨ka, gn, dr, tk0, sys⟩
  by_cases hlt : i < n1
  · refine wpAny_bind (D1.item i _ _ _ hlt (D1.over t1 ska S.zf1) fun x kb tkb px tb skb => wpAny_pure ?_)
    replace skb : Heap.SameBut i1 ka kb := skb
    have ob : IsTupOf2 kb TO o1 o2 := skb.extBut _ _ S.Ti1 (ska.extBut _ _ S.TOz hO)
    refine wpAny_bind (wpAny_seqItems (s := ⟨kb, gn, dr, tkb, sys⟩) ob rfl ?_)
    refine wpAny_bind (updateSeq_IsTupOf2 (s := ⟨kb, gn, dr, tkb, sys⟩) ob fun kc oc skc => ?_)
    replace oc : IsTupOf2 kc TO x o2 := oc
    replace skc : Heap.SameBut TO kb kc := skc
    refine wpAny_bind (wpAny_letGo (wpAny_pure ?_))
    have e2 : i = n2 := by omega
    refine wpAny_bind (wpAny_bind (wpAny_onRaise ?_))
    show wpAny _ _ (Builtin.SmallTypes.nextOf (.ref i2) >>= _) _ _ ⟨kc, gn, dr, tkb, sys⟩
    refine wpAny_bind (D2.done ⟨kc, gn, dr, tkb, sys⟩ _ _ (by rw [← e2]; exact (D2.over (D2.over (D2.over t2 ska S.zf2) skb S.sep1_2) skc S.Tf2)) fun kq e hq he => ?_)
    replace hq : Heap.ExtBut i2 kc kq := hq
    exact stop kq tkb e (hq _ _ S.zi2 (skc.extBut _ _ S.TOz.symm (skb.extBut _ _ S.zi1 zka))) he fun c o c1 c2 c3 c4 x => hq _ _ c4 (skc.extBut _ _ c2 (skb.extBut _ _ c3 (ska.extBut _ _ c1 x)))
  · have e1 : i = n1 := by omega
    refine wpAny_bind (D1.done ⟨ka, gn, dr, tk0, sys⟩ _ _ (by rw [← e1]; exact (D1.over t1 ska S.zf1)) fun kq e hq he => ?_)
    replace hq : Heap.ExtBut i1 ka kq := hq
    exact stop kq tk0 e (hq _ _ S.zi1 zka) he fun c o c1 c2 c3 c4 x => hq _ _ c3 (ska.extBut _ _ c1 x)
end
end MG

/-! enumerate of a zip of two lists, second half: zip's next in any state, enumerate over it, the turn, the rule -/
namespace MG
open PySem PySem.Spec PyProof.Rows L2
/-- a zip over two lists behind i turns, whatever became of what it gave -/
def ZSt (z TI TO i1 i2 l1 l2 : Addr) (xs ys : Array Value) (i : Nat) (h : Heap) : Prop :=
  (∃ f : Bool, ZF h z TI TO .none (.bool f) ∨ ∃ T : Addr, ZF h z TI TO (rawInt T) (.bool f)) ∧ IsTupOf2 h TI (.ref i1) (.ref i2) ∧ (∃ x y, IsTupOf2 h TO x y) ∧
    (h.IsListIter i1 l1 i ∧ h.IsList l1 xs) ∧ (h.IsListIter i2 l2 i ∧ h.IsList l2 ys)
theorem ZSt.keep {z TI TO i1 i2 l1 l2 : Addr} {xs ys : Array Value} {i : Nat} {h h' : Heap} (S : ZSt z TI TO i1 i2 l1 l2 xs ys i h) (k : ∀ c ∈ [z, TI, TO, i1, i2, l1, l2], ∀ o, h.get? c = some o → h'.get? c = some o) : ZSt z TI TO i1 i2 l1 l2 xs ys i h' := by
  obtain ⟨⟨f, hz⟩, hI, ⟨x, y, hO⟩, ⟨a1, a2⟩, ⟨b1, b2⟩⟩ := S
  refine ⟨⟨f, ?_⟩, k TI (by simp) _ hI, ⟨x, y, k TO (by simp) _ hO⟩, ⟨a1.at fun o q => k i1 (by simp) o q, a2.at fun o q => k l1 (by simp) o q⟩, ⟨b1.at fun o q => k i2 (by simp) o q, b2.at fun o q => k l2 (by simp) o q⟩⟩
  rcases hz with hz | ⟨T, hz⟩
  · exact .inl (k z (by simp) _ hz)
  · exact .inr ⟨T, k z (by simp) _ hz⟩
structure ZSep (z TI TO i1 i2 l1 l2 : Addr) : Prop where
  A : ZipApart z TI TO i1 i2 l1 l2
  S : ZipSep2 z TI TO i1 i2 [i1, l1] [i2, l2]
section
variable {prog : Program} {w : World} {A : Around} {E : Value → Shared → Prop} {s : Shared} {z TI TO i1 i2 l1 l2 : Addr} {i : Nat} {xs ys : Array Value}
theorem zany_item {Q : Value → Shared → Prop} (hh : A.handled = none) (D : ZSep z TI TO i1 i2 l1 l2) (st : ZSt z TI TO i1 i2 l1 l2 xs ys i s.heap) {x y : Value} (hx : xs[i]? = some x) (hy : ys[i]? = some y)
    (hQ : ∀ k tk, ZSt z TI TO i1 i2 l1 l2 xs ys (i + 1) k → IsTupOf2 k s.heap.objs.size x y → k.objs.size = s.heap.objs.size + 1 →
      (∀ c o, c ≠ z → c ≠ TO → c ≠ i1 → c ≠ i2 → s.heap.get? c = some o → k.get? c = some o) → Q (.ref s.heap.objs.size) { s with heap := k, toks := tk }) :
    wpAny (model prog w) A (Builtin.«zip.__next__» ⟨[.ref z], []⟩) (fun r s' => ∃ x, r = .done (.ret x) ∧ Q x s') E s := by
  obtain ⟨⟨f, hz⟩, hI, ⟨x0, y0, hO⟩, t1, t2⟩ := st
  have lx : i < xs.size := by
    by_cases q : i < xs.size
    · exact q
    · rw [Array.getElem?_eq_none (by omega)] at hx; cases hx
  have ly : i < ys.size := by
    by_cases q : i < ys.size
    · exact q
    · rw [Array.getElem?_eq_none (by omega)] at hy; cases hy
  have fin : ∀ (x' y' : Value) (k : Heap) (tk : Nat), xs[i]? = some x' → ys[i]? = some y' → ZF k z TI TO (rawInt s.heap.objs.size) (.bool false) → IsTupOf2 k TO x' y' → (k.IsListIter i1 l1 (i + 1) ∧ k.IsList l1 xs) → (k.IsListIter i2 l2 (i + 1) ∧ k.IsList l2 ys) → IsTupOf2 k s.heap.objs.size x' y' → k.objs.size = s.heap.objs.size + 1 →
      (∀ c o, c ≠ z → c ≠ TO → c ≠ i1 → c ≠ i2 → s.heap.get? c = some o → k.get? c = some o) → Q (.ref s.heap.objs.size) { s with heap := k, toks := tk } := by
    intro x' y' k tk ex ey a1 a2 a3 a4 a5 a6 a7
    rw [hx] at ex; rw [hy] at ey
    cases ex; cases ey
    exact hQ k tk ⟨⟨false, .inr ⟨_, a1⟩⟩, a7 TI _ D.A.TIz D.A.TITO D.A.TIi1 D.A.TIi2 hI, ⟨_, _, a2⟩, a3, a4⟩ a5 a6 a7
  have free : ∀ (u v : Value), ZF s.heap z TI TO u v → Free prog w A E s z → wpAny (model prog w) A (Builtin.«zip.__next__» ⟨[.ref z], []⟩) (fun r s' => ∃ x, r = .done (.ret x) ∧ Q x s') E s := fun u v hz hfree =>
    zfree_item (E := E) D.S (Draws.list hh i1 l1 D.A.l1i1 xs) (Draws.list hh i2 l2 D.A.l2i2 ys) hz hfree hI hO t1 t2 lx ly fin
  rcases hz with hz | ⟨T, hz⟩
  · exact free _ _ hz (free_none hz)
  · cases hT : s.heap.get? T with
    | none => exact free _ _ hz (free_dead hz hT)
    | some oT =>
      refine zip_next_item_held D.A hz hT hI t1.1 t2.1 t1.2 t2.2 hx hy ?_
      intro k a1 a2 a3 a4 a5 a6
      have tk0 : s.toks = s.toks := rfl
      exact hQ k s.toks ⟨⟨true, .inr ⟨_, a1⟩⟩, a6 TI _ D.A.TIz D.A.TIi1 D.A.TIi2 hI, ⟨_, _, a6 TO _ D.A.TOz D.A.TOi1 D.A.TOi2 hO⟩, ⟨a2, t1.2.at fun o q => a6 l1 o D.A.l1z D.A.l1i1 D.A.l1i2 q⟩, ⟨a3, t2.2.at fun o q => a6 l2 o D.A.l2z D.A.l2i1 D.A.l2i2 q⟩⟩ a4 a5 fun c o c1 _ c3 c4 q => a6 c o c1 c3 c4 q
theorem zany_end {Q : Fin → Shared → Prop} (hh : A.handled = none) (D : ZSep z TI TO i1 i2 l1 l2) (st : ZSt z TI TO i1 i2 l1 l2 xs ys i s.heap) (hx : i ≤ xs.size) (hy : i ≤ ys.size) (hend : i = xs.size ∨ i = ys.size)
    (hE : ∀ k tk e, (∀ c o, c ≠ z → c ≠ TO → c ≠ i1 → c ≠ i2 → s.heap.get? c = some o → k.get? c = some o) → (∃ o, k.get? e = some o ∧ o.cls = .type "StopIteration") → E (.ref e) { s with heap := k, toks := tk }) :
    wpAny (model prog w) A (Builtin.«zip.__next__» ⟨[.ref z], []⟩) Q E s := by
  obtain ⟨⟨f, hz⟩, hI, ⟨x0, y0, hO⟩, t1, t2⟩ := st
  have free : ∀ (u v : Value), ZF s.heap z TI TO u v → Free prog w A E s z → wpAny (model prog w) A (Builtin.«zip.__next__» ⟨[.ref z], []⟩) Q E s := fun u v hz hfree =>
    zfree_end (E := E) D.S (Draws.list hh i1 l1 D.A.l1i1 xs) (Draws.list hh i2 l2 D.A.l2i2 ys) hz hfree hI hO t1 t2 hx hy hend hE
  rcases hz with hz | ⟨T, hz⟩
  · exact free _ _ hz (free_none hz)
  · cases hT : s.heap.get? T with
    | none => exact free _ _ hz (free_dead hz hT)
    | some oT =>
      refine zip_next_end_held hh D.A hz hT hI t1.1 t2.1 t1.2 t2.2 (hend.imp (fun q => by rw [q]; simp) (fun q => by rw [q]; simp)) ?_
      intro k e a1 a2
      exact hE k s.toks e (fun c o c1 _ c3 c4 q => a1 c o c1 c3 c4 q) a2
theorem znext_item {Q : Value → Shared → Prop} (hh : A.handled = none) (D : ZSep z TI TO i1 i2 l1 l2) (st : ZSt z TI TO i1 i2 l1 l2 xs ys i s.heap) {x y : Value} (hx : xs[i]? = some x) (hy : ys[i]? = some y)
    (hQ : ∀ k tk, ZSt z TI TO i1 i2 l1 l2 xs ys (i + 1) k → IsTupOf2 k s.heap.objs.size x y → k.objs.size = s.heap.objs.size + 1 →
      (∀ c o, c ≠ z → c ≠ TO → c ≠ i1 → c ≠ i2 → s.heap.get? c = some o → k.get? c = some o) → Q (.ref s.heap.objs.size) { s with heap := k, toks := tk }) :
    wpAny (model prog w) A (Builtin.SmallTypes.nextOf (.ref z)) Q E s := by
  have hT : s.TypeIs (.ref z) "zip" := by
    obtain ⟨⟨f, hz | ⟨T, hz⟩⟩, _⟩ := st
    · exact ⟨_, hz, rfl⟩
    · exact ⟨_, hz, rfl⟩
  unfold Builtin.SmallTypes.nextOf
  exact wpAny_bind (wpAny_callSpecial?_slot (name := Str.ofString "__next__") hT F.slot_zip_next (wpAny_call_entry F.slot_zip_next hT F.entry_zip_next
    (zany_item (A := A.in1) hh D st hx hy fun k tk a1 a2 a3 a4 => wpAny_pure (hQ k tk a1 a2 a3 a4)) (F.args_zip_next_1 _)))
theorem znext_end {Q : Value → Shared → Prop} (hh : A.handled = none) (D : ZSep z TI TO i1 i2 l1 l2) (st : ZSt z TI TO i1 i2 l1 l2 xs ys i s.heap) (hx : i ≤ xs.size) (hy : i ≤ ys.size) (hend : i = xs.size ∨ i = ys.size)
    (hE : ∀ k tk e, (∀ c o, c ≠ z → c ≠ TO → c ≠ i1 → c ≠ i2 → s.heap.get? c = some o → k.get? c = some o) → (∃ o, k.get? e = some o ∧ o.cls = .type "StopIteration") → E (.ref e) { s with heap := k, toks := tk }) :
    wpAny (model prog w) A (Builtin.SmallTypes.nextOf (.ref z)) Q E s := by
  have hT : s.TypeIs (.ref z) "zip" := by
    obtain ⟨⟨f, hz | ⟨T, hz⟩⟩, _⟩ := st
    · exact ⟨_, hz, rfl⟩
    · exact ⟨_, hz, rfl⟩
  unfold Builtin.SmallTypes.nextOf
  exact wpAny_bind (wpAny_callSpecial?_slot (name := Str.ofString "__next__") hT F.slot_zip_next (wpAny_call_entry F.slot_zip_next hT F.entry_zip_next
    (zany_end (A := A.in1) hh D st hx hy hend hE) (F.args_zip_next_1 _)))

theorem enz_item {e : Addr} {c : Int} {old : Value} {Q : Value → Shared → Prop} (hh : A.handled = none) (D : ZSep z TI TO i1 i2 l1 l2) (ne : e ∉ [z, TI, TO, i1, i2, l1, l2]) (he : IsEnum s.heap e z c old) (st : ZSt z TI TO i1 i2 l1 l2 xs ys i s.heap) {x y : Value} (hx : xs[i]? = some x) (hy : ys[i]? = some y)
    (hQ : ∀ k h' tk, IsTupOf2 k s.heap.objs.size x y → k.objs.size = s.heap.objs.size + 1 → (∀ b o, b ≠ z → b ≠ TO → b ≠ i1 → b ≠ i2 → s.heap.get? b = some o → k.get? b = some o) →
      (∀ b o, b ≠ e → k.get? b = some o → h'.get? b = some o) → ZSt z TI TO i1 i2 l1 l2 xs ys (i + 1) h' → IsEnumOut h' e z (c + 1) (.ref s.heap.objs.size) (s.heap.objs.size + 1) →
      h'.get? (s.heap.objs.size + 1) = some { cls := .type "tuple", data := .seq #[.int c tk, .ref s.heap.objs.size] } → h'.objs.size = s.heap.objs.size + 2 → Q (.ref (s.heap.objs.size + 1)) { s with heap := h', toks := tk + 1 }) :
    wpAny (model prog w) A (Builtin.«enumerate.__next__» ⟨[.ref e], []⟩) (fun fin s' => ∃ v, fin = .done (.ret v) ∧ Q v s') E s := by
  obtain ⟨hp, g, d, tk₀, os⟩ := s
  have ez : e ≠ z := fun q => ne (by simp [q])
  have eTO : e ≠ TO := fun q => ne (by simp [q])
  have e1 : e ≠ i1 := fun q => ne (by simp [q])
  have e2 : e ≠ i2 := fun q => ne (by simp [q])
  show wpAny _ _ (field (.ref e) 2 >>= _) _ _ _
  refine wpAny_bind (wpAny_field he rfl (x := .ref z) rfl ?_)
  refine wpAny_bind (znext_item hh D st hx hy fun h₁ tk st₁ pr₁ sz₁ k₁ => ?_)
  replace pr₁ : IsTupOf2 h₁ hp.objs.size x y := pr₁
  replace sz₁ : h₁.objs.size = hp.objs.size + 1 := sz₁
  have he₁ : IsEnum h₁ e z c old := k₁ e _ ez eTO e1 e2 he
  have hQ1 := fun h' tk' => hQ h₁ h' tk' pr₁ sz₁ k₁
  generalize hX : (Value.ref hp.objs.size) = X at *
  show wpAny _ _ (field (.ref e) 3 >>= _) _ _ ⟨h₁, g, d, tk, os⟩
  refine wpAny_bind (wpAny_field he₁ rfl (x := rawInt c) rfl ?_)
  show wpAny _ _ (field (.ref e) 4 >>= _) _ _ ⟨h₁, g, d, tk, os⟩
  refine wpAny_bind (wpAny_field he₁ rfl (x := .none) rfl ?_)
  show wpAny _ _ (mkInt c >>= _) _ _ ⟨h₁, g, d, tk, os⟩
  refine wpAny_bind (wpAny_mkInt ?_)
  show wpAny _ _ (setField (.ref e) 3 (rawInt (c + 1)) >>= _) _ _ ⟨h₁, g, d, tk + 1, os⟩
  refine wpAny_bind (wpAny_setField_rec he₁ (by simp) fun h₂ he₂ hs₂ => ?_)
  replace hs₂ : Heap.SameBut e h₁ h₂ := hs₂
  replace he₂ : IsEnum h₂ e z (c + 1) old := he₂
  show wpAny _ _ (setField (.ref e) 4 .none >>= _) _ _ ⟨h₂, g, d, tk + 1, os⟩
  refine wpAny_bind (wpAny_setField_rec he₂ (by simp) fun h₃ he₃ hs₃ => ?_)
  replace hs₃ : Heap.SameBut e h₂ h₃ := hs₃
  replace he₃ : IsEnum h₃ e z (c + 1) old := he₃
  show wpAny _ _ (newTuple [.int c tk, X] >>= _) _ _ ⟨h₃, g, d, tk + 1, os⟩
  refine wpAny_bind (wpAny_newTuple ?_)
  have he₄ : IsEnum (h₃.push { cls := .type "tuple", data := .seq #[.int c tk, X] }) e z (c + 1) old := Heap.get?_push_of_some _ he₃
  generalize hh₄ : h₃.push { cls := .type "tuple", data := .seq #[.int c tk, X] } = h₄ at he₄
  have hsz : h₃.objs.size = hp.objs.size + 1 := by rw [hs₃.1, hs₂.1, sz₁]
  have hel : e < hp.objs.size := Heap.lt_size he
  have hne : hp.objs.size + 1 ≠ e := Nat.ne_of_gt (Nat.lt_succ_of_lt hel)
  have ht₄ : h₄.get? (hp.objs.size + 1) = some { cls := .type "tuple", data := .seq #[.int c tk, X] } := by rw [← hh₄, ← hsz]; exact Heap.get?_push_size _ rfl
  have hz₄ : h₄.objs.size = hp.objs.size + 2 := by rw [← hh₄, Heap.size_push, hsz]
  have hk₄ : ∀ b o, b ≠ e → h₁.get? b = some o → h₄.get? b = some o := fun b o hbe hb => by
    rw [← hh₄]; exact Heap.get?_push_of_some _ (hs₃.extBut b o hbe (hs₂.extBut b o hbe hb))
  show wpAny _ _ (Builtin.SmallTypes.ownedTupleIsFree (.ref e) >>= _) _ _ ⟨h₄, g, d, tk + 1, os⟩
  rw [hsz]
  clear hh₄ he₃ hs₃ he₂ hs₂ hsz h₃ h₂
  refine wpAny_bind ?_
  · unfold Builtin.SmallTypes.ownedTupleIsFree
    refine wpAny_bind (wpAny_field he₄ rfl (x := .none) rfl (wpAny_pure ?_))
    simp only [if_true]
    refine wpAny_bind (wpAny_rule ?_)
    refine wpAny_bind (wpAny_field he₄ rfl (x := old) rfl ?_)
    refine wpAny_bind (wpAny_setField_rec he₄ (by simp) fun h₅ he₅ hs₅ => ?_)
    replace hs₅ : Heap.SameBut e h₄ h₅ := hs₅
    replace he₅ : IsEnum h₅ e z (c + 1) X := he₅
    show wpAny _ _ (Builtin.SmallTypes.ownedTupleHandOut (.ref e) (.ref (hp.objs.size + 1)) >>= _) _ _ ⟨h₅, g, d, tk + 1, os⟩
    refine wpAny_bind ?_
    · unfold Builtin.SmallTypes.ownedTupleHandOut
      refine wpAny_bind (wpAny_setField_rec he₅ (by simp) fun h₆ he₆ hs₆ => ?_)
      replace hs₆ : Heap.SameBut e h₅ h₆ := hs₆
      replace he₆ : IsEnumOut h₆ e z (c + 1) X (hp.objs.size + 1) := he₆
      refine wpAny_setField_rec he₆ (by simp) fun h₇ he₇ hs₇ => ?_
      replace hs₇ : Heap.SameBut e h₆ h₇ := hs₇
      replace he₇ : IsEnumOut h₇ e z (c + 1) X (hp.objs.size + 1) := he₇
      have up : ∀ b o, b ≠ e → h₄.get? b = some o → h₇.get? b = some o := fun b o hbe hb => hs₇.extBut b o hbe (hs₆.extBut b o hbe (hs₅.extBut b o hbe hb))
      refine wpAny_bind (wpAny_letGo (wpAny_pure ⟨_, rfl, hQ1 h₇ tk (fun b o hb q => up b o hb (hk₄ b o hb q)) ?_ he₇ (up _ _ hne ht₄) ?_⟩))
      · exact st₁.keep fun b hb o q => up b o (fun z => ne (z ▸ hb)) (hk₄ b o (fun z => ne (z ▸ hb)) q)
      · show h₇.objs.size = hp.objs.size + 2
        rw [hs₇.1, hs₆.1, hs₅.1, hz₄]
theorem enz_pyNext_item {e : Addr} {c : Int} {old : Value} {Q : Option Value → Shared → Prop} (hh : A.handled = none) (D : ZSep z TI TO i1 i2 l1 l2) (ne : e ∉ [z, TI, TO, i1, i2, l1, l2]) (he : IsEnum s.heap e z c old) (st : ZSt z TI TO i1 i2 l1 l2 xs ys i s.heap) {x y : Value} (hx : xs[i]? = some x) (hy : ys[i]? = some y)
    (hQ : ∀ k h' tk, IsTupOf2 k s.heap.objs.size x y → k.objs.size = s.heap.objs.size + 1 → (∀ b o, b ≠ z → b ≠ TO → b ≠ i1 → b ≠ i2 → s.heap.get? b = some o → k.get? b = some o) →
      (∀ b o, b ≠ e → k.get? b = some o → h'.get? b = some o) → ZSt z TI TO i1 i2 l1 l2 xs ys (i + 1) h' → IsEnumOut h' e z (c + 1) (.ref s.heap.objs.size) (s.heap.objs.size + 1) →
      h'.get? (s.heap.objs.size + 1) = some { cls := .type "tuple", data := .seq #[.int c tk, .ref s.heap.objs.size] } → h'.objs.size = s.heap.objs.size + 2 → Q (some (.ref (s.heap.objs.size + 1))) { s with heap := h', toks := tk + 1 }) :
    wpAny (model prog w) A (pyNext (.ref e)) Q E s := by
  have hT : s.TypeIs (.ref e) "enumerate" := ⟨_, he, rfl⟩
  unfold pyNext
  exact wpAny_bind (wpAny_attempt (wpAny_callSpecial?_slot (name := Str.ofString "__next__") hT F.slot_enumerate_next
    (wpAny_call_entry F.slot_enumerate_next hT F.entry_enumerate_next
      (enz_item (A := A.in1) hh D ne he st hx hy fun k h' tk a b c d e f g h => wpAny_pure (hQ k h' tk a b c d e f g h)) (F.args_enumerate_next_1 _))))
theorem enz_pyNext_end {e : Addr} {c : Int} {old : Value} {Q : Option Value → Shared → Prop} (hh : A.handled = none) (D : ZSep z TI TO i1 i2 l1 l2) (he : IsEnum s.heap e z c old) (st : ZSt z TI TO i1 i2 l1 l2 xs ys i s.heap) (hx : i ≤ xs.size) (hy : i ≤ ys.size) (hend : i = xs.size ∨ i = ys.size)
    (hQ : ∀ k tk, (∀ c o, c ≠ z → c ≠ TO → c ≠ i1 → c ≠ i2 → s.heap.get? c = some o → k.get? c = some o) → Q none { s with heap := k, toks := tk }) : wpAny (model prog w) A (pyNext (.ref e)) Q E s := by
  have hT : s.TypeIs (.ref e) "enumerate" := ⟨_, he, rfl⟩
  unfold pyNext
  refine wpAny_bind (wpAny_attempt (wpAny_callSpecial?_slot (name := Str.ofString "__next__") hT F.slot_enumerate_next
    (wpAny_call_entry F.slot_enumerate_next hT F.entry_enumerate_next ?_ (F.args_enumerate_next_1 _))))
  show wpAny _ _ (field (.ref e) 2 >>= _) _ _ _
  refine wpAny_bind (wpAny_field he rfl (x := .ref z) rfl ?_)
  refine wpAny_bind (znext_end (A := A.in1) hh D st hx hy hend fun k tk e' hk hx' => ?_)
  obtain ⟨o, ho, hc⟩ := hx'
  refine wpAny_bind (wpAny_isInstance (T := "StopIteration") (b := true) ⟨o, ho, hc⟩ isSubtype_stop ?_)
  exact wpAny_pure (hQ _ _ hk)
end
section
variable {prog : Program} {w : World} {A : Around} {E : Value → Shared → Prop} {s : Shared}
open AutoSeq1 (wpAny_loadPart')
theorem meets_enz_new {z TI TO : Addr} {f0 : Value} : Meets (Builtin.«enumerate.__new__» ⟨[.type "enumerate", .ref z], []⟩) (fun _ R s => IsZip s.heap z TI TO f0 ∧
      R (.ok (.ret (.ref s.heap.objs.size))) { s with heap := s.heap.push { cls := .type "enumerate", data := .fields #[.none, .bool false, .ref z, rawInt 0, .none, .none] } }) :=
  .of_wp fun prog w A R s h => by
    obtain ⟨hp, g, d, tk, os⟩ := s; obtain ⟨hl, h⟩ := h
    have hsub := sub_enumerate
    have hL : IsZip (Shared.heap ⟨hp, g, d, tk, os⟩) z TI TO f0 := hl
    wp_walk using wpAny_loadPart' hl
    refine wpAny_stack_any fun st => wpAny_pure ?_
    split
    · rename_i c _ _ _ _ _
      cases (c == Value.type "enumerate")
      · wp_walk using wpAny_loadPart' hl, wpAny_pyIter_zip hL
        exact ⟨_, rfl, h⟩
      · wp_walk using wpAny_loadPart' hl, wpAny_pyIter_zip hL
        exact ⟨_, rfl, h⟩
    · wp_walk using wpAny_loadPart' hl, wpAny_pyIter_zip hL
      exact ⟨_, rfl, h⟩
theorem call_enz {z TI TO : Addr} {f0 : Value} {Q : Value → Shared → Prop} (hL : IsZip s.heap z TI TO f0)
    (h : ∀ h', IsEnum h' s.heap.objs.size z 0 .none → h'.objs.size = s.heap.objs.size + 1 → (∀ b o, s.heap.get? b = some o → h'.get? b = some o) → Q (.ref s.heap.objs.size) { s with heap := h' }) :
    wpAny (model prog w) A (call (.type "enumerate") [.ref z]) Q E s := by
  refine callType_new F.called_enumerate (by decide) (F.typeCall_enumerate_1 _) (F.newCall_enumerate_1 _) (fun obj => F.args_object_init_2 obj _) F.entry_enumerate_new
    meets_enz_new ⟨hL, ?_⟩
  have he : IsEnum (s.heap.push { cls := .type "enumerate", data := .fields #[.none, .bool false, .ref z, rawInt 0, .none, .none] }) s.heap.objs.size z 0 .none := Heap.get?_push_size _ rfl
  exact ⟨⟨_, he, rfl⟩, h _ he (Heap.size_push ..) fun b o x => Heap.get?_push_of_some _ x⟩
end
end MG

/-! enumerate of a zip of two lists: the turn, the rule -/
namespace MG
open PySem PySem.Spec PyProof.Rows L2
def Ienz (K : PySem.W.Frag) (a b : Addr) (xs ys : List V) : It where
  go := fun i H => SqL K H a xs ∧ SqL K H b ys ∧ i < xs.length ∧ i < ys.length
  yld := fun i H v H' => ∃ T T2 x y, v = .ref T2 ∧ H T = none ∧ H T2 = none ∧ T ≠ T2 ∧ H' = upd (upd H T (.tup [x, y])) T2 (.tup [.int (i : Nat), .ref T]) ∧ xs[i]? = some x ∧ ys[i]? = some y
  stop := fun i H => SqL K H a xs ∧ SqL K H b ys ∧ i ≤ xs.length ∧ i ≤ ys.length ∧ (i = xs.length ∨ i = ys.length)
def ZCore (z TI TO i1 i2 l1 l2 : Addr) (i : Nat) (h : Heap) : Prop :=
  (∃ f : Bool, ZF h z TI TO .none (.bool f) ∨ ∃ T : Addr, ZF h z TI TO (rawInt T) (.bool f)) ∧ IsTupOf2 h TI (.ref i1) (.ref i2) ∧ (∃ x y, IsTupOf2 h TO x y) ∧ h.IsListIter i1 l1 i ∧ h.IsListIter i2 l2 i
theorem ZCore.keep {z TI TO i1 i2 l1 l2 : Addr} {i : Nat} {h h' : Heap} (S : ZCore z TI TO i1 i2 l1 l2 i h) (k : ∀ c ∈ [z, TI, TO, i1, i2], ∀ o, h.get? c = some o → h'.get? c = some o) : ZCore z TI TO i1 i2 l1 l2 i h' := by
  obtain ⟨⟨f, hz⟩, hI, ⟨x, y, hO⟩, a1, b1⟩ := S
  refine ⟨⟨f, ?_⟩, k TI (by simp) _ hI, ⟨x, y, k TO (by simp) _ hO⟩, a1.at fun o q => k i1 (by simp) o q, b1.at fun o q => k i2 (by simp) o q⟩
  rcases hz with hz | ⟨T, hz⟩
  · exact .inl (k z (by simp) _ hz)
  · exact .inr ⟨T, k z (by simp) _ hz⟩
theorem ZCore.obj {z TI TO i1 i2 l1 l2 : Addr} {i : Nat} {h : Heap} (S : ZCore z TI TO i1 i2 l1 l2 i h) : ∀ b ∈ [z, TI, TO, i1, i2], ∃ o, h.get? b = some o ∧ ∀ v, o.data ≠ .cell v := by
  obtain ⟨⟨f, hz⟩, hI, ⟨x, y, hO⟩, ⟨o1, e1, _, d1⟩, ⟨o2, e2, _, d2⟩⟩ := S
  intro c hc
  rcases (show c = z ∨ c = TI ∨ c = TO ∨ c = i1 ∨ c = i2 by simpa using hc) with q | q | q | q | q
  · rw [q]
    rcases hz with hz | ⟨T, hz⟩
    · exact ⟨_, hz, fun v q => nomatch q⟩
    · exact ⟨_, hz, fun v q => nomatch q⟩
  · rw [q]; exact ⟨_, hI, fun v q => nomatch q⟩
  · rw [q]; exact ⟨_, hO, fun v q => nomatch q⟩
  · rw [q]; exact ⟨o1, e1, fun v q => by rw [d1] at q; cases q⟩
  · rw [q]; exact ⟨o2, e2, fun v q => by rw [d2] at q; cases q⟩
theorem ZCore.of {z TI TO i1 i2 l1 l2 : Addr} {xs ys : Array Value} {i : Nat} {h : Heap} (S : ZSt z TI TO i1 i2 l1 l2 xs ys i h) : ZCore z TI TO i1 i2 l1 l2 i h := ⟨S.1, S.2.1, S.2.2.1, S.2.2.2.1.1, S.2.2.2.2.1⟩
theorem ZCore.to {z TI TO i1 i2 l1 l2 : Addr} {xs ys : Array Value} {i : Nat} {h : Heap} (S : ZCore z TI TO i1 i2 l1 l2 i h) (p1 : h.IsList l1 xs) (p2 : h.IsList l2 ys) : ZSt z TI TO i1 i2 l1 l2 xs ys i h := ⟨S.1, S.2.1, S.2.2.1, ⟨S.2.2.2.1, p1⟩, ⟨S.2.2.2.2, p2⟩⟩
theorem turn_enz {P : Program} {w : World} {K : PySem.W.Frag} {elts : List Expr} {kk : Nat} {tpos : Pos} {a b e z TI TO i1 i2 : Addr} {xs ys : List V} (D : ZSep z TI TO i1 i2 a b) (ne : e ∉ [z, TI, TO, i1, i2, a, b]) :
    Turn P w K (.Tuple elts kk tpos) (Ienz K a b xs ys) [e, z, TI, TO, i1, i2] e (fun i h => (∃ old, IsEnum h e z ((i : Nat) : Int) old) ∧ ZCore z TI TO i1 i2 a b i h) where
  mem := by simp
  obj := by
    rintro i h ⟨⟨old, he⟩, st⟩ c hc
    rcases (show c = e ∨ c ∈ [z, TI, TO, i1, i2] from List.mem_cons.1 hc) with q | q
    · rw [q]; exact ⟨_, he, fun v q => nomatch q⟩
    · exact st.obj c q
  keep := by
    rintro i h h' ⟨⟨old, he⟩, st⟩ k
    exact ⟨⟨old, k e (by simp) _ he⟩, st.keep fun c hc o q => k c (List.mem_cons_of_mem _ hc) o q⟩
  item := by
    intro X hP hw hK hc i pins s σ H E I hf st hgo
    subst hP hw hK
    obtain ⟨⟨old, he⟩, st⟩ := st
    obtain ⟨qx, qy, lx, ly⟩ := hgo
    obtain ⟨its, rv, p1, hzx⟩ := I.list qx
    obtain ⟨jts, rw', p2, hzy⟩ := I.list qy
    obtain ⟨x, hx⟩ : ∃ x, xs[i]? = some x := ⟨xs[i], List.getElem?_eq_getElem lx⟩
    obtain ⟨y, hy⟩ : ∃ y, ys[i]? = some y := ⟨ys[i], List.getElem?_eq_getElem ly⟩
    obtain ⟨u1, hu1, r1⟩ := rv.get hx
    obtain ⟨u2, hu2, r2⟩ := rw'.get hy
    have hh : X.A.handled = none := by have q := I.ok.hd hc; exact q
    refine enz_pyNext_item hh D ne he (st.to p1.isList p2.isList) (x := u1) (y := u2) (by simpa using hu1) (by simpa using hu2) ?_
    intro k h' tk pr szk fk fk' st' ho hT2 sz'
    refine ⟨_, rfl, wpAny_letOwnedTupleGo_enum (s := { s with heap := h', toks := tk + 1 }) ho ?_⟩
    intro h'' he'' sb
    have hl : ∀ c ∈ [e, z, TI, TO, i1, i2], c < s.heap.objs.size := by
      intro c hc
      rcases (show c = e ∨ c ∈ [z, TI, TO, i1, i2] from List.mem_cons.1 hc) with q | q
      · rw [q]; exact Heap.lt_size he
      · obtain ⟨o, q, _⟩ := st.obj c q; exact Heap.lt_size q
    have hel : e < s.heap.objs.size := hl e (by simp)
    have new1 : ObjOk X.prog X.w (upd H s.heap.objs.size (.tup [x, y])) k s.heap.objs.size (.tup [x, y]) :=
      ⟨by show 2 ≤ sizeLine; decide, [u1, u2], .cons r1 (.cons r2 .nil), ⟨_, pr, rfl, _, rfl⟩⟩
    have I1 : Inv X pins σ (upd H s.heap.objs.size (.tup [x, y])) { s with heap := k, toks := tk } := I.turnedNew (t' := tk) (ch := [e, z, TI, TO, i1, i2])
      (fun c o hb q => fk c o (fun e => hb (by simp [e])) (fun e => hb (by simp [e])) (fun e => hb (by simp [e])) (fun e => hb (by simp [e])) q) hf (Nat.le_refl _) new1
    have up : ∀ c o, c ≠ e → k.get? c = some o → h''.get? c = some o := fun c o hc q => (sb.2 c hc).trans (fk' c o hc q)
    have hf1 : ∀ c ∈ [e, z, TI, TO, i1, i2], FpOk X pins (upd H s.heap.objs.size (.tup [x, y])) c := fun c hc => by
      obtain ⟨f0, f⟩ := hf c hc
      exact ⟨by rw [upd_ne (Nat.ne_of_lt (hl c hc))]; exact f0, f⟩
    have hle : s.heap.objs.size < s.heap.objs.size + 1 := Nat.lt_succ_self _
    have new2 : ObjOk X.prog X.w (upd (upd H s.heap.objs.size (.tup [x, y])) (s.heap.objs.size + 1) (.tup [.int (i : Nat), .ref s.heap.objs.size])) h'' (s.heap.objs.size + 1) (.tup [.int (i : Nat), .ref s.heap.objs.size]) :=
      ⟨by show 2 ≤ sizeLine; decide, [.int i tk, .ref s.heap.objs.size], .cons ⟨_, rfl⟩ (.cons rfl .nil), ⟨_, (sb.2 _ (Nat.ne_of_gt (Nat.lt_succ_of_lt hel))).trans hT2, rfl, _, rfl⟩⟩
    have I2 : Inv X pins σ (upd (upd H s.heap.objs.size (.tup [x, y])) (s.heap.objs.size + 1) (.tup [.int (i : Nat), .ref s.heap.objs.size])) { s with heap := h'', toks := tk + 1 } := I1.turnedNew (s := { s with heap := k, toks := tk }) (t' := tk + 1) (ch := [e, z, TI, TO, i1, i2])
      (fun c o hb q => up c o (fun e => hb (by simp [e])) q) hf1 (Nat.le_of_eq szk) new2
    refine ⟨.ref (s.heap.objs.size + 1), _, I2, rfl, ⟨_, _, x, y, rfl, I.hok.fresh (Nat.le_refl _), I.hok.fresh (Nat.le_succ _), Nat.ne_of_lt hle, rfl, hx, hy⟩, ⟨⟨Value.ref s.heap.objs.size, ?_⟩, (ZCore.of st').keep fun c hc o q => (sb.2 c (fun q' => ne (by
        rw [← q']
        rcases (show c = z ∨ c = TI ∨ c = TO ∨ c = i1 ∨ c = i2 by simpa using hc) with r | r | r | r | r <;> simp [r]))).trans q⟩, ?_⟩
    · have e1 : ((i + 1 : Nat) : Int) = (i : Int) + 1 := by omega
      rw [e1]
      exact he''
    · intro c hc'
      have hlt := hl c hc'
      rw [upd_ne (Nat.ne_of_lt (Nat.lt_succ_of_lt hlt)), upd_ne (Nat.ne_of_lt hlt)]
      exact (hf c hc').1
  done := by
    intro X hP hw hK hc i pins s σ H E I hf st hs
    subst hP hw hK
    obtain ⟨⟨old, he⟩, st⟩ := st
    obtain ⟨qx, qy, lx, ly, lxy⟩ := hs
    obtain ⟨its, rv, p1, hzx⟩ := I.list qx
    obtain ⟨jts, rw', p2, hzy⟩ := I.list qy
    have hl1 := rv.length
    have hl2 := rw'.length
    have hh : X.A.handled = none := by have q := I.ok.hd hc; exact q
    refine enz_pyNext_end hh D he (st.to p1.isList p2.isList) (by simp; omega) (by simp; omega) (by simp; omega) ?_
    intro k tk hk
    exact ⟨rfl, I.turnedL (t' := tk) (ch := [e, z, TI, TO, i1, i2]) (fun c o hb q => hk c o (fun e => hb (by simp [e])) (fun e => hb (by simp [e])) (fun e => hb (by simp [e])) (fun e => hb (by simp [e])) q) hf⟩
  self := by
    rintro A i s Q E ⟨⟨_, he⟩, _⟩ h
    exact wpAny_pyIter_enum he h
def iEnz (K : PySem.W.Frag) (ta : TA) : TI := fun σ H R => ta σ H fun vs H1 => ∃ a b xs ys, vs = [.ref a, .ref b] ∧ SqL K H1 a xs ∧ SqL K H1 b ys ∧ R (Ienz K a b xs ys) H1
/-- what a walk over it does -/
def YEnz (xs ys : List V) : Nat → Hp → V → Hp → Prop := fun i H v H' => ∃ T T2 x y, v = .ref T2 ∧ H T = none ∧ H T2 = none ∧ T ≠ T2 ∧ H' = upd (upd H T (.tup [x, y])) T2 (.tup [.int (i : Nat), .ref T]) ∧ xs[i]? = some x ∧ ys[i]? = some y
theorem walk_enz {K : PySem.W.Frag} {a b : Addr} {xs ys : List V} {n : Nat} (hn : n = min xs.length ys.length) : Walk (Ienz K a b xs ys) n (fun H => SqL K H a xs ∧ SqL K H b ys) (YEnz xs ys) := by
  exact ⟨fun i H hi ⟨q1, q2⟩ => ⟨q1, q2, by omega, by omega⟩, fun H ⟨q1, q2⟩ => ⟨q1, q2, by omega, by omega, by omega⟩, fun i H x H' hi _ h => h⟩
theorem pi_enz {X : Cx} {e1 e2 : Expr} {ta : TA} {p p2 pos pos2 tpos : Pos} {elts : List Expr} {kk : Nat} (hg : Gl X "enumerate") (hm : X.mg "enumerate" = none) (hg2 : Gl X "zip") (hm2 : X.mg "zip" = none) (ha : PA X [e1, e2] ta)
    (hs : starEach [e1, e2] X.env = (false, eval e1 X.env) :: starEach [e2] X.env := by rfl) (hpl : ((backTo pos2 (starEach [e2] X.env)).any fun x => x.fst) = false := by rfl)
    (hs2 : starEach [Expr.Call (.Name "zip" p2) [e1, e2] [] pos2] X.env = [(false, eval (Expr.Call (.Name "zip" p2) [e1, e2] [] pos2) X.env)] := by rfl) :
    PI X (.Tuple elts kk tpos) (.Call (.Name "enumerate" p) [.Call (.Name "zip" p2) [e1, e2] [] pos2] [] pos) (iEnz X.K ta) := by
  refine ⟨fun pins s σ H R I h => ?_⟩
  refine Call_ (ld_blt I hg hm boot_enumerate (PyProof.Rows.callWith_type1 ?_ hs2 rfl))
  rw [hs2]
  show wpAny _ _ (spliced [(false, eval (Expr.Call (.Name "zip" p2) [e1, e2] [] pos2) X.env)]) _ _ _
  refine Calls.spliced_cons ?_
  refine Call_ (ld_blt I hg2 hm2 boot_zip (PyProof.Rows.callWith_type1 (thn (ha.run pos2 pins s σ H _ I h) ?_) hs hpl))
  rintro us s1 ⟨vs, H1, I1, r1, a, b, xs, ys, rfl, qx, qy, q⟩
  obtain ⟨u, us, rfl, rx, rr⟩ : ∃ u us', us = u :: us' ∧ RelV (.ref a) u ∧ Vals [.ref b] us' := by
    cases r1 with
    | cons h1 h2 => exact ⟨_, _, rfl, h1, h2⟩
  obtain ⟨v, rfl, ry⟩ := vals1 rr
  cases (show u = Value.ref a from rx)
  cases (show v = Value.ref b from ry)
  obtain ⟨its, rv, p1, hzx⟩ := I1.list qx
  obtain ⟨jts, rw', p2, hzy⟩ := I1.list qy
  refine zip_begins2 (PySem.begins_list a its.toArray) (PySem.begins_list b jts.toArray) p1.isList p2.isList ?_
  intro h' hz hTI hTO g1 g2 hsz hk
  refine Calls.spliced_nil ?_
  refine call_enz (s := { s1 with heap := h' }) hz ?_
  intro h'' he hsz2 hk2
  refine wpAny_pyIter_enum he ?_
  replace hsz : h'.objs.size = s1.heap.objs.size + 5 := hsz
  replace he : IsEnum h'' h'.objs.size (s1.heap.objs.size + 4) 0 .none := he
  replace hk2 : ∀ c o, h'.get? c = some o → h''.get? c = some o := hk2
  show PIE X pins σ (.Tuple elts kk tpos) R (.ref h'.objs.size) { s1 with heap := h'' }
  rw [hsz] at he ⊢
  have I2 : Inv X pins σ H1 { s1 with heap := h'' } := I1.kept (t' := s1.toks) fun c o q => hk2 c o (hk c o q)
  have la : a < s1.heap.objs.size := p1.lt
  have lb : b < s1.heap.objs.size := p2.lt
  have ap := PySem.W.ktu_apart s1.heap.objs.size a b la lb
  refine ⟨s1.heap.objs.size + 5, [s1.heap.objs.size + 5, s1.heap.objs.size + 4, s1.heap.objs.size + 2, s1.heap.objs.size + 3, s1.heap.objs.size, s1.heap.objs.size + 1], _, _, H1, rfl, I2,
    turn_enz (xs := xs) (ys := ys) ⟨ap, zip_sep2 (N := s1.heap.objs.size) (fp1 := [a]) (fp2 := [b]) (by simp; exact la) (by simp; exact lb)⟩ ?_,
    ⟨⟨_, he⟩, ⟨⟨false, .inl (hk2 _ _ hz)⟩, hk2 _ _ hTI, ⟨_, _, hk2 _ _ hTO⟩, ⟨_, hk2 _ _ g1, rfl, rfl⟩, ⟨_, hk2 _ _ g2, rfl, rfl⟩⟩⟩, ?_, q⟩
  · intro hm
    have la' : (a : Nat) < s1.heap.objs.size := la
    have lb' : (b : Nat) < s1.heap.objs.size := lb
    rcases (show (s1.heap.objs.size + 5 : Nat) = s1.heap.objs.size + 4 ∨ (s1.heap.objs.size + 5 : Nat) = s1.heap.objs.size + 2 ∨ (s1.heap.objs.size + 5 : Nat) = s1.heap.objs.size + 3 ∨ (s1.heap.objs.size + 5 : Nat) = s1.heap.objs.size ∨ (s1.heap.objs.size + 5 : Nat) = s1.heap.objs.size + 1 ∨ (s1.heap.objs.size + 5 : Nat) = a ∨ (s1.heap.objs.size + 5 : Nat) = b by
      have q := List.mem_cons.1 hm
      simpa only [List.mem_cons, List.not_mem_nil, or_false] using hm) with e | e | e | e | e | e | e
    · omega
    · omega
    · omega
    · omega
    · omega
    · exact absurd e (Nat.ne_of_gt (Nat.lt_of_lt_of_le la (Nat.le_add_right _ _)))
    · exact absurd e (Nat.ne_of_gt (Nat.lt_of_lt_of_le lb (Nat.le_add_right _ _)))
  · intro c hc
    have hle : s1.heap.objs.size ≤ c := by
      rcases (show c = _ ∨ c = _ ∨ c = _ ∨ c = _ ∨ c = _ ∨ c = _ by simpa using hc) with e | e | e | e | e | e <;> rw [e] <;> omega
    exact I1.fpOk hle (I1.hok.fresh hle)
end MG

/-! k30: lags -/
namespace KT
/-- the greatest difference of two lengths so far, and the least sum with it -/
def lagUp (f g : Nat → Option Nat) : Nat → Int × Nat
  | 0 => (0, 0)
  | n + 1 => match f n, g n with
    | some a, some b => if (lagUp f g n).1 < (a : Int) - (b : Int) then ((a : Int) - (b : Int), n) else lagUp f g n
    | _, _ => lagUp f g n
/-- what it comes to at last -/
def IsLag (f g : Nat → Option Nat) (r : Int × Nat) : Prop := ∃ N0, ∀ N, N0 ≤ N → lagUp f g N = r
theorem IsLag.uniq {f g : Nat → Option Nat} {r q : Int × Nat} (h : IsLag f g r) (k : IsLag f g q) : r = q := by
  obtain ⟨N, h⟩ := h
  obtain ⟨M, k⟩ := k
  rw [← h (max N M) (Nat.le_max_left _ _), k (max N M) (Nat.le_max_right _ _)]
theorem lagUp_none {f g : Nat → Option Nat} {n : Nat} (h : f n = none ∨ g n = none) : lagUp f g (n + 1) = lagUp f g n := by
  rcases h with h | h
  · simp only [lagUp, h]
  · cases e : f n <;> simp only [lagUp, h, e]
theorem lagUp_some {f g : Nat → Option Nat} {n a b : Nat} (ha : f n = some a) (hb : g n = some b) : lagUp f g (n + 1) = if (lagUp f g n).1 < (a : Int) - (b : Int) then ((a : Int) - (b : Int), n) else lagUp f g n := by
  simp only [lagUp, ha, hb]
theorem lagUp_step {f g : Nat → Option Nat} (n : Nat) : (lagUp f g n).1 ≤ (lagUp f g (n + 1)).1 := by
  cases ha : f n with
  | none => rw [lagUp_none (.inl ha)]; exact Int.le_refl _
  | some a =>
    cases hb : g n with
    | none => rw [lagUp_none (.inr hb)]; exact Int.le_refl _
    | some b =>
      rw [lagUp_some ha hb]
      split
      · dsimp only; omega
      · exact Int.le_refl _
theorem lagUp_mono {f g : Nat → Option Nat} (n k : Nat) : (lagUp f g n).1 ≤ (lagUp f g (n + k)).1 := by
  induction k with
  | zero => exact Int.le_refl _
  | succ k ih => exact Int.le_trans ih (lagUp_step _)
theorem lagUp_nonneg {f g : Nat → Option Nat} (n : Nat) : 0 ≤ (lagUp f g n).1 := by
  have h := lagUp_mono (f := f) (g := g) 0 n
  rw [Nat.zero_add] at h
  exact h
theorem lagUp_ge {f g : Nat → Option Nat} {n m a b : Nat} (hlt : m < n) (ha : f m = some a) (hb : g m = some b) : (a : Int) - (b : Int) ≤ (lagUp f g n).1 := by
  have h := lagUp_mono (f := f) (g := g) (m + 1) (n - (m + 1))
  rw [Nat.add_sub_cancel' hlt] at h
  refine Int.le_trans ?_ h
  rw [lagUp_some ha hb]
  split
  · exact Int.le_refl _
  · omega
theorem lagUp_small {f g : Nat → Option Nat} (h : ∀ n a, f n = some a → a ≤ n) : ∀ N, (lagUp f g N).1 ≤ N ∧ (lagUp f g N).2 ≤ N
  | 0 => ⟨Int.le_refl _, Nat.le_refl _⟩
  | n + 1 => by
    obtain ⟨i1, i2⟩ := lagUp_small (g := g) h n
    cases ha : f n with
    | none => rw [lagUp_none (.inl ha)]; exact ⟨by omega, by omega⟩
    | some a =>
      cases hb : g n with
      | none => rw [lagUp_none (.inr hb)]; exact ⟨by omega, by omega⟩
      | some b =>
        have := h n a ha
        rw [lagUp_some ha hb]
        split
        · exact ⟨by dsimp only; omega, by dsimp only; omega⟩
        · exact ⟨by omega, by omega⟩
theorem le_sum_nat : ∀ {cs : List Nat} {c : Nat}, c ∈ cs → c ≤ cs.sum
  | x :: xs, c, h => by
    rw [List.sum_cons]
    rcases List.mem_cons.1 h with rfl | h
    · omega
    · have := le_sum_nat h; omega
theorem few_small {cs : List Nat} (hp : ∀ c ∈ cs, 0 < c) (n a : Nat) (h : few cs n = some a) : a ≤ n := by
  have p := ((few_iff hp).1 h).1
  have := (Ln.bounds (L := 1) (G := n + cs.sum) (fun c hc => hp c hc) (fun c hc => Nat.le_trans (le_sum_nat hc) (Nat.le_add_left _ _)) p).1
  omega
/-- the sums behind M show no greater difference -/
theorem lag_stay {f g : Nat → Option Nat} {M : Nat} (h : ∀ n a b, M ≤ n → f n = some a → g n = some b → ∃ m a' b', m < n ∧ f m = some a' ∧ g m = some b' ∧ (a : Int) - b ≤ (a' : Int) - b') : IsLag f g (lagUp f g M) := by
  refine ⟨M, fun N hN => ?_⟩
  obtain ⟨k, rfl⟩ := Nat.exists_eq_add_of_le hN
  clear hN
  induction k with
  | zero => rfl
  | succ k ih =>
    rw [← Nat.add_assoc]
    cases ha : f (M + k) with
    | none => rw [lagUp_none (.inl ha)]; exact ih
    | some a =>
      cases hb : g (M + k) with
      | none => rw [lagUp_none (.inr hb)]; exact ih
      | some b =>
        obtain ⟨m, a', b', hm, ha', hb', hle⟩ := h _ a b (Nat.le_add_right _ _) ha hb
        have := lagUp_ge hm ha' hb'
        rw [lagUp_some ha hb, if_neg (by omega)]
        exact ih
theorem lag_far {cs ds : List Nat} {G C G2 C2 M E : Nat} (hp : ∀ c ∈ cs, 0 < c) (hm : G ∈ cs) (hC : ∀ c ∈ cs, c ≠ G → c ≤ C) (hlt : ∀ c ∈ cs, c ≤ G)
    (hp2 : ∀ c ∈ ds, 0 < c) (hm2 : G2 ∈ ds) (hC2 : ∀ c ∈ ds, c ≠ G2 → c ≤ C2) (hlt2 : ∀ c ∈ ds, c ≤ G2) (hle : G2 ≤ G)
    (e1 : (G - 1) * C ≤ E) (e2 : (G2 - 1) * C2 ≤ E) (hM : E + Nat.lcm G G2 + 1 ≤ M) : IsLag (few cs) (few ds) (lagUp (few cs) (few ds) M) := by
  have g0 := hp G hm
  have g20 := hp2 G2 hm2
  have d1 : G ∣ Nat.lcm G G2 := Nat.dvd_lcm_left _ _
  have d2 : G2 ∣ Nat.lcm G G2 := Nat.dvd_lcm_right _ _
  have P0 : 0 < Nat.lcm G G2 := Nat.lcm_pos g0 g20
  generalize Nat.lcm G G2 = P at *
  obtain ⟨u, hu⟩ := d1
  obtain ⟨v, hv⟩ := d2
  have huv : u ≤ v := by
    rcases Nat.lt_or_ge v u with q | q
    · exfalso
      have h1 : G2 * v ≤ G * v := Nat.mul_le_mul_right _ hle
      have h2 : G * v < G * u := Nat.mul_lt_mul_of_pos_left q g0
      omega
    · exact q
  have back : ∀ (f : Nat → Option Nat) (c m n : Nat), (∀ n, E < n → c ≤ n → f n = (f (n - c)).map (· + 1)) → 0 < c → c * m = P → E + P < n → f n = (f (n - P)).map (· + m) := by
    intro f c m n h hc hm hn
    have key : ∀ j, j ≤ m → f n = (f (n - c * j)).map (· + j) := by
      intro j
      induction j with
      | zero => intro _; rw [Nat.mul_zero, Nat.sub_zero]; cases f n <;> rfl
      | succ j ih =>
        intro hj
        have hb : c * (j + 1) ≤ P := by rw [← hm]; exact Nat.mul_le_mul_left _ hj
        rw [Nat.mul_succ] at hb ⊢
        rw [ih (by omega), h (n - c * j) (by omega) (by omega)]
        rw [show n - c * j - c = n - (c * j + c) by omega]
        cases f (n - (c * j + c)) with
        | none => rfl
        | some x => simp only [Option.map_some]; congr 1; omega
    have := key m (Nat.le_refl _)
    rw [hm] at this
    exact this
  refine lag_stay fun n a b hn ha hb => ?_
  have b1 := back (few cs) G u n (fun n h1 h2 => few_back hp hm hC hlt (by omega) h2) g0 hu.symm (by omega)
  have b2 := back (few ds) G2 v n (fun n h1 h2 => few_back hp2 hm2 hC2 hlt2 (by omega) h2) g20 hv.symm (by omega)
  rw [ha] at b1
  rw [hb] at b2
  cases q1 : few cs (n - P) with
  | none => rw [q1] at b1; cases b1
  | some a' =>
    cases q2 : few ds (n - P) with
    | none => rw [q2] at b2; cases b2
    | some b' =>
      rw [q1] at b1
      rw [q2] at b2
      have b1' : a = a' + u := by simpa using b1
      have b2' : b = b' + v := by simpa using b2
      exact ⟨n - P, a', b', by omega, q1, q2, by omega⟩
theorem ln_le {cs : List Nat} {G : Nat} (hlt : ∀ c ∈ cs, c ≤ G) : ∀ {n k : Nat}, Ln cs n k → n ≤ k * G := by
  intro n k p
  have := (Ln.bounds (L := 0) (G := G) (fun _ _ => Nat.zero_le _) hlt p).2
  rwa [Nat.mul_comm] at this
theorem few_times {cs : List Nat} {G : Nat} (hp : ∀ c ∈ cs, 0 < c) (hm : G ∈ cs) (hlt : ∀ c ∈ cs, c ≤ G) (k : Nat) : few cs (G * k) = some k := by
  refine (few_iff hp).2 ⟨?_, fun j p => ?_⟩
  · rw [Nat.mul_comm]; exact Ln.times hm k
  · have h1 := ln_le hlt p
    have g0 := hp G hm
    rw [Nat.mul_comm j] at h1
    exact Nat.le_of_mul_le_mul_left h1 g0
end KT

namespace Kx
open PySem PySem.Spec PyProof.Rows L2 MG
def sp_lag (C : Addr) : Sp := fun vs H Q _ => ∃ (p1 p2 : Addr) (cs ds : List Int) (G G2 : Nat), vs = [.ref p1, .ref p2] ∧ LotAt C H p1 cs ∧ LotAt C H p2 ds ∧ cs[cs.length - 1]? = some (G : Int) ∧ ds[ds.length - 1]? = some (G2 : Int) ∧ G ≤ 30 ∧ G2 ≤ 30 ∧
  (G < G2 → Q .non H) ∧ (G2 ≤ G → ∀ r q H', KT.IsLag (KT.few (natL cs)) (KT.few (natL ds)) r → H q = none → Same H H' → H' q = some (.tup [.int r.1, .int (r.2 : Nat)]) → Q (.ref q) H')
def sp_l_common : Sp := fun vs H Q _ => ∃ (a b : Nat), vs = [.int a, .int b] ∧ 1 ≤ a ∧ a ≤ 60 ∧ 1 ≤ b ∧ b ≤ 60 ∧ ∀ H', Same H H' → Q (.int (Nat.lcm a b : Nat)) H'
def sp_l_due : Sp := fun vs H Q _ => ∃ (t1 t2 : Addr) (cs ds : List Int) (m : Nat), vs = [.ref t1, .ref t2, .int m] ∧ H t1 = some (.tup (cs.map V.int)) ∧ H t2 = some (.tup (ds.map V.int)) ∧ Lotc cs ∧ Lotc ds ∧ m ≤ 8000 ∧
  ∀ q H', H q = none → Same H H' → H' q = some (.tup [.int (KT.lagUp (KT.few (natL cs)) (KT.few (natL ds)) (m + 1)).1, .int ((KT.lagUp (KT.few (natL cs)) (KT.few (natL ds)) (m + 1)).2 : Nat)]) → Q (.ref q) H'
def sp_l_grows : Sp := fun vs H Q _ => ∃ (t1 t2 : Addr) (cs ds : List Int) (G G2 : Nat), vs = [.ref t1, .ref t2] ∧ H t1 = some (.tup (cs.map V.int)) ∧ H t2 = some (.tup (ds.map V.int)) ∧ Lotc cs ∧ Lotc ds ∧
  cs[cs.length - 1]? = some (G : Int) ∧ ds[ds.length - 1]? = some (G2 : Int) ∧ G < G2 ∧ G2 ≤ 30 ∧ ∀ H', Same H H' → Q (.bl true) H'
def sp_l_lag_right (C : Addr) : Sp := fun vs H Q _ => ∃ (t1 t2 : Addr) (cs ds : List Int) (G G2 : Nat), vs = [.ref t1, .ref t2] ∧ H t1 = some (.tup (cs.map V.int)) ∧ H t2 = some (.tup (ds.map V.int)) ∧ Lotc cs ∧ Lotc ds ∧
  cs[cs.length - 1]? = some (G : Int) ∧ ds[ds.length - 1]? = some (G2 : Int) ∧ G ≤ 30 ∧ G2 ≤ 30 ∧ ∀ H', Same H H' → Q (.bl true) H'
def sp_l_second : Sp := fun vs H Q _ => ∃ (b t : Addr) (cs : List Int) (m : Nat), vs = [.ref b, .ref t, .int m] ∧ Bw H b ∧ H t = some (.tup (cs.map V.int)) ∧ Lotc cs ∧ (∀ c ∈ cs, c ≤ m) ∧ cs.length ≤ 8 ∧ 6 ≤ m ∧ m ≤ 30 ∧
  ∀ t2 ds H', Lotc ds → (∀ c ∈ ds, c ≤ m) → H' t2 = some (.tup (ds.map V.int)) → Bw H' b → But b H H' → Q (.ref t2) H'

theorem first_ex {cs : List Int} (hc : Lotc cs) : ∃ L : Nat, cs[0]? = some (L : Int) := by
  have hc60 := lot_pos (Int.le_refl 0) hc.up
  have hpos := List.length_pos_iff.mpr hc.ne
  obtain ⟨G, hG⟩ : ∃ G, cs[0]? = some G := ⟨cs[0]'(by omega), List.getElem?_eq_getElem _⟩
  have := hc60 G (List.mem_of_getElem? hG)
  exact ⟨G.toNat, by rw [hG, Int.toNat_of_nonneg (by omega)]⟩
theorem ahC_ex {cs : List Int} (hc : Lotc cs) : ∃ C : Nat, AhC cs C := by
  have hc60 := lot_pos (Int.le_refl 0) hc.up
  have hpos := List.length_pos_iff.mpr hc.ne
  by_cases h1 : 1 < cs.length
  · obtain ⟨G, hG⟩ : ∃ G, cs[cs.length - 2]? = some G := ⟨cs[cs.length - 2]'(by omega), List.getElem?_eq_getElem _⟩
    have := hc60 G (List.mem_of_getElem? hG)
    exact ⟨G.toNat, .inr ⟨h1, by rw [hG, Int.toNat_of_nonneg (by omega)]⟩⟩
  · exact ⟨1, .inl ⟨by omega, rfl⟩⟩
theorem ahC_le {cs : List Int} (hc : Lotc cs) {C G : Nat} (h : AhC cs C) (hG : cs[cs.length - 1]? = some (G : Int)) : C ≤ G := by
  have hc60 := lot_pos (Int.le_refl 0) hc.up
  have hmax := last_max hc hG
  rcases h with ⟨h1, rfl⟩ | ⟨h1, h2⟩
  · have := hc60 _ (List.mem_of_getElem? hG)
    omega
  · have := hmax _ (List.mem_of_getElem? h2)
    omega
theorem common_first {a b : Nat} (ha : 1 ≤ a) (hb : 1 ≤ b) (n : Nat) (hn : n = b) : atI (((List.range n).filter fun j => decide (a * (j + 1) % b = 0)).map fun j => V.int ((a * (j + 1) : Nat) : Int)) 0 = some (.int (Nat.lcm a b : Nat)) := by
  subst hn
  have hl0 : 0 < Nat.lcm a n := Nat.lcm_pos ha hb
  obtain ⟨k, hk⟩ := Nat.dvd_lcm_left a n
  have hle : Nat.lcm a n ≤ a * n := Nat.lcm_le_mul (by omega) (by omega)
  have k1 : 1 ≤ k := by
    rcases Nat.eq_zero_or_pos k with q | q
    · rw [q, Nat.mul_zero] at hk; omega
    · exact q
  have k2 : k ≤ n := by
    rw [hk] at hle
    exact Nat.le_of_mul_le_mul_left hle ha
  have key : (List.range n).find? (fun j => decide (a * (j + 1) % n = 0)) = some (k - 1) := by
    rw [List.find?_range_eq_some]
    refine ⟨?_, by rw [List.mem_range]; omega, fun j hj => ?_⟩
    · rw [show k - 1 + 1 = k by omega, ← hk]
      simpa using Nat.mod_eq_zero_of_dvd (Nat.dvd_lcm_right a n)
    · have : ¬ a * (j + 1) % n = 0 := fun c => by
        have d := Nat.lcm_dvd (Nat.dvd_mul_right a (j + 1)) (Nat.dvd_of_mod_eq_zero c)
        have h1 := Nat.le_of_dvd (Nat.mul_pos ha (by omega)) d
        rw [hk] at h1
        have := Nat.le_of_mul_le_mul_left h1 ha
        omega
      simpa using this
  rw [← List.head?_filter] at key
  refine atI_of (i := 0) rfl ?_
  rw [List.getElem?_map, ← List.head?_eq_getElem?, key, Option.map_some, show k - 1 + 1 = k by omega, ← hk]
theorem lone {cs : List Int} {G : Nat} (h1 : ¬ 1 < cs.length) (hG : cs[cs.length - 1]? = some (G : Int)) : ∀ c ∈ natL cs, c = G := by
  intro c hc
  match cs, h1, hG, hc with
  | [], _, hG, _ => cases hG
  | [x], _, hG, hc =>
    have e : x = (G : Int) := by simpa using hG
    subst e
    have : c = ((G : Int)).toNat := by simpa [natL] using hc
    omega
  | x :: y :: zs, h1, _, _ => exact absurd (by simp) h1
theorem lot_sub {cs ds : List Int} (hc : Lotc cs) (h : ds.Sublist cs) (ne : ds ≠ []) : Lotc ds := by
  obtain ⟨a, b⟩ := asc_pw hc.up
  exact ⟨ne, Nat.le_trans h.length_le hc.few, asc_of (a.sublist h) fun c hc' => b c (h.mem hc')⟩
theorem sIx_atG (n k : Nat) : HT.sIx n 0 (some (k : Int)) = min k n := by
  have h : ¬ ((k : Int) < 0) := by omega
  simp [HT.sIx, h]
theorem cut_dropG (xs : List V) (k : Nat) : cutV xs (some (k : Int)) none = xs.drop k := by
  unfold cutV
  rw [sIx_atG]
  have e : HT.sIx xs.length xs.length none = xs.length := rfl
  rw [e]
  by_cases h : k ≤ xs.length
  · rw [Nat.min_eq_left h]
    exact List.take_of_length_le (by simp)
  · rw [Nat.min_eq_right (by omega), List.drop_eq_nil_of_le (as := xs) (i := k) (by omega), List.drop_length]
    simp
theorem last_ex {cs : List Int} {m : Nat} (hc : Lotc cs) (hm : ∀ c ∈ cs, c ≤ m) : ∃ G : Nat, cs[cs.length - 1]? = some (G : Int) ∧ G ≤ m := by
  have hc60 := lot_pos (Int.le_refl 0) hc.up
  have hpos := List.length_pos_iff.mpr hc.ne
  obtain ⟨G, hG⟩ : ∃ G, cs[cs.length - 1]? = some G := ⟨cs[cs.length - 1]'(by omega), List.getElem?_eq_getElem _⟩
  have h1 := hc60 G (List.mem_of_getElem? hG)
  have h2 := hm G (List.mem_of_getElem? hG)
  exact ⟨G.toNat, by rw [hG, Int.toNat_of_nonneg (by omega)], by omega⟩
end Kx

-- SXEXT: rMaxH, rSetLi, rSortedSet, iAnyS, rMinT, rLotEq, rLotStr, rGcd, rLcm, tRevT, rLtU, rIsiI, RZ.iZipA, iEnz, tDNewK, tDGet, sDPut
namespace Kx
open PySem L2 MG KM
def top (i : Nat) : Stmt := PySem.Challenge.pw_mintlots_k30_whole_lags.main.body.getD i (.Pass ⟨0, 0, 0, 0⟩)
section
variable {P : Program} {w : World} {K : PySem.W.Frag} {mg : Str → Option Value} {base : Heap} {f : Addr} {fd : FuncData} {C : Addr}
abbrev s_is_integer : Stmt := top 9
abbrev N_is_integer : List Str := ["value"]
theorem sc_is_integer : FnScope N_is_integer ["value"] (defScope s_is_integer) := ⟨rfl, rfl, rfl, by decide +kernel, rfl, by decide +kernel, by decide +kernel⟩
theorem ok_is_integer (F : FnP K "is_integer" "is_integer" s_is_integer f fd) (B : Bi mg) :
    FnOk P w K mg base CX0 1 f fd ["value"] sp_is_integer := by
  refine okF F sc_is_integer (fun vs H Q E h => by repeat (first | (obtain ⟨rfl, _⟩ := h; rfl) | obtain ⟨_, h⟩ := h)) (fun cdv A outer s H vs Q E hr h => ?_)
  obtain ⟨n, rfl, q⟩ := h
  refine ⟨_, (pss_one (ps_ret (pe_and (pe_callB call_isi (by rfl) B.b_isinstance (by decide +kernel) (pa_cons (pv 0) (pa_cons (pe_bltn (v := .ty "int") (by rfl) B.b_int (by decide +kernel) rfl) pa_nil))) (pe_one (pe_not (pe_callB call_isi (by rfl) B.b_isinstance (by decide +kernel) (pa_cons (pv 0) (pa_cons (pe_bltn (v := .ty "bool") (by rfl) B.b_bool (by decide +kernel) rfl) pa_nil)))))))), ?_⟩
  exact ⟨_, rfl, _, _, _, _, true, rfl, .ty _, .base (.int n), kit_ty (by decide +kernel), true, rfl, iteT ⟨_, rfl, _, _, _, _, false, rfl, .ty _, .base (.int n), kit_ty (by decide +kernel), false, rfl, q⟩⟩

abbrev s_is_between : Stmt := top 10
abbrev N_is_between : List Str := ["value", "low", "high"]
theorem sc_is_between : FnScope N_is_between ["value", "low", "high"] (defScope s_is_between) := ⟨rfl, rfl, rfl, by decide +kernel, rfl, by decide +kernel, by decide +kernel⟩
theorem ok_is_between (F : FnP K "is_between" "is_between" s_is_between f fd) (C_is_integer : Cal P w K mg base 1 "is_integer" ["value"] sp_is_integer) :
    FnOk P w K mg base CX0 2 f fd ["value", "low", "high"] sp_is_between := by
  refine okF F sc_is_between (fun vs H Q E h => by repeat (first | (obtain ⟨rfl, _⟩ := h; rfl) | obtain ⟨_, h⟩ := h)) (fun cdv A outer s H vs Q E hr h => ?_)
  obtain ⟨n, a, b, rfl, q⟩ := h
  refine ⟨_, (pss_one (ps_ret (pe_and (pe_cal C_is_integer hr (pa_cons (pv 0) pa_nil)) (pe_one (pe_chain op_le op_le (pv 1) (pv 0) (pv 2)))))), ?_⟩
  refine ⟨_, rfl, n, rfl, true, rfl, iteT ⟨_, rfl, _, rfl, a, n, rfl, rfl, _, rfl, ?_⟩⟩
  by_cases c : a ≤ n
  · rw [decide_eq_true c] at q ⊢
    exact iteT ⟨_, rfl, n, b, rfl, rfl, q⟩
  · rw [decide_eq_false c] at q ⊢
    exact iteF q

abbrev s_count_ascending : Stmt := top 11
abbrev N_count_ascending : List Str := ["values", "low", "high", "most", "ahead", "at", "value"]
theorem sc_count_ascending : FnScope N_count_ascending ["values", "low", "high", "most"] (defScope s_count_ascending) := ⟨rfl, rfl, rfl, by decide +kernel, rfl, by decide +kernel, by decide +kernel⟩
theorem ok_count_ascending (F : FnP K "count_ascending" "count_ascending" s_count_ascending f fd) (B : Bi mg) (C_is_between : Cal P w K mg base 2 "is_between" ["value", "low", "high"] sp_is_between) :
    FnOk P w K mg base CX0 3 f fd ["values", "low", "high", "most"] sp_count_ascending := by
  refine okF F sc_count_ascending (fun vs H Q E h => by repeat (first | (obtain ⟨rfl, _⟩ := h; rfl) | obtain ⟨_, h⟩ := h)) (fun cdv A outer s H vs Q E hr h => ?_)
  obtain ⟨t, cs, lo, hi, m, rfl, ht, hm, hm1, hc, q⟩ := h
  refine ⟨_, (pss_cons (ps_set (i := 4) sc_count_ascending.nd rfl (Or.inl rfl) (pe_op op_sub (pv 1) pe_int))
    (pss_cons (ps_for PassesOwn.never rfl (pi_enumT (by rfl) B.b_enumerate (pa_cons (pv 0) pa_nil)) (pg_tup (by rfl) (pgs_cons (pg_name (i := 5) sc_count_ascending.nd rfl (Or.inl rfl)) (pgs_cons (pg_name (i := 6) sc_count_ascending.nd rfl (Or.inl rfl)) pgs_nil)))
      (pss_cons (ps_if (PW.pt (pw_or (pt_cmpR op_eq (pv 5) (pv 3) (nomark _)) (pw_or1 (pt_not (pt_val (pe_cal C_is_between hr (pa_cons (pv 6) (pa_cons (pe_op op_add (pv 4) pe_int) (pa_cons (pv 2) pa_nil)))))))))
        (pss_one (ps_ret (pv 5)))
        pss_nil)
      (pss_one (ps_set (i := 4) sc_count_ascending.nd rfl (Or.inl rfl) (pv 6)))))
    (pss_one (ps_ret (pe_callB len_HT (by rfl) B.b_len (by decide +kernel) (pa_cons (pv 0) pa_nil)))))), ?_⟩
  simp [tRet, tRetN, tSeq, tNext, tNever, tDrop, tIfS, tAsg, tPar, tAug, tAugS, gName, gNil, gCons, gTup, gSub, tAndV, tOrV, tNotV, tAnd, tOr, tNot, tB, tTest, tYes, tIf, tCall, tCallK, tCallN, tMake, tProp, tMeth, getSp, tCB, tCons, tNil, tVar, tC, tOp, tUn, tChain, tLst, tTup, tFld, sFld, tBM, tBM0, tSl, tPart, tNoPart, rI0, rI, rU, rEq, rNe, rIsi, tCut, tCutR, tCutS, rIntI, tSlH, tSlS, rSumH, rTupH, rSortH, tLstRg, tRg1, tRg2, rIxH, rIxHT, rLenH, rLenHT, rIxL, rIxT, rIx, rCat, rRep, rSetL, rAppend, rSum, rMax, rMin, rEqD, rNeD, rSlL, rPopAt, rSorted, rAll, rAny, rReprS, rNext, tCutT, rCatHT, rCatA, rSlA, RT.iRevA, scal, L2.start, List.replicate, and_assoc, CDiv, CMul, CPow, ipI, rMaxH, rSetLi, rSortedSet, iAnyS, rMinT, rLotEq, rLotStr, rGcd, rLcm, tRevT, rLtU, rIsiI, RZ.iZipA, iEnz, tDNewK, tDGet, sDPut]
  refine ⟨_, rfl, t, _, rfl, sqT ht, for_enT (xs := cs.map V.int) (fun i σ H' => ∃ v5 v6, σ = [some (.ref t), some (.int lo), some (.int hi), some (.int m), some (.int (ahd (lo - 1) cs i)), v5, v6] ∧ Same H H') ⟨none, none, by cases cs <;> rfl, Same.refl H⟩ (fun i σ H' ⟨_, _, _, s⟩ => sqT (s _ _ ht)) ?_ ?_⟩
  · rintro i x T' σ H' hx ⟨v5, v6, rfl, s⟩ hT
    obtain ⟨z, hz, rfl⟩ := int_at hx
    have hi : i < cs.length := (List.getElem?_eq_some_iff.mp hz).1
    obtain ⟨a1, a2, a3⟩ := asch_at hc hz
    have n15 : ¬ ((i : Int) = m) := by omega
    have s' : Same H (upd H' T' (.tup [.int (i : Nat), .int z])) := s.trans (same_new hT)
    refine ⟨T', _, rfl, sqT upd_same, rfl, ?_⟩
    simp [tRet, tRetN, tSeq, tNext, tNever, tDrop, tIfS, tAsg, tPar, tAug, tAugS, gName, gNil, gCons, gTup, gSub, tAndV, tOrV, tNotV, tAnd, tOr, tNot, tB, tTest, tYes, tIf, tCall, tCallK, tCallN, tMake, tProp, tMeth, getSp, tCB, tCons, tNil, tVar, tC, tOp, tUn, tChain, tLst, tTup, tFld, sFld, tBM, tBM0, tSl, tPart, tNoPart, rI0, rI, rU, rEq, rNe, rIsi, tCut, tCutR, tCutS, rIntI, tSlH, tSlS, rSumH, rTupH, rSortH, tLstRg, tRg1, tRg2, rIxH, rIxHT, rLenH, rLenHT, rIxL, rIxT, rIx, rCat, rRep, rSetL, rAppend, rSum, rMax, rMin, rEqD, rNeD, rSlL, rPopAt, rSorted, rAll, rAny, rReprS, rNext, tCutT, rCatHT, rCatA, rSlA, RT.iRevA, scal, L2.start, List.replicate, and_assoc, CDiv, CMul, CPow, ipI, rMaxH, rSetLi, rSortedSet, iAnyS, rMinT, rLotEq, rLotStr, rGcd, rLcm, tRevT, rLtU, rIsiI, RZ.iZipA, iEnz, tDNewK, tDGet, sDPut, sp_is_between, n15, a2, a3]
    rw [if_pos (by omega)]
    exact s'
  · rintro σ H' ⟨v5, v6, rfl, s⟩
    have ht' := s _ _ ht
    simp [tRet, tRetN, tSeq, tNext, tNever, tDrop, tIfS, tAsg, tPar, tAug, tAugS, gName, gNil, gCons, gTup, gSub, tAndV, tOrV, tNotV, tAnd, tOr, tNot, tB, tTest, tYes, tIf, tCall, tCallK, tCallN, tMake, tProp, tMeth, getSp, tCB, tCons, tNil, tVar, tC, tOp, tUn, tChain, tLst, tTup, tFld, sFld, tBM, tBM0, tSl, tPart, tNoPart, rI0, rI, rU, rEq, rNe, rIsi, tCut, tCutR, tCutS, rIntI, tSlH, tSlS, rSumH, rTupH, rSortH, tLstRg, tRg1, tRg2, rIxH, rIxHT, rLenH, rLenHT, rIxL, rIxT, rIx, rCat, rRep, rSetL, rAppend, rSum, rMax, rMin, rEqD, rNeD, rSlL, rPopAt, rSorted, rAll, rAny, rReprS, rNext, tCutT, rCatHT, rCatA, rSlA, RT.iRevA, scal, L2.start, List.replicate, and_assoc, CDiv, CMul, CPow, ipI, rMaxH, rSetLi, rSortedSet, iAnyS, rMinT, rLotEq, rLotStr, rGcd, rLcm, tRevT, rLtU, rIsiI, RZ.iZipA, iEnz, tDNewK, tDGet, sDPut, ht']
    exact q H' s

abbrev s_count_right : Stmt := top 14
abbrev N_count_right : List Str := ["coins"]
theorem sc_count_right : FnScope N_count_right ["coins"] (defScope s_count_right) := ⟨rfl, rfl, rfl, by decide +kernel, rfl, by decide +kernel, by decide +kernel⟩
theorem ok_count_right (F : FnP K "count_right" "count_right" s_count_right f fd) (C_count_ascending : Cal P w K mg base 3 "count_ascending" ["values", "low", "high", "most"] sp_count_ascending) (c_MOST_COINS : ∃ t, mg "MOST_COINS" = some (.int (15) t)) (c_MOST_COIN : ∃ t, mg "MOST_COIN" = some (.int (60) t)) :
    FnOk P w K mg base CX0 4 f fd ["coins"] sp_count_right := by
  refine okF F sc_count_right (fun vs H Q E h => by repeat (first | (obtain ⟨rfl, _⟩ := h; rfl) | obtain ⟨_, h⟩ := h)) (fun cdv A outer s H vs Q E hr h => ?_)
  obtain ⟨t, cs, rfl, ht, hc, q⟩ := h
  obtain ⟨t_MOST_COINS, d_MOST_COINS⟩ := c_MOST_COINS
  obtain ⟨t_MOST_COIN, d_MOST_COIN⟩ := c_MOST_COIN
  refine ⟨_, (pss_one (ps_ret (pe_cal C_count_ascending hr (pa_cons (pv 0) (pa_cons pe_int (pa_cons (pe_glob (v := .int (60)) rfl d_MOST_COIN ⟨_, rfl⟩) (pa_cons (pe_glob (v := .int (15)) rfl d_MOST_COINS ⟨_, rfl⟩) pa_nil))))))), ?_⟩
  simp [tRet, tRetN, tSeq, tNext, tNever, tDrop, tIfS, tAsg, tPar, tAug, tAugS, gName, gNil, gCons, gTup, gSub, tAndV, tOrV, tNotV, tAnd, tOr, tNot, tB, tTest, tYes, tIf, tCall, tCallK, tCallN, tMake, tProp, tMeth, getSp, tCB, tCons, tNil, tVar, tC, tOp, tUn, tChain, tLst, tTup, tFld, sFld, tBM, tBM0, tSl, tPart, tNoPart, rI0, rI, rU, rEq, rNe, rIsi, tCut, tCutR, tCutS, rIntI, tSlH, tSlS, rSumH, rTupH, rSortH, tLstRg, tRg1, tRg2, rIxH, rIxHT, rLenH, rLenHT, rIxL, rIxT, rIx, rCat, rRep, rSetL, rAppend, rSum, rMax, rMin, rEqD, rNeD, rSlL, rPopAt, rSorted, rAll, rAny, rReprS, rNext, tCutT, rCatHT, rCatA, rSlA, RT.iRevA, scal, L2.start, List.replicate, and_assoc, CDiv, CMul, CPow, ipI, rMaxH, rSetLi, rSortedSet, iAnyS, rMinT, rLotEq, rLotStr, rGcd, rLcm, tRevT, rLtU, rIsiI, RZ.iZipA, iEnz, tDNewK, tDGet, sDPut, sp_count_ascending]
  exact ⟨cs, 15, rfl, ht, hc.few, by decide, asch_of hc.up, fun H' s => q H' s⟩

abbrev s_Lot_init : Stmt := inClass (top 13) 0
abbrev N_Lot_init : List Str := ["self", "coins", "right"]
theorem sc_Lot_init : FnScope N_Lot_init ["self", "coins"] (defScope s_Lot_init) := ⟨rfl, rfl, rfl, by decide +kernel, rfl, by decide +kernel, by decide +kernel⟩
theorem ok_Lot_init (F : FnP K "__init__" "Lot.__init__" s_Lot_init f fd) (B : Bi mg) (C_count_right : Cal P w K mg base 4 "count_right" ["coins"] sp_count_right) (TC : Tc K mg C) :
    FnOk P w K mg base CX0 5 f fd ["self", "coins"] (sp_Lot_init C) := by
  refine okF F sc_Lot_init (fun vs H Q E h => by repeat (first | (obtain ⟨rfl, _⟩ := h; rfl) | obtain ⟨_, h⟩ := h)) (fun cdv A outer s H vs Q E hr h => ?_)
  obtain ⟨p, dx, t, cs, rfl, hp, ht, hc, q⟩ := h
  refine ⟨_, (pss_cons (ps_if (PW.pt (pw_or (pt_not (pt_val (pe_callB call_isi (by rfl) B.b_isinstance (by decide +kernel) (pa_cons (pv 1) (pa_cons (pe_bltn (v := .ty "tuple") (by rfl) B.b_tuple (by decide +kernel) rfl) pa_nil))))) (pw_or1 (pt_cmpR op_eq (pe_callB call_len_seq (by rfl) B.b_len (by decide +kernel) (pa_cons (pv 1) pa_nil)) pe_int (nomark _)))))
        (pss_one ps_never)
        pss_nil)
      (pss_cons (ps_set (i := 2) sc_Lot_init.nd rfl (Or.inl rfl) (pe_cal C_count_right hr (pa_cons (pv 1) pa_nil)))
      (pss_cons (ps_if (pt_cmpR op_lt (pv 2) (pe_callB call_len_seq (by rfl) B.b_len (by decide +kernel) (pa_cons (pv 1) pa_nil)) (nomark _))
        (pss_one ps_never)
        pss_nil)
      (pss_one (ps_fld (pv 0) (pv 1) rfl))))), ?_⟩
  have hne := hc.ne
  simp [tRet, tRetN, tSeq, tNext, tNever, tDrop, tIfS, tAsg, tPar, tAug, tAugS, gName, gNil, gCons, gTup, gSub, tAndV, tOrV, tNotV, tAnd, tOr, tNot, tB, tTest, tYes, tIf, tCall, tCallK, tCallN, tMake, tProp, tMeth, getSp, tCB, tCons, tNil, tVar, tC, tOp, tUn, tChain, tLst, tTup, tFld, sFld, tBM, tBM0, tSl, tPart, tNoPart, rI0, rI, rU, rEq, rNe, rIsi, tCut, tCutR, tCutS, rIntI, tSlH, tSlS, rSumH, rTupH, rSortH, tLstRg, tRg1, tRg2, rIxH, rIxHT, rLenH, rLenHT, rIxL, rIxT, rIx, rCat, rRep, rSetL, rAppend, rSum, rMax, rMin, rEqD, rNeD, rSlL, rPopAt, rSorted, rAll, rAny, rReprS, rNext, tCutT, rCatHT, rCatA, rSlA, RT.iRevA, scal, L2.start, List.replicate, and_assoc, CDiv, CMul, CPow, ipI, rMaxH, rSetLi, rSortedSet, iAnyS, rMinT, rLotEq, rLotStr, rGcd, rLcm, tRevT, rLtU, rIsiI, RZ.iZipA, iEnz, tDNewK, tDGet, sDPut, sp_count_right]
  refine ⟨_, _, .ty _, .base (.tup ht), kit_ty (by decide +kernel), _, .inr (sqT ht), by simpa using hne, cs, ht, hc, fun H' s => ⟨_, .inr (sqT (s _ _ ht)), by simp, C, dx, [], s _ _ hp, TC.cl, TC.nc, by simp, ?_⟩⟩
  exact q _ ((But.of s).trans But.upd) upd_same

abbrev s_Lot_coins : Stmt := inClass (top 13) 2
abbrev N_Lot_coins : List Str := ["self"]
theorem sc_Lot_coins : FnScope N_Lot_coins ["self"] (defScope s_Lot_coins) := ⟨rfl, rfl, rfl, by decide +kernel, rfl, by decide +kernel, by decide +kernel⟩

abbrev s_check_lot : Stmt := top 16
abbrev N_check_lot : List Str := ["lot"]
theorem sc_check_lot : FnScope N_check_lot ["lot"] (defScope s_check_lot) := ⟨rfl, rfl, rfl, by decide +kernel, rfl, by decide +kernel, by decide +kernel⟩
theorem ok_check_lot (F : FnP K "check_lot" "check_lot" s_check_lot f fd) (B : Bi mg) (TC : Tc K mg C) :
    FnOk P w K mg base CX0 1 f fd ["lot"] (sp_check_lot C) := by
  refine okF F sc_check_lot (fun vs H Q E h => by repeat (first | (obtain ⟨rfl, _⟩ := h; rfl) | obtain ⟨_, h⟩ := h)) (fun cdv A outer s H vs Q E hr h => ?_)
  obtain ⟨p, dx, fs, rfl, hp, q⟩ := h
  refine ⟨_, (pss_one (ps_if (pt_not (pt_val (pe_callB call_isi (by rfl) B.b_isinstance (by decide +kernel) (pa_cons (pv 0) (pa_cons (pe_glob (v := .ref C) rfl TC.gL rfl) pa_nil)))))
        (pss_one ps_never)
        pss_nil)), ?_⟩
  simp [tRet, tRetN, tSeq, tNext, tNever, tDrop, tIfS, tAsg, tPar, tAug, tAugS, gName, gNil, gCons, gTup, gSub, tAndV, tOrV, tNotV, tAnd, tOr, tNot, tB, tTest, tYes, tIf, tCall, tCallK, tCallN, tMake, tProp, tMeth, getSp, tCB, tCons, tNil, tVar, tC, tOp, tUn, tChain, tLst, tTup, tFld, sFld, tBM, tBM0, tSl, tPart, tNoPart, rI0, rI, rU, rEq, rNe, rIsi, tCut, tCutR, tCutS, rIntI, tSlH, tSlS, rSumH, rTupH, rSortH, tLstRg, tRg1, tRg2, rIxH, rIxHT, rLenH, rLenHT, rIxL, rIxT, rIx, rCat, rRep, rSetL, rAppend, rSum, rMax, rMin, rEqD, rNeD, rSlL, rPopAt, rSorted, rAll, rAny, rReprS, rNext, tCutT, rCatHT, rCatA, rSlA, RT.iRevA, scal, L2.start, List.replicate, and_assoc, CDiv, CMul, CPow, ipI, rMaxH, rSetLi, rSortedSet, iAnyS, rMinT, rLotEq, rLotStr, rGcd, rLcm, tRevT, rLtU, rIsiI, RZ.iZipA, iEnz, tDNewK, tDGet, sDPut, q]
  exact ⟨_, _, .own C, .base (.ins hp TC.cl TC.k1 TC.k2 TC.k3 TC.k4), by simp [PySem.W.kitOne]⟩

end
end Kx

-- SXEXT: rMaxH, rSetLi, rSortedSet, iAnyS, rMinT, rLotEq, rLotStr, rGcd, rLcm, tRevT, rLtU, rIsiI, RZ.iZipA, iEnz, tDNewK, tDGet, sDPut
namespace Kx
open PySem L2 MG KM
section
variable {P : Program} {w : World} {K : PySem.W.Frag} {mg : Str → Option Value} {base : Heap} {f : Addr} {fd : FuncData} {C : Addr}
abbrev s_last_without_greatest : Stmt := top 19
abbrev N_last_without_greatest : List Str := ["coins", "greatest", "ahead"]
theorem sc_last_without_greatest : FnScope N_last_without_greatest ["coins"] (defScope s_last_without_greatest) := ⟨rfl, rfl, rfl, by decide +kernel, rfl, by decide +kernel, by decide +kernel⟩
theorem ok_last_without_greatest (F : FnP K "last_without_greatest" "last_without_greatest" s_last_without_greatest f fd) (B : Bi mg) :
    FnOk P w K mg base CX0 1 f fd ["coins"] sp_last_without_greatest := by
  refine okF F sc_last_without_greatest (fun vs H Q E h => by repeat (first | (obtain ⟨rfl, _⟩ := h; rfl) | obtain ⟨_, h⟩ := h)) (fun cdv A outer s H vs Q E hr h => ?_)
  obtain ⟨t, cs, C, G, rfl, ht, hc, hC, hG, q⟩ := h
  refine ⟨_, (pss_cons (ps_set (i := 1) sc_last_without_greatest.nd rfl (Or.inl rfl) (pe_ix ix_HT (pv 0) (pe_un un_neg pe_int) (fun _ _ => rfl)))
    (pss_cons (ps_set (i := 2) sc_last_without_greatest.nd rfl (Or.inl rfl) (pe_ifExp (pt_cmpR op_gt (pe_callB len_HT (by rfl) B.b_len (by decide +kernel) (pa_cons (pv 0) pa_nil)) pe_int (nomark _)) (pe_ix ix_HT (pv 0) (pe_un un_neg pe_int) (fun _ _ => rfl)) pe_int))
    (pss_one (ps_ret (pe_op op_mul (pe_op op_sub (pv 1) pe_int) (pv 2)))))), ?_⟩
  have hc60 := lot_pos (Int.le_refl 0) hc.up
  have hG60 := hc60 _ (List.mem_of_getElem? hG)
  have hla : atI (cs.map V.int) (-1) = some (.int G) := atI_last (by rw [List.length_map]; exact mapI_at hG)
  simp [tRet, tRetN, tSeq, tNext, tNever, tDrop, tIfS, tAsg, tPar, tAug, tAugS, gName, gNil, gCons, gTup, gSub, tAndV, tOrV, tNotV, tAnd, tOr, tNot, tB, tTest, tYes, tIf, tCall, tCallK, tCallN, tMake, tProp, tMeth, getSp, tCB, tCons, tNil, tVar, tC, tOp, tUn, tChain, tLst, tTup, tFld, sFld, tBM, tBM0, tSl, tPart, tNoPart, rI0, rI, rU, rEq, rNe, rIsi, tCut, tCutR, tCutS, rIntI, tSlH, tSlS, rSumH, rTupH, rSortH, tLstRg, tRg1, tRg2, rIxH, rIxHT, rLenH, rLenHT, rIxL, rIxT, rIx, rCat, rRep, rSetL, rAppend, rSum, rMax, rMin, rEqD, rNeD, rSlL, rPopAt, rSorted, rAll, rAny, rReprS, rNext, tCutT, rCatHT, rCatA, rSlA, RT.iRevA, scal, L2.start, List.replicate, and_assoc, CDiv, CMul, CPow, ipI, rMaxH, rSetLi, rSortedSet, iAnyS, rMinT, rLotEq, rLotStr, rGcd, rLcm, tRevT, rLtU, rIsiI, RZ.iZipA, iEnz, tDNewK, tDGet, sDPut, ht]
  have e : ∀ C : Nat, ((G : Int) - 1) * (C : Int) = (((G - 1) * C : Nat) : Int) := fun C => by
    rw [Int.natCast_mul]
    congr 1
    omega
  refine ⟨_, hla, ?_⟩
  rcases hC with ⟨h1, rfl⟩ | ⟨h1, h2⟩
  · rw [if_neg (by omega)]
    refine ⟨_, rfl, ?_⟩
    have := e 1
    rw [show ((G : Int) - 1) = (((G - 1) * 1 : Nat) : Int) by omega]
    exact q
  · rw [if_pos (by omega)]
    refine ⟨_, atI_neg2 (by rw [List.length_map]; exact mapI_at h2) (by rw [List.length_map]; exact h1), _, rfl, _, rfl, .inl ⟨by omega, by omega⟩, ?_⟩
    rw [e]
    exact q

abbrev s_length_table : Stmt := top 20
abbrev N_length_table : List Str := ["coins", "last", "sign", "table", "coin", "amount", "ahead", "now"]
theorem sc_length_table : FnScope N_length_table ["coins", "last", "sign"] (defScope s_length_table) := ⟨rfl, rfl, rfl, by decide +kernel, rfl, by decide +kernel, by decide +kernel⟩
theorem ok_length_table (F : FnP K "length_table" "length_table" s_length_table f fd) (B : Bi mg) :
    FnOk P w K mg base CX0 1 f fd ["coins", "last", "sign"] sp_length_table := by
  refine okF F sc_length_table (fun vs H Q E h => by repeat (first | (obtain ⟨rfl, _⟩ := h; rfl) | obtain ⟨_, h⟩ := h)) (fun cdv A outer s H vs Q E hr h => ?_)
  obtain ⟨t, cs, m, sg, b, rfl, ht, hc, hm, hsg, q⟩ := h
  have hc60 := lot_pos (Int.le_refl 0) hc.up
  refine ⟨_, (pss_cons (ps_set (i := 3) sc_length_table.nd rfl (Or.inl rfl) (pe_op op_cat (pe_lst (pa_cons pe_int pa_nil)) (pe_op op_rep (pe_lst (pa_cons pe_non pa_nil)) (pv 1))))
    (pss_cons (ps_for PassesOwn.never rfl (pi_tup (pv 0)) (pg_name (i := 4) sc_length_table.nd rfl (Or.inl rfl))
      (pss_one (ps_for PassesOwn.never rfl (pi_range2 (by rfl) B.b_range (pa_cons (pv 4) (pa_cons (pe_op op_add (pv 1) pe_int) pa_nil))) (pg_name (i := 5) sc_length_table.nd rfl (Or.inl rfl))
        (pss_cons (ps_set (i := 6) sc_length_table.nd rfl (Or.inl rfl) (pe_ix ix_H (pv 3) (pe_op op_sub (pv 5) (pv 4)) (fun _ _ => rfl)))
        (pss_cons (ps_set (i := 7) sc_length_table.nd rfl (Or.inl rfl) (pe_ix ix_H (pv 3) (pv 5) (fun _ _ => rfl)))
        (pss_one (ps_if (PW.pt (pw_and (pt_cmpR op_notN (pv 6) pe_non (nomark _)) (pw_and1 (PW.pt (pw_or (pt_cmpR op_isN (pv 7) pe_non (nomark _)) (pw_or1 (pt_cmpR op_lt (pe_op op_mul (pv 2) (pe_op op_add (pv 6) pe_int)) (pe_op op_mul (pv 2) (pv 7)) (nomark _))))))))
          (pss_one (ps_asg (pe_op op_add (pv 6) pe_int) (pg_sub (pv 3) (pv 5) set_list)))
          pss_nil)))))))
    (pss_one (ps_ret (pv 3))))), ?_⟩
  simp [tRet, tRetN, tSeq, tNext, tNever, tDrop, tIfS, tAsg, tPar, tAug, tAugS, gName, gNil, gCons, gTup, gSub, tAndV, tOrV, tNotV, tAnd, tOr, tNot, tB, tTest, tYes, tIf, tCall, tCallK, tCallN, tMake, tProp, tMeth, getSp, tCB, tCons, tNil, tVar, tC, tOp, tUn, tChain, tLst, tTup, tFld, sFld, tBM, tBM0, tSl, tPart, tNoPart, rI0, rI, rU, rEq, rNe, rIsi, tCut, tCutR, tCutS, rIntI, tSlH, tSlS, rSumH, rTupH, rSortH, tLstRg, tRg1, tRg2, rIxH, rIxHT, rLenH, rLenHT, rIxL, rIxT, rIx, rCat, rRep, rSetL, rAppend, rSum, rMax, rMin, rEqD, rNeD, rSlL, rPopAt, rSorted, rAll, rAny, rReprS, rNext, tCutT, rCatHT, rCatA, rSlA, RT.iRevA, scal, L2.start, List.replicate, and_assoc, CDiv, CMul, CPow, ipI, rMaxH, rSetLi, rSortedSet, iAnyS, rMinT, rLotEq, rLotStr, rGcd, rLcm, tRevT, rLtU, rIsiI, RZ.iZipA, iEnz, tDNewK, tDGet, sDPut]
  refine ⟨by decide, ?_⟩
  intro p1 n1
  generalize eH1 : upd H p1 _ = H1
  have s1 : Same H H1 := by rw [← eH1]; exact same_new n1
  have h1 := (congrFun eH1 p1).symm.trans upd_same
  clear eH1
  refine ⟨by decide, ?_⟩
  intro p2 n2
  generalize eH2 : upd H1 p2 _ = H2
  have s2 : Same H1 H2 := by rw [← eH2]; exact same_new n2
  have h2 := (congrFun eH2 p2).symm.trans upd_same
  clear eH2
  refine ⟨_, h2, by omega, Nat.le_trans (show 1 * m ≤ 50001 by omega) (by decide), ?_⟩
  intro p3 n3
  generalize eH3 : upd H2 p3 _ = H3
  have s3 : Same H2 H3 := by rw [← eH3]; exact same_new n3
  have h3 := (congrFun eH3 p3).symm.trans upd_same
  clear eH3
  refine ⟨_, s3 _ _ (s2 _ _ h1), _, h3, Nat.le_trans (show _ ≤ 50001 by simp; omega) (by decide), ?_⟩
  intro p4 n4
  generalize eH4 : upd H3 p4 _ = H4
  have s4 : Same H3 H4 := by rw [← eH4]; exact same_new n4
  have h4 := (congrFun eH4 p4).symm.trans upd_same
  clear eH4
  have s04 : Same H H4 := s1.trans (s2.trans (s3.trans s4))
  have n4' : H p4 = none := (s1.trans (s2.trans s3)).free n4
  have e4 : H4 p4 = some (.lst (tabO (m + 1) (KT.otb b (natL (cs.take 0))))) := by
    rw [h4, show (natL (cs.take 0)) = [] from rfl, show KT.otb b [] = KC.T0 from rfl, ← tabO_t0]
    simp
  refine ⟨_, rfl, t, rfl, ⟨_, sqT (s04 _ _ ht)⟩, for_tup (xs := cs.map V.int) (fun i σ H' => ∃ v4 v5 v6 v7 : Option V, σ = [some (.ref t), some (.int m), some (.int sg), some (.ref p4), v4, v5, v6, v7] ∧ Same H H' ∧ H' p4 = some (.lst (tabO (m + 1) (KT.otb b (natL (cs.take i)))))) ⟨none, none, none, none, rfl, s04, e4⟩ (fun i σ H' _ ⟨_, _, _, _, _, s', _⟩ => sqT (s' _ _ ht)) ?_ ?_⟩
  · rintro i x σ H' hx ⟨v4, v5, v6, v7, rfl, s', hf⟩
    obtain ⟨z, hz, rfl⟩ := int_at hx
    have hb := hc60 z (List.mem_of_getElem? hz)
    obtain ⟨c, rfl⟩ : ∃ c : Nat, z = c := ⟨z.toNat, by omega⟩
    have hc0 : 0 < c := by omega
    have eF : KT.otb b (natL (cs.take (i + 1))) = KT.ost b c (KT.otb b (natL (cs.take i))) := by rw [natL_snoc hz]; exact KT.otb_snoc _ _ _
    rw [eF]
    generalize KT.otb b (natL (cs.take i)) = F at hf ⊢
    simp [tRet, tRetN, tSeq, tNext, tNever, tDrop, tIfS, tAsg, tPar, tAug, tAugS, gName, gNil, gCons, gTup, gSub, tAndV, tOrV, tNotV, tAnd, tOr, tNot, tB, tTest, tYes, tIf, tCall, tCallK, tCallN, tMake, tProp, tMeth, getSp, tCB, tCons, tNil, tVar, tC, tOp, tUn, tChain, tLst, tTup, tFld, sFld, tBM, tBM0, tSl, tPart, tNoPart, rI0, rI, rU, rEq, rNe, rIsi, tCut, tCutR, tCutS, rIntI, tSlH, tSlS, rSumH, rTupH, rSortH, tLstRg, tRg1, tRg2, rIxH, rIxHT, rLenH, rLenHT, rIxL, rIxT, rIx, rCat, rRep, rSetL, rAppend, rSum, rMax, rMin, rEqD, rNeD, rSlL, rPopAt, rSorted, rAll, rAny, rReprS, rNext, tCutT, rCatHT, rCatA, rSlA, RT.iRevA, scal, L2.start, List.replicate, and_assoc, CDiv, CMul, CPow, ipI, rMaxH, rSetLi, rSortedSet, iAnyS, rMinT, rLotEq, rLotStr, rGcd, rLcm, tRevT, rLtU, rIsiI, RZ.iZipA, iEnz, tDNewK, tDGet, sDPut]
    refine ⟨_, rfl, _, rfl, _, _, rfl, rfl, (c : Int), (m : Int) + 1, rfl, ⟨by omega, by omega, by omega, by omega⟩, for_range (lo := (c : Int)) (n := ((m : Int) + 1 - c).toNat) (fun j σ H2 => ∃ v5 v6 v7 : Option V, σ = [some (.ref t), some (.int m), some (.int sg), some (.ref p4), some (.int c), v5, v6, v7] ∧ Same H H2 ∧ H2 p4 = some (.lst (tabO (m + 1) (KT.ohf b c F (c + j))))) ⟨_, _, _, rfl, s', ?_⟩ ?_ ?_⟩
    · rw [hf, Nat.add_zero, tabO_congr fun i _ => (KT.ohf_start b c F i).symm]; rfl
    · rintro j σ H2 hj ⟨v5, v6, v7, rfl, s2, hf2⟩
      have hj' : c + j < m + 1 := by omega
      simp [tRet, tRetN, tSeq, tNext, tNever, tDrop, tIfS, tAsg, tPar, tAug, tAugS, gName, gNil, gCons, gTup, gSub, tAndV, tOrV, tNotV, tAnd, tOr, tNot, tB, tTest, tYes, tIf, tCall, tCallK, tCallN, tMake, tProp, tMeth, getSp, tCB, tCons, tNil, tVar, tC, tOp, tUn, tChain, tLst, tTup, tFld, sFld, tBM, tBM0, tSl, tPart, tNoPart, rI0, rI, rU, rEq, rNe, rIsi, tCut, tCutR, tCutS, rIntI, tSlH, tSlS, rSumH, rTupH, rSortH, tLstRg, tRg1, tRg2, rIxH, rIxHT, rLenH, rLenHT, rIxL, rIxT, rIx, rCat, rRep, rSetL, rAppend, rSum, rMax, rMin, rEqD, rNeD, rSlL, rPopAt, rSorted, rAll, rAny, rReprS, rNext, tCutT, rCatHT, rCatA, rSlA, RT.iRevA, scal, L2.start, List.replicate, and_assoc, CDiv, CMul, CPow, ipI, rMaxH, rSetLi, rSortedSet, iAnyS, rMinT, rLotEq, rLotStr, rGcd, rLcm, tRevT, rLtU, rIsiI, RZ.iZipA, iEnz, tDNewK, tDGet, sDPut, hf2]
      have hAF : atI (tabO (m + 1) (KT.ohf b c F (c + j))) ((c : Int) + j - c) = some (optV (KT.ohf b c F (c + j) j)) := atI_of (i := j) (by omega) (tabO_at (by omega))
      have hBF : atI (tabO (m + 1) (KT.ohf b c F (c + j))) ((c : Int) + j) = some (optV (KT.ohf b c F (c + j) (c + j))) := atI_of (i := c + j) (by omega) (tabO_at hj')
      have hIF : ixN (tabO (m + 1) (KT.ohf b c F (c + j))).length ((c : Int) + j) = some (c + j) := ixN_of (by omega) (by rw [tabO_len]; exact hj')
      have pF := fun v hv => tabO_ohf (b := b) (n := m + 1) (j := j) (T := F) hc0 (v := v) hv
      have stF := fun h => tabO_ohf_stay (b := b) (n := m + 1) (T := F) (j := j) hc0 h
      generalize KT.ohf b c F (c + j) = F1 at *
      have fin : ∀ u : Nat, KT.sel b (F1 (c + j)) ((F1 j).map (· + 1)) = some u →
          Same H (upd H2 p4 (HO.lst ((tabO (m + 1) F1).set (c + j) (V.int u)))) ∧
          upd H2 p4 (HO.lst ((tabO (m + 1) F1).set (c + j) (V.int u))) p4 = some (HO.lst (tabO (m + 1) (KT.ohf b c F (c + (j + 1))))) := fun u hu => by
        refine ⟨Same.updN s2 n4', ?_⟩
        rw [upd_same]
        exact congrArg (fun l => some (HO.lst l)) (pF (some u) hu)
      refine ⟨_, hAF, _, hBF, ?_⟩
      cases ea : F1 j with
      | none => exact .inl ⟨rfl, s2, stF ea⟩
      | some u =>
        refine .inr ⟨nofun, ?_⟩
        cases ec : F1 (c + j) with
        | none =>
          rw [if_pos (show optV none = V.non from rfl)]
          exact ⟨u, rfl, _, hIF, fin (u + 1) (by rw [ea, ec]; rfl)⟩
        | some x =>
          rw [if_neg (show ¬ optV (some x) = V.non from nofun)]
          have hsm : -18446744073709551616 < sg ∧ sg < 18446744073709551616 := by rcases hsg with ⟨rfl, _⟩ | ⟨rfl, _⟩ <;> decide
          refine ⟨u, rfl, .inl hsm, x, rfl, .inl hsm, ?_⟩
          have hstay : b x (u + 1) = x → tabO (m + 1) F1 = tabO (m + 1) (KT.ohf b c F (c + (j + 1))) := fun hv => by
            have e0 := pF (some x) (by rw [ea, ec]; show some (b x (u + 1)) = some x; rw [hv])
            rw [← e0, tabO_set]
            refine tabO_congr fun i _ => ?_
            split
            · rename_i hi
              rw [hi, ec]
            · rfl
          by_cases hlt : sg * ((u : Int) + 1) < sg * (x : Int)
          · rw [if_pos hlt]
            refine ⟨u, rfl, _, hIF, fin (u + 1) ?_⟩
            rw [ea, ec]
            show some (b x (u + 1)) = some (u + 1)
            congr 1
            rcases hsg with ⟨rfl, rfl⟩ | ⟨rfl, rfl⟩ <;> omega
          · rw [if_neg hlt]
            refine ⟨s2, hstay ?_⟩
            rcases hsg with ⟨rfl, rfl⟩ | ⟨rfl, rfl⟩ <;> omega
    · rintro σ H2 ⟨v5, v6, v7, rfl, s2, hf2⟩
      refine ⟨⟨_, _, _, _, rfl⟩, s2, ?_⟩
      rw [hf2, tabO_congr fun i hi => (KT.ohf_end (by omega))]
  · rintro σ H' ⟨v4, v5, v6, v7, rfl, s', hf⟩
    rw [List.length_map, List.take_length] at hf
    simp [tRet, tRetN, tSeq, tNext, tNever, tDrop, tIfS, tAsg, tPar, tAug, tAugS, gName, gNil, gCons, gTup, gSub, tAndV, tOrV, tNotV, tAnd, tOr, tNot, tB, tTest, tYes, tIf, tCall, tCallK, tCallN, tMake, tProp, tMeth, getSp, tCB, tCons, tNil, tVar, tC, tOp, tUn, tChain, tLst, tTup, tFld, sFld, tBM, tBM0, tSl, tPart, tNoPart, rI0, rI, rU, rEq, rNe, rIsi, tCut, tCutR, tCutS, rIntI, tSlH, tSlS, rSumH, rTupH, rSortH, tLstRg, tRg1, tRg2, rIxH, rIxHT, rLenH, rLenHT, rIxL, rIxT, rIx, rCat, rRep, rSetL, rAppend, rSum, rMax, rMin, rEqD, rNeD, rSlL, rPopAt, rSorted, rAll, rAny, rReprS, rNext, tCutT, rCatHT, rCatA, rSlA, RT.iRevA, scal, L2.start, List.replicate, and_assoc, CDiv, CMul, CPow, ipI, rMaxH, rSetLi, rSortedSet, iAnyS, rMinT, rLotEq, rLotStr, rGcd, rLcm, tRevT, rLtU, rIsiI, RZ.iZipA, iEnz, tDNewK, tDGet, sDPut]
    exact q p4 H' n4' s' hf

end
end Kx

-- SXEXT: rMaxH, rSetLi, rSortedSet, iAnyS, rMinT, rLotEq, rLotStr, rGcd, rLcm, tRevT, rLtU, rIsiI, RZ.iZipA, iEnz, tDNewK, tDGet, sDPut
namespace Kx
open PySem L2 MG KM
section
variable {P : Program} {w : World} {K : PySem.W.Frag} {mg : Str → Option Value} {base : Heap} {f : Addr} {fd : FuncData} {C : Addr}
abbrev s_l_bag : Stmt := top 23
abbrev N_l_bag : List Str := ["_law_script", "_law_turn", "_law_cell", "_law_mixed", "_law_each", "_law_own"]
theorem sc_l_bag : FnScope N_l_bag ["_law_script", "_law_turn"] (defScope s_l_bag) := ⟨rfl, rfl, rfl, by decide +kernel, rfl, by decide +kernel, by decide +kernel⟩
theorem ok_l_bag (F : FnP K "_law_bag" "_law_bag" s_l_bag f fd) (B : Bi mg) :
    FnOk P w K mg base CX0 1 f fd ["_law_script", "_law_turn"] (sp_l_bowl K) := by
  refine okF F sc_l_bag (fun vs H Q E h => by repeat (first | (obtain ⟨rfl, _⟩ := h; rfl) | obtain ⟨_, h⟩ := h)) (fun cdv A outer s H vs Q E hr h => ?_)
  obtain ⟨a, ns, k, rfl, ha, hn, hk, q⟩ := h
  refine ⟨_, (pss_cons (ps_set (i := 2) sc_l_bag.nd rfl (Or.inl rfl) (pe_cutR rIntS (pe_ifExp (pt_cmpR op_lt (pv 1) (pe_callB call_len_seq (by rfl) B.b_len (by decide +kernel) (pa_cons (pv 0) pa_nil)) (nomark _)) (pe_callTy int_I (by rfl) B.b_int (by decide +kernel) (pa_cons (pe_ix ix_list (pv 0) (pv 1) (fun _ _ => rfl)) pa_nil)) (pe_op op_add (pe_op op_mul pe_int (pv 1)) pe_int))))
    (pss_cons (ps_set (i := 3) sc_l_bag.nd rfl (Or.inl rfl) (pe_op op_add pe_int (pe_op op_mul pe_int (pv 1))))
    (pss_cons (ps_for PassesOwn.never rfl (pi_list (pe_slice sl_list (pv 0) po_none (po_some pe_int))) (pg_name (i := 4) sc_l_bag.nd rfl (Or.inl rfl))
      (pss_one (ps_set (i := 3) sc_l_bag.nd rfl (Or.inl rfl) (pe_op op_mod (pe_callTy int_I (by rfl) B.b_int (by decide +kernel) (pa_cons (pe_op op_add (pe_op op_add (pe_op op_mul (pv 3) pe_int) (pe_op op_mod (pe_callTy int_I (by rfl) B.b_int (by decide +kernel) (pa_cons (pv 4) pa_nil)) pe_int)) pe_int) pa_nil)) pe_int))))
    (pss_cons (ps_set (i := 5) sc_l_bag.nd rfl (Or.inl rfl) (pe_cutR rIntS (pe_ifExp (PW.pt (pw_or (pt_cmpR op_lt (pv 2) pe_int (nomark _)) (pw_or1 (pt_cmpR op_ge (pv 2) (pe_op op_pow pe_int pe_int) (nomark _))))) (pe_callB call_abs (by rfl) B.b_abs (by decide +kernel) (pa_cons (pv 2) pa_nil)) pe_int)))
    (pss_one (ps_ret (pe_lst (pa_cons (pv 5) (pa_cons (pe_op op_mod (pe_callTy int_I (by rfl) B.b_int (by decide +kernel) (pa_cons (pe_op op_add (pe_op op_mul (pv 3) pe_int) (pe_op op_mul (pe_op op_mod (pe_callTy int_I (by rfl) B.b_int (by decide +kernel) (pa_cons (pv 2) pa_nil)) pe_int) pe_int)) pa_nil)) pe_int) (pa_cons pe_int pa_nil)))))))))), ?_⟩
  simp [tRet, tRetN, tSeq, tNext, tNever, tDrop, tIfS, tAsg, tPar, tAug, tAugS, gName, gNil, gCons, gTup, gSub, tAndV, tOrV, tNotV, tAnd, tOr, tNot, tB, tTest, tYes, tIf, tCall, tCallK, tCallN, tMake, tProp, tMeth, getSp, tCB, tCons, tNil, tVar, tC, tOp, tUn, tChain, tLst, tTup, tFld, sFld, tBM, tBM0, tSl, tPart, tNoPart, rI0, rI, rU, rEq, rNe, rIsi, tCut, tCutR, tCutS, rIntI, tSlH, tSlS, rSumH, rTupH, rSortH, tLstRg, tRg1, tRg2, rIxH, rIxHT, rLenH, rLenHT, rIxL, rIxT, rIx, rCat, rRep, rSetL, rAppend, rSum, rMax, rMin, rEqD, rNeD, rSlL, rPopAt, rSorted, rAll, rAny, rReprS, rNext, tCutT, rCatHT, rCatA, rSlA, RT.iRevA, scal, L2.start, List.replicate, and_assoc, CDiv, CMul, CPow, ipI, rMaxH, rSetLi, rSortedSet, iAnyS, rMinT, rLotEq, rLotStr, rGcd, rLcm, tRevT, rLtU, rIsiI, RZ.iZipA, iEnz, tDNewK, tDGet, sDPut, rIntS]
  refine ⟨⟨_, .inl ha, ?_⟩, ?_⟩
  · split
    · rename_i h
      obtain ⟨z, hz⟩ : ∃ z, ns[k]? = some z := ⟨ns[k]'(by simpa using h), List.getElem?_eq_getElem _⟩
      exact ⟨_, ha, _, atI_nat (mapI_at hz), ⟨z, rfl⟩, Same.refl _⟩
    · exact Same.refl _
  · rintro v H1 own rfl s1
    have ha1 := s1.seq ha
    obtain ⟨ms, em, lm⟩ := cut_ints ns none (some 6)
    refine ⟨_, rfl, 6, rfl, a, _, rfl, ha1, ?_⟩
    rw [em]
    intro p1 n2
    generalize eH2 : upd H1 p1 _ = H2
    have s2 : Same H1 H2 := by rw [← eH2]; exact same_new n2
    have h2 := (congrFun eH2 p1).symm.trans upd_same
    clear eH2
    refine ⟨p1, rfl, ⟨_, sqL h2⟩, for_list (xs := ms.map V.int) (fun i σ H' => ∃ (st : Int) (v4 : Option V), σ = [some (.ref a), some (.int k), some (.int own), some (.int st), v4, none] ∧ Same H2 H') ⟨_, none, rfl, Same.refl _⟩ (fun i σ H' _ ⟨_, _, _, s'⟩ => sqL (s' _ _ h2)) ?_ ?_⟩
    · rintro i x σ H' hx ⟨st, v4, rfl, s'⟩
      obtain ⟨z, hz, rfl⟩ := int_at hx
      simp [tRet, tRetN, tSeq, tNext, tNever, tDrop, tIfS, tAsg, tPar, tAug, tAugS, gName, gNil, gCons, gTup, gSub, tAndV, tOrV, tNotV, tAnd, tOr, tNot, tB, tTest, tYes, tIf, tCall, tCallK, tCallN, tMake, tProp, tMeth, getSp, tCB, tCons, tNil, tVar, tC, tOp, tUn, tChain, tLst, tTup, tFld, sFld, tBM, tBM0, tSl, tPart, tNoPart, rI0, rI, rU, rEq, rNe, rIsi, tCut, tCutR, tCutS, rIntI, tSlH, tSlS, rSumH, rTupH, rSortH, tLstRg, tRg1, tRg2, rIxH, rIxHT, rLenH, rLenHT, rIxL, rIxT, rIx, rCat, rRep, rSetL, rAppend, rSum, rMax, rMin, rEqD, rNeD, rSlL, rPopAt, rSorted, rAll, rAny, rReprS, rNext, tCutT, rCatHT, rCatA, rSlA, RT.iRevA, scal, L2.start, List.replicate, and_assoc, CDiv, CMul, CPow, ipI, rMaxH, rSetLi, rSortedSet, iAnyS, rMinT, rLotEq, rLotStr, rGcd, rLcm, tRevT, rLtU, rIsiI, RZ.iZipA, iEnz, tDNewK, tDGet, sDPut, s']
    · rintro σ H' ⟨st, v4, rfl, s'⟩
      simp [tRet, tRetN, tSeq, tNext, tNever, tDrop, tIfS, tAsg, tPar, tAug, tAugS, gName, gNil, gCons, gTup, gSub, tAndV, tOrV, tNotV, tAnd, tOr, tNot, tB, tTest, tYes, tIf, tCall, tCallK, tCallN, tMake, tProp, tMeth, getSp, tCB, tCons, tNil, tVar, tC, tOp, tUn, tChain, tLst, tTup, tFld, sFld, tBM, tBM0, tSl, tPart, tNoPart, rI0, rI, rU, rEq, rNe, rIsi, tCut, tCutR, tCutS, rIntI, tSlH, tSlS, rSumH, rTupH, rSortH, tLstRg, tRg1, tRg2, rIxH, rIxHT, rLenH, rLenHT, rIxL, rIxT, rIx, rCat, rRep, rSetL, rAppend, rSum, rMax, rMin, rEqD, rNeD, rSlL, rPopAt, rSorted, rAll, rAny, rReprS, rNext, tCutT, rCatHT, rCatA, rSlA, RT.iRevA, scal, L2.start, List.replicate, and_assoc, CDiv, CMul, CPow, ipI, rMaxH, rSetLi, rSortedSet, iAnyS, rMinT, rLotEq, rLotStr, rGcd, rLcm, tRevT, rLtU, rIsiI, RZ.iZipA, iEnz, tDNewK, tDGet, sDPut, rIntS]
      refine ⟨Same.refl _, ?_⟩
      rintro v H3 fig rfl s3
      refine ⟨by decide, ?_⟩
      intro p5 n5
      generalize eH5 : upd H3 p5 _ = H5
      have s5 : Same H3 H5 := by rw [← eH5]; exact same_new n5
      have h5 := (congrFun eH5 p5).symm.trans upd_same
      clear eH5
      have stot := s1.trans (s2.trans (s'.trans s3))
      exact q p5 H5 (stot.free n5) (stot.trans s5) ⟨_, _, _, h5⟩

abbrev s_l_grab : Stmt := top 24
abbrev N_l_grab : List Str := ["_law_bag_here", "_law_size", "_law_figure", "_law_seed"]
theorem sc_l_grab : FnScope N_l_grab ["_law_bag_here", "_law_size"] (defScope s_l_grab) := ⟨rfl, rfl, rfl, by decide +kernel, rfl, by decide +kernel, by decide +kernel⟩
theorem ok_l_grab (F : FnP K "_law_grab" "_law_grab" s_l_grab f fd) (B : Bi mg) :
    FnOk P w K mg base CX0 1 f fd ["_law_bag_here", "_law_size"] sp_l_dip := by
  refine okF F sc_l_grab (fun vs H Q E h => by repeat (first | (obtain ⟨rfl, _⟩ := h; rfl) | obtain ⟨_, h⟩ := h)) (fun cdv A outer s H vs Q E hr h => ?_)
  obtain ⟨b, m, rfl, ⟨x, y, z, hb⟩, h0, h1, q⟩ := h
  refine ⟨_, (pss_cons (ps_if (pt_cmpR op_gt (pe_ix ix_H (pv 0) pe_int (fun _ _ => rfl)) pe_int (nomark _))
      (pss_cons (ps_asg (pe_callB divmod_B (by rfl) B.b_divmod (by decide +kernel) (pa_cons (pe_ix ix_H (pv 0) pe_int (fun _ _ => rfl)) (pa_cons (pv 1) pa_nil))) (pg_tup (by rfl) (pgs_cons (pg_sub (pv 0) pe_int set_list) (pgs_cons (pg_name (i := 2) sc_l_grab.nd rfl (Or.inl rfl)) pgs_nil))))
      (pss_one (ps_ret (pv 2))))
      pss_nil)
    (pss_cons (ps_asg (pe_op op_add (pe_ix ix_H (pv 0) pe_int (fun _ _ => rfl)) pe_int) (pg_sub (pv 0) pe_int set_list))
    (pss_cons (ps_set (i := 3) sc_l_grab.nd rfl (Or.inl rfl) (pe_op op_mod (pe_callTy int_I (by rfl) B.b_int (by decide +kernel) (pa_cons (pe_op op_add (pe_ix ix_H (pv 0) pe_int (fun _ _ => rfl)) (pe_op op_mul pe_int (pe_ix ix_H (pv 0) pe_int (fun _ _ => rfl)))) pa_nil)) pe_int))
    (pss_cons (ps_asg (pe_op op_mod (pe_callTy int_I (by rfl) B.b_int (by decide +kernel) (pa_cons (pe_op op_add (pe_op op_mul (pv 3) (pe_op op_add (pe_op op_mod (pe_callTy int_I (by rfl) B.b_int (by decide +kernel) (pa_cons (pv 3) pa_nil)) pe_int) pe_int)) (pe_op op_mul pe_int (pe_ix ix_H (pv 0) pe_int (fun _ _ => rfl)))) pa_nil)) pe_int) (pg_sub (pv 0) pe_int set_list))
    (pss_one (ps_ret (pe_op op_mod (pe_callTy int_I (by rfl) B.b_int (by decide +kernel) (pa_cons (pe_op op_fdiv (pe_ix ix_H (pv 0) pe_int (fun _ _ => rfl)) pe_int) pa_nil)) (pv 1)))))))), ?_⟩
  simp [tRet, tRetN, tSeq, tNext, tNever, tDrop, tIfS, tAsg, tPar, tAug, tAugS, gName, gNil, gCons, gTup, gSub, tAndV, tOrV, tNotV, tAnd, tOr, tNot, tB, tTest, tYes, tIf, tCall, tCallK, tCallN, tMake, tProp, tMeth, getSp, tCB, tCons, tNil, tVar, tC, tOp, tUn, tChain, tLst, tTup, tFld, sFld, tBM, tBM0, tSl, tPart, tNoPart, rI0, rI, rU, rEq, rNe, rIsi, tCut, tCutR, tCutS, rIntI, tSlH, tSlS, rSumH, rTupH, rSortH, tLstRg, tRg1, tRg2, rIxH, rIxHT, rLenH, rLenHT, rIxL, rIxT, rIx, rCat, rRep, rSetL, rAppend, rSum, rMax, rMin, rEqD, rNeD, rSlL, rPopAt, rSorted, rAll, rAny, rReprS, rNext, tCutT, rCatHT, rCatA, rSlA, RT.iRevA, scal, L2.start, List.replicate, and_assoc, CDiv, CMul, CPow, ipI, rMaxH, rSetLi, rSortedSet, iAnyS, rMinT, rLotEq, rLotStr, rGcd, rLcm, tRevT, rLtU, rIsiI, RZ.iZipA, iEnz, tDNewK, tDGet, sDPut, hb, atI, ixN, upd_same, upd_upd, h0, h1]
  split
  · intro p np
    have ne : b ≠ p := fun w => by rw [w, np] at hb; cases hb
    refine ⟨_, sqT upd_same, rfl, _, _, rfl, _, (upd_ne ne).trans hb, by simp, _, _, rfl, rfl, ?_⟩
    exact q _ _ (Int.emod_nonneg _ (by omega)) (Int.emod_lt_of_pos _ h0) ⟨_, _, _, upd_same⟩ ((But.of (same_new np)).trans But.upd)
  · refine ⟨.inr ⟨by omega, by omega⟩, ?_⟩
    exact q _ _ (Int.emod_nonneg _ (by omega)) (Int.emod_lt_of_pos _ h0) ⟨_, _, _, upd_same⟩ But.upd

abbrev s_l_some : Stmt := top 25
abbrev N_l_some : List Str := ["_law_bag_here", "_law_menu"]
theorem sc_l_some : FnScope N_l_some ["_law_bag_here", "_law_menu"] (defScope s_l_some) := ⟨rfl, rfl, rfl, by decide +kernel, rfl, by decide +kernel, by decide +kernel⟩
theorem ok_l_some (F : FnP K "_law_some" "_law_some" s_l_some f fd) (C_l_grab : Cal P w K mg base 1 "_law_grab" ["_law_bag_here", "_law_size"] sp_l_dip) (B : Bi mg) :
    FnOk P w K mg base CX0 2 f fd ["_law_bag_here", "_law_menu"] sp_l_one := by
  refine okF F sc_l_some (fun vs H Q E h => by repeat (first | (obtain ⟨rfl, _⟩ := h; rfl) | obtain ⟨_, h⟩ := h)) (fun cdv A outer s H vs Q E hr h => ?_)
  obtain ⟨b, a, xs, rfl, hb, ne, ha, h0, h1, q⟩ := h
  refine ⟨_, (pss_one (ps_ret (pe_ix ix_seq (pv 1) (pe_cal C_l_grab hr (pa_cons (pv 0) (pa_cons (pe_callB call_len_seq (by rfl) B.b_len (by decide +kernel) (pa_cons (pv 1) pa_nil)) pa_nil))) (fun _ _ => rfl)))), ?_⟩
  simp [tRet, tRetN, tSeq, tNext, tNever, tDrop, tIfS, tAsg, tPar, tAug, tAugS, gName, gNil, gCons, gTup, gSub, tAndV, tOrV, tNotV, tAnd, tOr, tNot, tB, tTest, tYes, tIf, tCall, tCallK, tCallN, tMake, tProp, tMeth, getSp, tCB, tCons, tNil, tVar, tC, tOp, tUn, tChain, tLst, tTup, tFld, sFld, tBM, tBM0, tSl, tPart, tNoPart, rI0, rI, rU, rEq, rNe, rIsi, tCut, tCutR, tCutS, rIntI, tSlH, tSlS, rSumH, rTupH, rSortH, tLstRg, tRg1, tRg2, rIxH, rIxHT, rLenH, rLenHT, rIxL, rIxT, rIx, rCat, rRep, rSetL, rAppend, rSum, rMax, rMin, rEqD, rNeD, rSlL, rPopAt, rSorted, rAll, rAny, rReprS, rNext, tCutT, rCatHT, rCatA, rSlA, RT.iRevA, scal, L2.start, List.replicate, and_assoc, CDiv, CMul, CPow, ipI, rMaxH, rSetLi, rSortedSet, iAnyS, rMinT, rLotEq, rLotStr, rGcd, rLcm, tRevT, rLtU, rIsiI, RZ.iZipA, iEnz, tDNewK, tDGet, sDPut, sp_l_dip]
  refine ⟨xs, ?_, hb, h0, by omega, ?_⟩
  · rcases ha with ha | ha
    · exact .inl (sqL ha)
    · exact .inr (sqT ha)
  · intro r H' r0 r1 hb' bt
    obtain ⟨i, rfl⟩ : ∃ i : Nat, r = i := ⟨r.toNat, by omega⟩
    have hi : i < xs.length := by omega
    obtain ⟨x, hx⟩ : ∃ x, xs[i]? = some x := ⟨xs[i], List.getElem?_eq_getElem hi⟩
    have hq : Q x H' := q x H' (List.mem_of_getElem? hx) hb' bt
    rcases ha with ha | ha
    · exact .inl ⟨xs, sqL (bt _ _ ne ha), x, atI_nat hx, hq⟩
    · exact .inr (.inl ⟨xs, sqT (bt _ _ ne ha), x, atI_nat hx, hq⟩)

abbrev s_l_coins : Stmt := top 26
abbrev N_l_coins : List Str := ["_law_bag_here", "_law_many", "_law_top", "_law_by", "_law_k"]
theorem sc_l_coins : FnScope N_l_coins ["_law_bag_here", "_law_many", "_law_top"] (defScope s_l_coins) := ⟨rfl, rfl, rfl, by decide +kernel, rfl, by decide +kernel, by decide +kernel⟩
theorem ok_l_coins (F : FnP K "_law_coins" "_law_coins" s_l_coins f fd) (C_l_some : Cal P w K mg base 2 "_law_some" ["_law_bag_here", "_law_menu"] sp_l_one) (B : Bi mg) (C_l_grab : Cal P w K mg base 1 "_law_grab" ["_law_bag_here", "_law_size"] sp_l_dip) :
    FnOk P w K mg base CX0 3 f fd ["_law_bag_here", "_law_many", "_law_top"] sp_l_coinsU := by
  refine okF F sc_l_coins (fun vs H Q E h => by repeat (first | (obtain ⟨rfl, _⟩ := h; rfl) | obtain ⟨_, h⟩ := h)) (fun cdv A outer s H vs Q E hr h => ?_)
  obtain ⟨b, n, m, rfl, hbw, hn1, hn15, hm6, hm60, q⟩ := h
  refine ⟨_, (pss_cons (ps_set (i := 3) sc_l_coins.nd rfl (Or.inr rfl) (pe_cal C_l_some hr (pa_cons (pv 0) (pa_cons (pe_lst (pa_cons pe_int (pa_cons pe_int (pa_cons pe_int (pa_cons pe_int (pa_cons pe_int (pa_cons pe_int pa_nil))))))) pa_nil))))
    (pss_one (ps_ret (pe_callTy tuple_H (by rfl) B.b_tuple (by decide +kernel) (pa_cons (pe_callB (cr_sortedSet rfl) (by rfl) B.b_sorted (by decide +kernel) (pa_cons (pe_callTy (set_L rfl) (by rfl) B.b_set (by decide +kernel) (pa_cons (pe_lc (own := [("_law_k", 4)]) (g := gName 4) (tt := tYes) (te := (tOp _ (tVar 3) (tOp _ (tC (.int 1)) (tCall (sp_l_dip) [] E0 (tCons (tVar 0) (tCons (tOp _ (tVar 2) (tVar 3)) tNil)))))) (by rfl) sc_l_coins.nd (pi_range1 (by rfl) B.b_range (pa_cons (pe_op op_add pe_int (pe_cal C_l_grab hr (pa_cons (pv 0) (pa_cons (pv 1) pa_nil)))) pa_nil)) (blkOk_by (own := [("_law_k", 4)]) (N := N_l_coins) (sc := defScope s_l_coins) (by decide +kernel)) (fun _ _ _ _ _ => pg_name (i := 4) sc_l_coins.nd rfl (Or.inl rfl)) (fun _ _ _ _ _ => pts_nil) (fun _ _ _ _ _ => (pe_op op_mul (pv 3) (pe_op op_add pe_int (by exact (pe_cal C_l_grab hr (pa_cons (pv 0) (pa_cons (pe_op op_fdiv (pv 2) (pv 3)) pa_nil)))))))) pa_nil)) pa_nil)) pa_nil))))), ?_⟩
  simp [tRet, tRetN, tSeq, tNext, tNever, tDrop, tIfS, tAsg, tPar, tAug, tAugS, gName, gNil, gCons, gTup, gSub, tAndV, tOrV, tNotV, tAnd, tOr, tNot, tB, tTest, tYes, tIf, tCall, tCallK, tCallN, tMake, tProp, tMeth, getSp, tCB, tCons, tNil, tVar, tC, tOp, tUn, tChain, tLst, tTup, tFld, sFld, tBM, tBM0, tSl, tPart, tNoPart, rI0, rI, rU, rEq, rNe, rIsi, tCut, tCutR, tCutS, rIntI, tSlH, tSlS, rSumH, rTupH, rSortH, tLstRg, tRg1, tRg2, rIxH, rIxHT, rLenH, rLenHT, rIxL, rIxT, rIx, rCat, rRep, rSetL, rAppend, rSum, rMax, rMin, rEqD, rNeD, rSlL, rPopAt, rSorted, rAll, rAny, rReprS, rNext, tCutT, rCatHT, rCatA, rSlA, RT.iRevA, scal, L2.start, List.replicate, and_assoc, CDiv, CMul, CPow, ipI, rMaxH, rSetLi, rSortedSet, iAnyS, rMinT, rLotEq, rLotStr, rGcd, rLcm, tRevT, rLtU, rIsiI, RZ.iZipA, iEnz, tDNewK, tDGet, sDPut, sp_l_one]
  refine ⟨by decide, ?_⟩
  intro pm n1
  generalize eH1 : upd H pm _ = H1
  have s1 : Same H H1 := by rw [← eH1]; exact same_new n1
  have h1 := (congrFun eH1 pm).symm.trans upd_same
  clear eH1
  refine ⟨hbw.same s1, nb_new hbw n1, _, .inl h1, by simp, by simp, fun x H2 hx hb2 bt2 => ?_⟩
  obtain ⟨u, rfl, hu1, hu5⟩ : ∃ u : Nat, x = .int u ∧ 1 ≤ u ∧ u ≤ 5 := by
    have key : ∀ z : Int, 1 ≤ z → z ≤ 5 → ∃ u : Nat, V.int z = .int u ∧ 1 ≤ u ∧ u ≤ 5 := fun z h1 h2 => ⟨z.toNat, by congr 1; omega, by omega, by omega⟩
    simp only [List.mem_cons, List.not_mem_nil, or_false] at hx
    rcases hx with rfl | rfl | rfl | rfl | rfl | rfl <;> exact key _ (by decide) (by decide)
  have bt02 : But b H H2 := (But.of s1).trans bt2
  refine ⟨_, rfl, _, rfl, b, n, rfl, hb2, by omega, by omega, fun r1 H3 r10 r11 hb3 bt3 => ⟨1, r1, rfl, rfl, _, rfl, by omega, by omega, fun D nD => ?_⟩⟩
  obtain ⟨k, hk⟩ : ∃ k : Nat, (1 + r1).toNat = k := ⟨_, rfl⟩
  rw [hk]
  have ndb : D ≠ b := nb_new hb3 nD
  have hmq : (m : Int) / (u : Int) = ((m / u : Nat) : Int) := rfl
  have hmu : 0 < m / u := Nat.div_pos (by omega) (by omega)
  have hmle : m / u ≤ m := Nat.div_le_self _ _
  refine lc_range (lo := 0) (n := k) (fun i H' => ∃ ms : List Int, H' D = some (.lst (ms.map V.int)) ∧ ms.length = i ∧ (∀ x ∈ ms, 1 ≤ x ∧ x ≤ m) ∧ Bw H' b ∧ But b H3 H') ⟨[], upd_same, rfl, by simp, hb3.same (same_new nD), But.of (same_new nD)⟩ ?_ ?_
  · rintro i H' hi ⟨ms, hD, hl, hms, hb', bt'⟩
    simp [tRet, tRetN, tSeq, tNext, tNever, tDrop, tIfS, tAsg, tPar, tAug, tAugS, gName, gNil, gCons, gTup, gSub, tAndV, tOrV, tNotV, tAnd, tOr, tNot, tB, tTest, tYes, tIf, tCall, tCallK, tCallN, tMake, tProp, tMeth, getSp, tCB, tCons, tNil, tVar, tC, tOp, tUn, tChain, tLst, tTup, tFld, sFld, tBM, tBM0, tSl, tPart, tNoPart, rI0, rI, rU, rEq, rNe, rIsi, tCut, tCutR, tCutS, rIntI, tSlH, tSlS, rSumH, rTupH, rSortH, tLstRg, tRg1, tRg2, rIxH, rIxHT, rLenH, rLenHT, rIxL, rIxT, rIx, rCat, rRep, rSetL, rAppend, rSum, rMax, rMin, rEqD, rNeD, rSlL, rPopAt, rSorted, rAll, rAny, rReprS, rNext, tCutT, rCatHT, rCatA, rSlA, RT.iRevA, scal, L2.start, List.replicate, and_assoc, CDiv, CMul, CPow, ipI, rMaxH, rSetLi, rSortedSet, iAnyS, rMinT, rLotEq, rLotStr, rGcd, rLcm, tRevT, rLtU, rIsiI, RZ.iZipA, iEnz, tDNewK, tDGet, sDPut, wipe, sp_l_dip]
    refine ⟨by omega, by omega, hb', by omega, by omega, fun r H'' r0 r1 hb'' bt'' => ?_⟩
    have hur : u * (1 + r.toNat) ≤ u * (m / u) := Nat.mul_le_mul_left _ (by omega)
    have hum : u * (m / u) ≤ m := Nat.mul_div_le _ _
    have hpos : 1 ≤ u * (1 + r.toNat) := Nat.mul_pos (by omega) (by omega)
    have ee : (u : Int) * (1 + r) = ((u * (1 + r.toNat) : Nat) : Int) := by
      rw [Int.natCast_mul, Int.natCast_add, Int.toNat_of_nonneg r0]
      rfl
    have hD'' := bt'' _ _ ndb hD
    refine ⟨.inl ⟨by omega, by omega⟩, _, hD'', Nat.lt_of_le_of_lt (show _ ≤ 100 by simp; omega) (by decide), ms ++ [(u : Int) * (1 + r)], ?_, by simp [hl], ?_, ?_, ?_⟩
    · rw [upd_same]
      simp
    · intro x hx
      rcases List.mem_append.mp hx with hx | hx
      · exact hms x hx
      · have : x = (u : Int) * (1 + r) := by simpa using hx
        rw [this, ee]
        omega
    · obtain ⟨x, y, z, e⟩ := hb''
      exact ⟨x, y, z, by rw [upd_ne ndb.symm]; exact e⟩
    · intro c o nc hc
      rw [upd_ne (ne_of_none hc nD)]
      exact bt'' _ _ nc (bt' _ _ nc hc)
  · rintro H' ⟨ms, hD, hl, hms, hb', bt'⟩
    refine ⟨D, rfl, ms, hD, by omega, fun p c np hc => ?_⟩
    generalize eA : upd H' p _ = Ha
    have sA : Same H' Ha := by rw [← eA]; exact same_new np
    have hA := (congrFun eA p).symm.trans upd_same
    clear eA
    first | refine ⟨_, c, hA, by omega, ?_⟩ | refine ⟨_, c, hA, ?_⟩
    intro ns p1 hpw hmem hlen n1
    have sc := same_new (o := .lst (ns.map V.int)) n1
    generalize eC : upd Ha p1 _ = Hc at sc ⊢
    have hc' := (congrFun eC p1).symm.trans upd_same
    clear eC
    refine ⟨_, hc', ?_⟩
    have stot := sA.trans sc
    intro pt nd
    generalize eHd : upd Hc pt _ = Hd
    have sd : Same Hc Hd := by rw [← eHd]; exact same_new nd
    have hd := (congrFun eHd pt).symm.trans upd_same
    clear eHd
    have hmem' : ∀ k : Int, k ∈ ns ↔ k ∈ ms := fun k => by rw [hmem k]; simp
    have bt : But b H Hd := bt02.trans (bt3.trans (bt'.trans (But.of (stot.trans sd))))
    obtain ⟨bx, by', bz, hbe⟩ := hb'
    refine q pt ns Hd ((bt02.trans (bt3.trans (bt'.trans (But.of stot)))).free (stot _ _ hbe) nd) ⟨?_, by omega, ?_⟩ (by omega) (fun c hc => (hms c ((hmem' c).mp hc)).2) hd ⟨_, _, _, sd _ _ (stot _ _ hbe)⟩ bt
    · intro z
      have h0 : 0 < ms.length := by omega
      have := (hmem' (ms[0])).mpr (List.getElem_mem h0)
      rw [z] at this
      cases this
    · refine asc_of hpw fun c hc => ?_
      have := hms c ((hmem' c).mp hc)
      omega

end
end Kx

-- SXEXT: rMaxH, rSetLi, rSortedSet, iAnyS, rMinT, rLotEq, rLotStr, rGcd, rLcm, tRevT, rLtU, rIsiI, RZ.iZipA, iEnz, tDNewK, tDGet, sDPut
namespace Kx
open PySem L2 MG KM
section
variable {P : Program} {w : World} {K : PySem.W.Frag} {mg : Str → Option Value} {base : Heap} {f : Addr} {fd : FuncData} {C : Addr}
abbrev s_l_tables : Stmt := top 27
abbrev N_l_tables : List Str := ["_law_coins_here", "_law_top", "_law_few", "_law_many", "_law_coin", "_law_total", "_law_near", "_law_far"]
theorem sc_l_tables : FnScope N_l_tables ["_law_coins_here", "_law_top"] (defScope s_l_tables) := ⟨rfl, rfl, rfl, by decide +kernel, rfl, by decide +kernel, by decide +kernel⟩
theorem ok_l_tables (F : FnP K "_law_tables" "_law_tables" s_l_tables f fd) (B : Bi mg) :
    FnOk P w K mg base CX0 1 f fd ["_law_coins_here", "_law_top"] sp_l_tables := by
  refine okF F sc_l_tables (fun vs H Q E h => by repeat (first | (obtain ⟨rfl, _⟩ := h; rfl) | obtain ⟨_, h⟩ := h)) (fun cdv A outer s H vs Q E hr h => ?_)
  obtain ⟨t, cs, m, rfl, ht, hc, hm, q⟩ := h
  have hc60 := lot_pos (Int.le_refl 0) hc.up
  refine ⟨_, (pss_cons (ps_par (i := 2) (j := 3) (by rfl) sc_l_tables.nd rfl rfl (by decide) rfl rfl (pa_cons (pe_op op_cat (pe_lst (pa_cons pe_int pa_nil)) (pe_op op_rep (pe_lst (pa_cons pe_non pa_nil)) (pv 1))) (pa_cons (pe_op op_cat (pe_lst (pa_cons pe_int pa_nil)) (pe_op op_rep (pe_lst (pa_cons pe_non pa_nil)) (pv 1))) pa_nil)) (by rfl))
    (pss_cons (ps_for PassesOwn.never rfl (pi_tup (pv 0)) (pg_name (i := 4) sc_l_tables.nd rfl (Or.inl rfl))
      (pss_one (ps_for PassesOwn.never rfl (pi_range2 (by rfl) B.b_range (pa_cons (pv 4) (pa_cons (pe_op op_add (pv 1) pe_int) pa_nil))) (pg_name (i := 5) sc_l_tables.nd rfl (Or.inl rfl))
        (pss_one (ps_if (pt_cmpR op_notN (pe_ix ix_H (pv 2) (pe_op op_sub (pv 5) (pv 4)) (fun _ _ => rfl)) pe_non (nomark _))
          (pss_cons (ps_par (i := 6) (j := 7) (by rfl) sc_l_tables.nd rfl rfl (by decide) rfl rfl (pa_cons (pe_op op_add (pe_ix ix_H (pv 2) (pe_op op_sub (pv 5) (pv 4)) (fun _ _ => rfl)) pe_int) (pa_cons (pe_op op_add (pe_ix ix_H (pv 3) (pe_op op_sub (pv 5) (pv 4)) (fun _ _ => rfl)) pe_int) pa_nil)) (by rfl))
          (pss_cons (ps_asg (pe_ifExp (pt_cmpR op_isN (pe_ix ix_H (pv 2) (pv 5) (fun _ _ => rfl)) pe_non (nomark _)) (pv 6) (pe_callB (call_min2 rfl) (by rfl) B.b_min (by decide +kernel) (pa_cons (pe_ix ix_H (pv 2) (pv 5) (fun _ _ => rfl)) (pa_cons (pv 6) pa_nil)))) (pg_sub (pv 2) (pv 5) set_list))
          (pss_one (ps_asg (pe_ifExp (pt_cmpR op_isN (pe_ix ix_H (pv 3) (pv 5) (fun _ _ => rfl)) pe_non (nomark _)) (pv 7) (pe_callB (call_max2 rfl) (by rfl) B.b_max (by decide +kernel) (pa_cons (pe_ix ix_H (pv 3) (pv 5) (fun _ _ => rfl)) (pa_cons (pv 7) pa_nil)))) (pg_sub (pv 3) (pv 5) set_list)))))
          pss_nil)))))
    (pss_one (ps_ret (pe_tup (pa_cons (pv 2) (pa_cons (pv 3) pa_nil))))))), ?_⟩
  simp [tRet, tRetN, tSeq, tNext, tNever, tDrop, tIfS, tAsg, tPar, tAug, tAugS, gName, gNil, gCons, gTup, gSub, tAndV, tOrV, tNotV, tAnd, tOr, tNot, tB, tTest, tYes, tIf, tCall, tCallK, tCallN, tMake, tProp, tMeth, getSp, tCB, tCons, tNil, tVar, tC, tOp, tUn, tChain, tLst, tTup, tFld, sFld, tBM, tBM0, tSl, tPart, tNoPart, rI0, rI, rU, rEq, rNe, rIsi, tCut, tCutR, tCutS, rIntI, tSlH, tSlS, rSumH, rTupH, rSortH, tLstRg, tRg1, tRg2, rIxH, rIxHT, rLenH, rLenHT, rIxL, rIxT, rIx, rCat, rRep, rSetL, rAppend, rSum, rMax, rMin, rEqD, rNeD, rSlL, rPopAt, rSorted, rAll, rAny, rReprS, rNext, tCutT, rCatHT, rCatA, rSlA, RT.iRevA, scal, L2.start, List.replicate, and_assoc, CDiv, CMul, CPow, ipI, rMaxH, rSetLi, rSortedSet, iAnyS, rMinT, rLotEq, rLotStr, rGcd, rLcm, tRevT, rLtU, rIsiI, RZ.iZipA, iEnz, tDNewK, tDGet, sDPut]
  refine ⟨by decide, ?_⟩
  intro p1 n1
  generalize eH1 : upd H p1 _ = H1
  have s1 : Same H H1 := by rw [← eH1]; exact same_new n1
  have h1 := (congrFun eH1 p1).symm.trans upd_same
  clear eH1
  refine ⟨by decide, ?_⟩
  intro p2 n2
  generalize eH2 : upd H1 p2 _ = H2
  have s2 : Same H1 H2 := by rw [← eH2]; exact same_new n2
  have h2 := (congrFun eH2 p2).symm.trans upd_same
  clear eH2
  refine ⟨_, h2, by omega, Nat.le_trans (show 1 * m ≤ 50001 by omega) (by decide), ?_⟩
  intro p3 n3
  generalize eH3 : upd H2 p3 _ = H3
  have s3 : Same H2 H3 := by rw [← eH3]; exact same_new n3
  have h3 := (congrFun eH3 p3).symm.trans upd_same
  clear eH3
  refine ⟨_, s3 _ _ (s2 _ _ h1), _, h3, Nat.le_trans (show _ ≤ 50001 by simp; omega) (by decide), ?_⟩
  intro p4 n4
  generalize eH4 : upd H3 p4 _ = H4
  have s4 : Same H3 H4 := by rw [← eH4]; exact same_new n4
  have h4 := (congrFun eH4 p4).symm.trans upd_same
  clear eH4
  refine ⟨by decide, ?_⟩
  intro p5 n5
  generalize eH5 : upd H4 p5 _ = H5
  have s5 : Same H4 H5 := by rw [← eH5]; exact same_new n5
  have h5 := (congrFun eH5 p5).symm.trans upd_same
  clear eH5
  refine ⟨by decide, ?_⟩
  intro p6 n6
  generalize eH6 : upd H5 p6 _ = H6
  have s6 : Same H5 H6 := by rw [← eH6]; exact same_new n6
  have h6 := (congrFun eH6 p6).symm.trans upd_same
  clear eH6
  refine ⟨_, h6, by omega, Nat.le_trans (show 1 * m ≤ 50001 by omega) (by decide), ?_⟩
  intro p7 n7
  generalize eH7 : upd H6 p7 _ = H7
  have s7 : Same H6 H7 := by rw [← eH7]; exact same_new n7
  have h7 := (congrFun eH7 p7).symm.trans upd_same
  clear eH7
  refine ⟨_, s7 _ _ (s6 _ _ h5), _, h7, Nat.le_trans (show _ ≤ 50001 by simp; omega) (by decide), ?_⟩
  intro p8 n8
  generalize eH8 : upd H7 p8 _ = H8
  have s8 : Same H7 H8 := by rw [← eH8]; exact same_new n8
  have h8 := (congrFun eH8 p8).symm.trans upd_same
  clear eH8
  have s48 := s5.trans (s6.trans (s7.trans s8))
  have s04 : Same H H4 := s1.trans (s2.trans (s3.trans s4))
  have s08 := s04.trans s48
  have n4' : H p4 = none := (s1.trans (s2.trans s3)).free n4
  have n8' : H p8 = none := (s04.trans (s5.trans (s6.trans s7))).free n8
  have e48 : p4 ≠ p8 := fun z => by
    have := (s5.trans (s6.trans s7)).free (z ▸ n8)
    rw [h4] at this
    cases this
  have e4 : H8 p4 = some (.lst (tabO (m + 1) (KT.few (natL (cs.take 0))))) := by
    rw [s48 _ _ h4, show (natL (cs.take 0)) = [] from rfl, show KT.few [] = KC.T0 from rfl, ← tabO_t0]
    simp
  have e8 : H8 p8 = some (.lst (tabO (m + 1) (KT.many (natL (cs.take 0))))) := by
    rw [h8, show (natL (cs.take 0)) = [] from rfl, show KT.many [] = KC.T0 from rfl, ← tabO_t0]
    simp
  refine ⟨_, rfl, t, rfl, ⟨_, sqT (s08 _ _ ht)⟩, for_tup (xs := cs.map V.int) (fun i σ H' => ∃ v4 v5 v6 v7 : Option V, σ = [some (.ref t), some (.int m), some (.ref p4), some (.ref p8), v4, v5, v6, v7] ∧ Same H H' ∧ H' p4 = some (.lst (tabO (m + 1) (KT.few (natL (cs.take i))))) ∧ H' p8 = some (.lst (tabO (m + 1) (KT.many (natL (cs.take i)))))) ⟨none, none, none, none, rfl, s08, e4, e8⟩ (fun i σ H' _ ⟨_, _, _, _, _, s', _⟩ => sqT (s' _ _ ht)) ?_ ?_⟩
  · rintro i x σ H' hx ⟨v4, v5, v6, v7, rfl, s', hf, hm'⟩
    obtain ⟨z, hz, rfl⟩ := int_at hx
    have hb := hc60 z (List.mem_of_getElem? hz)
    obtain ⟨c, rfl⟩ : ∃ c : Nat, z = c := ⟨z.toNat, by omega⟩
    have hc0 : 0 < c := by omega
    have eF : KT.few (natL (cs.take (i + 1))) = KT.ost min c (KT.few (natL (cs.take i))) := by rw [natL_snoc hz]; exact KT.otb_snoc _ _ _
    have eM : KT.many (natL (cs.take (i + 1))) = KT.ost max c (KT.many (natL (cs.take i))) := by rw [natL_snoc hz]; exact KT.otb_snoc _ _ _
    rw [eF, eM]
    have hFM : ∀ n, KT.few (natL (cs.take i)) n = none ↔ KT.many (natL (cs.take i)) n = none := KT.otb_none _
    generalize KT.few (natL (cs.take i)) = F at hf hFM ⊢
    generalize KT.many (natL (cs.take i)) = M at hm' hFM ⊢
    simp [tRet, tRetN, tSeq, tNext, tNever, tDrop, tIfS, tAsg, tPar, tAug, tAugS, gName, gNil, gCons, gTup, gSub, tAndV, tOrV, tNotV, tAnd, tOr, tNot, tB, tTest, tYes, tIf, tCall, tCallK, tCallN, tMake, tProp, tMeth, getSp, tCB, tCons, tNil, tVar, tC, tOp, tUn, tChain, tLst, tTup, tFld, sFld, tBM, tBM0, tSl, tPart, tNoPart, rI0, rI, rU, rEq, rNe, rIsi, tCut, tCutR, tCutS, rIntI, tSlH, tSlS, rSumH, rTupH, rSortH, tLstRg, tRg1, tRg2, rIxH, rIxHT, rLenH, rLenHT, rIxL, rIxT, rIx, rCat, rRep, rSetL, rAppend, rSum, rMax, rMin, rEqD, rNeD, rSlL, rPopAt, rSorted, rAll, rAny, rReprS, rNext, tCutT, rCatHT, rCatA, rSlA, RT.iRevA, scal, L2.start, List.replicate, and_assoc, CDiv, CMul, CPow, ipI, rMaxH, rSetLi, rSortedSet, iAnyS, rMinT, rLotEq, rLotStr, rGcd, rLcm, tRevT, rLtU, rIsiI, RZ.iZipA, iEnz, tDNewK, tDGet, sDPut]
    refine ⟨_, rfl, _, rfl, _, _, rfl, rfl, (c : Int), (m : Int) + 1, rfl, ⟨by omega, by omega, by omega, by omega⟩, for_range (lo := (c : Int)) (n := ((m : Int) + 1 - c).toNat) (fun j σ H2 => ∃ v5 v6 v7 : Option V, σ = [some (.ref t), some (.int m), some (.ref p4), some (.ref p8), some (.int c), v5, v6, v7] ∧ Same H H2 ∧ H2 p4 = some (.lst (tabO (m + 1) (KT.ohf min c F (c + j)))) ∧ H2 p8 = some (.lst (tabO (m + 1) (KT.ohf max c M (c + j))))) ⟨_, _, _, rfl, s', ?_, ?_⟩ ?_ ?_⟩
    · rw [hf, Nat.add_zero, tabO_congr fun i _ => (KT.ohf_start min c F i).symm]; rfl
    · rw [hm', Nat.add_zero, tabO_congr fun i _ => (KT.ohf_start max c M i).symm]; rfl
    · rintro j σ H2 hj ⟨v5, v6, v7, rfl, s2, hf2, hm2⟩
      have hj' : c + j < m + 1 := by omega
      simp [tRet, tRetN, tSeq, tNext, tNever, tDrop, tIfS, tAsg, tPar, tAug, tAugS, gName, gNil, gCons, gTup, gSub, tAndV, tOrV, tNotV, tAnd, tOr, tNot, tB, tTest, tYes, tIf, tCall, tCallK, tCallN, tMake, tProp, tMeth, getSp, tCB, tCons, tNil, tVar, tC, tOp, tUn, tChain, tLst, tTup, tFld, sFld, tBM, tBM0, tSl, tPart, tNoPart, rI0, rI, rU, rEq, rNe, rIsi, tCut, tCutR, tCutS, rIntI, tSlH, tSlS, rSumH, rTupH, rSortH, tLstRg, tRg1, tRg2, rIxH, rIxHT, rLenH, rLenHT, rIxL, rIxT, rIx, rCat, rRep, rSetL, rAppend, rSum, rMax, rMin, rEqD, rNeD, rSlL, rPopAt, rSorted, rAll, rAny, rReprS, rNext, tCutT, rCatHT, rCatA, rSlA, RT.iRevA, scal, L2.start, List.replicate, and_assoc, CDiv, CMul, CPow, ipI, rMaxH, rSetLi, rSortedSet, iAnyS, rMinT, rLotEq, rLotStr, rGcd, rLcm, tRevT, rLtU, rIsiI, RZ.iZipA, iEnz, tDNewK, tDGet, sDPut, hf2, hm2]
      have hAF : atI (tabO (m + 1) (KT.ohf min c F (c + j))) ((c : Int) + j - c) = some (optV (KT.ohf min c F (c + j) j)) := atI_of (i := j) (by omega) (tabO_at (by omega))
      have hAM : atI (tabO (m + 1) (KT.ohf max c M (c + j))) ((c : Int) + j - c) = some (optV (KT.ohf max c M (c + j) j)) := atI_of (i := j) (by omega) (tabO_at (by omega))
      have hBF : atI (tabO (m + 1) (KT.ohf min c F (c + j))) ((c : Int) + j) = some (optV (KT.ohf min c F (c + j) (c + j))) := atI_of (i := c + j) (by omega) (tabO_at hj')
      have hBM : atI (tabO (m + 1) (KT.ohf max c M (c + j))) ((c : Int) + j) = some (optV (KT.ohf max c M (c + j) (c + j))) := atI_of (i := c + j) (by omega) (tabO_at hj')
      have hIF : ixN (tabO (m + 1) (KT.ohf min c F (c + j))).length ((c : Int) + j) = some (c + j) := ixN_of (by omega) (by rw [tabO_len]; exact hj')
      have hIM : ixN (tabO (m + 1) (KT.ohf max c M (c + j))).length ((c : Int) + j) = some (c + j) := ixN_of (by omega) (by rw [tabO_len]; exact hj')
      have e1 := ohf_same hFM (b := min) (b' := max) (c := c) (m := c + j) j
      have e2 := ohf_same hFM (b := min) (b' := max) (c := c) (m := c + j) (c + j)
      have pF := fun v hv => tabO_ohf (b := min) (n := m + 1) (j := j) (T := F) hc0 (v := v) hv
      have pM := fun v hv => tabO_ohf (b := max) (n := m + 1) (j := j) (T := M) hc0 (v := v) hv
      have stF := fun h => tabO_ohf_stay (b := min) (n := m + 1) (T := F) (j := j) hc0 h
      have stM := fun h => tabO_ohf_stay (b := max) (n := m + 1) (T := M) (j := j) hc0 h
      generalize KT.ohf min c F (c + j) = F1 at *
      generalize KT.ohf max c M (c + j) = M1 at *
      have ne84 : p8 ≠ p4 := fun z => e48 z.symm
      have fin : ∀ u w : Nat, KT.sel min (F1 (c + j)) ((F1 j).map (· + 1)) = some u → KT.sel max (M1 (c + j)) ((M1 j).map (· + 1)) = some w →
          Same H (upd (upd H2 p4 (HO.lst ((tabO (m + 1) F1).set (c + j) (V.int u)))) p8 (HO.lst ((tabO (m + 1) M1).set (c + j) (V.int w)))) ∧
          upd (upd H2 p4 (HO.lst ((tabO (m + 1) F1).set (c + j) (V.int u)))) p8 (HO.lst ((tabO (m + 1) M1).set (c + j) (V.int w))) p4 = some (HO.lst (tabO (m + 1) (KT.ohf min c F (c + (j + 1))))) ∧
          upd (upd H2 p4 (HO.lst ((tabO (m + 1) F1).set (c + j) (V.int u)))) p8 (HO.lst ((tabO (m + 1) M1).set (c + j) (V.int w))) p8 = some (HO.lst (tabO (m + 1) (KT.ohf max c M (c + (j + 1))))) := fun u w hu hw => by
        refine ⟨Same.updN (Same.updN s2 n4') n8', ?_, ?_⟩
        · rw [upd_ne e48, upd_same]
          exact congrArg (fun l => some (HO.lst l)) (pF (some u) hu)
        · rw [upd_same]
          exact congrArg (fun l => some (HO.lst l)) (pM (some w) hw)
      refine ⟨_, hAF, ?_⟩
      cases ea : F1 j with
      | none => exact .inl ⟨rfl, s2, stF ea, stM (e1.mp ea)⟩
      | some u =>
        cases eb : M1 j with
        | none => exact absurd (e1.mpr eb) (by rw [ea]; nofun)
        | some w =>
          refine .inr ⟨nofun, _, hAF, u, by rw [ea]; rfl, _, hAM, w, by rw [eb]; rfl, _, hBF, ?_⟩
          cases ec : F1 (c + j) with
          | none =>
            have ed := e2.mp ec
            rw [if_pos (show optV none = V.non from rfl)]
            refine ⟨_, hIF, _, (upd_ne ne84).trans hm2, _, hBM, ?_⟩
            rw [ed, if_pos (show optV none = V.non from rfl)]
            exact ⟨_, (upd_ne ne84).trans hm2, _, hIM, fin (u + 1) (w + 1) (by rw [ea, ec]; rfl) (by rw [eb, ed]; rfl)⟩
          | some x =>
            cases ed : M1 (c + j) with
            | none => exact absurd (e2.mpr ed) (by rw [ec]; nofun)
            | some y =>
              rw [if_neg (show ¬ optV (some x) = V.non from nofun)]
              refine ⟨_, hBF, x, by rw [ec]; rfl, _, hIF, _, (upd_ne ne84).trans hm2, _, hBM, ?_⟩
              rw [ed, if_neg (show ¬ optV (some y) = V.non from nofun)]
              refine ⟨_, (upd_ne ne84).trans hm2, _, hBM, y, by rw [ed]; rfl, _, (upd_ne ne84).trans hm2, _, hIM, ?_⟩
              have k1 : (if (u : Int) + 1 < (x : Int) then (u : Int) + 1 else (x : Int)) = ((min x (u + 1) : Nat) : Int) := by split <;> omega
              have k2 : (if (y : Int) < (w : Int) + 1 then (w : Int) + 1 else (y : Int)) = ((max y (w + 1) : Nat) : Int) := by split <;> omega
              rw [k1, k2]
              exact fin _ _ (by rw [ea, ec]; rfl) (by rw [eb, ed]; rfl)
    · rintro σ H2 ⟨v5, v6, v7, rfl, s2, hf2, hm2⟩
      refine ⟨⟨_, _, _, _, rfl⟩, s2, ?_, ?_⟩
      · rw [hf2, tabO_congr fun i hi => (KT.ohf_end (by omega))]
      · rw [hm2, tabO_congr fun i hi => (KT.ohf_end (by omega))]
  · rintro σ H' ⟨v4, v5, v6, v7, rfl, s', hf, hm'⟩
    rw [List.length_map, List.take_length] at hf hm'
    simp [tRet, tRetN, tSeq, tNext, tNever, tDrop, tIfS, tAsg, tPar, tAug, tAugS, gName, gNil, gCons, gTup, gSub, tAndV, tOrV, tNotV, tAnd, tOr, tNot, tB, tTest, tYes, tIf, tCall, tCallK, tCallN, tMake, tProp, tMeth, getSp, tCB, tCons, tNil, tVar, tC, tOp, tUn, tChain, tLst, tTup, tFld, sFld, tBM, tBM0, tSl, tPart, tNoPart, rI0, rI, rU, rEq, rNe, rIsi, tCut, tCutR, tCutS, rIntI, tSlH, tSlS, rSumH, rTupH, rSortH, tLstRg, tRg1, tRg2, rIxH, rIxHT, rLenH, rLenHT, rIxL, rIxT, rIx, rCat, rRep, rSetL, rAppend, rSum, rMax, rMin, rEqD, rNeD, rSlL, rPopAt, rSorted, rAll, rAny, rReprS, rNext, tCutT, rCatHT, rCatA, rSlA, RT.iRevA, scal, L2.start, List.replicate, and_assoc, CDiv, CMul, CPow, ipI, rMaxH, rSetLi, rSortedSet, iAnyS, rMinT, rLotEq, rLotStr, rGcd, rLcm, tRevT, rLtU, rIsiI, RZ.iZipA, iEnz, tDNewK, tDGet, sDPut]
    refine ⟨by decide, ?_⟩
    intro pq n9
    generalize eH9 : upd H' pq _ = H9
    have s9 : Same H' H9 := by rw [← eH9]; exact same_new n9
    have h9 := (congrFun eH9 pq).symm.trans upd_same
    clear eH9
    exact q pq p4 p8 H9 (s'.free n9) n4' n8' (s'.trans s9) h9 (s9 _ _ hf) (s9 _ _ hm')

end
end Kx

-- SXEXT: rMaxH, rSetLi, rSortedSet, iAnyS, rMinT, rLotEq, rLotStr, rGcd, rLcm, tRevT, rLtU, rIsiI, RZ.iZipA, iEnz, tDNewK, tDGet, sDPut
namespace Kx
open PySem L2 MG KM
section
variable {P : Program} {w : World} {K : PySem.W.Frag} {mg : Str → Option Value} {base : Heap} {f : Addr} {fd : FuncData} {C : Addr}
abbrev s_lag : Stmt := top 21
abbrev N_lag : List Str := ["one", "other", "high", "other_high", "last", "here", "there", "found", "amount", "length"]
theorem sc_lag : FnScope N_lag ["one", "other"] (defScope s_lag) := ⟨rfl, rfl, rfl, by decide +kernel, rfl, by decide +kernel, by decide +kernel⟩
theorem ok_lag (F : FnP K "lag" "lag" s_lag f fd) (C_check_lot : Cal P w K mg base 1 "check_lot" ["lot"] (sp_check_lot C)) (TC : Tc K mg C) (PC : Prp P w K mg base C) (B : Bi mg) (C_last_without_greatest : Cal P w K mg base 1 "last_without_greatest" ["coins"] sp_last_without_greatest) (L_lcm : mg "lcm" = some (.builtin "math.lcm")) (C_length_table : Cal P w K mg base 1 "length_table" ["coins", "last", "sign"] sp_length_table) (c_FEWEST : ∃ t, mg "FEWEST" = some (.int (1) t)) :
    FnOk P w K mg base CX0 3 f fd ["one", "other"] (sp_lag C) := by
  refine okF F sc_lag (fun vs H Q E h => by repeat (first | (obtain ⟨rfl, _⟩ := h; rfl) | obtain ⟨_, h⟩ := h)) (fun cdv A outer s H vs Q E hr h => ?_)
  obtain ⟨p1, p2, cs, ds, G, G2, rfl, hL, hL2, hG, hG2, hG30, hG230, q1, q2⟩ := h
  obtain ⟨dx, t, hp, ht, hc⟩ := id hL
  obtain ⟨dx2, t2, hp2, ht2, hd⟩ := id hL2
  have hla : atI (cs.map V.int) (-1) = some (.int G) := atI_last (by rw [List.length_map]; exact mapI_at hG)
  have hla2 : atI (ds.map V.int) (-1) = some (.int G2) := atI_last (by rw [List.length_map]; exact mapI_at hG2)
  have hc60 := lot_pos (Int.le_refl 0) hc.up
  have hd60 := lot_pos (Int.le_refl 0) hd.up
  have hG60 := hc60 _ (List.mem_of_getElem? hG)
  have hG260 := hd60 _ (List.mem_of_getElem? hG2)
  obtain ⟨t_FEWEST, d_FEWEST⟩ := c_FEWEST
  refine ⟨_, (pss_cons (ps_expr (pe_cal C_check_lot hr (pa_cons (pv 0) pa_nil)))
    (pss_cons (ps_expr (pe_cal C_check_lot hr (pa_cons (pv 1) pa_nil)))
    (pss_cons (ps_set (i := 2) sc_lag.nd rfl (Or.inl rfl) (pe_ix ix_HT (pe_coins PC TC.cl hr (pv 0)) (pe_un un_neg pe_int) (fun _ _ => rfl)))
    (pss_cons (ps_set (i := 3) sc_lag.nd rfl (Or.inl rfl) (pe_ix ix_HT (pe_coins PC TC.cl hr (pv 1)) (pe_un un_neg pe_int) (fun _ _ => rfl)))
    (pss_cons (ps_if (pt_cmpR op_lt (pv 2) (pv 3) (nomark _))
      (pss_one (ps_ret pe_non))
      pss_nil)
    (pss_cons (ps_set (i := 4) sc_lag.nd rfl (Or.inl rfl) (pe_op op_add (pe_callB (call_max2 rfl) (by rfl) B.b_max (by decide +kernel) (pa_cons (pe_cal C_last_without_greatest hr (pa_cons (pe_coins PC TC.cl hr (pv 0)) pa_nil)) (pa_cons (pe_cal C_last_without_greatest hr (pa_cons (pe_coins PC TC.cl hr (pv 1)) pa_nil)) pa_nil))) (pe_callBfun cr_lcm (by rfl) L_lcm (pa_cons (pv 2) (pa_cons (pv 3) pa_nil)))))
    (pss_cons (ps_set (i := 5) sc_lag.nd rfl (Or.inl rfl) (pe_cal C_length_table hr (pa_cons (pe_coins PC TC.cl hr (pv 0)) (pa_cons (pv 4) (pa_cons (pe_glob (v := .int (1)) rfl d_FEWEST ⟨_, rfl⟩) pa_nil)))))
    (pss_cons (ps_set (i := 6) sc_lag.nd rfl (Or.inl rfl) (pe_cal C_length_table hr (pa_cons (pe_coins PC TC.cl hr (pv 1)) (pa_cons (pv 4) (pa_cons (pe_glob (v := .int (1)) rfl d_FEWEST ⟨_, rfl⟩) pa_nil)))))
    (pss_cons (ps_set (i := 7) sc_lag.nd rfl (Or.inl rfl) (pe_tup (pa_cons pe_int (pa_cons pe_int pa_nil))))
    (pss_cons (ps_for PassesOwn.never rfl (pi_enum (by rfl) B.b_enumerate (pa_cons (pv 5) pa_nil)) (pg_tup (by rfl) (pgs_cons (pg_name (i := 8) sc_lag.nd rfl (Or.inl rfl)) (pgs_cons (pg_name (i := 9) sc_lag.nd rfl (Or.inl rfl)) pgs_nil)))
      (pss_one (ps_if (PW.pt (pw_and (pt_cmpR op_notN (pv 9) pe_non (nomark _)) (pw_and (pt_cmpR op_notN (pe_ix ix_H (pv 6) (pv 8) (fun _ _ => rfl)) pe_non (nomark _)) (pw_and1 (pt_cmpR op_gt (pe_op op_sub (pv 9) (pe_ix ix_H (pv 6) (pv 8) (fun _ _ => rfl))) (pe_ix ix_HT (pv 7) pe_int (fun _ _ => rfl)) (nomark _))))))
        (pss_one (ps_set (i := 7) sc_lag.nd rfl (Or.inl rfl) (pe_tup (pa_cons (pe_op op_sub (pv 9) (pe_ix ix_H (pv 6) (pv 8) (fun _ _ => rfl))) (pa_cons (pv 8) pa_nil)))))
        pss_nil)))
    (pss_one (ps_ret (pv 7))))))))))))), ?_⟩
  simp [tRet, tRetN, tSeq, tNext, tNever, tDrop, tIfS, tAsg, tPar, tAug, tAugS, gName, gNil, gCons, gTup, gSub, tAndV, tOrV, tNotV, tAnd, tOr, tNot, tB, tTest, tYes, tIf, tCall, tCallK, tCallN, tMake, tProp, tMeth, getSp, tCB, tCons, tNil, tVar, tC, tOp, tUn, tChain, tLst, tTup, tFld, sFld, tBM, tBM0, tSl, tPart, tNoPart, rI0, rI, rU, rEq, rNe, rIsi, tCut, tCutR, tCutS, rIntI, tSlH, tSlS, rSumH, rTupH, rSortH, tLstRg, tRg1, tRg2, rIxH, rIxHT, rLenH, rLenHT, rIxL, rIxT, rIx, rCat, rRep, rSetL, rAppend, rSum, rMax, rMin, rEqD, rNeD, rSlL, rPopAt, rSorted, rAll, rAny, rReprS, rNext, tCutT, rCatHT, rCatA, rSlA, RT.iRevA, scal, L2.start, List.replicate, and_assoc, CDiv, CMul, CPow, ipI, rMaxH, rSetLi, rSortedSet, iAnyS, rMinT, rLotEq, rLotStr, rGcd, rLcm, tRevT, rLtU, rIsiI, RZ.iZipA, iEnz, tDNewK, tDGet, sDPut, sp_check_lot]
  refine ⟨⟨_, _, hp⟩, ⟨_, _, hp2⟩, ⟨_, _, hp⟩, _, _, hp, _, rfl, t, rfl, _, ht, _, hla, ⟨_, _, hp2⟩, _, _, hp2, _, rfl, t2, rfl, _, ht2, _, hla2, _, rfl, _, rfl, ?_⟩
  by_cases c : G < G2
  · rw [if_pos (by omega)]
    exact q1 c
  · rw [if_neg (by omega)]
    obtain ⟨Cc, hC⟩ := ahC_ex hc
    obtain ⟨Cd, hCd⟩ := ahC_ex hd
    obtain ⟨La, hL1⟩ := first_ex hc
    obtain ⟨Lb, hL2'⟩ := first_ex hd
    obtain ⟨f1, f2, f3, f4, f5, f6, f7, f8, f9⟩ := cost_facts hc hL1 hG hC
    obtain ⟨g1, g2, g3, g4, g5, g6, g7, g8, g9⟩ := cost_facts hd hL2' hG2 hCd
    have hCle := ahC_le hc hC hG
    have hCdle := ahC_le hd hCd hG2
    have eE1 : (G - 1) * Cc ≤ 29 * 30 := Nat.mul_le_mul (by omega) (by omega)
    have eE2 : (G2 - 1) * Cd ≤ 29 * 30 := Nat.mul_le_mul (by omega) (by omega)
    refine ⟨⟨_, _, hp⟩, _, _, hp, _, rfl, t, cs, Cc, G, rfl, ht, hc, hC, hG, ⟨_, _, hp2⟩, _, _, hp2, _, rfl, t2, ds, Cd, G2, rfl, ht2, hd, hCd, hG2, ?_⟩
    have hPl : Nat.lcm G G2 ≤ 30 * 30 := Nat.le_trans (Nat.lcm_le_mul (by omega) (by omega)) (Nat.mul_le_mul hG30 hG230)
    generalize e1 : (G - 1) * Cc = X1 at *
    generalize e2 : (G2 - 1) * Cd = X2 at *
    refine ⟨_, rfl, _, rfl, _, rfl, _, rfl, by omega, by omega, ?_⟩
    rw [Int.natAbs_natCast, Int.natAbs_natCast]
    obtain ⟨M, hM, hM1, hM2⟩ : ∃ M : Nat, (if (X1 : Int) < (X2 : Int) then (X2 : Int) else (X1 : Int)) + (Nat.lcm G G2 : Nat) = (M : Int) ∧ max X1 X2 + Nat.lcm G G2 = M ∧ M ≤ 2000 := by
      refine ⟨max X1 X2 + Nat.lcm G G2, ?_, rfl, by omega⟩
      split <;> omega
    rw [hM]
    refine ⟨⟨_, _, hp⟩, _, _, hp, _, rfl, t, cs, M, 1, min, rfl, ht, hc, by omega, .inl ⟨rfl, rfl⟩, fun pa Ha npa sa hpa => ?_⟩
    refine ⟨⟨_, _, sa _ _ hp2⟩, _, _, sa _ _ hp2, _, rfl, t2, ds, M, 1, min, rfl, sa _ _ ht2, hd, by omega, .inl ⟨rfl, rfl⟩, fun pb Hb npb sb hpb => ?_⟩
    refine ⟨by decide, ?_⟩
    intro p0 n0
    generalize eH0 : upd Hb p0 _ = H0
    have s0 : Same Hb H0 := by rw [← eH0]; exact same_new n0
    have h0 := (congrFun eH0 p0).symm.trans upd_same
    clear eH0
    refine ⟨_, rfl, pa, _, rfl, sqL (s0 _ _ (sb _ _ hpa)), ?_⟩
    refine for_it (walk_enum (xs := tabO (M + 1) (KT.few (natL cs)))) (fun i σ H' => ∃ (p : Addr) (v8 v9 : Option V), σ = [some (.ref p1), some (.ref p2), some (.int G), some (.int G2), some (.int M), some (.ref pa), some (.ref pb), some (.ref p), v8, v9] ∧ Same Hb H' ∧ H p = none ∧ H' p = some (.tup [.int (KT.lagUp (KT.few (natL cs)) (KT.few (natL ds)) i).1, .int ((KT.lagUp (KT.few (natL cs)) (KT.few (natL ds)) i).2 : Nat)])) ?_ ?_ ?_ ?_
    · exact ⟨p0, none, none, rfl, s0, (sa.trans sb).free n0, h0⟩
    · rintro i σ H' hi ⟨p, v4, v5, rfl, s', np, hp⟩
      exact sqL (s' _ _ (sb _ _ hpa))
    · rintro i x σ H' H'' hi ⟨p, v4, v5, rfl, s', np, hp⟩ ⟨T, x1, y1, rfl, nT, rfl, hx, hy⟩
      rw [tabO_len] at hi
      replace hy : (tabO (M + 1) (KT.few (natL cs)))[i]? = some y1 := hy
      rw [tabO_at (by omega)] at hy
      cases hx
      cases hy
      refine ⟨T, _, rfl, sqT upd_same, rfl, ?_⟩
      have sT : Same H' (upd H' T (.tup [.int (i : Nat), optV (KT.few (natL cs) i)])) := same_new nT
      generalize upd H' T (.tup [.int (i : Nat), optV (KT.few (natL cs) i)]) = Ha at sT ⊢
      have hAM : atI (tabO (M + 1) (KT.few (natL ds))) (i : Int) = some (optV (KT.few (natL ds) i)) := atI_of (i := i) rfl (tabO_at (by omega))
      have hpb2 := sT _ _ (s' _ _ hpb)
      have hp2' := sT _ _ hp
      simp [tRet, tRetN, tSeq, tNext, tNever, tDrop, tIfS, tAsg, tPar, tAug, tAugS, gName, gNil, gCons, gTup, gSub, tAndV, tOrV, tNotV, tAnd, tOr, tNot, tB, tTest, tYes, tIf, tCall, tCallK, tCallN, tMake, tProp, tMeth, getSp, tCB, tCons, tNil, tVar, tC, tOp, tUn, tChain, tLst, tTup, tFld, sFld, tBM, tBM0, tSl, tPart, tNoPart, rI0, rI, rU, rEq, rNe, rIsi, tCut, tCutR, tCutS, rIntI, tSlH, tSlS, rSumH, rTupH, rSortH, tLstRg, tRg1, tRg2, rIxH, rIxHT, rLenH, rLenHT, rIxL, rIxT, rIx, rCat, rRep, rSetL, rAppend, rSum, rMax, rMin, rEqD, rNeD, rSlL, rPopAt, rSorted, rAll, rAny, rReprS, rNext, tCutT, rCatHT, rCatA, rSlA, RT.iRevA, scal, L2.start, List.replicate, and_assoc, CDiv, CMul, CPow, ipI, rMaxH, rSetLi, rSortedSet, iAnyS, rMinT, rLotEq, rLotStr, rGcd, rLcm, tRevT, rLtU, rIsiI, RZ.iZipA, iEnz, tDNewK, tDGet, sDPut, hpb2]
      have sH : Same H Ha := sa.trans (sb.trans (s'.trans sT))
      cases ea : KT.few (natL cs) i with
      | none =>
        refine .inl ⟨rfl, s'.trans sT, np, ?_⟩
        rw [KT.lagUp_none (.inl ea)]
        exact sT _ _ hp
      | some u =>
        cases eb : KT.few (natL ds) i with
        | none =>
          refine .inr ⟨nofun, _, hAM, .inl ⟨by rw [eb]; rfl, s'.trans sT, np, ?_⟩⟩
          rw [KT.lagUp_none (.inr eb)]
          exact sT _ _ hp
        | some v =>
          refine .inr ⟨nofun, _, hAM, .inr ⟨by rw [eb]; nofun, _, hAM, _, rfl, (v : Int), by rw [eb]; rfl, _, hp2', _, rfl, _, rfl, ?_⟩⟩
          rw [KT.lagUp_some ea eb]
          by_cases c : (KT.lagUp (KT.few (natL cs)) (KT.few (natL ds)) i).1 < (u : Int) - (v : Int)
          · rw [if_pos c, if_pos c]
            refine ⟨_, hAM, _, rfl, (v : Int), by rw [eb]; rfl, by decide, ?_⟩
            intro p9 n9
            generalize eH9 : upd Ha p9 _ = H9
            have s9 : Same Ha H9 := by rw [← eH9]; exact same_new n9
            have h9 := (congrFun eH9 p9).symm.trans upd_same
            clear eH9
            exact ⟨s'.trans (sT.trans s9), sH.free n9, h9⟩
          · rw [if_neg c, if_neg c]
            exact ⟨s'.trans sT, np, hp2'⟩
    · rintro σ H' ⟨p, v4, v5, rfl, s', np, hp⟩
      exact ⟨_, rfl, q2 (by omega) _ p H' (KT.lag_far (M := M + 1) (E := max X1 X2) f1 f2 f6 f4 g1 g2 g6 g4 (by omega) (by rw [e1]; exact Nat.le_max_left _ _) (by rw [e2]; exact Nat.le_max_right _ _) (by omega)) np (sa.trans (sb.trans s')) (by rw [tabO_len] at hp; exact hp)⟩

end
end Kx

-- SXEXT: rMaxH, rSetLi, rSortedSet, iAnyS, rMinT, rLotEq, rLotStr, rGcd, rLcm, tRevT, rLtU, rIsiI, RZ.iZipA, iEnz, tDNewK, tDGet, sDPut
namespace Kx
open PySem L2 MG KM
section
variable {P : Program} {w : World} {K : PySem.W.Frag} {mg : Str → Option Value} {base : Heap} {f : Addr} {fd : FuncData} {C : Addr}
abbrev s_l_common : Stmt := top 29
abbrev N_l_common : List Str := ["_law_one", "_law_two", "_law_by"]
theorem sc_l_common : FnScope N_l_common ["_law_one", "_law_two"] (defScope s_l_common) := ⟨rfl, rfl, rfl, by decide +kernel, rfl, by decide +kernel, by decide +kernel⟩
theorem ok_l_common (F : FnP K "_law_common" "_law_common" s_l_common f fd) (B : Bi mg) :
    FnOk P w K mg base CX0 1 f fd ["_law_one", "_law_two"] sp_l_common := by
  refine okF F sc_l_common (fun vs H Q E h => by repeat (first | (obtain ⟨rfl, _⟩ := h; rfl) | obtain ⟨_, h⟩ := h)) (fun cdv A outer s H vs Q E hr h => ?_)
  obtain ⟨a, b, rfl, ha, ha1, hb, hb1, q⟩ := h
  refine ⟨_, (pss_one (ps_ret (pe_ix ix_H (pe_lc (own := [("_law_by", 2)]) (g := gName 2) (tt := tTest (tOp rEq (tOp _ (tCB rIntI (tCons (tOp _ (tVar 0) (tVar 2)) tNil)) (tVar 1)) (tC (.int 0))))  (by rfl) sc_l_common.nd (pi_range2 (by rfl) B.b_range (pa_cons pe_int (pa_cons (pe_op op_add (pv 1) pe_int) pa_nil))) (blkOk_by (own := [("_law_by", 2)]) (N := N_l_common) (sc := defScope s_l_common) (by decide +kernel)) (fun _ _ _ _ _ => pg_name (i := 2) sc_l_common.nd rfl (Or.inl rfl)) (fun _ _ _ _ _ => (pts_one (pt_cmpR op_eq (pe_op op_mod (pe_callTy int_I (by rfl) B.b_int (by decide +kernel) (pa_cons (pe_op op_mul (pv 0) (pv 2)) pa_nil)) (pv 1)) pe_int (nomark _)))) (fun _ _ _ _ _ => (pe_op op_mul (pv 0) (pv 2)))) pe_int (fun _ _ => rfl)))), ?_⟩
  simp [tRet, tRetN, tSeq, tNext, tNever, tDrop, tIfS, tAsg, tPar, tAug, tAugS, gName, gNil, gCons, gTup, gSub, tAndV, tOrV, tNotV, tAnd, tOr, tNot, tB, tTest, tYes, tIf, tCall, tCallK, tCallN, tMake, tProp, tMeth, getSp, tCB, tCons, tNil, tVar, tC, tOp, tUn, tChain, tLst, tTup, tFld, sFld, tBM, tBM0, tSl, tPart, tNoPart, rI0, rI, rU, rEq, rNe, rIsi, tCut, tCutR, tCutS, rIntI, tSlH, tSlS, rSumH, rTupH, rSortH, tLstRg, tRg1, tRg2, rIxH, rIxHT, rLenH, rLenHT, rIxL, rIxT, rIx, rCat, rRep, rSetL, rAppend, rSum, rMax, rMin, rEqD, rNeD, rSlL, rPopAt, rSorted, rAll, rAny, rReprS, rNext, tCutT, rCatHT, rCatA, rSlA, RT.iRevA, scal, L2.start, List.replicate, and_assoc, CDiv, CMul, CPow, ipI, rMaxH, rSetLi, rSortedSet, iAnyS, rMinT, rLotEq, rLotStr, rGcd, rLcm, tRevT, rLtU, rIsiI, RZ.iZipA, iEnz, tDNewK, tDGet, sDPut]
  refine ⟨_, rfl, _, _, rfl, rfl, 1, (b : Int) + 1, rfl, ⟨by omega, by omega, by omega, by omega⟩, fun D nD => lc_range (lo := 1) (n := ((b : Int) + 1 - 1).toNat) (fun i H' => Same H H' ∧ H' D = some (.lst (((List.range i).filter fun j => (a * (j + 1)) % b = 0).map fun j => V.int ((a * (j + 1) : Nat) : Int)))) ⟨same_new nD, upd_same⟩ ?_ ?_⟩
  · rintro i H' hi ⟨s', hD⟩
    simp [tRet, tRetN, tSeq, tNext, tNever, tDrop, tIfS, tAsg, tPar, tAug, tAugS, gName, gNil, gCons, gTup, gSub, tAndV, tOrV, tNotV, tAnd, tOr, tNot, tB, tTest, tYes, tIf, tCall, tCallK, tCallN, tMake, tProp, tMeth, getSp, tCB, tCons, tNil, tVar, tC, tOp, tUn, tChain, tLst, tTup, tFld, sFld, tBM, tBM0, tSl, tPart, tNoPart, rI0, rI, rU, rEq, rNe, rIsi, tCut, tCutR, tCutS, rIntI, tSlH, tSlS, rSumH, rTupH, rSortH, tLstRg, tRg1, tRg2, rIxH, rIxHT, rLenH, rLenHT, rIxL, rIxT, rIx, rCat, rRep, rSetL, rAppend, rSum, rMax, rMin, rEqD, rNeD, rSlL, rPopAt, rSorted, rAll, rAny, rReprS, rNext, tCutT, rCatHT, rCatA, rSlA, RT.iRevA, scal, L2.start, List.replicate, and_assoc, CDiv, CMul, CPow, ipI, rMaxH, rSetLi, rSortedSet, iAnyS, rMinT, rLotEq, rLotStr, rGcd, rLcm, tRevT, rLtU, rIsiI, RZ.iZipA, iEnz, tDNewK, tDGet, sDPut, wipe]
    have e1 : (a : Int) * (1 + (i : Int)) % (b : Int) = ((a * (i + 1) % b : Nat) : Int) := by
      rw [show (1 + (i : Int)) = ((i + 1 : Nat) : Int) by omega, ← Int.natCast_mul]
      rfl
    have e2 : (a : Int) * (1 + (i : Int)) = ((a * (i + 1) : Nat) : Int) := by
      rw [show (1 + (i : Int)) = ((i + 1 : Nat) : Int) by omega, ← Int.natCast_mul]
    refine ⟨.inl ⟨by omega, by omega⟩, by omega, ?_⟩
    rw [e1, e2, List.range_succ, List.filter_append, List.map_append]
    by_cases c : a * (i + 1) % b = 0
    · rw [if_pos (by omega)]
      refine ⟨.inl ⟨by omega, by omega⟩, _, hD, Nat.lt_of_le_of_lt (show _ ≤ 100 by
        rw [List.length_map]
        have := List.length_filter_le (fun j => decide (a * (j + 1) % b = 0)) (List.range i)
        rw [List.length_range] at this
        omega) (by decide), Same.updN s' nD, ?_⟩
      rw [upd_same, List.filter_cons_of_pos (by simpa using c)]
      rfl
    · rw [if_neg (by omega), List.filter_cons_of_neg (by simpa using c)]
      exact ⟨s', by simpa using hD⟩
  · rintro H' ⟨s', hD⟩
    refine ⟨D, rfl, _, hD, _, common_first ha hb _ (by omega), q H' s'⟩

end
end Kx

-- SXEXT: rMaxH, rSetLi, rSortedSet, iAnyS, rMinT, rLotEq, rLotStr, rGcd, rLcm, tRevT, rLtU, rIsiI, RZ.iZipA, iEnz, tDNewK, tDGet, sDPut
namespace Kx
open PySem L2 MG KM
section
variable {P : Program} {w : World} {K : PySem.W.Frag} {mg : Str → Option Value} {base : Heap} {f : Addr} {fd : FuncData} {C : Addr}
abbrev s_l_due : Stmt := top 30
abbrev N_l_due : List Str := ["_law_coins_here", "_law_other", "_law_far", "_law_best", "_law_total", "_law_pair"]
theorem sc_l_due : FnScope N_l_due ["_law_coins_here", "_law_other", "_law_far"] (defScope s_l_due) := ⟨rfl, rfl, rfl, by decide +kernel, rfl, by decide +kernel, by decide +kernel⟩
theorem ok_l_due (F : FnP K "_law_due" "_law_due" s_l_due f fd) (B : Bi mg) (C_l_tables : Cal P w K mg base 1 "_law_tables" ["_law_coins_here", "_law_top"] sp_l_tables) :
    FnOk P w K mg base CX0 2 f fd ["_law_coins_here", "_law_other", "_law_far"] sp_l_due := by
  refine okF F sc_l_due (fun vs H Q E h => by repeat (first | (obtain ⟨rfl, _⟩ := h; rfl) | obtain ⟨_, h⟩ := h)) (fun cdv A outer s H vs Q E hr h => ?_)
  obtain ⟨t1, t2, cs, ds, m, rfl, ht1, ht2, hc, hd, hm, q⟩ := h
  refine ⟨_, (pss_cons (ps_set (i := 3) sc_l_due.nd rfl (Or.inl rfl) (pe_tup (pa_cons pe_int (pa_cons pe_int pa_nil))))
    (pss_cons (ps_for PassesOwn.never rfl (pi_enz (by rfl) B.b_enumerate (by rfl) B.b_zip (pa_cons (pe_ix ix_HT (pe_cal C_l_tables hr (pa_cons (pv 0) (pa_cons (pv 2) pa_nil))) pe_int (fun _ _ => rfl)) (pa_cons (pe_ix ix_HT (pe_cal C_l_tables hr (pa_cons (pv 1) (pa_cons (pv 2) pa_nil))) pe_int (fun _ _ => rfl)) pa_nil))) (pg_tup (by rfl) (pgs_cons (pg_name (i := 4) sc_l_due.nd rfl (Or.inl rfl)) (pgs_cons (pg_name (i := 5) sc_l_due.nd rfl (Or.inl rfl)) pgs_nil)))
      (pss_one (ps_if (PW.pt (pw_and (pt_cmpR op_notN (pe_ix ix_HT (pv 5) pe_int (fun _ _ => rfl)) pe_non (nomark _)) (pw_and (pt_cmpR op_notN (pe_ix ix_HT (pv 5) pe_int (fun _ _ => rfl)) pe_non (nomark _)) (pw_and1 (pt_cmpR op_gt (pe_op op_sub (pe_ix ix_HT (pv 5) pe_int (fun _ _ => rfl)) (pe_ix ix_HT (pv 5) pe_int (fun _ _ => rfl))) (pe_ix ix_HT (pv 3) pe_int (fun _ _ => rfl)) (nomark _))))))
        (pss_one (ps_set (i := 3) sc_l_due.nd rfl (Or.inl rfl) (pe_tup (pa_cons (pe_op op_sub (pe_ix ix_HT (pv 5) pe_int (fun _ _ => rfl)) (pe_ix ix_HT (pv 5) pe_int (fun _ _ => rfl))) (pa_cons (pv 4) pa_nil)))))
        pss_nil)))
    (pss_one (ps_ret (pv 3))))), ?_⟩
  simp [tRet, tRetN, tSeq, tNext, tNever, tDrop, tIfS, tAsg, tPar, tAug, tAugS, gName, gNil, gCons, gTup, gSub, tAndV, tOrV, tNotV, tAnd, tOr, tNot, tB, tTest, tYes, tIf, tCall, tCallK, tCallN, tMake, tProp, tMeth, getSp, tCB, tCons, tNil, tVar, tC, tOp, tUn, tChain, tLst, tTup, tFld, sFld, tBM, tBM0, tSl, tPart, tNoPart, rI0, rI, rU, rEq, rNe, rIsi, tCut, tCutR, tCutS, rIntI, tSlH, tSlS, rSumH, rTupH, rSortH, tLstRg, tRg1, tRg2, rIxH, rIxHT, rLenH, rLenHT, rIxL, rIxT, rIx, rCat, rRep, rSetL, rAppend, rSum, rMax, rMin, rEqD, rNeD, rSlL, rPopAt, rSorted, rAll, rAny, rReprS, rNext, tCutT, rCatHT, rCatA, rSlA, RT.iRevA, scal, L2.start, List.replicate, and_assoc, CDiv, CMul, CPow, ipI, rMaxH, rSetLi, rSortedSet, iAnyS, rMinT, rLotEq, rLotStr, rGcd, rLcm, tRevT, rLtU, rIsiI, RZ.iZipA, iEnz, tDNewK, tDGet, sDPut]
  refine ⟨by decide, ?_⟩
  intro p0 n0
  generalize eH0 : upd H p0 _ = H0
  have s0 : Same H H0 := by rw [← eH0]; exact same_new n0
  have h0 := (congrFun eH0 p0).symm.trans upd_same
  clear eH0
  refine ⟨_, rfl, _, rfl, t1, cs, m, rfl, s0 _ _ ht1, hc, hm, fun qa pa pa2 Ha nqa npa npa2 sa hqa hpa _ => ?_⟩
  refine ⟨qa, _, _, _, rfl, rfl, hqa, rfl, _, rfl, _, rfl, t2, ds, m, rfl, sa _ _ (s0 _ _ ht2), hd, hm, fun qb pb pb2 Hb nqb npb npb2 sb hqb hpb _ => ?_⟩
  refine ⟨qb, _, _, _, rfl, rfl, hqb, rfl, pa, pb, _, _, rfl, sqL (sb _ _ hpa), sqL hpb, ?_⟩
  refine for_it (walk_enz (xs := tabO (m + 1) (KT.few (natL cs))) (ys := tabO (m + 1) (KT.few (natL ds))) (n := m + 1) (by rw [tabO_len, tabO_len]; omega)) (fun i σ H' => ∃ (p : Addr) (v4 v5 : Option V), σ = [some (.ref t1), some (.ref t2), some (.int m), some (.ref p), v4, v5] ∧ Same Hb H' ∧ H p = none ∧ H' p = some (.tup [.int (KT.lagUp (KT.few (natL cs)) (KT.few (natL ds)) i).1, .int ((KT.lagUp (KT.few (natL cs)) (KT.few (natL ds)) i).2 : Nat)])) ?_ ?_ ?_ ?_
  · exact ⟨p0, none, none, rfl, Same.refl _, n0, sb _ _ (sa _ _ h0)⟩
  · rintro i σ H' hi ⟨p, v4, v5, rfl, s', np, hp⟩
    exact ⟨sqL (s' _ _ (sb _ _ hpa)), sqL (s' _ _ hpb)⟩
  · rintro i x σ H' H'' hi ⟨p, v4, v5, rfl, s', np, hp⟩ ⟨T, T2, x1, y1, rfl, nT, nT2, neT, rfl, hx, hy⟩
    rw [tabO_at (by omega)] at hx hy
    cases hx
    cases hy
    refine ⟨T2, _, rfl, sqT upd_same, rfl, ?_⟩
    have sT : Same H' (upd (upd H' T (.tup [optV (KT.few (natL cs) i), optV (KT.few (natL ds) i)])) T2 (.tup [.int (i : Nat), .ref T])) := (same_new nT).trans (same_new (by rw [upd_ne neT.symm]; exact nT2))
    have hT : upd (upd H' T (.tup [optV (KT.few (natL cs) i), optV (KT.few (natL ds) i)])) T2 (.tup [.int (i : Nat), .ref T]) T = some (.tup [optV (KT.few (natL cs) i), optV (KT.few (natL ds) i)]) := by rw [upd_ne neT, upd_same]
    generalize upd (upd H' T (.tup [optV (KT.few (natL cs) i), optV (KT.few (natL ds) i)])) T2 (.tup [.int (i : Nat), .ref T]) = Ha at sT hT ⊢
    simp [tRet, tRetN, tSeq, tNext, tNever, tDrop, tIfS, tAsg, tPar, tAug, tAugS, gName, gNil, gCons, gTup, gSub, tAndV, tOrV, tNotV, tAnd, tOr, tNot, tB, tTest, tYes, tIf, tCall, tCallK, tCallN, tMake, tProp, tMeth, getSp, tCB, tCons, tNil, tVar, tC, tOp, tUn, tChain, tLst, tTup, tFld, sFld, tBM, tBM0, tSl, tPart, tNoPart, rI0, rI, rU, rEq, rNe, rIsi, tCut, tCutR, tCutS, rIntI, tSlH, tSlS, rSumH, rTupH, rSortH, tLstRg, tRg1, tRg2, rIxH, rIxHT, rLenH, rLenHT, rIxL, rIxT, rIx, rCat, rRep, rSetL, rAppend, rSum, rMax, rMin, rEqD, rNeD, rSlL, rPopAt, rSorted, rAll, rAny, rReprS, rNext, tCutT, rCatHT, rCatA, rSlA, RT.iRevA, scal, L2.start, List.replicate, and_assoc, CDiv, CMul, CPow, ipI, rMaxH, rSetLi, rSortedSet, iAnyS, rMinT, rLotEq, rLotStr, rGcd, rLcm, tRevT, rLtU, rIsiI, RZ.iZipA, iEnz, tDNewK, tDGet, sDPut, hT]
    have sH : Same H Ha := s0.trans (sa.trans (sb.trans (s'.trans sT)))
    cases ea : KT.few (natL cs) i with
    | none =>
      refine ⟨_, rfl, .inl ⟨rfl, s'.trans sT, np, ?_⟩⟩
      rw [KT.lagUp_none (.inl ea)]
      exact sT _ _ hp
    | some u =>
      cases eb : KT.few (natL ds) i with
      | none =>
        refine ⟨_, rfl, .inr ⟨nofun, _, rfl, .inl ⟨rfl, s'.trans sT, np, ?_⟩⟩⟩
        rw [KT.lagUp_none (.inr eb)]
        exact sT _ _ hp
      | some v =>
        refine ⟨_, rfl, .inr ⟨nofun, _, rfl, .inr ⟨nofun, _, rfl, _, rfl, _, rfl, _, rfl, _, sT _ _ hp, _, rfl, _, rfl, ?_⟩⟩⟩
        rw [KT.lagUp_some ea eb]
        by_cases c : (KT.lagUp (KT.few (natL cs)) (KT.few (natL ds)) i).1 < (u : Int) - (v : Int)
        · rw [if_pos c, if_pos c]
          refine ⟨_, rfl, _, rfl, _, rfl, _, rfl, by decide, ?_⟩
          intro p9 n9
          generalize eH9 : upd Ha p9 _ = H9
          have s9 : Same Ha H9 := by rw [← eH9]; exact same_new n9
          have h9 := (congrFun eH9 p9).symm.trans upd_same
          clear eH9
          exact ⟨s'.trans (sT.trans s9), sH.free n9, h9⟩
        · rw [if_neg c, if_neg c]
          exact ⟨s'.trans sT, np, sT _ _ hp⟩
  · rintro σ H' ⟨p, v4, v5, rfl, s', np, hp⟩
    exact ⟨_, rfl, q p H' np (s0.trans (sa.trans (sb.trans s'))) hp⟩

end
end Kx

-- SXEXT: rMaxH, rSetLi, rSortedSet, iAnyS, rMinT, rLotEq, rLotStr, rGcd, rLcm, tRevT, rLtU, rIsiI, RZ.iZipA, iEnz, tDNewK, tDGet, sDPut
namespace Kx
open PySem L2 MG KM
section
variable {P : Program} {w : World} {K : PySem.W.Frag} {mg : Str → Option Value} {base : Heap} {f : Addr} {fd : FuncData} {C : Addr}
abbrev s_l_grows : Stmt := top 31
abbrev N_l_grows : List Str := ["_law_coins_here", "_law_other", "_law_step", "_law_few", "_law_less", "_law_found", "_law_by"]
theorem sc_l_grows : FnScope N_l_grows ["_law_coins_here", "_law_other"] (defScope s_l_grows) := ⟨rfl, rfl, rfl, by decide +kernel, rfl, by decide +kernel, by decide +kernel⟩
theorem ok_l_grows (F : FnP K "_law_grows" "_law_grows" s_l_grows f fd) (C_l_common : Cal P w K mg base 1 "_law_common" ["_law_one", "_law_two"] sp_l_common) (C_l_tables : Cal P w K mg base 1 "_law_tables" ["_law_coins_here", "_law_top"] sp_l_tables) (B : Bi mg) :
    FnOk P w K mg base CX0 2 f fd ["_law_coins_here", "_law_other"] sp_l_grows := by
  refine okF F sc_l_grows (fun vs H Q E h => by repeat (first | (obtain ⟨rfl, _⟩ := h; rfl) | obtain ⟨_, h⟩ := h)) (fun cdv A outer s H vs Q E hr h => ?_)
  obtain ⟨t1, t2, cs, ds, G, G2, rfl, ht1, ht2, hc, hd, hG, hG2, hlt, hle, q⟩ := h
  have hla : atI (cs.map V.int) (-1) = some (.int G) := atI_last (by rw [List.length_map]; exact mapI_at hG)
  have hla2 : atI (ds.map V.int) (-1) = some (.int G2) := atI_last (by rw [List.length_map]; exact mapI_at hG2)
  obtain ⟨Cc, hC⟩ := ahC_ex hc
  obtain ⟨Cd, hCd⟩ := ahC_ex hd
  obtain ⟨La, hL1⟩ := first_ex hc
  obtain ⟨Lb, hL2'⟩ := first_ex hd
  obtain ⟨f1, f2, f3, f4, f5, f6, f7, f8, f9⟩ := cost_facts hc hL1 hG hC
  obtain ⟨g1, g2, g3, g4, g5, g6, g7, g8, g9⟩ := cost_facts hd hL2' hG2 hCd
  have hPl : Nat.lcm G G2 ≤ 30 * 30 := Nat.le_trans (Nat.lcm_le_mul (by omega) (by omega)) (Nat.mul_le_mul (by omega) hle)
  obtain ⟨u, hu⟩ := Nat.dvd_lcm_left G G2
  obtain ⟨v, hv⟩ := Nat.dvd_lcm_right G G2
  have P0 : 0 < Nat.lcm G G2 := Nat.lcm_pos (by omega) (by omega)
  have huv : v < u := by
    rcases Nat.lt_or_ge v u with q | q
    · exact q
    · exfalso
      have v0 : 0 < v := by
        rcases Nat.eq_zero_or_pos v with e | e
        · rw [e, Nat.mul_zero] at hv; omega
        · exact e
      have h1 : G * u ≤ G * v := Nat.mul_le_mul_left _ q
      have h2 : G * v < G2 * v := Nat.mul_lt_mul_of_pos_right hlt v0
      omega
  have few1 : ∀ k, KT.few (natL cs) (Nat.lcm G G2 * k) = some (u * k) := fun k => by rw [hu, Nat.mul_assoc]; exact KT.few_times f1 f2 f4 (u * k)
  have few2 : ∀ k, KT.few (natL ds) (Nat.lcm G G2 * k) = some (v * k) := fun k => by rw [hv, Nat.mul_assoc]; exact KT.few_times g1 g2 g4 (v * k)
  clear hu hv
  obtain ⟨P, hP⟩ : ∃ P, Nat.lcm G G2 = P := ⟨_, rfl⟩
  rw [hP] at hPl P0
  simp only [hP] at few1 few2
  refine ⟨_, (pss_cons (ps_set (i := 2) sc_l_grows.nd rfl (Or.inr rfl) (pe_cal C_l_common hr (pa_cons (pe_ix ix_HT (pv 0) (pe_un un_neg pe_int) (fun _ _ => rfl)) (pa_cons (pe_ix ix_HT (pv 1) (pe_un un_neg pe_int) (fun _ _ => rfl)) pa_nil))))
    (pss_cons (ps_asg (pe_tup (pa_cons (pe_ix ix_HT (pe_cal C_l_tables hr (pa_cons (pv 0) (pa_cons (pe_op op_mul pe_int (pv 2)) pa_nil))) pe_int (fun _ _ => rfl)) (pa_cons (pe_ix ix_HT (pe_cal C_l_tables hr (pa_cons (pv 1) (pa_cons (pe_op op_mul pe_int (pv 2)) pa_nil))) pe_int (fun _ _ => rfl)) pa_nil))) (pg_tup (by rfl) (pgs_cons (pg_name (i := 3) sc_l_grows.nd rfl (Or.inr rfl)) (pgs_cons (pg_name (i := 4) sc_l_grows.nd rfl (Or.inr rfl)) pgs_nil))))
    (pss_cons (ps_set (i := 5) sc_l_grows.nd rfl (Or.inr rfl) (pe_lc (own := [("_law_by", 6)]) (g := gName 6) (tt := tYes)  (by rfl) sc_l_grows.nd (pi_range1 (by rfl) B.b_range (pa_cons pe_int pa_nil)) (blkOk_by (own := [("_law_by", 6)]) (N := N_l_grows) (sc := defScope s_l_grows) (by decide +kernel)) (fun _ _ _ _ _ => pg_name (i := 6) sc_l_grows.nd rfl (Or.inl rfl)) (fun _ _ _ _ _ => pts_nil) (fun _ _ _ _ _ => (pe_op op_sub (pe_ix ix_H (pv 3) (pe_op op_mul (pv 2) (pv 6)) (fun _ _ => rfl)) (pe_ix ix_H (pv 4) (pe_op op_mul (pv 2) (pv 6)) (fun _ _ => rfl))))))
    (pss_one (ps_ret (pe_callB (cr_all rfl) (by rfl) B.b_all (by decide +kernel) (pa_cons (pe_lc (own := [("_law_by", 6)]) (g := gName 6) (tt := tYes)  (by rfl) sc_l_grows.nd (pi_range1 (by rfl) B.b_range (pa_cons pe_int pa_nil)) (blkOk_by (own := [("_law_by", 6)]) (N := N_l_grows) (sc := defScope s_l_grows) (by decide +kernel)) (fun _ _ _ _ _ => pg_name (i := 6) sc_l_grows.nd rfl (Or.inl rfl)) (fun _ _ _ _ _ => pts_nil) (fun _ _ _ _ _ => (pe_cmpR op_lt (pe_ix ix_H (pv 5) (pv 6) (fun _ _ => rfl)) (pe_ix ix_H (pv 5) (pe_op op_add (pv 6) pe_int) (fun _ _ => rfl)) (nomark _)))) pa_nil))))))), ?_⟩
  simp [tRet, tRetN, tSeq, tNext, tNever, tDrop, tIfS, tAsg, tPar, tAug, tAugS, gName, gNil, gCons, gTup, gSub, tAndV, tOrV, tNotV, tAnd, tOr, tNot, tB, tTest, tYes, tIf, tCall, tCallK, tCallN, tMake, tProp, tMeth, getSp, tCB, tCons, tNil, tVar, tC, tOp, tUn, tChain, tLst, tTup, tFld, sFld, tBM, tBM0, tSl, tPart, tNoPart, rI0, rI, rU, rEq, rNe, rIsi, tCut, tCutR, tCutS, rIntI, tSlH, tSlS, rSumH, rTupH, rSortH, tLstRg, tRg1, tRg2, rIxH, rIxHT, rLenH, rLenHT, rIxL, rIxT, rIx, rCat, rRep, rSetL, rAppend, rSum, rMax, rMin, rEqD, rNeD, rSlL, rPopAt, rSorted, rAll, rAny, rReprS, rNext, tCutT, rCatHT, rCatA, rSlA, RT.iRevA, scal, L2.start, List.replicate, and_assoc, CDiv, CMul, CPow, ipI, rMaxH, rSetLi, rSortedSet, iAnyS, rMinT, rLotEq, rLotStr, rGcd, rLcm, tRevT, rLtU, rIsiI, RZ.iZipA, iEnz, tDNewK, tDGet, sDPut]
  refine ⟨_, ht1, _, hla, _, ht2, _, hla2, G, G2, rfl, by omega, by omega, by omega, by omega, fun H1 s1 => ?_⟩
  rw [hP]
  refine ⟨P, rfl, t1, cs, 3 * P, rfl, s1 _ _ ht1, hc, by omega, fun qa pa pa2 Ha nqa npa npa2 sa hqa hpa _ => ?_⟩
  refine ⟨qa, rfl, _, hqa, _, rfl, P, rfl, t2, ds, 3 * P, rfl, sa _ _ (s1 _ _ ht2), hd, by omega, fun qb pb pb2 Hb nqb npb npb2 sb hqb hpb _ => ?_⟩
  refine ⟨qb, rfl, _, hqb, _, rfl, by decide, ?_⟩
  intro p4 n4
  generalize eH4 : upd Hb p4 _ = H4
  have s4 : Same Hb H4 := by rw [← eH4]; exact same_new n4
  have h4 := (congrFun eH4 p4).symm.trans upd_same
  clear eH4
  refine ⟨_, sqT h4, rfl, _, _, rfl, _, _, rfl, rfl, ?_⟩
  have hpa4 := s4 _ _ (sb _ _ hpa)
  have hpb4 := s4 _ _ hpb
  have st : Same H H4 := s1.trans (sa.trans (sb.trans s4))
  refine ⟨(4 : Int), rfl, by omega, by omega, fun D nD => lc_range (lo := 0) (n := 4) (fun i H' => Same H4 H' ∧ H' D = some (.lst ((List.range i).map fun j => V.int ((u * j : Nat) - (v * j : Nat) : Int)))) ⟨same_new nD, upd_same⟩ ?_ ?_⟩
  · rintro i H' hi ⟨s', hD⟩
    simp [tRet, tRetN, tSeq, tNext, tNever, tDrop, tIfS, tAsg, tPar, tAug, tAugS, gName, gNil, gCons, gTup, gSub, tAndV, tOrV, tNotV, tAnd, tOr, tNot, tB, tTest, tYes, tIf, tCall, tCallK, tCallN, tMake, tProp, tMeth, getSp, tCB, tCons, tNil, tVar, tC, tOp, tUn, tChain, tLst, tTup, tFld, sFld, tBM, tBM0, tSl, tPart, tNoPart, rI0, rI, rU, rEq, rNe, rIsi, tCut, tCutR, tCutS, rIntI, tSlH, tSlS, rSumH, rTupH, rSortH, tLstRg, tRg1, tRg2, rIxH, rIxHT, rLenH, rLenHT, rIxL, rIxT, rIx, rCat, rRep, rSetL, rAppend, rSum, rMax, rMin, rEqD, rNeD, rSlL, rPopAt, rSorted, rAll, rAny, rReprS, rNext, tCutT, rCatHT, rCatA, rSlA, RT.iRevA, scal, L2.start, List.replicate, and_assoc, CDiv, CMul, CPow, ipI, rMaxH, rSetLi, rSortedSet, iAnyS, rMinT, rLotEq, rLotStr, rGcd, rLcm, tRevT, rLtU, rIsiI, RZ.iZipA, iEnz, tDNewK, tDGet, sDPut, wipe]
    have hPi : P * i ≤ P * 3 := Nat.mul_le_mul_left _ (by omega)
    have hA1 : atI (tabO (3 * P + 1) (KT.few (natL cs))) ((P : Int) * (i : Int)) = some (.int ((u * i : Nat) : Int)) := by
      have h := atI_of (xs := tabO (3 * P + 1) (KT.few (natL cs))) (i := P * i) rfl (tabO_at (by omega))
      rw [few1, Int.natCast_mul] at h
      exact h
    have hA2 : atI (tabO (3 * P + 1) (KT.few (natL ds))) ((P : Int) * (i : Int)) = some (.int ((v * i : Nat) : Int)) := by
      have h := atI_of (xs := tabO (3 * P + 1) (KT.few (natL ds))) (i := P * i) rfl (tabO_at (by omega))
      rw [few2, Int.natCast_mul] at h
      exact h
    refine ⟨.inl ⟨by omega, by omega⟩, _, s' _ _ hpa4, _, hA1, .inl ⟨by omega, by omega⟩, _, s' _ _ hpb4, _, hA2, _, rfl, _, rfl, _, hD, Nat.lt_of_le_of_lt (show _ ≤ 100 by simp; omega) (by decide), Same.updN s' nD, ?_⟩
    rw [upd_same, List.range_succ, List.map_append, Int.natCast_mul, Int.natCast_mul]
    rfl
  · rintro H' ⟨s', hD⟩
    refine ⟨(3 : Int), rfl, by omega, by omega, fun D2 nD2 => lc_range (lo := 0) (n := 3) (fun i H'' => Same H' H'' ∧ H'' D2 = some (.lst ((List.replicate i true).map V.bl))) ⟨same_new nD2, upd_same⟩ ?_ ?_⟩
    · rintro i H'' hi ⟨s'', hD2⟩
      have hDD := s'' _ _ hD
      simp [tRet, tRetN, tSeq, tNext, tNever, tDrop, tIfS, tAsg, tPar, tAug, tAugS, gName, gNil, gCons, gTup, gSub, tAndV, tOrV, tNotV, tAnd, tOr, tNot, tB, tTest, tYes, tIf, tCall, tCallK, tCallN, tMake, tProp, tMeth, getSp, tCB, tCons, tNil, tVar, tC, tOp, tUn, tChain, tLst, tTup, tFld, sFld, tBM, tBM0, tSl, tPart, tNoPart, rI0, rI, rU, rEq, rNe, rIsi, tCut, tCutR, tCutS, rIntI, tSlH, tSlS, rSumH, rTupH, rSortH, tLstRg, tRg1, tRg2, rIxH, rIxHT, rLenH, rLenHT, rIxL, rIxT, rIx, rCat, rRep, rSetL, rAppend, rSum, rMax, rMin, rEqD, rNeD, rSlL, rPopAt, rSorted, rAll, rAny, rReprS, rNext, tCutT, rCatHT, rCatA, rSlA, RT.iRevA, scal, L2.start, List.replicate, and_assoc, CDiv, CMul, CPow, ipI, rMaxH, rSetLi, rSortedSet, iAnyS, rMinT, rLotEq, rLotStr, rGcd, rLcm, tRevT, rLtU, rIsiI, RZ.iZipA, iEnz, tDNewK, tDGet, sDPut, wipe]
      have hB : ∀ j : Nat, j < 4 → atI ((List.range 4).map fun (j : Nat) => V.int ((u : Int) * (j : Int) - (v : Int) * (j : Int))) (j : Int) = some (.int ((u : Int) * (j : Int) - (v : Int) * (j : Int))) := fun j hj => by
        refine atI_of (i := j) rfl ?_
        rw [List.getElem?_map, List.getElem?_range hj]
        rfl
      have hB2 := hB (i + 1) (by omega)
      rw [show (((i + 1 : Nat)) : Int) = (i : Int) + 1 by omega] at hB2
      refine ⟨_, hDD, _, hB i (by omega), _, hDD, _, hB2, _, rfl, _, rfl, _, hD2, Nat.lt_of_le_of_lt (show _ ≤ 100 by simp; omega) (by decide), Same.updN s'' nD2, ?_⟩
      have key : (u : Int) * (i : Int) - (v : Int) * (i : Int) < (u : Int) * ((i : Int) + 1) - (v : Int) * ((i : Int) + 1) := by
        rw [Int.mul_add, Int.mul_add, Int.mul_one, Int.mul_one]
        omega
      rw [upd_same, decide_eq_true key]
      simp [← List.replicate_succ, List.replicate_succ']
    · rintro H'' ⟨s'', hD2⟩
      exact ⟨D2, rfl, List.replicate 3 true, sqL hD2, q _ (st.trans (s'.trans s''))⟩

end
end Kx

-- SXEXT: rMaxH, rSetLi, rSortedSet, iAnyS, rMinT, rLotEq, rLotStr, rGcd, rLcm, tRevT, rLtU, rIsiI, RZ.iZipA, iEnz, tDNewK, tDGet, sDPut
namespace Kx
open PySem L2 MG KM
section
variable {P : Program} {w : World} {K : PySem.W.Frag} {mg : Str → Option Value} {base : Heap} {f : Addr} {fd : FuncData} {C : Addr}
abbrev s_l_lag_right : Stmt := top 32
abbrev N_l_lag_right : List Str := ["_law_coins_here", "_law_other", "_law_told", "_law_edge", "_law_due_here", "_law_each"]
theorem sc_l_lag_right : FnScope N_l_lag_right ["_law_coins_here", "_law_other"] (defScope s_l_lag_right) := ⟨rfl, rfl, rfl, by decide +kernel, rfl, by decide +kernel, by decide +kernel⟩
theorem ok_l_lag_right (F : FnP K "_law_lag_right" "_law_lag_right" s_l_lag_right f fd) (K_lag_other_one : CalK P w K mg base 3 "lag" ["one", "other"] (sp_lag C) 0 ["other", "one"] (fun _ zs => gP [1, 0] zs)) (TC : Tc K mg C) (ML : MkL P w K mg base C) (C_lag : Cal P w K mg base 3 "lag" ["one", "other"] (sp_lag C)) (C_l_grows : Cal P w K mg base 2 "_law_grows" ["_law_coins_here", "_law_other"] sp_l_grows) (B : Bi mg) (C_l_due : Cal P w K mg base 2 "_law_due" ["_law_coins_here", "_law_other", "_law_far"] sp_l_due) (C_l_common : Cal P w K mg base 1 "_law_common" ["_law_one", "_law_two"] sp_l_common) :
    GFn P w K mg base CX0 7 f fd ["_law_coins_here", "_law_other"] (sp_l_lag_right C) := by
  refine okFG F sc_l_lag_right (fun vs H Q E h => by repeat (first | (obtain ⟨rfl, _⟩ := h; rfl) | obtain ⟨_, h⟩ := h)) (fun cdv A outer s H vs Q E hr hgu h => ?_)
  obtain ⟨t1, t2, cs, ds, G, G2, rfl, ht1, ht2, hc, hd, hG, hG2, hG30, hG230, q⟩ := h
  have hla : atI (cs.map V.int) (-1) = some (.int G) := atI_last (by rw [List.length_map]; exact mapI_at hG)
  have hla2 : atI (ds.map V.int) (-1) = some (.int G2) := atI_last (by rw [List.length_map]; exact mapI_at hG2)
  obtain ⟨Cc, hC⟩ := ahC_ex hc
  obtain ⟨Cd, hCd⟩ := ahC_ex hd
  obtain ⟨La, hL1⟩ := first_ex hc
  obtain ⟨Lb, hL2'⟩ := first_ex hd
  obtain ⟨f1, f2, f3, f4, f5, f6, f7, f8, f9⟩ := cost_facts hc hL1 hG hC
  obtain ⟨g1, g2, g3, g4, g5, g6, g7, g8, g9⟩ := cost_facts hd hL2' hG2 hCd
  have fill : ∀ (H3 : Hp) (p1 p2 : Addr) (R : VK), LotAt C H3 p1 cs → LotAt C H3 p2 ds → (∀ (v : V) H4, Same H3 H4 → (G < G2 ∧ v = .non ∨ G2 ≤ G ∧ ∃ r p, KT.IsLag (KT.few (natL cs)) (KT.few (natL ds)) r ∧ v = .ref p ∧ H4 p = some (.tup [.int r.1, .int (r.2 : Nat)])) → R v H4) → sp_lag C [.ref p1, .ref p2] H3 R E0 := by
    intro H3 p1 p2 R a b k
    refine ⟨p1, p2, cs, ds, G, G2, rfl, a, b, hG, hG2, hG30, hG230, fun c => k _ _ (Same.refl _) (.inl ⟨c, rfl⟩), fun c r p H4 hr np s4 h4 => k _ _ s4 (.inr ⟨c, r, p, hr, rfl, h4⟩)⟩
  refine ⟨_, (pss_cons (ps_set (i := 2) sc_l_lag_right.nd rfl (Or.inl rfl) (pe_lst (pa_cons (pe_cal C_lag hr (pa_cons (pe_lot ML TC.gL hr (pa_cons (pv 0) pa_nil)) (pa_cons (pe_lot ML TC.gL hr (pa_cons (pv 1) pa_nil)) pa_nil))) (pa_cons (pe_calK0 K_lag_other_one hr (pk_cons (pe_lot ML TC.gL hr (pa_cons (pv 1) pa_nil)) (pk_cons (pe_lot ML TC.gL hr (pa_cons (pv 0) pa_nil)) pk_nil))) pa_nil))))
    (pss_cons (ps_if (pt_cmpR op_lt (pe_ix ix_HT (pv 0) (pe_un un_neg pe_int) (fun _ _ => rfl)) (pe_ix ix_HT (pv 1) (pe_un un_neg pe_int) (fun _ _ => rfl)) (nomark _))
      (pss_one (ps_ret (pe_and (pe_cmpR (op_eqD hr.units) (pv 2) (pe_lst (pa_cons pe_non (pa_cons pe_non pa_nil))) (nomark _)) (pe_one (pe_cal C_l_grows hr (pa_cons (pv 0) (pa_cons (pv 1) pa_nil)))))))
      pss_nil)
    (pss_cons (ps_set (i := 3) sc_l_lag_right.nd rfl (Or.inl rfl) (pe_callB (cr_max rfl) (by rfl) B.b_max (by decide +kernel) (pa_cons (pe_op op_cat (pe_lc (own := [("_law_each", 5)]) (g := gName 5) (tt := tTest (tOp (rI0 fun i j => V.bl (decide (j < i))) (tCB rLenHT (tCons (tVar 5) tNil)) (tC (.int 1))))  (by rfl) sc_l_lag_right.nd (pi_list (pe_lst (pa_cons (pv 0) (pa_cons (pv 1) pa_nil)))) (blkOk_by (own := [("_law_each", 5)]) (N := N_l_lag_right) (sc := defScope s_l_lag_right) (by decide +kernel)) (fun _ _ _ _ _ => pg_name (i := 5) sc_l_lag_right.nd rfl (Or.inl rfl)) (fun _ _ _ _ _ => (pts_one (pt_cmpR op_gt (pe_callB len_HT (by rfl) B.b_len (by decide +kernel) (pa_cons (pv 5) pa_nil)) pe_int (nomark _)))) (fun _ _ _ _ _ => (pe_op op_mul (pe_op op_sub (pe_ix ix_HT (pv 5) (pe_un un_neg pe_int) (fun _ _ => rfl)) pe_int) (pe_ix ix_HT (pv 5) (pe_un un_neg pe_int) (fun _ _ => rfl))))) (pe_lst (pa_cons pe_int pa_nil))) pa_nil)))
    (pss_cons (ps_set (i := 4) sc_l_lag_right.nd rfl (Or.inl rfl) (pe_cal C_l_due hr (pa_cons (pv 0) (pa_cons (pv 1) (pa_cons (pe_op op_add (pv 3) (pe_op op_mul pe_int (pe_cal C_l_common hr (pa_cons (pe_ix ix_HT (pv 0) (pe_un un_neg pe_int) (fun _ _ => rfl)) (pa_cons (pe_ix ix_HT (pv 1) (pe_un un_neg pe_int) (fun _ _ => rfl)) pa_nil))))) pa_nil)))))
    (pss_one (ps_ret (pe_cmpR op_eq (pe_callB (repr_S hgu hr) (by rfl) B.b_repr (by decide +kernel) (pa_cons (pv 2) pa_nil)) (pe_callB (repr_S hgu hr) (by rfl) B.b_repr (by decide +kernel) (pa_cons (pe_lst (pa_cons (pv 4) (pa_cons (pv 4) pa_nil))) pa_nil)) (nomark _)))))))), ?_⟩
  simp [tRet, tRetN, tSeq, tNext, tNever, tDrop, tIfS, tAsg, tPar, tAug, tAugS, gName, gNil, gCons, gTup, gSub, tAndV, tOrV, tNotV, tAnd, tOr, tNot, tB, tTest, tYes, tIf, tCall, tCallK, tCallN, tMake, tProp, tMeth, getSp, tCB, tCons, tNil, tVar, tC, tOp, tUn, tChain, tLst, tTup, tFld, sFld, tBM, tBM0, tSl, tPart, tNoPart, rI0, rI, rU, rEq, rNe, rIsi, tCut, tCutR, tCutS, rIntI, tSlH, tSlS, rSumH, rTupH, rSortH, tLstRg, tRg1, tRg2, rIxH, rIxHT, rLenH, rLenHT, rIxL, rIxT, rIx, rCat, rRep, rSetL, rAppend, rSum, rMax, rMin, rEqD, rNeD, rSlL, rPopAt, rSorted, rAll, rAny, rReprS, rNext, tCutT, rCatHT, rCatA, rSlA, RT.iRevA, scal, L2.start, List.replicate, and_assoc, CDiv, CMul, CPow, ipI, rMaxH, rSetLi, rSortedSet, iAnyS, rMinT, rLotEq, rLotStr, rGcd, rLcm, tRevT, rLtU, rIsiI, RZ.iZipA, iEnz, tDNewK, tDGet, sDPut]
  refine made_lot ht1 hc fun pA H1 n1 s1 hA => made_lot (s1 _ _ ht2) hd fun pB H2 n2 s2 hB => fill _ _ _ _ (hA.same s2) hB fun va H3 s3 hva => ?_
  refine made_lot (s3 _ _ (s2 _ _ (s1 _ _ ht2))) hd fun pC H4 n4 s4 hC4 => made_lot (s4 _ _ (s3 _ _ (s2 _ _ (s1 _ _ ht1)))) hc fun pD H5 n5 s5 hD => fill _ _ _ _ hD (hC4.same s5) fun vb H6 s6 hvb => ?_
  refine ⟨by decide, ?_⟩
  intro p7 n7
  generalize eH7 : upd H6 p7 _ = H7
  have s7 : Same H6 H7 := by rw [← eH7]; exact same_new n7
  have h7 := (congrFun eH7 p7).symm.trans upd_same
  clear eH7
  have s07 : Same H H7 := s1.trans (s2.trans (s3.trans (s4.trans (s5.trans (s6.trans s7)))))
  refine ⟨_, s07 _ _ ht1, _, hla, _, s07 _ _ ht2, _, hla2, _, rfl, _, rfl, ?_⟩
  by_cases c : G < G2
  · rw [if_pos (by omega)]
    obtain rfl : va = .non := by rcases hva with ⟨_, e⟩ | ⟨e, _⟩; exact e; omega
    obtain rfl : vb = .non := by rcases hvb with ⟨_, e⟩ | ⟨e, _⟩; exact e; omega
    refine ⟨by decide, ?_⟩
    intro p8 n8
    generalize eH8 : upd H7 p8 _ = H8
    have s8 : Same H7 H8 := by rw [← eH8]; exact same_new n8
    have h8 := (congrFun eH8 p8).symm.trans upd_same
    clear eH8
    refine ⟨_, .lst (sqL (s8 _ _ h7)) (.cons .non (.cons .non .nil)), _, .lst (sqL h8) (.cons .non (.cons .non .nil)), by decide, by decide, ?_⟩
    rw [if_pos (by decide)]
    exact ⟨t1, t2, cs, ds, G, G2, rfl, s8 _ _ (s07 _ _ ht1), s8 _ _ (s07 _ _ ht2), hc, hd, hG, hG2, c, hG230, fun H9 s9 => q H9 (s07.trans (s8.trans s9))⟩
  · rw [if_neg (by omega)]
    obtain ⟨ra, pa, hra, rfl, hpa⟩ : ∃ r p, KT.IsLag (KT.few (natL cs)) (KT.few (natL ds)) r ∧ va = .ref p ∧ H3 p = some (.tup [.int r.1, .int (r.2 : Nat)]) := by rcases hva with ⟨e, _⟩ | ⟨_, e⟩; omega; exact e
    obtain ⟨rb, pb, hrb, rfl, hpb⟩ : ∃ r p, KT.IsLag (KT.few (natL cs)) (KT.few (natL ds)) r ∧ vb = .ref p ∧ H6 p = some (.tup [.int r.1, .int (r.2 : Nat)]) := by rcases hvb with ⟨e, _⟩ | ⟨_, e⟩; omega; exact e
    obtain rfl := hra.uniq hrb
    have hpa7 := s7 _ _ (s6 _ _ (s5 _ _ (s4 _ _ hpa)))
    have hpb7 := s7 _ _ hpb
    refine ⟨_, rfl, _, rfl, show 2 ≤ sizeLine by decide, ?_⟩
    intro p8 n8
    generalize eH8 : upd H7 p8 _ = H8
    have s8 : Same H7 H8 := by rw [← eH8]; exact same_new n8
    have h8 := (congrFun eH8 p8).symm.trans upd_same
    clear eH8
    refine ⟨p8, rfl, ⟨_, sqL h8⟩, fun D nD => ?_⟩
    obtain ⟨X1, hX1⟩ : ∃ X, (if 1 < cs.length then (G - 1) * Cc else 0) = X := ⟨_, rfl⟩
    obtain ⟨X2, hX2⟩ : ∃ X, (if 1 < ds.length then (G2 - 1) * Cd else 0) = X := ⟨_, rfl⟩
    refine lc_list (xs := [V.ref t1, V.ref t2]) (fun i H' => ∃ ms : List Int, Same H8 H' ∧ H' D = some (.lst (ms.map V.int)) ∧ (∀ z ∈ ms, z = X1 ∨ z = X2 ∨ z = 0) ∧ ms.length ≤ i ∧ (1 ≤ i → X1 = 0 ∨ (X1 : Int) ∈ ms) ∧ (2 ≤ i → X2 = 0 ∨ (X2 : Int) ∈ ms)) ⟨[], same_new nD, upd_same, by simp, by simp, by omega, by omega⟩ ?_ ?_ ?_
    · rintro i H' hi ⟨ms, s', _⟩
      exact sqL (s' _ _ h8)
    · rintro i x H' hx ⟨ms, s', hD, m1, m2, m3, m4⟩
      have s08 := s07.trans (s8.trans s')
      have ht1' := s08 _ _ ht1
      have ht2' := s08 _ _ ht2
      match i, hx with
      | 0, hx =>
        cases hx
        simp [tRet, tRetN, tSeq, tNext, tNever, tDrop, tIfS, tAsg, tPar, tAug, tAugS, gName, gNil, gCons, gTup, gSub, tAndV, tOrV, tNotV, tAnd, tOr, tNot, tB, tTest, tYes, tIf, tCall, tCallK, tCallN, tMake, tProp, tMeth, getSp, tCB, tCons, tNil, tVar, tC, tOp, tUn, tChain, tLst, tTup, tFld, sFld, tBM, tBM0, tSl, tPart, tNoPart, rI0, rI, rU, rEq, rNe, rIsi, tCut, tCutR, tCutS, rIntI, tSlH, tSlS, rSumH, rTupH, rSortH, tLstRg, tRg1, tRg2, rIxH, rIxHT, rLenH, rLenHT, rIxL, rIxT, rIx, rCat, rRep, rSetL, rAppend, rSum, rMax, rMin, rEqD, rNeD, rSlL, rPopAt, rSorted, rAll, rAny, rReprS, rNext, tCutT, rCatHT, rCatA, rSlA, RT.iRevA, scal, L2.start, List.replicate, and_assoc, CDiv, CMul, CPow, ipI, rMaxH, rSetLi, rSortedSet, iAnyS, rMinT, rLotEq, rLotStr, rGcd, rLcm, tRevT, rLtU, rIsiI, RZ.iZipA, iEnz, tDNewK, tDGet, sDPut, wipe, ht1']
        by_cases h1 : 1 < cs.length
        · obtain hC2 : cs[cs.length - 2]? = some (Cc : Int) := by
            rcases hC with ⟨e, _⟩ | ⟨_, e⟩
            · omega
            · exact e
          have hna : atI (cs.map V.int) (-2) = some (.int Cc) := atI_neg2 (by rw [List.length_map]; exact mapI_at hC2) (by rw [List.length_map]; exact h1)
          have ez : ((G : Int) - 1) * (Cc : Int) = (X1 : Int) := by
            rw [← hX1, if_pos h1, Int.natCast_mul]
            congr 1
            omega
          rw [if_pos (by omega)]
          refine ⟨_, hla, _, rfl, _, hna, _, rfl, .inl ⟨by omega, by omega⟩, _, hD, Nat.lt_of_le_of_lt (show _ ≤ 100 by rw [List.length_map]; omega) (by decide), Same.updN s' nD, ms ++ [(X1 : Int)], ?_, ?_, by rw [List.length_append]; exact Nat.succ_le_succ m2, ?_⟩
          · rw [upd_same, ez, List.map_append]
            rfl
          · intro z hz
            rcases List.mem_append.1 hz with hz | hz
            · exact m1 z hz
            · exact .inl (by simpa using hz)
          · exact .inr (by simp)
        · rw [if_neg (by omega)]
          exact ⟨s', ms, hD, m1, by omega, .inl (by rw [← hX1, if_neg h1])⟩
      | 1, hx =>
        cases hx
        simp [tRet, tRetN, tSeq, tNext, tNever, tDrop, tIfS, tAsg, tPar, tAug, tAugS, gName, gNil, gCons, gTup, gSub, tAndV, tOrV, tNotV, tAnd, tOr, tNot, tB, tTest, tYes, tIf, tCall, tCallK, tCallN, tMake, tProp, tMeth, getSp, tCB, tCons, tNil, tVar, tC, tOp, tUn, tChain, tLst, tTup, tFld, sFld, tBM, tBM0, tSl, tPart, tNoPart, rI0, rI, rU, rEq, rNe, rIsi, tCut, tCutR, tCutS, rIntI, tSlH, tSlS, rSumH, rTupH, rSortH, tLstRg, tRg1, tRg2, rIxH, rIxHT, rLenH, rLenHT, rIxL, rIxT, rIx, rCat, rRep, rSetL, rAppend, rSum, rMax, rMin, rEqD, rNeD, rSlL, rPopAt, rSorted, rAll, rAny, rReprS, rNext, tCutT, rCatHT, rCatA, rSlA, RT.iRevA, scal, L2.start, List.replicate, and_assoc, CDiv, CMul, CPow, ipI, rMaxH, rSetLi, rSortedSet, iAnyS, rMinT, rLotEq, rLotStr, rGcd, rLcm, tRevT, rLtU, rIsiI, RZ.iZipA, iEnz, tDNewK, tDGet, sDPut, wipe, ht2']
        by_cases h1 : 1 < ds.length
        · obtain hC2 : ds[ds.length - 2]? = some (Cd : Int) := by
            rcases hCd with ⟨e, _⟩ | ⟨_, e⟩
            · omega
            · exact e
          have hna : atI (ds.map V.int) (-2) = some (.int Cd) := atI_neg2 (by rw [List.length_map]; exact mapI_at hC2) (by rw [List.length_map]; exact h1)
          have ez : ((G2 : Int) - 1) * (Cd : Int) = (X2 : Int) := by
            rw [← hX2, if_pos h1, Int.natCast_mul]
            congr 1
            omega
          rw [if_pos (by omega)]
          refine ⟨_, hla2, _, rfl, _, hna, _, rfl, .inl ⟨by omega, by omega⟩, _, hD, Nat.lt_of_le_of_lt (show _ ≤ 100 by rw [List.length_map]; omega) (by decide), Same.updN s' nD, ms ++ [(X2 : Int)], ?_, ?_, by rw [List.length_append]; exact Nat.succ_le_succ m2, ?_, ?_⟩
          · rw [upd_same, ez, List.map_append]
            rfl
          · intro z hz
            rcases List.mem_append.1 hz with hz | hz
            · exact m1 z hz
            · exact .inr (.inl (by simpa using hz))
          · rcases m3 (by omega) with e | e
            · exact .inl e
            · exact .inr (List.mem_append_left _ e)
          · exact .inr (by simp)
        · rw [if_neg (by omega)]
          exact ⟨s', ms, hD, m1, by omega, m3 (by omega), .inl (by rw [← hX2, if_neg h1])⟩
    · rintro H' ⟨ms, s', hD, m1, m2, m3, m4⟩
      refine ⟨by decide, ?_⟩
      intro p9 n9
      generalize eH9 : upd H' p9 _ = H9
      have s9 : Same H' H9 := by rw [← eH9]; exact same_new n9
      have h9 := (congrFun eH9 p9).symm.trans upd_same
      clear eH9
      refine ⟨D, rfl, _, s9 _ _ hD, _, h9, Nat.le_trans (show _ ≤ 100 by rw [List.length_map]; simp at m2 ⊢; omega) (by decide), ?_⟩
      intro p10 n10
      generalize eH10 : upd H9 p10 _ = H10
      have s10 : Same H9 H10 := by rw [← eH10]; exact same_new n10
      have h10 := (congrFun eH10 p10).symm.trans upd_same
      clear eH10
      refine ⟨ms ++ [0], sqL (by rw [List.map_append]; exact h10), by simp, fun m hm hmax => ?_⟩
      obtain ⟨E, rfl, hE1, hE2, hEl⟩ : ∃ E : Nat, m = (E : Int) ∧ X1 ≤ E ∧ X2 ≤ E ∧ E ≤ 1000 := by
        have b0 := hmax 0 (by simp)
        have b1 : (X1 : Int) ≤ m := by
          rcases m3 (by simp) with e | e
          · rw [e]; exact b0
          · exact hmax _ (List.mem_append_left _ e)
        have b2 : (X2 : Int) ≤ m := by
          rcases m4 (by simp) with e | e
          · rw [e]; exact b0
          · exact hmax _ (List.mem_append_left _ e)
        have hCle := ahC_le hc hC hG
        have hCdle := ahC_le hd hCd hG2
        have eE1 : X1 ≤ 29 * 30 := by
          rw [← hX1]
          split
          · exact Nat.mul_le_mul (by omega) (by omega)
          · omega
        have eE2 : X2 ≤ 29 * 30 := by
          rw [← hX2]
          split
          · exact Nat.mul_le_mul (by omega) (by omega)
          · omega
        have b3 : m ≤ 1000 := by
          rcases List.mem_append.1 hm with e | e
          · rcases m1 m e with e | e | e <;> omega
          · have : m = 0 := by simpa using e
            omega
        exact ⟨m.toNat, by omega, by omega, by omega, by omega⟩
      have s010 : Same H H10 := s07.trans (s8.trans (s'.trans (s9.trans s10)))
      refine ⟨_, s010 _ _ ht1, _, hla, _, s010 _ _ ht2, _, hla2, G, G2, rfl, by omega, by omega, by omega, by omega, fun H11 s11 => ?_⟩
      have hPl : Nat.lcm G G2 ≤ 30 * 30 := Nat.le_trans (Nat.lcm_le_mul (by omega) (by omega)) (Nat.mul_le_mul hG30 hG230)
      have hlag : KT.IsLag (KT.few (natL cs)) (KT.few (natL ds)) (KT.lagUp (KT.few (natL cs)) (KT.few (natL ds)) (E + 2 * Nat.lcm G G2 + 1)) := by
        refine KT.lag_far (C := if 1 < cs.length then Cc else 0) (C2 := if 1 < ds.length then Cd else 0) (E := E) f1 f2 ?_ f4 g1 g2 ?_ g4 (by omega) ?_ ?_ (by omega)
        · intro c hc' hne
          by_cases h1 : 1 < cs.length
          · rw [if_pos h1]; exact f6 c hc' hne
          · exact absurd (lone h1 hG c hc') hne
        · intro c hc' hne
          by_cases h1 : 1 < ds.length
          · rw [if_pos h1]; exact g6 c hc' hne
          · exact absurd (lone h1 hG2 c hc') hne
        · by_cases h1 : 1 < cs.length
          · rw [if_pos h1] at hX1 ⊢; omega
          · rw [if_neg h1, Nat.mul_zero]; omega
        · by_cases h1 : 1 < ds.length
          · rw [if_pos h1] at hX2 ⊢; omega
          · rw [if_neg h1, Nat.mul_zero]; omega
      have hsm := KT.lagUp_small (g := KT.few (natL ds)) (KT.few_small f1) (E + 2 * Nat.lcm G G2 + 1)
      have hnn := KT.lagUp_nonneg (f := KT.few (natL cs)) (g := KT.few (natL ds)) (E + 2 * Nat.lcm G G2 + 1)
      have hr := hra.uniq hlag
      refine ⟨(Nat.lcm G G2 : Int), rfl, t1, t2, cs, ds, E + 2 * Nat.lcm G G2, rfl, s11 _ _ (s010 _ _ ht1), s11 _ _ (s010 _ _ ht2), hc, hd, by omega, fun q9 H12 n12 s12 h12 => ?_⟩
      rw [← hr] at h12 hsm hnn
      have s712 : Same H7 H12 := s8.trans (s'.trans (s9.trans (s10.trans (s11.trans s12))))
      have hsT : ∀ d ∈ [PyData.tuple ([ra.1, (ra.2 : Int)].map .int), PyData.tuple ([ra.1, (ra.2 : Int)].map .int)], Shw (2 * 1003 + 3) 1 d := fun d hd' => by
        have : d = PyData.tuple ([ra.1, (ra.2 : Int)].map .int) := by simpa using hd'
        rw [this]
        refine shw_intsT (fun i hi => ?_) (by simp)
        have hi' : i = ra.1 ∨ i = (ra.2 : Int) := by simpa using hi
        have : i.natAbs ≤ 4000 := by rcases hi' with e | e <;> omega
        exact Nat.lt_of_le_of_lt this (Nat.lt_of_lt_of_le (show 4000 < 2 ^ 12 by decide) (Nat.pow_le_pow_right (by decide) (by decide)))
      have hS : Shw 16000000 90 (.list [PyData.tuple ([ra.1, (ra.2 : Int)].map .int), PyData.tuple ([ra.1, (ra.2 : Int)].map .int)]) := (shw_list (m := 2) hsT (by simp)).mono (by decide) (by decide)
      refine ⟨_, .lst (sqL (s712 _ _ h7)) (.cons (dpT (ns := [ra.1, (ra.2 : Int)]) (s712 _ _ hpa7)) (.cons (dpT (ns := [ra.1, (ra.2 : Int)]) (s712 _ _ hpb7)) .nil)), hS, by decide, ?_⟩
      intro p13 n13
      generalize eH13 : upd H12 p13 _ = H13
      have s13 : Same H12 H13 := by rw [← eH13]; exact same_new n13
      have h13 := (congrFun eH13 p13).symm.trans upd_same
      clear eH13
      have hq13 := s13 _ _ h12
      refine ⟨_, .lst (sqL h13) (.cons (dpT (ns := [ra.1, (ra.2 : Int)]) hq13) (.cons (dpT (ns := [ra.1, (ra.2 : Int)]) hq13) .nil)), hS, ?_⟩
      have e : ∀ x : Str, decide (x = x) = true := fun x => by simp
      have hq := q H13 (s07.trans (s712.trans s13))
      generalize (PyData.list [PyData.tuple ([ra.1, (ra.2 : Int)].map .int), PyData.tuple ([ra.1, (ra.2 : Int)].map .int)]).shown = Z
      simp only [decide_true]
      exact hq

end
end Kx

-- SXEXT: rMaxH, rSetLi, rSortedSet, iAnyS, rMinT, rLotEq, rLotStr, rGcd, rLcm, tRevT, rLtU, rIsiI, RZ.iZipA, iEnz, tDNewK, tDGet, sDPut
namespace Kx
open PySem L2 MG KM
section
variable {P : Program} {w : World} {K : PySem.W.Frag} {mg : Str → Option Value} {base : Heap} {f : Addr} {fd : FuncData} {C : Addr}
abbrev s_l_second : Stmt := top 28
abbrev N_l_second : List Str := ["_law_bag_here", "_law_coins_here", "_law_top", "_law_way", "_law_place"]
theorem sc_l_second : FnScope N_l_second ["_law_bag_here", "_law_coins_here", "_law_top"] (defScope s_l_second) := ⟨rfl, rfl, rfl, by decide +kernel, rfl, by decide +kernel, by decide +kernel⟩
theorem ok_l_second (F : FnP K "_law_second" "_law_second" s_l_second f fd) (C_l_grab : Cal P w K mg base 1 "_law_grab" ["_law_bag_here", "_law_size"] sp_l_dip) (B : Bi mg) (C_l_coins : Cal P w K mg base 3 "_law_coins" ["_law_bag_here", "_law_many", "_law_top"] sp_l_coinsU) :
    FnOk P w K mg base CX0 4 f fd ["_law_bag_here", "_law_coins_here", "_law_top"] sp_l_second := by
  refine okF F sc_l_second (fun vs H Q E h => by repeat (first | (obtain ⟨rfl, _⟩ := h; rfl) | obtain ⟨_, h⟩ := h)) (fun cdv A outer s H vs Q E hr h => ?_)
  obtain ⟨b, t, cs, m, rfl, hb, ht, hc, hcm, hl, hm6, hm30, q⟩ := h
  have hc60 := lot_pos (Int.le_refl 0) hc.up
  have hpos := List.length_pos_iff.mpr hc.ne
  refine ⟨_, (pss_cons (ps_par (i := 3) (j := 4) (by rfl) sc_l_second.nd rfl rfl (by decide) rfl rfl (pa_cons (pe_cal C_l_grab hr (pa_cons (pv 0) (pa_cons pe_int pa_nil))) (pa_cons (pe_cal C_l_grab hr (pa_cons (pv 0) (pa_cons (pe_callB len_HT (by rfl) B.b_len (by decide +kernel) (pa_cons (pv 1) pa_nil)) pa_nil))) pa_nil)) (by rfl))
    (pss_cons (ps_if (pt_cmpR op_eq (pv 3) pe_int (nomark _))
      (pss_one (ps_ret (pe_callTy tuple_H (by rfl) B.b_tuple (by decide +kernel) (pa_cons (pe_callB (cr_sortedSet rfl) (by rfl) B.b_sorted (by decide +kernel) (pa_cons (pe_callTy (set_L rfl) (by rfl) B.b_set (by decide +kernel) (pa_cons (pe_op op_cat (pe_callTy call_list_of (by rfl) B.b_list (by decide +kernel) (pa_cons (pv 1) pa_nil)) (pe_lst (pa_cons (pe_op op_add pe_int (pe_cal C_l_grab hr (pa_cons (pv 0) (pa_cons (pv 2) pa_nil)))) pa_nil))) pa_nil)) pa_nil)) pa_nil))))
      pss_nil)
    (pss_cons (ps_if (PW.pt (pw_and (pt_cmpR op_eq (pv 3) pe_int (nomark _)) (pw_and1 (pt_cmpR op_gt (pe_callB len_HT (by rfl) B.b_len (by decide +kernel) (pa_cons (pv 1) pa_nil)) pe_int (nomark _)))))
      (pss_one (ps_ret (pe_op op_catA (pe_slice sl_tupA (pv 1) po_none (po_some (pv 4))) (pe_slice sl_tupA (pv 1) (po_some (pe_op op_add (pv 4) pe_int)) po_none))))
      pss_nil)
    (pss_cons (ps_if (pt_cmpR op_eq (pv 3) pe_int (nomark _))
      (pss_one (ps_ret (pe_callTy tuple_H (by rfl) B.b_tuple (by decide +kernel) (pa_cons (pe_callB (cr_sortedSet rfl) (by rfl) B.b_sorted (by decide +kernel) (pa_cons (pe_callTy (set_L rfl) (by rfl) B.b_set (by decide +kernel) (pa_cons (pe_op op_cat (pe_lst (pa_cons (pe_op op_add pe_int (pe_cal C_l_grab hr (pa_cons (pv 0) (pa_cons (pe_ix ix_HT (pv 1) pe_int (fun _ _ => rfl)) pa_nil)))) pa_nil)) (pe_callTy call_list_of (by rfl) B.b_list (by decide +kernel) (pa_cons (pe_slice sl_tupA (pv 1) (po_some pe_int) po_none) pa_nil))) pa_nil)) pa_nil)) pa_nil))))
      pss_nil)
    (pss_one (ps_ret (pe_cal C_l_coins hr (pa_cons (pv 0) (pa_cons pe_int (pa_cons (pv 2) pa_nil)))))))))), ?_⟩
  simp [tRet, tRetN, tSeq, tNext, tNever, tDrop, tIfS, tAsg, tPar, tAug, tAugS, gName, gNil, gCons, gTup, gSub, tAndV, tOrV, tNotV, tAnd, tOr, tNot, tB, tTest, tYes, tIf, tCall, tCallK, tCallN, tMake, tProp, tMeth, getSp, tCB, tCons, tNil, tVar, tC, tOp, tUn, tChain, tLst, tTup, tFld, sFld, tBM, tBM0, tSl, tPart, tNoPart, rI0, rI, rU, rEq, rNe, rIsi, tCut, tCutR, tCutS, rIntI, tSlH, tSlS, rSumH, rTupH, rSortH, tLstRg, tRg1, tRg2, rIxH, rIxHT, rLenH, rLenHT, rIxL, rIxT, rIx, rCat, rRep, rSetL, rAppend, rSum, rMax, rMin, rEqD, rNeD, rSlL, rPopAt, rSorted, rAll, rAny, rReprS, rNext, tCutT, rCatHT, rCatA, rSlA, RT.iRevA, scal, L2.start, List.replicate, and_assoc, CDiv, CMul, CPow, ipI, rMaxH, rSetLi, rSortedSet, iAnyS, rMinT, rLotEq, rLotStr, rGcd, rLcm, tRevT, rLtU, rIsiI, RZ.iZipA, iEnz, tDNewK, tDGet, sDPut]
  refine ⟨b, 5, rfl, hb, by omega, by omega, fun r1 H1 r10 r11 hb1 bt1 => ?_⟩
  have nbt : t ≠ b := fun e => by
    obtain ⟨x, y, z, e'⟩ := hb
    rw [e, e'] at ht
    cases ht
  have ht1 := bt1 _ _ nbt ht
  refine ⟨_, ht1, b, _, rfl, hb1, by rw [List.length_map]; omega, by rw [List.length_map]; omega, fun r2 H2 r20 r21 hb2 bt2 => ?_⟩
  have ht2 := bt2 _ _ nbt ht1
  rw [List.length_map] at r21
  have fin4 : ∀ H3 : Hp, Bw H3 b → But b H H3 → sp_l_coinsU [.ref b, .int 4, .int m] H3 Q E0 := fun H3 hb3 bt3 => ⟨b, 4, m, rfl, hb3, by decide, by decide, hm6, by omega, fun t2 ds H4 n4 hd hdl hdm ht4 hb4 bt4 => q t2 ds H4 hd hdm ht4 hb4 (bt3.trans bt4)⟩
  have bt02 := bt1.trans bt2
  refine ⟨rfl, ?_⟩
  by_cases c0 : r1 = 0
  · rw [if_pos (by rw [c0])]
    refine ⟨_, .inr (sqT ht2), ?_⟩
    intro l0 n3
    generalize eH3 : upd H2 l0 _ = H3
    have s3 : Same H2 H3 := by rw [← eH3]; exact same_new n3
    have h3 := (congrFun eH3 l0).symm.trans upd_same
    clear eH3
    refine ⟨b, m, rfl, hb2.same s3, by omega, by omega, fun r3 H4 r30 r31 hb4 bt4 => ?_⟩
    have hl4 := bt4 _ _ (nb_new hb2 n3) h3
    refine ⟨_, rfl, by decide, ?_⟩
    intro p5 n5
    generalize eH5 : upd H4 p5 _ = H5
    have s5 : Same H4 H5 := by rw [← eH5]; exact same_new n5
    have h5 := (congrFun eH5 p5).symm.trans upd_same
    clear eH5
    refine ⟨_, s5 _ _ hl4, _, h5, Nat.le_trans (show _ ≤ 100 by rw [List.length_map]; simp; omega) (by decide), ?_⟩
    intro p6 n6
    generalize eH6 : upd H5 p6 _ = H6
    have s6 : Same H5 H6 := by rw [← eH6]; exact same_new n6
    have h6 := (congrFun eH6 p6).symm.trans upd_same
    clear eH6
    refine ⟨cs ++ [1 + r3], by rw [List.map_append]; exact h6, by simp; omega, fun p7 c n7 hc7 => ?_⟩
    have hlen7 : c ≤ cs.length + 1 := by simpa using hc7
    generalize eA : upd H6 p7 _ = Ha
    have sA : Same H6 Ha := by rw [← eA]; exact same_new n7
    have hA := (congrFun eA p7).symm.trans upd_same
    clear eA
    first | refine ⟨_, c, hA, by omega, ?_⟩ | refine ⟨_, c, hA, ?_⟩
    intro ns p11 hpw hmem hlen n11
    have sc := same_new (o := .lst (ns.map V.int)) n11
    generalize eC : upd Ha p11 _ = Hc at sc ⊢
    have hc' := (congrFun eC p11).symm.trans upd_same
    clear eC
    refine ⟨_, hc', ?_⟩
    have stot := sA.trans sc
    intro pt nd
    generalize eHd : upd Hc pt _ = Hd
    have sd : Same Hc Hd := by rw [← eHd]; exact same_new nd
    have hd := (congrFun eHd pt).symm.trans upd_same
    clear eHd
    have hmem' : ∀ k : Int, k ∈ ns ↔ k ∈ (cs ++ [1 + r3]) := fun k => by rw [hmem k]; simp
    have hms : ∀ c ∈ (cs ++ [1 + r3]), 1 ≤ c ∧ c ≤ m := fun c hc => by
          rcases List.mem_append.1 hc with e | e
          · exact ⟨(hc60 c e).1, hcm c e⟩
          · have : c = 1 + r3 := by simpa using e
            omega
    obtain ⟨bx, by', bz, hbe⟩ := (hb4.same (s5.trans s6))
    refine q pt ns Hd ⟨?_, by omega, ?_⟩ (fun c hc => (hms c ((hmem' c).mp hc)).2) hd ⟨_, _, _, sd _ _ (stot _ _ hbe)⟩ (bt02.trans (((But.of s3).trans (bt4.trans (But.of (s5.trans s6)))).trans (But.of (stot.trans sd))))
    · intro z
      have := (hmem' (1 + r3)).mpr (by simp)
      rw [z] at this
      cases this
    · refine asc_of hpw fun c hc => ?_
      have := hms c ((hmem' c).mp hc)
      omega
  · rw [if_neg (by simpa using c0)]
    refine ⟨rfl, ?_⟩
    by_cases c1 : r1 = 1
    · rw [if_pos (by rw [c1])]
      refine ⟨_, ht2, ?_⟩
      rw [List.length_map]
      by_cases h1 : 1 < cs.length
      · rw [if_pos (by omega)]
        obtain ⟨k, rfl⟩ : ∃ k : Nat, r2 = k := ⟨r2.toNat, by omega⟩
        refine ⟨k, rfl, _, sqT ht2, fun w1 w2 => ?_, fun _ => ?_⟩
        · exfalso
          rw [HT.sIx_nat, List.length_map] at w2
          omega
        rw [cut_take, ← List.map_take]
        intro pa n3
        generalize eH3 : upd H2 pa _ = H3
        have s3 : Same H2 H3 := by rw [← eH3]; exact same_new n3
        have h3 := (congrFun eH3 pa).symm.trans upd_same
        clear eH3
        refine ⟨k, rfl, _, sqT (s3 _ _ ht2), fun w1 _ => ?_, fun _ => ?_⟩
        · exfalso
          rw [show (k : Int) + 1 = ((k + 1 : Nat) : Int) by omega, HT.sIx_nat, List.length_map] at w1
          omega
        rw [show (k : Int) + 1 = ((k + 1 : Nat) : Int) by omega, cut_dropG, ← List.map_drop]
        intro pb n4
        generalize eH4 : upd H3 pb _ = H4
        have s4 : Same H3 H4 := by rw [← eH4]; exact same_new n4
        have h4 := (congrFun eH4 pb).symm.trans upd_same
        clear eH4
        have sb1 : (cs.take k).Sublist cs := List.take_sublist _ _
        have sb2 : (cs.drop (k + 1)).Sublist cs := List.drop_sublist _ _
        have hl1 : (cs.take k).length = k := by rw [List.length_take]; omega
        have hl2 : (cs.drop (k + 1)).length = cs.length - (k + 1) := List.length_drop
        have sb3 : (cs.take k ++ cs.drop (k + 1)).Sublist cs := by
          have h := List.Sublist.append (List.Sublist.refl (cs.take k)) (List.drop_sublist 1 (cs.drop k))
          rw [List.take_append_drop, List.drop_drop] at h
          exact h
        refine ⟨_, sqT (s4 _ _ h3), _, sqT h4, Nat.le_trans (show _ ≤ 100 by rw [List.length_map, List.length_map, hl1, hl2]; omega) (by decide), fun e => ?_, fun e1 e2 => ?_, fun e1 e2 => ?_⟩
        · have e0 : (cs.take k).length = 0 := by rw [← List.length_map (f := V.int), e]; rfl
          exact q pb (cs.drop (k + 1)) H4 (lot_sub hc sb2 fun z => by rw [z] at hl2; simp at hl2; omega) (fun c hc' => hcm c (sb2.mem hc')) h4 (hb2.same (s3.trans s4)) (bt02.trans (But.of (s3.trans s4)))
        · have e0 : (cs.drop (k + 1)).length = 0 := by rw [← List.length_map (f := V.int), e2]; rfl
          exact q pa (cs.take k) H4 (lot_sub hc sb1 fun z => by rw [z] at hl1; simp at hl1; omega) (fun c hc' => hcm c (sb1.mem hc')) (s4 _ _ h3) (hb2.same (s3.trans s4)) (bt02.trans (But.of (s3.trans s4)))
        · have := e1
          intro pc n5
          generalize eH5 : upd H4 pc _ = H5
          have s5 : Same H4 H5 := by rw [← eH5]; exact same_new n5
          have h5 := (congrFun eH5 pc).symm.trans upd_same
          clear eH5
          exact q pc (cs.take k ++ cs.drop (k + 1)) H5 (lot_sub hc sb3 fun z => by have := congrArg List.length z; rw [List.length_append, hl1, hl2] at this; simp at this; omega) (fun c hc' => hcm c (sb3.mem hc')) (by rw [List.map_append]; exact h5) (hb2.same (s3.trans (s4.trans s5))) (bt02.trans (But.of (s3.trans (s4.trans s5))))
      · rw [if_neg (by omega)]
        refine ⟨rfl, ?_⟩
        rw [if_neg (by rw [c1]; decide)]
        exact fin4 _ hb2 bt02
    · rw [if_neg (by simpa using c1)]
      refine ⟨rfl, ?_⟩
      by_cases c2 : r1 = 2
      · rw [if_pos (by rw [c2])]
        obtain ⟨L, hL0⟩ : ∃ L, cs[0]? = some L := ⟨cs[0]'(by omega), List.getElem?_eq_getElem _⟩
        have hL60 := hc60 _ (List.mem_of_getElem? hL0)
        refine ⟨_, ht2, _, atI_of (i := 0) rfl (mapI_at hL0), b, L, rfl, hb2, by omega, by omega, fun r3 H3 r30 r31 hb3 bt3 => ?_⟩
        have ht3 := bt3 _ _ nbt ht2
        refine ⟨_, rfl, by decide, ?_⟩
        intro p5 n4
        generalize eH4 : upd H3 p5 _ = H4
        have s4 : Same H3 H4 := by rw [← eH4]; exact same_new n4
        have h4 := (congrFun eH4 p5).symm.trans upd_same
        clear eH4
        refine ⟨_, sqT (s4 _ _ ht3), fun w1 _ => ?_, fun _ => ?_⟩
        · exfalso
          rw [show (1 : Int) = ((1 : Nat) : Int) from rfl, HT.sIx_nat, List.length_map] at w1
          omega
        rw [show (some (1 : Int)) = some ((1 : Nat) : Int) from rfl, cut_dropG, ← List.map_drop]
        intro p6 n5
        generalize eH5 : upd H4 p6 _ = H5
        have s5 : Same H4 H5 := by rw [← eH5]; exact same_new n5
        have h5 := (congrFun eH5 p6).symm.trans upd_same
        clear eH5
        refine ⟨_, .inr (sqT h5), ?_⟩
        intro l0 n6
        generalize eH6 : upd H5 l0 _ = H6
        have s6 : Same H5 H6 := by rw [← eH6]; exact same_new n6
        have h6 := (congrFun eH6 l0).symm.trans upd_same
        clear eH6
        refine ⟨_, s6 _ _ (s5 _ _ h4), _, h6, Nat.le_trans (show _ ≤ 100 by rw [List.length_map, List.length_drop]; simp; omega) (by decide), ?_⟩
        intro p7 n7
        generalize eH7 : upd H6 p7 _ = H7
        have s7 : Same H6 H7 := by rw [← eH7]; exact same_new n7
        have h7 := (congrFun eH7 p7).symm.trans upd_same
        clear eH7
        refine ⟨[1 + r3] ++ cs.drop 1, by rw [List.map_append]; exact h7, by simp; omega, fun p8 c n8 hc8 => ?_⟩
        have hlen8 : c ≤ cs.length + 1 := by
          have : ([1 + r3] ++ cs.drop 1).length ≤ cs.length + 1 := by rw [List.length_append, List.length_drop]; show 1 + _ ≤ _; omega
          exact Nat.le_trans hc8 this
        generalize eA : upd H7 p8 _ = Ha
        have sA : Same H7 Ha := by rw [← eA]; exact same_new n8
        have hA := (congrFun eA p8).symm.trans upd_same
        clear eA
        first | refine ⟨_, c, hA, by omega, ?_⟩ | refine ⟨_, c, hA, ?_⟩
        intro ns p11 hpw hmem hlen n11
        have sc := same_new (o := .lst (ns.map V.int)) n11
        generalize eC : upd Ha p11 _ = Hc at sc ⊢
        have hc' := (congrFun eC p11).symm.trans upd_same
        clear eC
        refine ⟨_, hc', ?_⟩
        have stot := sA.trans sc
        intro pt nd
        generalize eHd : upd Hc pt _ = Hd
        have sd : Same Hc Hd := by rw [← eHd]; exact same_new nd
        have hd := (congrFun eHd pt).symm.trans upd_same
        clear eHd
        have hmem' : ∀ k : Int, k ∈ ns ↔ k ∈ ([1 + r3] ++ cs.drop 1) := fun k => by rw [hmem k]; simp
        have hms : ∀ c ∈ ([1 + r3] ++ cs.drop 1), 1 ≤ c ∧ c ≤ m := fun c hc => by
          rcases List.mem_append.1 hc with e | e
          · have : c = 1 + r3 := by simpa using e
            have := hcm _ (List.mem_of_getElem? hL0)
            omega
          · exact ⟨(hc60 c (List.mem_of_mem_drop e)).1, hcm c (List.mem_of_mem_drop e)⟩
        obtain ⟨bx, by', bz, hbe⟩ := hb3.same (s4.trans (s5.trans (s6.trans s7)))
        refine q pt ns Hd ⟨?_, by omega, ?_⟩ (fun c hc => (hms c ((hmem' c).mp hc)).2) hd ⟨_, _, _, sd _ _ (stot _ _ hbe)⟩ (bt02.trans (bt3.trans (But.of (s4.trans (s5.trans (s6.trans (s7.trans (stot.trans sd))))))))
        · intro z
          have := (hmem' (1 + r3)).mpr (by simp)
          rw [z] at this
          cases this
        · refine asc_of hpw fun c hc => ?_
          have := hms c ((hmem' c).mp hc)
          omega
      · rw [if_neg (by simpa using c2)]
        exact fin4 _ hb2 bt02

end
end Kx

-- SXEXT: rMaxH, rSetLi, rSortedSet, iAnyS, rMinT, rLotEq, rLotStr, rGcd, rLcm, tRevT, rLtU, rIsiI, RZ.iZipA, iEnz, tDNewK, tDGet, sDPut
namespace Kx
open PySem L2 MG KM
section
variable {P : Program} {w : World} {K : PySem.W.Frag} {mg : Str → Option Value} {base : Heap} {f : Addr} {fd : FuncData} {C : Addr}
abbrev s_l_right : Stmt := top 33
abbrev N_l_right : List Str := ["_law_bag_here", "_law_top", "_law_coins_here", "_law_other", "_law_one", "_law_two"]
theorem sc_l_right : FnScope N_l_right ["_law_bag_here"] (defScope s_l_right) := ⟨rfl, rfl, rfl, by decide +kernel, rfl, by decide +kernel, by decide +kernel⟩
theorem ok_l_right (F : FnP K "_law_right" "_law_right" s_l_right f fd) (C_l_some : Cal P w K mg base 2 "_law_some" ["_law_bag_here", "_law_menu"] sp_l_one) (C_l_coins : Cal P w K mg base 3 "_law_coins" ["_law_bag_here", "_law_many", "_law_top"] sp_l_coinsU) (C_l_second : Cal P w K mg base 4 "_law_second" ["_law_bag_here", "_law_coins_here", "_law_top"] sp_l_second) (B : Bi mg) (C_l_lag_right : CalG P w K mg base 7 "_law_lag_right" ["_law_coins_here", "_law_other"] (sp_l_lag_right C)) :
    GFn P w K mg base CX0 8 f fd ["_law_bag_here"] sp_drawn := by
  refine okFG F sc_l_right (fun vs H Q E h => by repeat (first | (obtain ⟨rfl, _⟩ := h; rfl) | obtain ⟨_, h⟩ := h)) (fun cdv A outer s H vs Q E hr hgu h => ?_)
  obtain ⟨b, rfl, hbw, q⟩ := h
  refine ⟨_, (pss_cons (ps_set (i := 1) sc_l_right.nd rfl (Or.inl rfl) (pe_cal C_l_some hr (pa_cons (pv 0) (pa_cons (pe_lst (pa_cons pe_int (pa_cons pe_int (pa_cons pe_int (pa_cons pe_int pa_nil))))) pa_nil))))
    (pss_cons (ps_set (i := 2) sc_l_right.nd rfl (Or.inl rfl) (pe_cal C_l_coins hr (pa_cons (pv 0) (pa_cons pe_int (pa_cons (pv 1) pa_nil)))))
    (pss_cons (ps_set (i := 3) sc_l_right.nd rfl (Or.inl rfl) (pe_cal C_l_second hr (pa_cons (pv 0) (pa_cons (pv 2) (pa_cons (pv 1) pa_nil)))))
    (pss_one (ps_ret (pe_callB (cr_all rfl) (by rfl) B.b_all (by decide +kernel) (pa_cons (pe_lc (own := [("_law_one", 4), ("_law_two", 5)]) (g := gTup K 2 (gCons (gName 4) (gCons (gName 5) gNil))) (tt := tYes) (te := (tCall (sp_l_lag_right C) [] E0 (tCons (tVar 4) (tCons (tVar 5) tNil)))) (by rfl) sc_l_right.nd (pi_list (pe_lst (pa_cons (pe_tup (pa_cons (pv 2) (pa_cons (pv 3) pa_nil))) (pa_cons (pe_tup (pa_cons (pv 3) (pa_cons (pv 2) pa_nil))) (pa_cons (pe_tup (pa_cons (pv 2) (pa_cons (pv 2) pa_nil))) pa_nil))))) (blkOk_by (own := [("_law_one", 4), ("_law_two", 5)]) (N := N_l_right) (sc := defScope s_l_right) (by decide +kernel)) (fun _ _ _ _ _ => pg_tup (by rfl) (pgs_cons (pg_name (i := 4) sc_l_right.nd rfl (Or.inl rfl)) (pgs_cons (pg_name (i := 5) sc_l_right.nd rfl (Or.inl rfl)) pgs_nil))) (fun _ _ _ _ _ => pts_nil) (fun _ _ _ _ _ => (by exact (pe_calG C_l_lag_right hr hgu (pa_cons (pv 4) (pa_cons (pv 5) pa_nil)))))) pa_nil))))))), ?_⟩
  simp [tRet, tRetN, tSeq, tNext, tNever, tDrop, tIfS, tAsg, tPar, tAug, tAugS, gName, gNil, gCons, gTup, gSub, tAndV, tOrV, tNotV, tAnd, tOr, tNot, tB, tTest, tYes, tIf, tCall, tCallK, tCallN, tMake, tProp, tMeth, getSp, tCB, tCons, tNil, tVar, tC, tOp, tUn, tChain, tLst, tTup, tFld, sFld, tBM, tBM0, tSl, tPart, tNoPart, rI0, rI, rU, rEq, rNe, rIsi, tCut, tCutR, tCutS, rIntI, tSlH, tSlS, rSumH, rTupH, rSortH, tLstRg, tRg1, tRg2, rIxH, rIxHT, rLenH, rLenHT, rIxL, rIxT, rIx, rCat, rRep, rSetL, rAppend, rSum, rMax, rMin, rEqD, rNeD, rSlL, rPopAt, rSorted, rAll, rAny, rReprS, rNext, tCutT, rCatHT, rCatA, rSlA, RT.iRevA, scal, L2.start, List.replicate, and_assoc, CDiv, CMul, CPow, ipI, rMaxH, rSetLi, rSortedSet, iAnyS, rMinT, rLotEq, rLotStr, rGcd, rLcm, tRevT, rLtU, rIsiI, RZ.iZipA, iEnz, tDNewK, tDGet, sDPut, sp_l_one]
  refine ⟨by decide, ?_⟩
  intro p1 n1
  generalize eH1 : upd H p1 _ = H1
  have s1 : Same H H1 := by rw [← eH1]; exact same_new n1
  have h1 := (congrFun eH1 p1).symm.trans upd_same
  clear eH1
  refine ⟨hbw.same s1, nb_new hbw n1, _, .inl h1, by simp, by simp, fun x H2 hx hb2 bt2 => ?_⟩
  obtain ⟨m, rfl, hm6, hm30⟩ : ∃ m : Nat, x = .int m ∧ 6 ≤ m ∧ m ≤ 30 := by
    simp only [List.mem_cons, List.not_mem_nil, or_false] at hx
    rcases hx with rfl | rfl | rfl | rfl
    · exact ⟨6, rfl, by decide, by decide⟩
    · exact ⟨12, rfl, by decide, by decide⟩
    · exact ⟨12, rfl, by decide, by decide⟩
    · exact ⟨30, rfl, by decide, by decide⟩
  have bt02 : But b H H2 := (But.of s1).trans bt2
  refine ⟨b, 4, m, rfl, hb2, by decide, by decide, hm6, by omega, fun t cs H3 n3 hc hcl hcm ht hb3 bt3 => ?_⟩
  refine ⟨b, t, cs, m, rfl, hb3, ht, hc, hcm, by omega, hm6, hm30, fun t2 ds H4 hd hdm ht2 hb4 bt4 => ?_⟩
  have ht4 := bt4 _ _ (nb_new hb2 n3) ht
  obtain ⟨G, hG, hGm⟩ := last_ex hc hcm
  obtain ⟨G2, hG2, hGm2⟩ := last_ex hd hdm
  refine ⟨_, rfl, _, rfl, show 2 ≤ sizeLine by decide, ?_⟩
  intro a1 n5
  generalize eH5 : upd H4 a1 _ = H5
  have s5 : Same H4 H5 := by rw [← eH5]; exact same_new n5
  have h5 := (congrFun eH5 a1).symm.trans upd_same
  clear eH5
  refine ⟨_, rfl, _, rfl, show 2 ≤ sizeLine by decide, ?_⟩
  intro a2 n6
  generalize eH6 : upd H5 a2 _ = H6
  have s6 : Same H5 H6 := by rw [← eH6]; exact same_new n6
  have h6 := (congrFun eH6 a2).symm.trans upd_same
  clear eH6
  refine ⟨_, rfl, _, rfl, show 2 ≤ sizeLine by decide, ?_⟩
  intro a3 n7
  generalize eH7 : upd H6 a3 _ = H7
  have s7 : Same H6 H7 := by rw [← eH7]; exact same_new n7
  have h7 := (congrFun eH7 a3).symm.trans upd_same
  clear eH7
  refine ⟨show 3 ≤ sizeLine by decide, ?_⟩
  intro al n8
  generalize eH8 : upd H7 al _ = H8
  have s8 : Same H7 H8 := by rw [← eH8]; exact same_new n8
  have h8 := (congrFun eH8 al).symm.trans upd_same
  clear eH8
  have s48 : Same H4 H8 := s5.trans (s6.trans (s7.trans s8))
  refine ⟨al, rfl, ⟨_, sqL h8⟩, fun D nD => lc_list (xs := [V.ref a1, V.ref a2, V.ref a3]) (fun j H' => Same H8 H' ∧ H' D = some (.lst ((List.replicate j true).map V.bl))) ⟨same_new nD, upd_same⟩ (fun j H' _ ⟨s', _⟩ => sqL (s' _ _ h8)) ?_ ?_⟩
  · rintro i x H' hx ⟨s', hD⟩
    have hi3 : i < 3 := (List.getElem?_eq_some_iff.mp hx).1
    obtain ⟨a, u, v, c1, c2, g1, g2, rfl, ha, hu, hv, l1, l2, e1, e2, b1, b2⟩ : ∃ (a u v : Addr) (c1 c2 : List Int) (g1 g2 : Nat), x = .ref a ∧ H8 a = some (.tup [.ref u, .ref v]) ∧ H8 u = some (.tup (c1.map V.int)) ∧ H8 v = some (.tup (c2.map V.int)) ∧ Lotc c1 ∧ Lotc c2 ∧ c1[c1.length - 1]? = some (g1 : Int) ∧ c2[c2.length - 1]? = some (g2 : Int) ∧ g1 ≤ 30 ∧ g2 ≤ 30 := by
      have hm := List.mem_of_getElem? hx
      simp only [List.mem_cons, List.not_mem_nil, or_false] at hm
      rcases hm with rfl | rfl | rfl
      · exact ⟨a1, t, t2, cs, ds, G, G2, rfl, s8 _ _ (s7 _ _ (s6 _ _ h5)), s48 _ _ ht4, s48 _ _ ht2, hc, hd, hG, hG2, by omega, by omega⟩
      · exact ⟨a2, t2, t, ds, cs, G2, G, rfl, s8 _ _ (s7 _ _ h6), s48 _ _ ht2, s48 _ _ ht4, hd, hc, hG2, hG, by omega, by omega⟩
      · exact ⟨a3, t, t, cs, cs, G, G, rfl, s8 _ _ h7, s48 _ _ ht4, s48 _ _ ht4, hc, hc, hG, hG, by omega, by omega⟩
    refine ⟨a, _, rfl, sqT (s' _ _ ha), rfl, ?_⟩
    simp [tRet, tRetN, tSeq, tNext, tNever, tDrop, tIfS, tAsg, tPar, tAug, tAugS, gName, gNil, gCons, gTup, gSub, tAndV, tOrV, tNotV, tAnd, tOr, tNot, tB, tTest, tYes, tIf, tCall, tCallK, tCallN, tMake, tProp, tMeth, getSp, tCB, tCons, tNil, tVar, tC, tOp, tUn, tChain, tLst, tTup, tFld, sFld, tBM, tBM0, tSl, tPart, tNoPart, rI0, rI, rU, rEq, rNe, rIsi, tCut, tCutR, tCutS, rIntI, tSlH, tSlS, rSumH, rTupH, rSortH, tLstRg, tRg1, tRg2, rIxH, rIxHT, rLenH, rLenHT, rIxL, rIxT, rIx, rCat, rRep, rSetL, rAppend, rSum, rMax, rMin, rEqD, rNeD, rSlL, rPopAt, rSorted, rAll, rAny, rReprS, rNext, tCutT, rCatHT, rCatA, rSlA, RT.iRevA, scal, L2.start, List.replicate, and_assoc, CDiv, CMul, CPow, ipI, rMaxH, rSetLi, rSortedSet, iAnyS, rMinT, rLotEq, rLotStr, rGcd, rLcm, tRevT, rLtU, rIsiI, RZ.iZipA, iEnz, tDNewK, tDGet, sDPut, wipe]
    refine ⟨u, v, c1, c2, g1, g2, rfl, s' _ _ hu, s' _ _ hv, l1, l2, e1, e2, b1, b2, fun H9 s9 => ?_⟩
    refine ⟨_, s9 _ _ hD, Nat.lt_of_le_of_lt (show _ ≤ 100 by simp; omega) (by decide), Same.updN (s'.trans s9) nD, ?_⟩
    rw [upd_same, ← List.replicate_succ, List.replicate_succ']
    simp
  · rintro H' ⟨s', hD⟩
    refine ⟨D, rfl, [true, true, true], sqL hD, ?_⟩
    exact q H' (hb4.same (s48.trans s')) (bt02.trans (bt3.trans (bt4.trans (But.of (s48.trans s')))))

end
end Kx

-- SXEXT: rMaxH, rSetLi, rSortedSet, iAnyS, rMinT, rLotEq, rLotStr, rGcd, rLcm, tRevT, rLtU, rIsiI, RZ.iZipA, iEnz, tDNewK, tDGet, sDPut
namespace Kx
open PySem L2 MG KM
section
variable {P : Program} {w : World} {K : PySem.W.Frag} {mg : Str → Option Value} {base : Heap} {f : Addr} {fd : FuncData} {C : Addr}
abbrev s_law : Stmt := top 34
abbrev N_law : List Str := ["_law_script", "_law_turn"]
theorem sc_law : FnScope N_law ["_law_script"] (defScope s_law) := ⟨rfl, rfl, rfl, by decide +kernel, rfl, by decide +kernel, by decide +kernel⟩
theorem ok_law (F : FnP K "law" "law" s_law f fd) (B : Bi mg) (C_l_right : CalG P w K mg base 8 "_law_right" ["_law_bag_here"] sp_drawn) (C_l_bag : Cal P w K mg base 1 "_law_bag" ["_law_script", "_law_turn"] (sp_l_bowl K)) :
    GFn P w K mg base CX0 9 f fd ["_law_script"] (sp_law K) := by
  refine okFG F sc_law (fun vs H Q E h => by repeat (first | (obtain ⟨rfl, _⟩ := h; rfl) | obtain ⟨_, h⟩ := h)) (fun cdv A outer s H vs Q E hr hgu h => ?_)
  obtain ⟨a, ns, rfl, ha, hn, q⟩ := h
  refine ⟨_, (pss_one (ps_ret (pe_callB (cr_all rfl) (by rfl) B.b_all (by decide +kernel) (pa_cons (pe_lc (own := [("_law_turn", 1)]) (g := gName 1) (tt := tYes) (te := (tCall (sp_drawn) [] E0 (tCons (tCall (sp_l_bowl K) [] E0 (tCons (tVar 0) (tCons (tVar 1) tNil))) tNil))) (by rfl) sc_law.nd (pi_range1 (by rfl) B.b_range (pa_cons (pe_callB (call_max2 rfl) (by rfl) B.b_max (by decide +kernel) (pa_cons pe_int (pa_cons (pe_callB (call_min2 rfl) (by rfl) B.b_min (by decide +kernel) (pa_cons (pe_callB call_len_seq (by rfl) B.b_len (by decide +kernel) (pa_cons (pv 0) pa_nil)) (pa_cons pe_int pa_nil))) pa_nil))) pa_nil)) (blkOk_by (own := [("_law_turn", 1)]) (N := N_law) (sc := defScope s_law) (by decide +kernel)) (fun _ _ _ _ _ => pg_name (i := 1) sc_law.nd rfl (Or.inl rfl)) (fun _ _ _ _ _ => pts_nil) (fun _ _ _ _ _ => (by exact (pe_calG C_l_right hr hgu (pa_cons (by exact (pe_cal C_l_bag hr (pa_cons (pv 0) (pa_cons (pv 1) pa_nil)))) pa_nil))))) pa_nil)))), ?_⟩
  simp [tRet, tRetN, tSeq, tNext, tNever, tDrop, tIfS, tAsg, tPar, tAug, tAugS, gName, gNil, gCons, gTup, gSub, tAndV, tOrV, tNotV, tAnd, tOr, tNot, tB, tTest, tYes, tIf, tCall, tCallK, tCallN, tMake, tProp, tMeth, getSp, tCB, tCons, tNil, tVar, tC, tOp, tUn, tChain, tLst, tTup, tFld, sFld, tBM, tBM0, tSl, tPart, tNoPart, rI0, rI, rU, rEq, rNe, rIsi, tCut, tCutR, tCutS, rIntI, tSlH, tSlS, rSumH, rTupH, rSortH, tLstRg, tRg1, tRg2, rIxH, rIxHT, rLenH, rLenHT, rIxL, rIxT, rIx, rCat, rRep, rSetL, rAppend, rSum, rMax, rMin, rEqD, rNeD, rSlL, rPopAt, rSorted, rAll, rAny, rReprS, rNext, tCutT, rCatHT, rCatA, rSlA, RT.iRevA, scal, L2.start, List.replicate, and_assoc, CDiv, CMul, CPow, ipI, rMaxH, rSetLi, rSortedSet, iAnyS, rMinT, rLotEq, rLotStr, rGcd, rLcm, tRevT, rLtU, rIsiI, RZ.iZipA, iEnz, tDNewK, tDGet, sDPut]
  refine ⟨_, rfl, a, rfl, _, .inl ha, _, _, rfl, _, _, rfl, _, rfl, ?_, ?_, fun D nD => lc_range (lo := 0) (fun i H' => Same H H' ∧ H' D = some (.lst ((List.replicate i true).map V.bl))) ⟨same_new nD, upd_same⟩ ?_ ?_⟩
  · split <;> split <;> omega
  · split <;> split <;> omega
  · rintro i H1 hi ⟨s1, h1⟩
    have hi100 : i < 100 := by
      revert hi
      split <;> split <;> omega
    simp [tRet, tRetN, tSeq, tNext, tNever, tDrop, tIfS, tAsg, tPar, tAug, tAugS, gName, gNil, gCons, gTup, gSub, tAndV, tOrV, tNotV, tAnd, tOr, tNot, tB, tTest, tYes, tIf, tCall, tCallK, tCallN, tMake, tProp, tMeth, getSp, tCB, tCons, tNil, tVar, tC, tOp, tUn, tChain, tLst, tTup, tFld, sFld, tBM, tBM0, tSl, tPart, tNoPart, rI0, rI, rU, rEq, rNe, rIsi, tCut, tCutR, tCutS, rIntI, tSlH, tSlS, rSumH, rTupH, rSortH, tLstRg, tRg1, tRg2, rIxH, rIxHT, rLenH, rLenHT, rIxL, rIxT, rIx, rCat, rRep, rSetL, rAppend, rSum, rMax, rMin, rEqD, rNeD, rSlL, rPopAt, rSorted, rAll, rAny, rReprS, rNext, tCutT, rCatHT, rCatA, rSlA, RT.iRevA, scal, L2.start, List.replicate, and_assoc, CDiv, CMul, CPow, ipI, rMaxH, rSetLi, rSortedSet, iAnyS, rMinT, rLotEq, rLotStr, rGcd, rLcm, tRevT, rLtU, rIsiI, RZ.iZipA, iEnz, tDNewK, tDGet, sDPut, wipe, sp_l_bowl, sp_drawn]
    refine ⟨ns, i, rfl, s1.seq ha, hn, hi100, fun b H2 nb s2 hb2 => ⟨hb2, fun H3 hb3 bt3 => ?_⟩⟩
    have s3 : Same H1 H3 := fun c o hc => bt3 c o (ne_of_none hc nb) (s2 c o hc)
    refine ⟨_, s3 _ _ h1, Nat.lt_of_le_of_lt (show _ ≤ 100 by simp; omega) (by decide), ?_, ?_⟩
    · intro c o hc
      rw [upd_ne (ne_of_none hc nD)]
      exact s3 _ _ (s1 _ _ hc)
    · rw [upd_same, ← List.replicate_succ, List.replicate_succ']
      simp
  · rintro H1 ⟨s1, h1⟩
    refine ⟨D, rfl, _, sqL h1, ?_⟩
    have e : ∀ k, (List.replicate k true).all id = true := fun k => by induction k <;> simp_all [List.replicate_succ]
    rw [e]
    exact q H1

end
end Kx

namespace MG
open PySem L2
/-- the end, where the head came by k_head: the fragment is a function of the parameters -/
theorem law_endK {l : PySem.W.OpenLaw} {n k : Nat} {q : Program} {loose : List Str} {XP : (Str → Option Value) → Heap → Prop} {YP : World → Heap → Prop} {d : DefRec} {x : Str} {K : Params → PySem.W.Frag} {sp : PySem.W.Frag → Sp}
    {fa : List He.Fa} {fn : List Dm} {ex : PySem.W.Frag → Bool}
    (hn : l.most = some n) (hn2 : n ≤ sizeLine) (hdf : d.params.defaults = []) (hnm : d.name = ("law" : Str)) (rm : Room k callerA)
    (hY : ∀ (w : World) (h : Heap), YP w h → (K w.params).In h) (hS : ∀ w : World, SaysM fa fn ex (K w.params))
    (hF : ∀ (w : World) (K : PySem.W.Frag) (h : Heap) (mg : Str → Option Value) (f : Addr), K.In h → h.Ns mainGlobals mg → mg ("law" : Str) = some (.ref f) → SaysM fa fn ex K →
      ∃ fd : FuncData, (∀ (s : Shared) (v : Value), BindsTo s fd ⟨[v], []⟩ [(x, v)]) ∧ ∀ base : Heap, K.In base → base.Ns mainGlobals mg → GFn l.prog w K mg base CX0 k f fd [x] (sp K))
    (hsp : ∀ (K : PySem.W.Frag) (H : Hp) (a : Addr) (ns : List Int), ns.length ≤ n → (∀ i : Int, i ∈ ns → Builtin.Int.intBits i ≤ 1048576) → Only H → SqL K H a (ns.map V.int) → sp K [.ref a] H (fun v _ => v = .bl true) fun _ _ _ => False) :
    PySem.W.WalkO q loose XP YP l.row.toRowW d [] (fun f vs => PySem.call f vs) := by
  refine law_end (C := CX0) (x := x) hn hn2 hdf rm ?_ (fun _ _ _ _ z => z)
  intro w mg f h Y G hmg
  rw [hnm] at hmg
  obtain ⟨fd, hb, hF⟩ := hF w (K w.params) h mg f (hY w h Y) G hmg (hS w)
  exact ⟨K w.params, fd, sp (K w.params), hY w h Y, hb, fun H a ns h1 h2 h3 h4 => hsp _ H a ns h1 h2 h3 h4, hF⟩
end MG

-- SXEXT: rMaxH, rSetLi, rSortedSet, iAnyS, rMinT, rLotEq, rLotStr, rGcd, rLcm, tRevT, rLtU, rIsiI, RZ.iZipA, iEnz, tDNewK, tDGet, sDPut
namespace Kx
open PySem L2 MG KM
def fn : List Dm := [⟨(atG "_law_grab"), "_law_grab", "_law_grab", s_l_grab⟩,
  ⟨(atG "_law_some"), "_law_some", "_law_some", s_l_some⟩,
  ⟨(atG "_law_coins"), "_law_coins", "_law_coins", s_l_coins⟩,
  ⟨(atG "_law_second"), "_law_second", "_law_second", s_l_second⟩,
  ⟨(atG "check_lot"), "check_lot", "check_lot", s_check_lot⟩,
  ⟨(atP "Lot" "coins"), "coins", "Lot.coins", s_Lot_coins⟩,
  ⟨(atG "last_without_greatest"), "last_without_greatest", "last_without_greatest", s_last_without_greatest⟩,
  ⟨(atG "length_table"), "length_table", "length_table", s_length_table⟩,
  ⟨(atG "lag"), "lag", "lag", s_lag⟩,
  ⟨(atG "is_integer"), "is_integer", "is_integer", s_is_integer⟩,
  ⟨(atG "is_between"), "is_between", "is_between", s_is_between⟩,
  ⟨(atG "count_ascending"), "count_ascending", "count_ascending", s_count_ascending⟩,
  ⟨(atG "count_right"), "count_right", "count_right", s_count_right⟩,
  ⟨(atM "Lot" "__init__"), "__init__", "Lot.__init__", s_Lot_init⟩,
  ⟨(atG "_law_common"), "_law_common", "_law_common", s_l_common⟩,
  ⟨(atG "_law_tables"), "_law_tables", "_law_tables", s_l_tables⟩,
  ⟨(atG "_law_grows"), "_law_grows", "_law_grows", s_l_grows⟩,
  ⟨(atG "_law_due"), "_law_due", "_law_due", s_l_due⟩,
  ⟨(atG "_law_lag_right"), "_law_lag_right", "_law_lag_right", s_l_lag_right⟩,
  ⟨(atG "_law_right"), "_law_right", "_law_right", s_l_right⟩,
  ⟨(atG "_law_bag"), "_law_bag", "_law_bag", s_l_bag⟩,
  ⟨(atG "law"), "law", "law", s_law⟩]
def fa : List He.Fa := [.glo "_law_grab", .glo "_law_some", .glo "_law_coins", .glo "_law_second", .glo "check_lot", .glo "last_without_greatest", .glo "length_table", .glo "lag", .glo "is_integer", .glo "is_between", .glo "count_ascending", .glo "count_right", .glo "_law_common", .glo "_law_tables", .glo "_law_grows", .glo "_law_due", .glo "_law_lag_right", .glo "_law_right", .glo "_law_bag", .glo "law", .glo "Lot", .free "isinstance", .free "int", .free "bool", .free "str", .free "tuple", .free "list", .free "len", .free "enumerate", .free "range", .free "zip", .free "reversed", .free "divmod", .free "abs", .free "sorted", .free "sum", .free "repr", .free "all", .free "any", .free "min", .free "max", .free "set", .free "dict", .int "FEWEST" (1), .int "MOST_COINS" (15), .int "MOST_COIN" (60), .cls "Lot", .noat "Lot" "_coins", .mkr "Lot"]
def exOwn (K : PySem.W.Frag) : Bool := (He.eqO (PySem.W.nsIn K mainGlobals "lcm") (some (some (.builtin "math.lcm"))) && true)
def ex (K : PySem.W.Frag) : Bool := isiB K (He.ga K "Lot") && (propB K (He.ga K "Lot") "coins" && exOwn K)
theorem facts {P : Program} {w : World} {K : PySem.W.Frag} {h : Heap} {mg : Str → Option Value} {f : Addr} (X : K.In h) (G : h.Ns mainGlobals mg) (hfa : mg ("law" : Str) = some (.ref f)) (c : SaysM fa fn ex K) :
    ∃ fd : FuncData, (∀ (s : Shared) (v : Value), BindsTo s fd ⟨[v], []⟩ [("_law_script", v)]) ∧ ∀ base : Heap, K.In base → base.Ns mainGlobals mg → GFn P w K mg base CX0 9 f fd ["_law_script"] (sp_law K) := by
  obtain ⟨fd0, F0⟩ := c.def_ 0
  obtain ⟨fd1, F1⟩ := c.def_ 1
  obtain ⟨fd2, F2⟩ := c.def_ 2
  obtain ⟨fd3, F3⟩ := c.def_ 3
  obtain ⟨fd4, F4⟩ := c.def_ 4
  obtain ⟨fd5, F5⟩ := c.def_ 5
  obtain ⟨fd6, F6⟩ := c.def_ 6
  obtain ⟨fd7, F7⟩ := c.def_ 7
  obtain ⟨fd8, F8⟩ := c.def_ 8
  obtain ⟨fd9, F9⟩ := c.def_ 9
  obtain ⟨fd10, F10⟩ := c.def_ 10
  obtain ⟨fd11, F11⟩ := c.def_ 11
  obtain ⟨fd12, F12⟩ := c.def_ 12
  obtain ⟨fd13, F13⟩ := c.def_ 13
  obtain ⟨fd14, F14⟩ := c.def_ 14
  obtain ⟨fd15, F15⟩ := c.def_ 15
  obtain ⟨fd16, F16⟩ := c.def_ 16
  obtain ⟨fd17, F17⟩ := c.def_ 17
  obtain ⟨fd18, F18⟩ := c.def_ 18
  obtain ⟨fd19, F19⟩ := c.def_ 19
  obtain ⟨fd20, F20⟩ := c.def_ 20
  obtain ⟨fd21, F21⟩ := c.def_ 21
  have b0 : Binds K fd0 ["_law_bag_here", "_law_size"] [] := bindsP F0 fun _ _ _ _ _ _ us hl => match us, hl with | [_, _], _ => rfl
  have b1 : Binds K fd1 ["_law_bag_here", "_law_menu"] [] := bindsP F1 fun _ _ _ _ _ _ us hl => match us, hl with | [_, _], _ => rfl
  have b2 : Binds K fd2 ["_law_bag_here", "_law_many", "_law_top"] [] := bindsP F2 fun _ _ _ _ _ _ us hl => match us, hl with | [_, _, _], _ => rfl
  have b3 : Binds K fd3 ["_law_bag_here", "_law_coins_here", "_law_top"] [] := bindsP F3 fun _ _ _ _ _ _ us hl => match us, hl with | [_, _, _], _ => rfl
  have b4 : Binds K fd4 ["lot"] [] := bindsP F4 fun _ _ _ _ _ _ us hl => match us, hl with | [_], _ => rfl
  have b5 : Binds K fd5 ["self"] [] := bindsP F5 fun _ _ _ _ _ _ us hl => match us, hl with | [_], _ => rfl
  have b6 : Binds K fd6 ["coins"] [] := bindsP F6 fun _ _ _ _ _ _ us hl => match us, hl with | [_], _ => rfl
  have b7 : Binds K fd7 ["coins", "last", "sign"] [] := bindsP F7 fun _ _ _ _ _ _ us hl => match us, hl with | [_, _, _], _ => rfl
  have b8 : Binds K fd8 ["one", "other"] [] := bindsP F8 fun _ _ _ _ _ _ us hl => match us, hl with | [_, _], _ => rfl
  have b9 : Binds K fd9 ["value"] [] := bindsP F9 fun _ _ _ _ _ _ us hl => match us, hl with | [_], _ => rfl
  have b10 : Binds K fd10 ["value", "low", "high"] [] := bindsP F10 fun _ _ _ _ _ _ us hl => match us, hl with | [_, _, _], _ => rfl
  have b11 : Binds K fd11 ["values", "low", "high", "most"] [] := bindsP F11 fun _ _ _ _ _ _ us hl => match us, hl with | [_, _, _, _], _ => rfl
  have b12 : Binds K fd12 ["coins"] [] := bindsP F12 fun _ _ _ _ _ _ us hl => match us, hl with | [_], _ => rfl
  have b13 : Binds K fd13 ["self", "coins"] [] := bindsP F13 fun _ _ _ _ _ _ us hl => match us, hl with | [_, _], _ => rfl
  have b14 : Binds K fd14 ["_law_one", "_law_two"] [] := bindsP F14 fun _ _ _ _ _ _ us hl => match us, hl with | [_, _], _ => rfl
  have b15 : Binds K fd15 ["_law_coins_here", "_law_top"] [] := bindsP F15 fun _ _ _ _ _ _ us hl => match us, hl with | [_, _], _ => rfl
  have b16 : Binds K fd16 ["_law_coins_here", "_law_other"] [] := bindsP F16 fun _ _ _ _ _ _ us hl => match us, hl with | [_, _], _ => rfl
  have b17 : Binds K fd17 ["_law_coins_here", "_law_other", "_law_far"] [] := bindsP F17 fun _ _ _ _ _ _ us hl => match us, hl with | [_, _, _], _ => rfl
  have b18 : Binds K fd18 ["_law_coins_here", "_law_other"] [] := bindsP F18 fun _ _ _ _ _ _ us hl => match us, hl with | [_, _], _ => rfl
  have b19 : Binds K fd19 ["_law_bag_here"] [] := bindsP F19 fun _ _ _ _ _ _ us hl => match us, hl with | [_], _ => rfl
  have b20 : Binds K fd20 ["_law_script", "_law_turn"] [] := bindsP F20 fun _ _ _ _ _ _ us hl => match us, hl with | [_, _], _ => rfl
  have b21 : Binds K fd21 ["_law_script"] [] := bindsP F21 fun _ _ _ _ _ _ us hl => match us, hl with | [_], _ => rfl
  have g__law_grab : mg "_law_grab" = some (.ref (He.ga K "_law_grab")) := He.glo_ok X G (c.fact 0)
  have g__law_some : mg "_law_some" = some (.ref (He.ga K "_law_some")) := He.glo_ok X G (c.fact 1)
  have g__law_coins : mg "_law_coins" = some (.ref (He.ga K "_law_coins")) := He.glo_ok X G (c.fact 2)
  have g__law_second : mg "_law_second" = some (.ref (He.ga K "_law_second")) := He.glo_ok X G (c.fact 3)
  have g_check_lot : mg "check_lot" = some (.ref (He.ga K "check_lot")) := He.glo_ok X G (c.fact 4)
  have g_last_without_greatest : mg "last_without_greatest" = some (.ref (He.ga K "last_without_greatest")) := He.glo_ok X G (c.fact 5)
  have g_length_table : mg "length_table" = some (.ref (He.ga K "length_table")) := He.glo_ok X G (c.fact 6)
  have g_lag : mg "lag" = some (.ref (He.ga K "lag")) := He.glo_ok X G (c.fact 7)
  have g_is_integer : mg "is_integer" = some (.ref (He.ga K "is_integer")) := He.glo_ok X G (c.fact 8)
  have g_is_between : mg "is_between" = some (.ref (He.ga K "is_between")) := He.glo_ok X G (c.fact 9)
  have g_count_ascending : mg "count_ascending" = some (.ref (He.ga K "count_ascending")) := He.glo_ok X G (c.fact 10)
  have g_count_right : mg "count_right" = some (.ref (He.ga K "count_right")) := He.glo_ok X G (c.fact 11)
  have g__law_common : mg "_law_common" = some (.ref (He.ga K "_law_common")) := He.glo_ok X G (c.fact 12)
  have g__law_tables : mg "_law_tables" = some (.ref (He.ga K "_law_tables")) := He.glo_ok X G (c.fact 13)
  have g__law_grows : mg "_law_grows" = some (.ref (He.ga K "_law_grows")) := He.glo_ok X G (c.fact 14)
  have g__law_due : mg "_law_due" = some (.ref (He.ga K "_law_due")) := He.glo_ok X G (c.fact 15)
  have g__law_lag_right : mg "_law_lag_right" = some (.ref (He.ga K "_law_lag_right")) := He.glo_ok X G (c.fact 16)
  have g__law_right : mg "_law_right" = some (.ref (He.ga K "_law_right")) := He.glo_ok X G (c.fact 17)
  have g__law_bag : mg "_law_bag" = some (.ref (He.ga K "_law_bag")) := He.glo_ok X G (c.fact 18)
  have g_law : mg "law" = some (.ref (He.ga K "law")) := He.glo_ok X G (c.fact 19)
  have g_Lot : mg "Lot" = some (.ref (He.ga K "Lot")) := He.glo_ok X G (c.fact 20)
  have c_FEWEST := He.int_ok X G (c.fact 43)
  have c_MOST_COINS := He.int_ok X G (c.fact 44)
  have c_MOST_COIN := He.int_ok X G (c.fact 45)
  have B : Bi mg := ⟨He.free_ok X G (c.fact 21), He.free_ok X G (c.fact 22), He.free_ok X G (c.fact 23), He.free_ok X G (c.fact 24), He.free_ok X G (c.fact 25), He.free_ok X G (c.fact 26), He.free_ok X G (c.fact 27), He.free_ok X G (c.fact 28), He.free_ok X G (c.fact 29), He.free_ok X G (c.fact 30), He.free_ok X G (c.fact 31), He.free_ok X G (c.fact 32), He.free_ok X G (c.fact 33), He.free_ok X G (c.fact 34), He.free_ok X G (c.fact 35), He.free_ok X G (c.fact 36), He.free_ok X G (c.fact 37), He.free_ok X G (c.fact 38), He.free_ok X G (c.fact 39), He.free_ok X G (c.fact 40), He.free_ok X G (c.fact 41), He.free_ok X G (c.fact 42)⟩
  obtain ⟨e1, e0⟩ := He.ba c.more
  obtain ⟨e2, eO⟩ := He.ba e0
  obtain ⟨i1, i2, i3, i4⟩ := isiB_ok e1
  have TC : Tc K mg (He.ga K "Lot") := ⟨He.cls_ok (c.fact 46), He.noat_ok (c.fact 47), g_Lot, i1, i2, i3, i4⟩
  have MK := He.mkr_ok (c.fact 48)
  obtain ⟨eL_lcm, eO0⟩ := He.ba eO
  have L_lcm : mg "lcm" = some (.builtin "math.lcm") := PySem.W.mg_of X G (He.eqO_ok eL_lcm)
  have e := hfa.symm.trans g_law
  cases e
  refine ⟨fd21, fun s v => ?_, fun base KB GB => ?_⟩
  · exact bindsA F21 (ps := ["_law_script"]) (fun _ _ _ _ _ _ us hl => match us, hl with | [_], _ => rfl) s [v] rfl
  · have k_l_grab := ok_l_grab (P := P) (w := w) (K := K) (mg := mg) (base := base) F0 B
    have o_l_grab := calOf g__law_grab F0 b0 k_l_grab
    have k_l_some := ok_l_some (P := P) (w := w) (K := K) (mg := mg) (base := base) F1 o_l_grab B
    have o_l_some := calOf g__law_some F1 b1 k_l_some
    have k_l_coins := ok_l_coins (P := P) (w := w) (K := K) (mg := mg) (base := base) F2 o_l_some B o_l_grab
    have o_l_coins := calOf g__law_coins F2 b2 k_l_coins
    have k_l_second := ok_l_second (P := P) (w := w) (K := K) (mg := mg) (base := base) F3 o_l_grab B o_l_coins
    have o_l_second := calOf g__law_second F3 b3 k_l_second
    have k_check_lot := ok_check_lot (P := P) (w := w) (K := K) (mg := mg) (base := base) (C := He.ga K "Lot") F4 B TC
    have o_check_lot := calOf g_check_lot F4 b4 k_check_lot
    have PC : Prp P w K mg base (He.ga K "Lot") := by
      obtain ⟨oc, od, dV, kV, doc, pm, an, cdv, ct, osl, rfl, lk, hcd, hd, _⟩ := F5.ex
      exact ⟨_, _, _, propB_ok e2, fn_getter lk hcd (N := ["self"]) ⟨rfl, rfl, rfl, by decide +kernel, rfl, by decide +kernel, by decide +kernel⟩ rfl rfl TC.cl TC.nc, b5⟩
    have k_last_without_greatest := ok_last_without_greatest (P := P) (w := w) (K := K) (mg := mg) (base := base) F6 B
    have o_last_without_greatest := calOf g_last_without_greatest F6 b6 k_last_without_greatest
    have k_length_table := ok_length_table (P := P) (w := w) (K := K) (mg := mg) (base := base) F7 B
    have o_length_table := calOf g_length_table F7 b7 k_length_table
    have k_lag := ok_lag (P := P) (w := w) (K := K) (mg := mg) (base := base) (C := He.ga K "Lot") F8 o_check_lot TC PC B o_last_without_greatest L_lcm o_length_table c_FEWEST
    have o_lag := calOf g_lag F8 b8 k_lag
    have k_is_integer := ok_is_integer (P := P) (w := w) (K := K) (mg := mg) (base := base) F9 B
    have o_is_integer := calOf g_is_integer F9 b9 k_is_integer
    have k_is_between := ok_is_between (P := P) (w := w) (K := K) (mg := mg) (base := base) F10 o_is_integer
    have o_is_between := calOf g_is_between F10 b10 k_is_between
    have k_count_ascending := ok_count_ascending (P := P) (w := w) (K := K) (mg := mg) (base := base) F11 B o_is_between
    have o_count_ascending := calOf g_count_ascending F11 b11 k_count_ascending
    have k_count_right := ok_count_right (P := P) (w := w) (K := K) (mg := mg) (base := base) F12 o_count_ascending c_MOST_COINS c_MOST_COIN
    have o_count_right := calOf g_count_right F12 b12 k_count_right
    have ML : MkL P w K mg base (He.ga K "Lot") := ⟨_, fd13, MK, ok_Lot_init (P := P) (w := w) (K := K) (mg := mg) (base := base) (C := He.ga K "Lot") F13 B o_count_right TC, b13⟩
    have k_l_common := ok_l_common (P := P) (w := w) (K := K) (mg := mg) (base := base) F14 B
    have o_l_common := calOf g__law_common F14 b14 k_l_common
    have k_l_tables := ok_l_tables (P := P) (w := w) (K := K) (mg := mg) (base := base) F15 B
    have o_l_tables := calOf g__law_tables F15 b15 k_l_tables
    have k_l_grows := ok_l_grows (P := P) (w := w) (K := K) (mg := mg) (base := base) F16 o_l_common o_l_tables B
    have o_l_grows := calOf g__law_grows F16 b16 k_l_grows
    have k_l_due := ok_l_due (P := P) (w := w) (K := K) (mg := mg) (base := base) F17 B o_l_tables
    have o_l_due := calOf g__law_due F17 b17 k_l_due
    have q1 : CalK P w K mg base 3 "lag" ["one", "other"] _ 0 ["other", "one"] (fun _ zs => gP [1, 0] zs) := ⟨_, fd8, fun _ ws => gP [1, 0] ws, g_lag, F8.kp, bindsK F8 (fun _ _ _ _ _ _ us ws h1 h2 => match us, h1, ws, h2 with | [], _, [_, _], _ => rfl) (fun _ z => pick_vals z _), k_lag⟩
    have k_l_lag_right := ok_l_lag_right (P := P) (w := w) (K := K) (mg := mg) (base := base) (C := He.ga K "Lot") F18 q1 TC ML o_lag o_l_grows B o_l_due o_l_common
    have o_l_lag_right := calGOf g__law_lag_right F18 b18 k_l_lag_right
    have k_l_right := ok_l_right (P := P) (w := w) (K := K) (mg := mg) (base := base) (C := He.ga K "Lot") F19 o_l_some o_l_coins o_l_second B o_l_lag_right
    have o_l_right := calGOf g__law_right F19 b19 k_l_right
    have k_l_bag := ok_l_bag (P := P) (w := w) (K := K) (mg := mg) (base := base) F20 B
    have o_l_bag := calOf g__law_bag F20 b20 k_l_bag
    exact ok_law F21 B o_l_right o_l_bag
end Kx
open PySem PySem.W PyProof.Rows
theorem PySem.Challenge.cw_mintlots_k30_whole_lags_holds : PySem.Challenge.rw_mintlots_k30_whole_lags.Holds := by
  w_on; o_law; k_head; (case hw => w_witness2)
  k_fill
  refine MG.law_endK (l := PySem.Challenge.rw_mintlots_k30_whole_lags) (n := 63) (k := 9) (x := "_law_script") (sp := fun K => Kx.sp_law K) (fa := Kx.fa) (fn := Kx.fn) (ex := Kx.ex) rfl (by decide) (by kernel_rfl) (by kernel_rfl) ⟨rfl, by decide, by decide⟩ (fun w h Y => PySem.W.kIn_of Y) ?S (fun w K h mg f X G hfa c => Kx.facts X G hfa c) (fun K H a ns h1 _ _ h4 => ⟨a, ns, rfl, h4, h1, fun _ => rfl⟩)
  case S =>
    intro w
    show MG.obsM Kx.fa Kx.fn Kx.ex _ = (true, Kx.fn.map MG.Dm.val)
    kernel_rfl

